import Derived.Test.YtfapkhgallmkdaaGreatM23
import Derived.Deep.QuietTactic
import Derived.BigQuiet
namespace Go.Proofs.YtfapkhgallmkdaaGreat
open Go.RowKit
set_option maxHeartbeats 2000000 in
theorem zcB (a : Option Addr) (cap : Nat) (ss : List Shp) (w : World) (hw : yH w a ss) :
    Calls Tryz.prog 129 #[.slice a ss.length cap] w fun e w' => e = .returned (.bool (Gate.zQ ss)) /\ Below w.heap.size w w' := by
  have hl := hw.len
  unfold maxLen at hl
  by_cases h6 : ss.length <= 6
  rotate_left
  · have HF : Hid (Gate.zQ ss = false) := by simp [Hid, Gate.zQ, h6]
    clear hw
    go_enter Tryz.func129, Tryz.ntmps129
    go_wp2
    go_ret
    exact ⟨ze HF.out.symm, Below.refl _ _⟩
  have HG : Hid (Gate.zQ ss = Gate.up (Gate.yG ss) ss.length) := by simp [Hid, Gate.zQ, h6]
  have h6I : (ss.length : Int) <= 6 := by omega
  go_enter Tryz.func129, Tryz.ntmps129
  go_wp2_with fail
  refine (zbR _).mono ?_
  rintro e w0 ⟨rfl, hw0⟩
  have hB00 : Below w.heap.size w w0 := by rw [hw0]; exact (Below.refl _ _).alloc (Nat.le_refl _) _
  have hr0 : w0.heap[w.heap.size]? = some (.map qK 4) := by rw [hw0]; exact alloc_at _ _
  have hz0 : w.heap.size < w0.heap.size := by rw [hw0]; simp
  clear hw0
  go_wp2_with fail
  go_loopw [12] (fun i wr => ∃ k : Nat, k <= ss.length /\ i = .int .i64 k /\ Gate.up (Gate.yG ss) k = true /\ Below w0.heap.size w0 wr) (fun i _ => ss.length - (intOf i).toNat)
  case atStart => exact ⟨0, Nat.zero_le _, rfl, rfl, Below.refl _ _⟩
  case round =>
    obtain ⟨k, hk, rfl, hup, hB⟩ := hrel
    have hsz := hB.size
    by_cases hlt : k < ss.length
    · obtain ⟨b, off, rfl, hb, hrw⟩ := hw.rows (by rintro rfl; simp at hlt)
      have hb0 : b < w0.heap.size := by omega
      have hall : yH wr (some ⟨b, off, none⟩) ss := (hw.mono hB00).mono hB
      obtain ⟨fa, fcap, hs⟩ := hrw k hlt
      have hs' := (hs.mono hb hB00).mono hb0 hB
      have hck := hs'.kind
      have hcl := hs'.list
      have hfl := hs'.flds
      have hsm := hs.small
      have hra : wr.heap[w.heap.size]? = some (.map qK 4) := (hB.block _ hz0).trans hr0
      have HS : Hid (Gate.yG ss k = true -> Gate.up (Gate.yG ss) (k + 1) = true) := fun h => by rw [Gate.jA, hup, h]; rfl
      have HN : Hid (Gate.yG ss k = false -> Gate.zQ ss = false) := fun h => by rw [HG.out]; exact Gate.zaV hlt h
      have hltI : (k : Int) < (ss.length : Int) := by omega
      by_cases hn : Gate.zy ss[k].kd = true
      rotate_left
      · have HNm : Hid (Gate.zy ss[k].kd = false) := by simpa [Hid] using hn
        have HF : Hid (Gate.yG ss k = false) := by
          unfold Hid Gate.yG; rw [Gate.getD_at ss k _ hlt, HNm.out]; rfl
        clear hn hup hw hrw hs hs' hr0 hra
        go_wp2_with fail
        go_quiet ((go_at_call 134; exact Calls.quiet_of_same (zk HNm.out (zN _ _ hsm))))
        go_wp2_with fail
        go_ret
        exact ⟨ze (HN.out HF.out).symm, hB00.trans ((below_drewN (hB.alloc hsz _) _).mono (by omega))⟩
      have HNm : Hid (Gate.zy ss[k].kd = true) := hn
      clear hn
      by_cases hk0 : k = 0
      · have HA : Hid (Gate.yG ss k = Gate.yJ ss ss[k].fs) := by subst hk0; unfold Hid; rw [Gate.zej ss hlt, HNm.out]; rfl
        have hg : decide (0 < k) = false := by simp; omega
        clear hup hw hrw hs hs' hr0 hk0
        by_cases hok : Gate.yJ ss ss[k].fs = true
        · have HK : Hid (Gate.yJ ss ss[k].fs = true) := hok
          clear hok
          go_wp2_with fail
          go_quiet ((go_at_call 134; exact Calls.quiet_of_same (zk HNm.out (zN _ _ hsm))))
          go_wp2_with fail
          have hbr2 : Below wr.heap.size wr ((wr.alloc (.cells #[.string ss[k].kd, .slice fa ss[k].fs.length fcap] 115)).drewN nq) := below_drewN ((Below.refl _ _).alloc (Nat.le_refl _) _) _
          refine (zk HK.out (zbH _ _ _ _ _ _ _ _ ((hbr2.block _ (by omega)).trans hra) (hall.mono hbr2) (hfl.mono hbr2))).mono ?_
          rintro e w3 ⟨rfl, hb3⟩
          have hB3 : Below w0.heap.size w0 w3 := (hB.trans (hbr2.mono hsz)).trans (hb3.mono (by simp; omega))
          clear hb3 hbr2
          go_wp2_with fail
          exact ⟨⟨k + 1, by omega, by go_num, HS.out (by rw [HA.out, HK.out]), hB3⟩, by simp [intOf]; omega⟩
        · have HK : Hid (Gate.yJ ss ss[k].fs = false) := by simpa [Hid] using hok
          clear hok
          go_wp2_with fail
          go_quiet ((go_at_call 134; exact Calls.quiet_of_same (zk HNm.out (zN _ _ hsm))))
          go_wp2_with fail
          have hbr2 : Below wr.heap.size wr ((wr.alloc (.cells #[.string ss[k].kd, .slice fa ss[k].fs.length fcap] 115)).drewN nq) := below_drewN ((Below.refl _ _).alloc (Nat.le_refl _) _) _
          refine (zk HK.out (zbH _ _ _ _ _ _ _ _ ((hbr2.block _ (by omega)).trans hra) (hall.mono hbr2) (hfl.mono hbr2))).mono ?_
          rintro e w3 ⟨rfl, hb3⟩
          have hB3 : Below w0.heap.size w0 w3 := (hB.trans (hbr2.mono hsz)).trans (hb3.mono (by simp; omega))
          clear hb3 hbr2
          go_wp2_with fail
          go_ret
          exact ⟨ze (HN.out (by rw [HA.out, HK.out])).symm, hB00.trans (hB3.mono (by omega))⟩
      · obtain ⟨m, rfl⟩ : ∃ m, k = m + 1 := ⟨k - 1, by omega⟩
        obtain ⟨fam, fcapm, hsm0⟩ := hrw m (by omega)
        have hcm := ((hsm0.mono hb hB00).mono hb0 hB).kind
        have HA : Hid (Gate.yG ss (m + 1) = (Gate.less ss[m].kd ss[m + 1].kd && Gate.yJ ss ss[m + 1].fs)) := by unfold Hid; rw [Gate.zeG ss m hlt, HNm.out]; rfl
        have hmI : (m : Int) < 6 := by omega
        have hm0 : (0 : Int) <= (m : Int) := by omega
        have hbr : b < wr.heap.size := by omega
        have hml : (m : Int) < (ss.length : Int) := by omega
        have hmw : IntKind.i64.wrap (m : Int) = m := by rw [IntKind.wrap_i64]; omega
        clear hup hw hrw hs hs' hr0 hk0 hsm0
        by_cases hls : Gate.less ss[m].kd ss[m + 1].kd = true
        rotate_left
        · have hls' : Op.bytesLess ss[m].kd.toList ss[m + 1].kd.toList = false := by simpa [Gate.less] using hls
          have HLS : Hid (Gate.less ss[m].kd ss[m + 1].kd = false) := hls'
          clear hls
          go_wp2_with fail
          go_quiet ((go_at_call 134; exact Calls.quiet_of_same (zk HNm.out (zN _ _ hsm))))
          go_wp2_with fail
          go_ret
          exact ⟨ze (HN.out (by rw [HA.out, HLS.out]; rfl)).symm, hB00.trans ((below_drewN (hB.alloc hsz _) _).mono (by omega))⟩
        have hls' : Op.bytesLess ss[m].kd.toList ss[m + 1].kd.toList = true := hls
        have HLS : Hid (Gate.less ss[m].kd ss[m + 1].kd = true) := hls
        clear hls
        by_cases hok : Gate.yJ ss ss[m + 1].fs = true
        · have HK : Hid (Gate.yJ ss ss[m + 1].fs = true) := hok
          clear hok
          go_wp2_with fail
          go_quiet ((go_at_call 134; exact Calls.quiet_of_same (zk HNm.out (zN _ _ hsm))))
          go_wp2_with fail
          have hbr2 : Below wr.heap.size wr ((wr.alloc (.cells #[.string ss[m + 1].kd, .slice fa ss[m + 1].fs.length fcap] 115)).drewN nq) := below_drewN ((Below.refl _ _).alloc (Nat.le_refl _) _) _
          refine (zk HK.out (zbH _ _ _ _ _ _ _ _ ((hbr2.block _ (by omega)).trans hra) (hall.mono hbr2) (hfl.mono hbr2))).mono ?_
          rintro e w3 ⟨rfl, hb3⟩
          have hB3 : Below w0.heap.size w0 w3 := (hB.trans (hbr2.mono hsz)).trans (hb3.mono (by simp; omega))
          clear hb3 hbr2
          go_wp2_with fail
          exact ⟨⟨m + 1 + 1, by omega, by go_num, HS.out (by rw [HA.out, HLS.out, HK.out]; rfl), hB3⟩, by simp [intOf]; omega⟩
        · have HK : Hid (Gate.yJ ss ss[m + 1].fs = false) := by simpa [Hid] using hok
          clear hok
          go_wp2_with fail
          go_quiet ((go_at_call 134; exact Calls.quiet_of_same (zk HNm.out (zN _ _ hsm))))
          go_wp2_with fail
          have hbr2 : Below wr.heap.size wr ((wr.alloc (.cells #[.string ss[m + 1].kd, .slice fa ss[m + 1].fs.length fcap] 115)).drewN nq) := below_drewN ((Below.refl _ _).alloc (Nat.le_refl _) _) _
          refine (zk HK.out (zbH _ _ _ _ _ _ _ _ ((hbr2.block _ (by omega)).trans hra) (hall.mono hbr2) (hfl.mono hbr2))).mono ?_
          rintro e w3 ⟨rfl, hb3⟩
          have hB3 : Below w0.heap.size w0 w3 := (hB.trans (hbr2.mono hsz)).trans (hb3.mono (by simp; omega))
          clear hb3 hbr2
          go_wp2_with fail
          go_ret
          exact ⟨ze (HN.out (by rw [HA.out, HLS.out, HK.out]; rfl)).symm, hB00.trans (hB3.mono (by omega))⟩
    · have HF : Hid (Gate.zQ ss = true) := by
        have e : k = ss.length := by omega
        subst e; rw [HG.out]; exact hup
      clear hup hw
      go_wp2
      go_ret
      exact ⟨ze HF.out.symm, hB00.trans (hB.mono (by omega))⟩
end Go.Proofs.YtfapkhgallmkdaaGreat
