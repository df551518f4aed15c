import Derived.Test.YtnbpglbbjnkhpaaGreatM12
import Derived.Test.YtnbpglbbjnkhpaaGreatM07
import Derived.Test.YtnbpglbbjnkhpaaGreatM03
import Derived.Test.YtnbpglbbjnkhpaaGreatM02
import Derived.Deep.QuietTactic
import Derived.BigQuiet
import Derived.Test.YtnbpglbbjnkhpaaGreatM11
import Derived.Test.YtnbpglbbjnkhpaaGreatM01
namespace Go.Proofs.YtnbpglbbjnkhpaaGreat.Gate
theorem zfy {ss : List Shp} (h : zZ ss = true) (i : Nat) (hi : i < ss.length) : yP ss i = true := by
  unfold zZ at h
  rw [Bool.and_eq_true] at h
  exact zf4 hi h.2
theorem zl3 {ss : List Shp} (h : zZ ss = true) : ∀ (j : Nat) (hj : j < ss.length) (i : Nat) (hi : i < j), less (ss[i]'(by omega)).kd ss[j].kd = true := by
  intro j
  induction j with
  | zero => intro _ i hi; omega
  | succ j ih =>
    intro hj i hi
    have h1 := zfy h (j + 1) hj
    rw [ze4 ss j hj] at h1
    simp only [Bool.and_eq_true] at h1
    have h2 := h1.1.2
    rcases Nat.lt_or_ge i j with hlt | hge
    · exact zaK _ _ _ (ih (by omega) i hlt) h2
    · have e : i = j := by omega
      subst e; exact h2
theorem zdk {ss : List Shp} (h : zZ ss = true) (i : Nat) (hi : i < ss.length) : shapeOf ss ss[i].kd = ss[i] := by
  refine zet ss _ i hi ?_ rfl
  unfold zG
  rw [List.any_eq_false]
  intro x hx
  obtain ⟨k, hk, rfl⟩ := List.mem_iff_getElem.1 hx
  have hk' : k < i := by simp at hk; omega
  have h1 := zl3 h i hi k hk'
  simp only [List.getElem_take, decide_eq_true_eq]
  intro e
  unfold less at h1
  rw [e, zbm] at h1
  cases h1
theorem zem {ss : List Shp} (h : zZ ss = true) (i : Nat) (hi : i < ss.length) : ss[i].fs.length <= 6 := by
  have h1 := zfy h i hi
  unfold yP at h1
  rw [getD_at ss i _ hi] at h1
  simp only [Bool.and_eq_true] at h1
  have h2 := h1.2
  unfold yQ at h2
  simp only [Bool.and_eq_true, decide_eq_true_eq] at h2
  exact h2.1
def jD (ss : List Shp) (m : Mnd) : Bool := zG ss m.kd && zaz (shapeOf ss m.kd).fs m
def rowOk (ms : List Mnd) (s : Shp) : Bool := (zH (zk s ms) s.fs.length).1
def yj (ss : List Shp) (ms : List Mnd) : Bool := decide (ms.length <= 12) && zZ ss && ms.all (jD ss) && ss.all (rowOk ms)
theorem zhL {ss : List Shp} {ms : List Mnd} (h : zZ ss = true) (hm : ms.all (jD ss) = true) (i : Nat) (hi : i < ss.length) : ∀ q, q < ss[i].fs.length -> ∀ x ∈ zR ss[i] ms q, 0 <= x /\ x < ss[i].fs.length := by
  intro q _ x hx
  unfold zR at hx
  obtain ⟨m, hmm, hx⟩ := List.mem_flatMap.1 hx
  by_cases ht : turns m ss[i] q = true
  · rw [if_pos ht] at hx
    obtain ⟨v, hv, rfl⟩ := List.mem_map.1 hx
    unfold turns at ht
    simp only [Bool.and_eq_true, decide_eq_true_eq] at ht
    have h1 := List.all_eq_true.1 hm m hmm
    unfold jD at h1
    rw [ht.1, zdk h i hi] at h1
    simp only [Bool.and_eq_true] at h1
    have h2 := h1.2
    unfold zaz at h2
    simp only [Bool.and_eq_true] at h2
    have h3 := List.all_eq_true.1 h2.1.2 v hv
    unfold jA at h3
    simp only [Bool.and_eq_true] at h3
    rcases q8 ss[i].fs v with ⟨_, h5⟩ | ⟨k, hk, h4, _⟩
    · rw [j5 h5] at h3; exact absurd h3.2 (by simp)
    · rw [h4]; omega
  · rw [if_neg ht] at hx; cases hx
end Go.Proofs.YtnbpglbbjnkhpaaGreat.Gate

namespace Go.Proofs.YtnbpglbbjnkhpaaGreat
open Go.RowKit
set_option maxHeartbeats 1000000 in
theorem zaa (a : Option Addr) (cap : Nat) (ws : List ByteArray) (w : World) (hw : zD w a ws) :
    Calls Tryz.prog 91 #[.slice a ws.length cap] w fun e w' => e = .returned (.bool (Gate.asc ws)) /\ ∃ n, w' = w.drewN n := by
  have hl := hw.len
  unfold maxLen at hl
  go_enter Tryz.func91, Tryz.ntmps91
  go_wp2
  go_loopw [3] (fun i wr => ∃ k : Nat, k <= ws.length /\ i = .int .i64 k /\ Gate.up (Gate.zcA ws) k = true /\ ∃ n, wr = w.drewN n) (fun i _ => ws.length - (intOf i).toNat)
  case atStart => exact ⟨0, Nat.zero_le _, rfl, rfl, 0, rfl⟩
  case round =>
    obtain ⟨k, hk, rfl, hup, hwr⟩ := hrel
    have HW : Hid (∃ n, wr = w.drewN n) := hwr
    by_cases hlt : k < ws.length
    · obtain ⟨b, off, rfl, hb, hc0⟩ := hw.cells (by rintro rfl; simp at hlt)
      have hc : ∀ i (h : i < ws.length), wr.cell? ⟨b, off + i, none⟩ = some (.string ws[i]) := by obtain ⟨n, rfl⟩ := hwr; exact hc0
      have hsm := hw.small _ (List.getElem_mem hlt)
      clear hw hc0 hwr
      have hck := hc k hlt
      have hltI : (k : Int) < (ws.length : Int) := by omega
      by_cases hn : Gate.zx ws[k] = true
      · have hn' := hn
        by_cases hk0 : k = 0
        · have HF : Hid (Gate.up (Gate.zcA ws) (k + 1) = true) := by subst hk0; unfold Hid; rw [Gate.qR, Gate.zgd hlt hn]; rfl
          have hg : decide (0 < k) = false := by simp; omega
          clear hn hc hup hk0
          go_wp2
          go_quiet ((go_at_call 56; exact Calls.quiet_of_same (zf hn' (zh _ _ hsm))))
          go_wp2
          obtain ⟨n, rfl⟩ := HW.out
          exact ⟨⟨k + 1, by omega, by go_num, HF.out, n + nq, by simp⟩, by simp [intOf]; omega⟩
        · obtain ⟨m, rfl⟩ : ∃ m, k = m + 1 := ⟨k - 1, by omega⟩
          have hcm := hc m (by omega)
          have HU : Hid (Gate.up (Gate.zcA ws) (m + 1 + 1) = Gate.less ws[m] ws[m + 1]) := by unfold Hid; rw [Gate.qR, hup, Gate.zc0 hlt hn]; rfl
          have HN : Hid (Gate.less ws[m] ws[m + 1] = false -> Gate.asc ws = false) := fun h => Gate.zas hlt (by rw [Gate.zc0 hlt hn]; exact h)
          clear hn hc hup hk0
          by_cases hls : Gate.less ws[m] ws[m + 1] = true
          · have hls' : Op.bytesLess ws[m].toList ws[m + 1].toList = true := hls
            have HLS : Hid (Gate.less ws[m] ws[m + 1] = true) := hls
            clear hls
            go_wp2
            go_quiet ((go_at_call 56; exact Calls.quiet_of_same (zf hn' (zh _ _ hsm))))
            go_wp2
            obtain ⟨n, rfl⟩ := HW.out
            exact ⟨⟨m + 1 + 1, by omega, by go_num, by rw [HU.out, HLS.out], n + nq, by simp⟩, by simp [intOf]; omega⟩
          · have hls' : Op.bytesLess ws[m].toList ws[m + 1].toList = false := by simpa [Gate.less] using hls
            have HLS : Hid (Gate.less ws[m] ws[m + 1] = false) := hls'
            clear hls
            go_wp2
            go_quiet ((go_at_call 56; exact Calls.quiet_of_same (zf hn' (zh _ _ hsm))))
            go_wp2
            go_ret
            refine ⟨ze (HN.out HLS.out).symm, ?_⟩
            obtain ⟨n, rfl⟩ := HW.out
            exact ⟨n + nq, by simp⟩
      · have hn' : Gate.zx ws[k] = false := by simpa using hn
        have HF : Hid (Gate.asc ws = false) := Gate.zas hlt (Gate.zhT hlt hn')
        clear hn hc hup
        go_wp2
        go_quiet ((go_at_call 56; exact Calls.quiet_of_same (zf hn' (zh _ _ hsm))))
        go_wp2
        go_ret
        refine ⟨ze HF.out.symm, ?_⟩
        obtain ⟨n, rfl⟩ := HW.out
        exact ⟨n + nq, by simp⟩
    · have HF : Hid (Gate.asc ws = true) := by
        have e : k = ws.length := by omega
        subst e; exact hup
      clear hw hup hwr
      go_wp2
      go_ret
      exact ⟨ze HF.out.symm, HW.out⟩
end Go.Proofs.YtnbpglbbjnkhpaaGreat

namespace Go.Proofs.YtnbpglbbjnkhpaaGreat
open Go.RowKit
set_option maxHeartbeats 400000 in
theorem zlH (nm : ByteArray) (ls ms : Int) (a : Option Addr) (cap : Nat) (ws : List ByteArray) (to : ByteArray) (rl : Int) (mu fx : Bool) (df wg : ByteArray) (v : ByteArray) (w : World) (hv : v.size <= maxLen) :
    Calls Tryz.prog 92 #[.agg #[.string nm, .int .i64 1, .int .i64 ls, .int .i64 ms, .slice a ws.length cap, .string to, .int .i64 rl, .bool mu, .bool fx, .string df, .string wg], .string v] w
      fun e w' => e = .returned (.bool (Gate.fits 1 ls ms ws v)) /\ Below w.heap.size w w' := by
  rw [Gate.znw]
  by_cases hd : Gate.jS v = true
  · have HE : Hid (qH v = Gate.ze7 v) := by unfold qH Hid; rw [hd]; rfl
    have HF : Hid (Gate.j3 ls ms v = (decide (ls <= qH v) && decide (qH v <= ms))) := by rw [HE.out]; exact Gate.zkV _ _ _ hd
    have h0 : 0 <= qH v := by rw [HE.out]; exact Gate.zck v hd
    go_enter Tryz.func92, Tryz.ntmps92
    go_wp2_with (first
      | (go_at_call 141; refine (zcW _ _ hv).mono ?_; rintro e w' ⟨rfl, rfl⟩)
      | (go_at_call 20; refine (yx _ _ _ _).mono ?_; rintro e w' ⟨rfl, rfl⟩))
    go_ret
    exact ⟨ze HF.out.symm, (Below.refl _ _).alloc (Nat.le_refl _) _⟩
  · have hd' : Gate.jS v = false := by simpa using hd
    have HF : Hid (Gate.j3 ls ms v = false) := Gate.zhl _ _ _ hd'
    have h0 : qH v < 0 := by unfold qH; rw [hd']; simp
    go_enter Tryz.func92, Tryz.ntmps92
    go_wp2_with (first
      | (go_at_call 141; refine (zcW _ _ hv).mono ?_; rintro e w' ⟨rfl, rfl⟩)
      | (go_at_call 20; refine (yx _ _ _ _).mono ?_; rintro e w' ⟨rfl, rfl⟩))
    go_ret
    exact ⟨ze HF.out.symm, (Below.refl _ _).alloc (Nat.le_refl _) _⟩
set_option maxHeartbeats 400000 in
theorem zlJ (nm : ByteArray) (ls ms : Int) (a : Option Addr) (cap : Nat) (ws : List ByteArray) (to : ByteArray) (rl : Int) (mu fx : Bool) (df wg : ByteArray) (v : ByteArray) (w : World) (hws : zD w a ws) :
    Calls Tryz.prog 92 #[.agg #[.string nm, .int .i64 2, .int .i64 ls, .int .i64 ms, .slice a ws.length cap, .string to, .int .i64 rl, .bool mu, .bool fx, .string df, .string wg], .string v] w
      fun e w' => e = .returned (.bool (Gate.fits 2 ls ms ws v)) /\ Below w.heap.size w w' := by
  by_cases hz : v.size = 0
  · rw [Gate.jY _ _ _ _ _ hz]
    have hne : v.toList.isEmpty = true := by rw [Gate.zq]; simp [hz]
    clear hz hws
    go_enter Tryz.func92, Tryz.ntmps92
    go_wp2_with fail
    go_ret
    exact ⟨rfl, (Below.refl _ _).alloc (Nat.le_refl _) _⟩
  · rw [Gate.zl4 _ _ _ _ hz]
    have hne : v.toList.isEmpty = false := by rw [Gate.zq]; simp [hz]
    go_enter Tryz.func92, Tryz.ntmps92
    go_wp2_with (go_at_call 139; refine (zbS _ _ _ _ _ (by exact hws.mono ((Below.refl _ _).alloc (Nat.le_refl _) _))).mono ?_; rintro e w' ⟨rfl, rfl⟩)
    go_ret
    exact ⟨rfl, (Below.refl _ _).alloc (Nat.le_refl _) _⟩
set_option maxHeartbeats 400000 in
theorem zlE (nm : ByteArray) (ls ms : Int) (a : Option Addr) (cap : Nat) (ws : List ByteArray) (to : ByteArray) (rl : Int) (mu fx : Bool) (df wg : ByteArray) (v : ByteArray) (w : World) (hv : v.size <= maxLen) :
    Calls Tryz.prog 92 #[.agg #[.string nm, .int .i64 4, .int .i64 ls, .int .i64 ms, .slice a ws.length cap, .string to, .int .i64 rl, .bool mu, .bool fx, .string df, .string wg], .string v] w
      fun e w' => e = .returned (.bool (Gate.fits 4 ls ms ws v)) /\ Below w.heap.size w w' := by
  rw [Gate.zmv]
  go_enter Tryz.func92, Tryz.ntmps92
  go_wp2_with (go_at_call 56; refine (zh _ _ hv).mono ?_; rintro e w' ⟨rfl, rfl⟩)
  go_ret
  exact ⟨rfl, (Below.refl _ _).alloc (Nat.le_refl _) _⟩
set_option maxHeartbeats 400000 in
theorem zhz (nm : ByteArray) (kd ls ms : Int) (a : Option Addr) (cap : Nat) (ws : List ByteArray) (to : ByteArray) (rl : Int) (mu fx : Bool) (df wg : ByteArray) (v : ByteArray) (w : World) (h1 : kd ≠ 1) (h2 : kd ≠ 2) (h3 : kd ≠ 3) (h4 : kd ≠ 4) :
    Calls Tryz.prog 92 #[.agg #[.string nm, .int .i64 kd, .int .i64 ls, .int .i64 ms, .slice a ws.length cap, .string to, .int .i64 rl, .bool mu, .bool fx, .string df, .string wg], .string v] w
      fun e w' => e = .returned (.bool (Gate.fits kd ls ms ws v)) /\ Below w.heap.size w w' := by
  rw [Gate.zeq kd ls ms ws v h1 h2 h3 h4]
  have e1 : (kd == 1) = false := by simpa using h1
  have e2 : (kd == 2) = false := by simpa using h2
  have e3 : (kd == 3) = false := by simpa using h3
  have e4 : (kd == 4) = false := by simpa using h4
  clear h1 h2 h3 h4
  go_enter Tryz.func92, Tryz.ntmps92
  go_wp2_with fail
  go_ret
  exact ⟨rfl, (Below.refl _ _).alloc (Nat.le_refl _) _⟩
set_option maxHeartbeats 800000 in
theorem zlW (nm : ByteArray) (ls ms : Int) (a : Option Addr) (cap : Nat) (ws : List ByteArray) (to : ByteArray) (rl : Int) (mu fx : Bool) (df wg : ByteArray) (v : ByteArray) (w : World) (hv : v.size <= maxLen) :
    Calls Tryz.prog 92 #[.agg #[.string nm, .int .i64 3, .int .i64 ls, .int .i64 ms, .slice a ws.length cap, .string to, .int .i64 rl, .bool mu, .bool fx, .string df, .string wg], .string v] w
      fun e w' => e = .returned (.bool (Gate.fits 3 ls ms ws v)) /\ Below w.heap.size w w' := by
  unfold maxLen at hv
  go_enter Tryz.func92, Tryz.ntmps92
  go_wp2_with fail
  go_loop [6] (fun i => ∃ k : Nat, k <= v.size /\ i = .int .i64 k /\ (v.data.toList.take k).all Gate.yU = true) (fun i => v.size - (intOf i).toNat)
  case atStart => exact ⟨0, Nat.zero_le _, rfl, rfl⟩
  case round =>
    obtain ⟨k, hk, rfl, hall⟩ := hrel
    by_cases hlt : k < v.size
    · have HS : Hid ((v.data.toList.take (k + 1)).all Gate.yU = (true && Gate.yU v[k])) := by rw [Gate.zaq _ v k hlt, hall]; rfl
      have HN : Hid (Gate.yU v[k] = false -> Gate.fits 3 ls ms ws v = false) := fun h => Gate.ziA ls ms ws v (Gate.zbp Gate.yU v k hlt h)
      clear hall
      by_cases h33 : 33 <= (v[k].toNat : Int) /\ (v[k].toNat : Int) <= 126
      · have HC : Hid (Gate.yU v[k] = true) := by simp [Gate.yU, Hid]; omega
        obtain ⟨ha, hb⟩ := h33
        go_wp2_with (go_at_call 20; refine (zaH _ _ _ _ (by omega) (by omega)).mono ?_; rintro e w' ⟨rfl, rfl⟩)
        go_round
        case rel => exact ⟨k + 1, by omega, by go_num, by rw [HS.out, HC.out]; rfl⟩
        case measure => simp [intOf]; omega
      · have HC : Hid (Gate.yU v[k] = false) := by simp [Gate.yU, Hid]; omega
        have HD : Hid (¬ (33 <= (v[k].toNat : Int) /\ (v[k].toNat : Int) <= 126)) := h33
        clear h33
        have hby : (v[k].toNat : Int) < 256 := by have := v[k].toNat_lt; omega
        go_wp2_with (go_at_call 20; refine (zcg _ _ _ _ (by have := HD.out; omega)).mono ?_; rintro e w' ⟨rfl, rfl⟩)
        go_ret
        exact ⟨ze (HN.out HC.out).symm, (Below.refl _ _).alloc (Nat.le_refl _) _⟩
    · have HA : Hid (Gate.za2 v = true) := by unfold Gate.za2 Hid; rw [<- Gate.j6 v k (by omega)]; exact hall
      clear hall
      by_cases hz : v.size = 0
      · have HF : Hid (Gate.fits 3 ls ms ws v = false) := Gate.jY _ _ _ _ _ hz
        have hne : v.toList.isEmpty = true := by rw [Gate.zq]; simp [hz]
        clear hz
        go_wp2_with fail
        go_ret
        exact ⟨ze HF.out.symm, (Below.refl _ _).alloc (Nat.le_refl _) _⟩
      · have HF : Hid (Gate.fits 3 ls ms ws v = (decide (ls <= v.size) && decide ((v.size : Int) <= ms))) := Gate.ziC ls ms ws v HA.out hz
        have hne : v.toList.isEmpty = false := by rw [Gate.zq]; simp [hz]
        go_wp2_with (go_at_call 20; refine (yx _ _ _ _).mono ?_; rintro e w' ⟨rfl, rfl⟩)
        go_ret
        exact ⟨ze HF.out.symm, (Below.refl _ _).alloc (Nat.le_refl _) _⟩
theorem yM (nm : ByteArray) (kd ls ms : Int) (a : Option Addr) (cap : Nat) (ws : List ByteArray) (to : ByteArray) (rl : Int) (mu fx : Bool) (df wg : ByteArray) (v : ByteArray) (w : World) (hv : v.size <= maxLen) (hws : zD w a ws) :
    Calls Tryz.prog 92 #[.agg #[.string nm, .int .i64 kd, .int .i64 ls, .int .i64 ms, .slice a ws.length cap, .string to, .int .i64 rl, .bool mu, .bool fx, .string df, .string wg], .string v] w
      fun e w' => e = .returned (.bool (Gate.fits kd ls ms ws v)) /\ Below w.heap.size w w' := by
  by_cases h1 : kd = 1
  · subst h1; exact zlH nm ls ms a cap ws to rl mu fx df wg v w hv
  by_cases h2 : kd = 2
  · subst h2; exact zlJ nm ls ms a cap ws to rl mu fx df wg v w hws
  by_cases h3 : kd = 3
  · subst h3; exact zlW nm ls ms a cap ws to rl mu fx df wg v w hv
  by_cases h4 : kd = 4
  · subst h4; exact zlE nm ls ms a cap ws to rl mu fx df wg v w hv
  exact zhz nm kd ls ms a cap ws to rl mu fx df wg v w h1 h2 h3 h4
end Go.Proofs.YtnbpglbbjnkhpaaGreat

namespace Go.Proofs.YtnbpglbbjnkhpaaGreat
open Go.RowKit
def znC (ss : List Shp) (v : ByteArray) (e : Ending) : Prop :=
  (Gate.zG ss v = false -> e = .returned (.int .i64 (-1))) /\ (Gate.zG ss v = true -> ∃ k, ∃ h : k < ss.length, e = .returned (.int .i64 (k : Nat)) /\ Gate.shapeOf ss v = ss[k])
set_option maxHeartbeats 400000 in
theorem zgb (a : Option Addr) (cap : Nat) (ss : List Shp) (v : ByteArray) (w : World) (hw : yG w a ss) :
    Calls Tryz.prog 96 #[.slice a ss.length cap, .string v] w fun e w' => znC ss v e /\ w' = w := by
  have hl := hw.len
  unfold maxLen at hl
  go_enter Tryz.func96, Tryz.ntmps96
  go_wp2
  go_loop [5] (fun i => ∃ k : Nat, k <= ss.length /\ i = .int .i64 k /\ Gate.zG (ss.take k) v = false) (fun i => ss.length - (intOf i).toNat)
  case atStart => exact ⟨0, Nat.zero_le _, rfl, rfl⟩
  case round =>
    obtain ⟨k, hk, rfl, hno⟩ := hrel
    by_cases hlt : k < ss.length
    · obtain ⟨b, off, rfl, hb, hr⟩ := hw.rows (by rintro rfl; simp at hlt)
      obtain ⟨fa, fcap, hs⟩ := hr k hlt
      have hck := hs.kind
      clear hw hr hs
      by_cases he : ss[k].kd = v
      · have hbe : (ss[k].kd.toList == v.toList) = true := by rw [Gate.beq_toList]; simpa using he
        have HA : Hid (Gate.zG ss v = true) := Gate.zhJ ss v k hlt he
        have HB : Hid (Gate.shapeOf ss v = ss[k]) := Gate.zet ss v k hlt hno he
        clear he hno
        go_wp2
        go_ret
        exact ⟨⟨fun h => (by rw [HA.out] at h; cases h), fun _ => ⟨k, hlt, rfl, HB.out⟩⟩, rfl⟩
      · have hbe : (ss[k].kd.toList == v.toList) = false := by rw [Gate.beq_toList]; simpa using he
        have HS : Hid (Gate.zG (ss.take (k + 1)) v = false) := by unfold Hid; rw [Gate.zey ss v k hlt, hno, decide_eq_false he]; rfl
        clear he hno
        go_wp2
        go_round
        case rel => exact ⟨k + 1, by omega, by go_num, HS.out⟩
        case measure => simp [intOf]; omega
    · have HA : Hid (Gate.zG ss v = false) := by rw [<- Gate.zgh ss v k (by omega)]; exact hno
      clear hno hw
      go_wp2
      go_ret
      exact ⟨⟨fun _ => rfl, fun h => by rw [HA.out] at h; cases h⟩, rfl⟩
theorem zc4 (a : Option Addr) (cap : Nat) (ss : List Shp) (v : ByteArray) (w : World) (hw : yG w a ss) (h : Gate.zG ss v = false) :
    Calls Tryz.prog 96 #[.slice a ss.length cap, .string v] w fun e w' => e = .returned (.int .i64 (-1)) /\ w' = w := by
  refine (zgb a cap ss v w hw).mono ?_
  rintro e w' ⟨⟨h1, _⟩, rfl⟩
  exact ⟨h1 h, rfl⟩
theorem jl (a : Option Addr) (cap : Nat) (ss : List Shp) (v : ByteArray) (w : World) (hw : yG w a ss) (h : Gate.zG ss v = true) :
    Calls Tryz.prog 96 #[.slice a ss.length cap, .string v] w fun e w' => ∃ k, ∃ h : k < ss.length, e = .returned (.int .i64 (k : Nat)) /\ Gate.shapeOf ss v = ss[k] /\ w' = w := by
  refine (zgb a cap ss v w hw).mono ?_
  rintro e w' ⟨⟨_, h2⟩, rfl⟩
  obtain ⟨k, hk, he, hs⟩ := h2 h
  exact ⟨k, hk, he, hs, rfl⟩
end Go.Proofs.YtnbpglbbjnkhpaaGreat
