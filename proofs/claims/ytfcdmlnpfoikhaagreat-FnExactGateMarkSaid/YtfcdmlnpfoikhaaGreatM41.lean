import Derived.Test.YtfcdmlnpfoikhaaGreatM06
import Derived.Test.YtfcdmlnpfoikhaaGreatM36
import Derived.Test.YtfcdmlnpfoikhaaGreatM02
import Derived.Test.YtfcdmlnpfoikhaaGreatM30
import Derived.Test.YtfcdmlnpfoikhaaGreatM19
import Derived.Test.YtfcdmlnpfoikhaaGreatM11
import Derived.Test.YtfcdmlnpfoikhaaGreatM33
import Derived.Deep.QuietTactic
import Derived.Deep.RegionHeld3
namespace Go.Proofs.YtfcdmlnpfoikhaaGreat
open Go.RowKit
namespace Gate
def zaC (s : Shp) (i : Nat) : ByteArray := (s.fs.getD i zaZ).nm
def qR (s : Shp) (ms : List Mnd) (row : List ByteArray) (i : Nat) : Bool := !has row (zaC s i) && zbH ms s.kd (zaC s i) row
def zdA (s : Shp) (ms : List Mnd) (row : List ByteArray) : List ByteArray := match (List.range s.fs.length).find? (qR s ms row) with | none => row | some i => row ++ [zaC s i]
def zZ (s : Shp) (ms : List Mnd) : Nat -> List ByteArray
  | 0 => []
  | k + 1 => zdA s ms (zZ s ms k)
theorem zkf (s : Shp) (ms : List Mnd) (row : List ByteArray) : (zdA s ms row).length <= row.length + 1 := by
  unfold zdA; split
  · omega
  · simp
theorem zdP (s : Shp) (ms : List Mnd) : ∀ k, (zZ s ms k).length <= k
  | 0 => Nat.le_refl _
  | k + 1 => Nat.le_trans (zkf s ms _) (by have := zdP s ms k; omega)
theorem zdZ (s : Shp) (ms : List Mnd) : ∀ k, ∀ x ∈ zZ s ms k, ∃ i, i < s.fs.length /\ x = zaC s i
  | 0, x, h => by cases h
  | k + 1, x, h => by
    have h' : x ∈ zdA s ms (zZ s ms k) := h
    unfold zdA at h'
    split at h'
    · exact zdZ s ms k x h'
    · rename_i i hi
      rw [List.mem_append, List.mem_singleton] at h'
      rcases h' with h' | h'
      · exact zdZ s ms k x h'
      · exact ⟨i, List.mem_range.1 (List.mem_of_find?_eq_some hi), h'⟩
end Gate
set_option maxRecDepth 20000 in
set_option maxHeartbeats 4000000 in
theorem zjI (fa ma : Option Addr) (fcap mcap : Nat) (s : Shp) (ms : List Mnd) (w : World) (hf : zY w fa s.fs) (hm : qw w ma ms) (hml : ms.length <= 12) (hn : s.fs.length <= 6) :
    Calls Tryz.prog 122 #[.agg #[.string s.kd, .slice fa s.fs.length fcap], .slice ma ms.length mcap] w fun e w' => ∃ v, e = .returned v /\ w'.ownsRow w.heap.size 9 1 v (Gate.zZ s ms s.fs.length).length ((Gate.zZ s ms s.fs.length).map Value.string) /\ Below w.heap.size w w' := by
  have HM := jE hf hm
  have HSM : Hid (∀ k, ∀ x ∈ Gate.zZ s ms k, x.size <= maxLen) := by
    intro k x hx
    obtain ⟨i, hi, rfl⟩ := Gate.zdZ s ms k x hx
    unfold Gate.zaC
    rw [Gate.getD_at _ _ _ hi]
    exact (hf.smalls.small i hi).1.nm
  obtain ⟨i0, hi0, hz0, hz1', hz2⟩ := info_parts Tryz.zc4
  clear hf hm
  go_enter Tryz.func122, Tryz.ntmps122
  go_wp2_with fail
  have hnI : (s.fs.length : Int) <= 6 := by omega
  go_loopw [5, 6] (fun v0 iv wr => ∃ (k : Nat) (v : Value), v = v0 /\ k <= s.fs.length /\ iv = .int .i64 k /\ wr.ownsRow (w.heap.size + 1) 9 1 v (Gate.zZ s ms k).length ((Gate.zZ s ms k).map Value.string) /\ wr.heap[w.heap.size]? = some (.cells #[.string s.kd, .slice fa s.fs.length fcap] 119) /\ Below w.heap.size w wr) (fun _ iv _ => s.fs.length - (intOf iv).toNat)
  case atStart => exact ⟨0, _, rfl, Nat.zero_le _, rfl, ⟨rfl, .inr ⟨w.heap.size + 1, 0, #[], rfl, Nat.le_refl _, (zR _ _ _).2, Nat.le_refl _, by simp [maxLen], rfl, rfl⟩⟩, (zR _ _ _).1, zq _ _ _⟩
  case round =>
    obtain ⟨k, v, hv, hk, rfl, hown, hbox, hB⟩ := hrel
    subst hv
    obtain ⟨va, vcap, rfl⟩ := yM hown
    have HW := zfw hown hbox hB
    have hXr : ∀ j, wr.cell? ⟨w.heap.size, j, none⟩ = (#[.string s.kd, .slice fa s.fs.length fcap] : Array Value)[j]? := fun j => cell_of_block hbox
    have hzr := (Array.getElem?_eq_some_iff.1 hbox).1
    have HGL : Hid ((Gate.zZ s ms k).length <= 6) := by have := Gate.zdP s ms k; show _ <= _; omega
    clear hown hbox hB
    by_cases hlt : k < s.fs.length
    · have hltI : (k : Int) < (s.fs.length : Int) := by omega
      go_wp2_with fail
      clear hXr
      obtain ⟨wo, hwo⟩ : ∃ wo, wo = wr := ⟨_, rfl⟩
      have HWO : Hid (wo.ownsRow (w.heap.size + 1) 9 1 (.slice va (Gate.zZ s ms k).length vcap) (Gate.zZ s ms k).length ((Gate.zZ s ms k).map Value.string) /\ wo.heap[w.heap.size]? = some (.cells #[.string s.kd, .slice fa s.fs.length fcap] 119) /\ Below w.heap.size w wo /\ w.heap.size < wo.heap.size) := by rw [hwo]; exact ⟨HW.out.1, HW.out.2.1, HW.out.2.2, hzr⟩
      have HWE := hid hwo
      clear hwo HW hzr
      go_loopw [5, 7] (fun v1 iv wq => ∃ i : Nat, i <= s.fs.length /\ iv = .int .i64 i /\ v1 = .slice va (Gate.zZ s ms k).length vcap /\ (∀ q, q < i -> Gate.qR s ms (Gate.zZ s ms k) q = false) /\ Below wo.heap.size wo wq) (fun _ iv _ => s.fs.length - (intOf iv).toNat)
      case atStart => exact ⟨0, Nat.zero_le _, rfl, rfl, fun q h => absurd h (by omega), by rw [HWE.out]; exact Below.refl _ _⟩
      case round =>
        obtain ⟨i, hi, rfl, rfl, hno, hBq⟩ := hrel
        have HQ := zol hno hBq (yJ HWO.out.1 hBq) ((hBq.block _ HWO.out.2.2.2).trans HWO.out.2.1) (HWO.out.2.2.1.trans (hBq.mono HWO.out.2.2.1.size))
        have hXq := zaV HQ.out.2.2.2.1
        have hzq := (Array.getElem?_eq_some_iff.1 HQ.out.2.2.2.1).1
        clear hno hBq
        by_cases hil : i < s.fs.length
        · have hilI : (i : Int) < (s.fs.length : Int) := by omega
          obtain ⟨fb, foff, rfl, hfb, hr⟩ := HM.out.1.rows (by intro e; rw [e] at hil; simp at hil)
          obtain ⟨wa, wcap, hf0⟩ := hr i hil
          obtain ⟨c0, c1, c2, c3, c4, c5, c6, c7, c8, c9, c10⟩ := (hf0.mono hfb HQ.out.2.2.2.2).load
          have HNM : Hid (Gate.zaC s i = s.fs[i].nm) := by unfold Hid Gate.zaC; rw [Gate.getD_at _ _ _ hil]
          have HST := hid (zks HQ.out.2.2.1 (by have := HGL.out; unfold maxLen; omega) (HSM.out k))
          have HFIND : Hid (Gate.qR s ms (Gate.zZ s ms k) i = true -> Gate.zZ s ms (k + 1) = Gate.zZ s ms k ++ [s.fs[i].nm]) := by
            intro h
            show Gate.zdA s ms (Gate.zZ s ms k) = _
            unfold Gate.zdA
            have : (List.range s.fs.length).find? (Gate.qR s ms (Gate.zZ s ms k)) = some i := by
              rw [List.find?_range_eq_some]
              exact ⟨h, List.mem_range.2 hil, fun j hj => by rw [HQ.out.1 j hj]; rfl⟩
            rw [this]
            show Gate.zZ s ms k ++ [Gate.zaC s i] = _
            rw [HNM.out]
          clear hr hf0 c1 c2 c3 c4 c5 c6 c7 c8 c9 c10
          go_wp2_with fail
          have h := zbP va vcap (Gate.zZ s ms k) s.fs[i].nm wr HST.out
          rcases hh : Gate.has (Gate.zZ s ms k) s.fs[i].nm with _ | _
          rotate_left
          · rw [hh] at h
            refine h.mono ?_
            rintro e w3 ⟨rfl, rfl⟩
            have HNR : Hid (∀ q, q < i + 1 -> Gate.qR s ms (Gate.zZ s ms k) q = false) := by
              intro q hq
              rcases Nat.lt_or_ge q i with h1 | h1
              · exact HQ.out.1 q h1
              · have e : q = i := by omega
                subst e; unfold Gate.qR; rw [HNM.out, hh]; rfl
            clear h hh
            go_wp2_with fail
            exact ⟨⟨i + 1, by omega, by go_num, rfl, HNR.out, HQ.out.2.1⟩, zk hil⟩
          rw [hh] at h
          refine h.mono ?_
          rintro e w3' ⟨rfl, hw3⟩
          rw [hw3]
          clear hw3 w3'
          have HRN : Hid (Gate.qR s ms (Gate.zZ s ms k) i = Gate.zbH ms s.kd s.fs[i].nm (Gate.zZ s ms k)) := by unfold Hid Gate.qR; rw [HNM.out, hh]; rfl
          clear h hh
          go_wp2_with fail
          have h := zln ma va mcap vcap ms s.kd s.fs[i].nm (Gate.zZ s ms k) wr (HM.out.2.mono HQ.out.2.2.2.2) HST.out hml
          rcases hh : Gate.zbH ms s.kd s.fs[i].nm (Gate.zZ s ms k) with _ | _
          · rw [hh] at h
            refine h.mono ?_
            rintro e w3 ⟨rfl, hb3⟩
            have HNR : Hid ((∀ q, q < i + 1 -> Gate.qR s ms (Gate.zZ s ms k) q = false) /\ Below wo.heap.size wo w3) := by
              refine ⟨fun q hq => ?_, HQ.out.2.1.trans (hb3.mono HQ.out.2.1.size)⟩
              rcases Nat.lt_or_ge q i with h1 | h1
              · exact HQ.out.1 q h1
              · have e : q = i := by omega
                subst e; rw [HRN.out, hh]
            clear h hh hb3
            go_wp2_with fail
            exact ⟨⟨i + 1, by omega, by go_num, rfl, HNR.out.1, HNR.out.2⟩, zk hil⟩
          rw [hh] at h
          refine h.mono ?_
          rintro e w3 ⟨rfl, hb3⟩
          have HG1 := hid (HFIND.out (by rw [HRN.out, hh]))
          have H3 := ziV (yJ HQ.out.2.2.1 hb3) ((hb3.block _ hzq).trans HQ.out.2.2.2.1) (HQ.out.2.2.2.2.trans (hb3.mono HQ.out.2.2.2.2.size)) (Nat.lt_of_lt_of_le hzq hb3.size)
          clear h hh hb3 hXq c0
          go_wp2_with (at_builtin; refine zfJ ?_)
          show wpList _ _ _ _ _ _
          refine wpList_append_own _ rfl (.tmp 42) (.tmp 44) 98 rfl (w.heap.size + 1) 9 i0 (.string ByteArray.empty) 1 16 Tryz.underlying98 hi0 hz0 hz1' hz2 rfl (by decide) (.slice va (Gate.zZ s ms k).length vcap) _ _ rfl (H3.out.1.alloc _) ⟨w3.heap.size, 0, none⟩ 1 1 [.string s.fs[i].nm] rfl rfl (zbR _ _ _) (by intro u hu; simp at hu; subst hu; rfl) (by have := HGL.out; unfold maxLen; omega) (by have := HGL.out; omega) (by have := H3.out.2.2.2; simp; omega) ?_
          intro v' w4 hown' hgr _
          obtain ⟨va', vcap', rfl⟩ := yM hown'
          have hgb : ∀ g, (Value.slice va (Gate.zZ s ms k).length vcap).ownBlock = some g -> w.heap.size + 1 <= g := fun g hg => (H3.out.1.lt g hg).1
          have HY : Hid (w4.ownsRow (w.heap.size + 1) 9 1 (.slice va' ((Gate.zZ s ms k).length + 1) vcap') (Gate.zZ s ms (k + 1)).length ((Gate.zZ s ms (k + 1)).map Value.string) /\ w4.heap[w.heap.size]? = some (.cells #[.string s.kd, .slice (some ⟨fb, foff, none⟩) s.fs.length fcap] 119) /\ Below w.heap.size w w4) := by
            refine ⟨by rw [HG1.out, List.length_append, List.map_append]; exact hown', ?_, zaR H3.out.2.2.1 H3.out.2.2.1.size hgr (fun g hg => by have := hgb g hg; omega)⟩
            exact (zah hgr (by have := H3.out.2.2.2; simp; omega) (fun g hg => by have := hgb g hg; omega)).trans ((Below.heap_alloc _ _ _ H3.out.2.2.2).trans H3.out.2.1)
          clear hown' hgr hgb
          go_wp2_with fail
          exact ⟨⟨k + 1, _, rfl, by omega, by go_num, HY.out.1, HY.out.2.1, HY.out.2.2⟩, zk hlt⟩
        · have e : i = s.fs.length := by omega
          have HN : Hid (Gate.zZ s ms (k + 1) = Gate.zZ s ms k) := by
            show Gate.zdA s ms (Gate.zZ s ms k) = _
            unfold Gate.zdA
            have : (List.range s.fs.length).find? (Gate.qR s ms (Gate.zZ s ms k)) = none := by
              rw [List.find?_eq_none]
              intro q hq
              rw [HQ.out.1 q (by rw [e]; exact List.mem_range.1 hq)]
              simp
            rw [this]
          subst e
          go_wp2_with fail
          exact ⟨⟨k + 1, _, rfl, by omega, by go_num, by rw [HN.out]; exact HQ.out.2.2.1, HQ.out.2.2.2.1, HQ.out.2.2.2.2⟩, zk hlt⟩
    · have e : k = s.fs.length := by omega
      subst e
      go_wp2_with fail
      go_ret
      exact ⟨_, rfl, jN HW.out.1 (by omega), HW.out.2.2⟩
end Go.Proofs.YtfcdmlnpfoikhaaGreat

namespace Go.Proofs.YtfcdmlnpfoikhaaGreat
open Go.RowKit
set_option maxRecDepth 20000 in
set_option maxHeartbeats 4000000 in
theorem zdo (a a' : Option Addr) (cap cap' : Nat) (ss : List Shp) (ms : List Mnd) (w : World) (hw : yE w a ss) (hm : qw w a' ms) (hml : ms.length <= 1048576) :
    Calls Tryz.prog 104 #[.slice a ss.length cap, .slice a' ms.length cap'] w fun e w' => e = .returned (.bool (Gate.zW ss ms)) /\ Below w.heap.size w w' := by
  have HW := jE hw hm
  have hl := hw.len
  unfold maxLen at hl
  clear hw hm
  by_cases h12 : ms.length <= 12
  rotate_left
  · have HF : Hid (Gate.zW ss ms = false) := by unfold Hid Gate.zW; rw [decide_eq_false h12]; simp
    go_enter Tryz.func104, Tryz.ntmps104
    go_wp2_with fail
    go_ret
    exact ⟨by rw [HF.out]; rfl, Below.refl _ _⟩
  have h12I : (ms.length : Int) <= 12 := by omega
  by_cases hok : Gate.zP ss = true
  rotate_left
  · have hokf : Gate.zP ss = false := by simpa using hok
    have HF : Hid (Gate.zW ss ms = false) := by unfold Hid Gate.zW; rw [hokf]; simp
    go_enter Tryz.func104, Tryz.ntmps104
    go_wp2_with fail
    have h := zcI a cap ss w HW.out.1
    rw [hokf] at h
    refine h.mono ?_
    rintro e w1 ⟨rfl, hb1⟩
    clear h
    go_wp2_with fail
    go_ret
    exact ⟨by rw [HF.out]; rfl, hb1⟩
  have HOK := hid hok
  go_enter Tryz.func104, Tryz.ntmps104
  go_wp2_with fail
  have h := zcI a cap ss w HW.out.1
  rw [hok] at h
  refine h.mono ?_
  rintro e w1 ⟨rfl, hb1⟩
  have HB1 := hid hb1
  clear h hb1 hok
  go_wp2_with fail
  refine (zbV _).mono ?_
  rintro e w2 ⟨rfl, hw2⟩
  have HB2 : Hid (Below w.heap.size w w2 /\ w2.heap[w1.heap.size]? = some (.map qI 4) /\ w1.heap.size < w2.heap.size) := by
    rw [hw2]; exact ⟨HB1.out.trans (((Below.refl _ _).alloc (Nat.le_refl _) _).mono HB1.out.size), alloc_at _ _, by simp⟩
  clear hw2
  go_wp2_with fail
  go_loopw [25] (fun iv wr => ∃ k : Nat, k <= ms.length /\ iv = .int .i64 k /\ (ms.take k).all (Gate.jB ss) = true /\ Below w2.heap.size w2 wr) (fun iv _ => ms.length - (intOf iv).toNat)
  case atStart => exact ⟨0, Nat.zero_le _, rfl, rfl, Below.refl _ _⟩
  case round =>
    obtain ⟨k, hk, rfl, hall, hB⟩ := hrel
    have HB := jE hB (HB2.out.1.trans (hB.mono HB2.out.1.size))
    have HA := hid hall
    clear hall hB
    by_cases hlt : k < ms.length
    · obtain ⟨b, off, rfl, hb, c0, c1, c2, c3, c4, c5⟩ := HW.out.2.load HB.out.2 k hlt
      have hltI : (k : Int) < (ms.length : Int) := by omega
      have hsm := HW.out.2.small k hlt
      have HTK : Hid ((ms.take (k + 1)).all (Gate.jB ss) = Gate.jB ss ms[k]) := by
        unfold Hid; rw [List.take_succ_eq_append_getElem hlt, List.all_append, HA.out]; simp
      have HNO : Hid (Gate.jB ss ms[k] = false -> Gate.zW ss ms = false) := by
        intro h
        have : ms.all (Gate.jB ss) = false := by rw [List.all_eq_false]; exact ⟨_, List.getElem_mem hlt, by rw [h]; simp⟩
        unfold Gate.zW; rw [this]; simp
      have hba := (Below.refl wr.heap.size wr).alloc (Nat.le_refl _) (.cells #[.string ms[k].kd, .string ms[k].fd, .string ms[k].wh, .string ms[k].wi, .string ms[k].pt, .string ms[k].fr] 121)
      have HSM := hid hsm
      clear hsm
      go_wp2_with fail
      have h := qz a cap ss ms[k].kd _ (HW.out.1.mono (HB.out.2.trans (hba.mono HB.out.2.size)))
      by_cases hkk : Gate.zD ss ms[k].kd = true
      rotate_left
      · have hkf : Gate.zD ss ms[k].kd = false := by simpa using hkk
        rw [hkf] at h
        refine h.mono ?_
        rintro e w3 ⟨fa, fcap, rfl, hfl, hb3⟩
        have HF := jE (HNO.out (by unfold Gate.jB; rw [hkf]; rfl)) (HB.out.2.trans ((hba.trans (hb3.mono hba.size)).mono HB.out.2.size))
        clear h hba hfl hb3 c0 c1 c2 c3 c4 c5
        go_wp2_with fail
        go_ret
        exact ⟨by rw [HF.out.1]; rfl, HF.out.2.alloc HF.out.2.size _⟩
      rw [hkk] at h
      refine h.mono ?_
      rintro e w3 ⟨fa, fcap, rfl, hfl, hb3⟩
      have hX3 := za (zH wr _ _) (by simp) hb3
      have hz3 : wr.heap.size < w3.heap.size := by have := hb3.size; simp at this; omega
      have HB3 := hid (hba.trans (hb3.mono hba.size))
      have hbs := (Below.refl w3.heap.size w3).alloc (Nat.le_refl _) (.cells #[.string (Gate.shapeOf ss ms[k].kd).kd, .slice fa (Gate.shapeOf ss ms[k].kd).fs.length fcap] 119)
      have HB4 := hid (HB3.out.trans (hbs.mono HB3.out.size))
      have HFL := hid ((hfl.mono hb3).mono hbs)
      have HMA : Hid (Gate.jB ss ms[k] = Gate.zau (Gate.shapeOf ss ms[k].kd).fs ms[k]) := by unfold Hid Gate.jB; rw [hkk]; simp
      have HRM : Hid ((w3.alloc (.cells #[.string (Gate.shapeOf ss ms[k].kd).kd, .slice fa (Gate.shapeOf ss ms[k].kd).fs.length fcap] 119)).heap[w1.heap.size]? = some (.map qI 4)) := by
        have h1 := HB.out.1.size
        have h2 := HB2.out.2.2
        exact (HB4.out.block w1.heap.size (by omega)).trans ((HB.out.1.block w1.heap.size h2).trans HB2.out.2.1)
      clear h hba hfl hb3 hbs hkk c0 c1 c2 c3 c4 c5
      go_wp2_with fail
      have h := zmF w1.heap.size fa fcap (Gate.shapeOf ss ms[k].kd).fs ms[k] _ HRM.out HFL.out HSM.out
      by_cases hmo : Gate.zau (Gate.shapeOf ss ms[k].kd).fs ms[k] = true
      · rw [hmo] at h
        refine h.mono ?_
        rintro e w5 ⟨rfl, hb5⟩
        have HY : Hid ((ms.take (k + 1)).all (Gate.jB ss) = true /\ Below w2.heap.size w2 w5) := ⟨by rw [HTK.out, HMA.out]; exact hmo, HB.out.1.trans ((HB4.out.trans (hb5.mono HB4.out.size)).mono HB.out.1.size)⟩
        clear h hb5 hmo hX3
        go_wp2_with fail
        exact ⟨⟨k + 1, by omega, by go_num, HY.out.1, HY.out.2⟩, zk hlt⟩
      · have hmf : Gate.zau (Gate.shapeOf ss ms[k].kd).fs ms[k] = false := by simpa using hmo
        rw [hmf] at h
        refine h.mono ?_
        rintro e w5 ⟨rfl, hb5⟩
        have HF := jE (HNO.out (by rw [HMA.out]; exact hmf)) (HB.out.2.trans ((HB4.out.trans (hb5.mono HB4.out.size)).mono HB.out.2.size))
        clear h hb5 hmo hX3
        go_wp2_with fail
        go_ret
        exact ⟨by rw [HF.out.1]; rfl, HF.out.2⟩
    · have e : k = ms.length := by omega
      have hall := HA.out
      rw [e, List.take_of_length_le (Nat.le_refl _)] at hall
      have HALL := hid hall
      subst e
      clear hall HA
      go_wp2_with fail
      have HBw := hid HB.out.2
      clear HB
      go_loopw [49] (fun iv wq => ∃ k : Nat, k <= ss.length /\ iv = .int .i64 k /\ (ss.take k).all (Gate.rowOk ms) = true /\ Below w.heap.size w wq) (fun iv _ => ss.length - (intOf iv).toNat)
      case atStart => exact ⟨0, Nat.zero_le _, rfl, rfl, HBw.out⟩
      case round =>
        obtain ⟨k, hk, rfl, hall, hB⟩ := hrel
        have HB := hid hB
        have HA := hid hall
        clear hall hB
        by_cases hlt : k < ss.length
        · obtain ⟨b, off, rfl, hb, hr⟩ := HW.out.1.rows (by rintro rfl; simp at hlt)
          obtain ⟨fa, fcap, hs0⟩ := hr k hlt
          have hs := hs0.mono hb HB.out
          have hck := hs.kind
          have hcl := hs.list
          have hfl := hs.zcn
          have hltI : (k : Int) < (ss.length : Int) := by omega
          have HTK : Hid ((ss.take (k + 1)).all (Gate.rowOk ms) = Gate.rowOk ms ss[k]) := by
            unfold Hid; rw [List.take_succ_eq_append_getElem hlt, List.all_append, HA.out]; simp
          have HNO : Hid (Gate.rowOk ms ss[k] = false -> Gate.zW ss ms = false) := by
            intro h
            have : ss.all (Gate.rowOk ms) = false := by rw [List.all_eq_false]; exact ⟨_, List.getElem_mem hlt, by rw [h]; simp⟩
            unfold Gate.zW; rw [this]; simp
          have hba := (Below.refl wr.heap.size wr).alloc (Nat.le_refl _) (.cells #[.string ss[k].kd, .slice fa ss[k].fs.length fcap] 119)
          have HFL := hid (hfl.mono hba)
          have HBA : Hid (Below w.heap.size w (wr.alloc (.cells #[.string ss[k].kd, .slice fa ss[k].fs.length fcap] 119))) := HB.out.trans (hba.mono HB.out.size)
          clear hr hs0 hs hfl hba
          go_wp2_with fail
          have h := zgm ss[k] ms a' fa cap' fcap _ (HW.out.2.mono HBA.out) HFL.out hml (Gate.zew HOK.out k hlt) (Gate.zid HOK.out HALL.out k hlt)
          by_cases hrk : Gate.rowOk ms ss[k] = true
          · have hrk' : (Gate.zC (Gate.zi ss[k] ms) ss[k].fs.length).1 = true := hrk
            refine h.mono ?_
            rintro e w5 ⟨v5, rfl, hb5, _⟩
            have HY : Hid ((ss.take (k + 1)).all (Gate.rowOk ms) = true /\ Below w.heap.size w w5) := ⟨by rw [HTK.out]; exact hrk, HBA.out.trans (hb5.mono HBA.out.size)⟩
            rw [hrk']
            clear h hb5 hrk hrk' hck hcl
            go_wp2_with fail
            exact ⟨⟨k + 1, by omega, by go_num, HY.out.1, HY.out.2⟩, zk hlt⟩
          · have hrf : Gate.rowOk ms ss[k] = false := by simpa using hrk
            have hrk' : (Gate.zC (Gate.zi ss[k] ms) ss[k].fs.length).1 = false := hrf
            refine h.mono ?_
            rintro e w5 ⟨v5, rfl, hb5, _⟩
            have HF : Hid (Gate.zW ss ms = false /\ Below w.heap.size w w5) := ⟨HNO.out hrf, HBA.out.trans (hb5.mono HBA.out.size)⟩
            rw [hrk']
            clear h hb5 hrk hrk' hck hcl
            go_wp2_with fail
            go_ret
            exact ⟨by rw [HF.out.1]; rfl, HF.out.2⟩
        · have e : k = ss.length := by omega
          have hall := HA.out
          rw [e, List.take_of_length_le (Nat.le_refl _)] at hall
          have HF : Hid (Gate.zW ss ms = true) := by unfold Hid Gate.zW; rw [HALL.out, HOK.out, hall, decide_eq_true h12]; rfl
          subst e
          clear hall HA
          go_wp2_with fail
          go_ret
          exact ⟨by rw [HF.out]; rfl, HB.out⟩
end Go.Proofs.YtfcdmlnpfoikhaaGreat

namespace Go.Proofs.YtfcdmlnpfoikhaaGreat
open Go.RowKit
namespace Gate
def yS (ss : List Shp) (o : Ob) : List ByteArray := if zu ss o = true then jK (shapeOf ss o.kd).fs o.vs else o.vs
theorem zmW {ss : List Shp} {o : Ob} (h : zP ss = true) : zhz ss o = yS ss o := by
  unfold zhz yS zu
  by_cases h1 : zD ss o.kd = true
  · by_cases h2 : o.vs.length = (shapeOf ss o.kd).fs.length
    · rw [if_pos ⟨h1, h, h2⟩, if_pos (by rw [h1]; simp [h2])]
    · rw [if_neg (fun hh => h2 hh.2.2), if_neg (by rw [h1]; simp [h2])]
  · rw [if_neg (fun hh => h1 hh.1), if_neg (by simp [h1])]
end Gate
set_option maxHeartbeats 1000000 in
theorem zeo (a0 : Option Addr) (cap0 : Nat) (ss : List Shp) (o : Ob) (a a' : Option Addr) (cap cap' : Nat) (w0 w : World) (hw0 : yE w0 a0 ss) (hbb : Below w0.heap.size w0 w) (hc : Gate.zu ss o = true) :
    Calls Tryz.prog 93 #[.slice a0 ss.length cap0, .agg (oC o a a' cap cap')] w fun e w' => ∃ fa fcap, e = .returned (.tuple #[.slice fa (Gate.shapeOf ss o.kd).fs.length fcap, .bool true]) /\ zY w0 fa (Gate.shapeOf ss o.kd).fs /\ Below w.heap.size w w' := by
  unfold Gate.zu at hc
  simp only [Bool.and_eq_true, decide_eq_true_eq] at hc
  have HK := hid hc.1
  have HL := hid hc.2
  clear hc
  have hw := hw0.mono hbb
  have hl := hw.len
  unfold maxLen at hl
  go_enter Tryz.func93, Tryz.ntmps93
  go_wp2_with fail
  refine (zaX _ _ _ _ _ (hw.mono ((Below.refl _ _).alloc (Nat.le_refl _) _)) HK.out).mono ?_
  rintro e w1 ⟨ix, hix, rfl, hsh, rfl⟩
  have HSh := hid hsh
  clear hsh
  obtain ⟨b, off, rfl, hb0, hr⟩ := hw0.rows (by rintro rfl; simp at hix)
  obtain ⟨fa, fcap, hs0⟩ := hr ix hix
  have hs := hs0.mono hb0 hbb
  have hcl := hs.list
  have hfl := hs0.zcn
  have hixI : (ix : Int) < (ss.length : Int) := by omega
  have hix0 : decide ((ix : Int) < 0) = false := by simp
  have hneq : ((ss[ix].fs.length : Int) != (o.vs.length : Int)) = false := by have h1 := HL.out; have h2 := HSh.out; rw [h2] at h1; simp [h1]
  have hbw := Nat.lt_of_lt_of_le hb0 hbb.size
  clear hr hs
  go_wp2_with fail
  go_quiet (fail)
  go_wp2_with fail
  go_ret2
  rw [HSh.out]
  exact ⟨fa, fcap, rfl, hfl, below_drewN ((Below.refl _ _).alloc (Nat.le_refl _) _) _⟩
end Go.Proofs.YtfcdmlnpfoikhaaGreat
