import Derived.Test.YtfcdmlnpfoikhaaGreatM02
import Derived.Test.YtfcdmlnpfoikhaaGreatM04
import Derived.Test.YtfcdmlnpfoikhaaGreatM06
import Derived.Deep.RegionHeld3
import Derived.Test.YtfcdmlnpfoikhaaGreatM03
namespace Go.Proofs.YtfcdmlnpfoikhaaGreat
open Go.RowKit
def Mnd.sz (m : Mnd) : Nat := m.kd.size + m.fd.size + m.wh.size + m.wi.size + m.pt.size + m.fr.size
def zhj (ms : List Mnd) : Nat := (ms.map Mnd.sz).sum
def zaJ (ms : List Mnd) : Nat := ms.length + zhj ms
set_option maxHeartbeats 1000000 in
theorem zdK (m : Mnd) (left : Int) (w : World) (hm : m.Small) (h0 : 0 <= left) (h1 : left <= 1048576) :
    Calls Tryz.prog 50 #[.agg m.cells, .int .i64 left] w fun e w' => e = .returned (.int .i64 (zF m.sz left)) /\ Below w.heap.size w w' := by
  have k1 := hm.kd
  have k2 := hm.fd
  have k3 := hm.wh
  have k4 := hm.wi
  have k5 := hm.pt
  have k6 := hm.fr
  unfold maxLen at k1 k2 k3 k4 k5 k6
  unfold Mnd.cells
  have hB : ∀ ob, Below w.heap.size w (w.alloc ob) := fun ob => (Below.refl _ _).alloc (Nat.le_refl _) _
  by_cases hf : (m.sz : Int) <= left
  · have HF : Hid (zF m.sz left = left - m.kd.size - m.fd.size - m.wh.size - m.wi.size - m.pt.size - m.fr.size) := by
      unfold Hid; rw [zG hf]; unfold Mnd.sz; omega
    unfold Mnd.sz at hf
    go_enter Tryz.func50, Tryz.ntmps50
    go_wp2_with fail
    go_ret
    exact ⟨zl HF.out.symm, hB _⟩
  · have HF : Hid (zF m.sz left = -1) := zx hf
    have HN : Hid (¬ ((m.kd.size + m.fd.size + m.wh.size + m.wi.size + m.pt.size + m.fr.size : Nat) : Int) <= left) := hf
    clear hf
    go_enter Tryz.func50, Tryz.ntmps50
    go_wp2_with fail
    all_goals go_ret
    all_goals first | exact ⟨zl HF.out.symm, hB _⟩ | (exfalso; have := HN.out; simp at *; omega)
theorem zhN (m : Mnd) (left : Int) (w : World) (hm : m.Small) (h0 : 0 <= left) (h1 : left <= 1048576) (h : (m.sz : Int) <= left) :
    Calls Tryz.prog 50 #[.agg m.cells, .int .i64 left] w fun e w' => e = .returned (.int .i64 (left - m.sz)) /\ Below w.heap.size w w' := by
  refine (zdK m left w hm h0 h1).mono ?_
  rintro e w' ⟨rfl, hb⟩
  exact ⟨zl (zG h), hb⟩
theorem zjc (m : Mnd) (left : Int) (w : World) (hm : m.Small) (h0 : 0 <= left) (h1 : left <= 1048576) (h : ¬ (m.sz : Int) <= left) :
    Calls Tryz.prog 50 #[.agg m.cells, .int .i64 left] w fun e w' => e = .returned (.int .i64 (-1)) /\ Below w.heap.size w w' := by
  refine (zdK m left w hm h0 h1).mono ?_
  rintro e w' ⟨rfl, hb⟩
  exact ⟨zl (zx h), hb⟩
set_option maxHeartbeats 1000000 in
theorem zg8 (a : Option Addr) (cap : Nat) (ms : List Mnd) (left : Int) (w : World) (hw : qw w a ms) (h0 : 0 <= left) (h1 : left <= 1048576) :
    Calls Tryz.prog 18 #[.slice a ms.length cap, .int .i64 left] w fun e w' => e = .returned (.int .i64 (zF (zaJ ms) left)) /\ Below w.heap.size w w' := by
  have hl := hw.len
  unfold maxLen at hl
  by_cases hfit : (ms.length : Int) <= left
  · go_enter Tryz.func18, Tryz.ntmps18
    go_wp2_with fail
    go_loopw [1, 5] (fun l i wr => ∃ k : Nat, k <= ms.length /\ i = .int .i64 k /\ 0 <= left - ms.length - zhj (ms.take k) /\ l = .int .i64 (left - ms.length - zhj (ms.take k)) /\ Below w.heap.size w wr) (fun _ i _ => ms.length - (intOf i).toNat)
    case atStart => exact ⟨0, Nat.zero_le _, rfl, by simp [zhj]; omega, by simp [zhj], Below.refl _ _⟩
    case round =>
      obtain ⟨k, hk, rfl, hpos, rfl, hB⟩ := hrel
      by_cases hlt : k < ms.length
      · obtain ⟨b, off, rfl, hb, c0, c1, c2, c3, c4, c5⟩ := hw.load hB k hlt
        have hsm := hw.small k hlt
        have HS : Hid (zhj (ms.take (k + 1)) = zhj (ms.take k) + ms[k].sz) := zaA Mnd.sz ms k hlt
        have hle : zhj (ms.take (k + 1)) <= zhj ms := zb0 Mnd.sz ms (k + 1)
        clear hw
        by_cases hneg : (ms[k].sz : Int) <= left - ms.length - zhj (ms.take k)
        · have HNG : Hid ((ms[k].sz : Int) <= left - ms.length - zhj (ms.take k)) := hneg
          clear hle
          go_wp2_with fail
          refine (zhN _ _ _ hsm hpos (by omega) HNG.out).mono ?_
          rintro e w1 ⟨rfl, hb1⟩
          have hB1 := hB.trans (hb1.mono hB.size)
          clear hb1
          go_wp2_with fail
          exact ⟨⟨k + 1, by omega, by go_num, by rw [HS.out]; omega, by rw [HS.out]; congr 1; omega, hB1⟩, by simp [intOf]; omega⟩
        · have HF : Hid (zF (zaJ ms) left = -1) := zx (by have := HS.out; unfold zaJ; omega)
          have HNG := hid hneg
          clear hneg hle
          go_wp2_with fail
          refine (zjc _ _ _ hsm hpos (by omega) (by have := HNG.out; omega)).mono ?_
          rintro e w1 ⟨rfl, hb1⟩
          have hB1 := hB.trans (hb1.mono hB.size)
          clear hb1
          go_wp2_with fail
          go_ret
          exact ⟨zl HF.out.symm, hB1⟩
      · have HF : Hid (zF (zaJ ms) left = left - ms.length - zhj (ms.take k)) := by
          rw [List.take_of_length_le (by omega)] at hpos ⊢
          have e : zF (zaJ ms) left = left - zaJ ms := zG (by unfold zaJ; omega)
          unfold Hid; rw [e]; unfold zaJ; omega
        clear hw
        go_wp2
        go_ret
        exact ⟨zl HF.out.symm, hB⟩
  · have HF : Hid (zF (zaJ ms) left = -1) := zx (by unfold zaJ; omega)
    clear hw
    go_enter Tryz.func18, Tryz.ntmps18
    go_wp2
    go_ret
    exact ⟨zl HF.out.symm, Below.refl _ _⟩
theorem zik (m : Mnd) (w : World) : Calls Tryz.prog 74 #[.agg m.cells, .agg m.cells] w fun e w' => e = .returned (.bool true) /\ Below w.heap.size w w' := by
  unfold Mnd.cells
  go_enter Tryz.func74, Tryz.ntmps74
  go_wp2_with fail
  go_ret
  exact ⟨rfl, zq _ _ _⟩
set_option maxHeartbeats 2000000 in
theorem zgT (a a' : Option Addr) (cap cap' : Nat) (ms : List Mnd) (w : World) (hw : qw w a ms) (hw' : qw w a' ms) :
    Calls Tryz.prog 36 #[.slice a ms.length cap, .slice a' ms.length cap'] w fun e w' => e = .returned (.bool true) /\ Below w.heap.size w w' := by
  have hl := hw.len
  unfold maxLen at hl
  have hnn : ((ms.length : Int) != ms.length) = false := by simp
  go_enter Tryz.func36, Tryz.ntmps36
  go_wp2_with fail
  go_loopw [5] (fun i wr => ∃ k : Nat, k <= ms.length /\ i = .int .i64 k /\ Below w.heap.size w wr) (fun i _ => ms.length - (intOf i).toNat)
  case atStart => exact ⟨0, Nat.zero_le _, rfl, Below.refl _ _⟩
  case round =>
    obtain ⟨k, hk, rfl, hB⟩ := hrel
    by_cases hlt : k < ms.length
    · obtain ⟨b, off, rfl, hb, c0, c1, c2, c3, c4, c5⟩ := hw.load hB k hlt
      obtain ⟨b', off', rfl, hb', d0, d1, d2, d3, d4, d5⟩ := hw'.load hB k hlt
      have hltI : (k : Int) < (ms.length : Int) := by omega
      clear hw hw'
      go_wp2_with fail
      go_region_with (go_at_call 74; refine (zik ms[k] _).mono ?_; rintro e w1 ⟨rfl, hb1'⟩; have hb1 := (Below.refl wr.heap.size wr).drew.trans hb1'; clear hb1')
      all_goals go_wp2_with fail
      all_goals exact ⟨⟨k + 1, by omega, by go_num, hB.trans (hb1.mono hB.size)⟩, by simp [intOf]; omega⟩
    · clear hw hw'
      go_wp2_with fail
      go_ret
      exact ⟨rfl, hB⟩
structure qF (lo : Nat) (w : World) (bo : Nat) (ms : List Mnd) (k : Nat) : Prop where
  low : lo <= bo
  rows : ∃ C, w.heap[bo]? = some (.cells C 121) /\ C.size = ms.length * 6 /\ ∀ i (h : i < ms.length), i < k -> ∀ j, j < 6 -> C[i * 6 + j]? = ms[i].cells[j]?
theorem qF.at {lo : Nat} {w : World} {bo : Nat} {ms : List Mnd} (h : qF lo w bo ms ms.length) (hs : ∀ i (h : i < ms.length), ms[i].Small) (hl : ms.length <= maxLen) : qw w (some ⟨bo, 0, none⟩) ms := by
  obtain ⟨C, hC, hsz, hr⟩ := h.rows
  refine ⟨hl, hs, fun _ => ⟨bo, 0, rfl, (Array.getElem?_eq_some_iff.1 hC).1, fun i hi j hj => ?_⟩⟩
  rw [cell_of_block hC, Nat.zero_add]
  exact hr i hi hi j hj
theorem qF.later {lo : Nat} {w w' : World} {bo : Nat} {ms : List Mnd} {k : Nat} (h : qF lo w bo ms k) (hb : Below w.heap.size w w') : qF lo w' bo ms k := by
  obtain ⟨C, hC, hsz, hr⟩ := h.rows
  exact ⟨h.low, C, (hb.block bo (Array.getElem?_eq_some_iff.1 hC).1).trans hC, hsz, hr⟩
end Go.Proofs.YtfcdmlnpfoikhaaGreat

namespace Go.Proofs.YtfcdmlnpfoikhaaGreat
open Go.RowKit
def zcH (o : Ob) : Nat := o.kd.size + o.nm.size + o.tm.size + qj o.vs + qj o.hs
set_option maxHeartbeats 2000000 in
theorem zfX (o : Ob) (a a' : Option Addr) (cap cap' : Nat) (left : Int) (w : World) (ho : qL w o a a') (h0 : 0 <= left) (h1 : left <= 1048576) :
    Calls Tryz.prog 52 #[.agg (oC o a a' cap cap'), .int .i64 left] w fun e w' => e = .returned (.int .i64 (zF (zcH o) left)) /\ Below w.heap.size w w' := by
  have hkd := ho.small.kd
  have hnm := ho.small.nm
  have htm := ho.small.tm
  have hv := ho.vals
  have hh := ho.holds
  clear ho
  unfold maxLen at hkd hnm htm
  by_cases c1 : (o.kd.size : Int) <= left
  rotate_left
  · have HF : Hid (zF (zcH o) left = -1) := zx (by unfold zcH; omega)
    go_enter Tryz.func52, Tryz.ntmps52
    go_wp2_with fail
    go_ret
    exact ⟨zl HF.out.symm, (Below.refl _ _).alloc (Nat.le_refl _) _⟩
  by_cases c2 : (o.nm.size : Int) <= left - o.kd.size
  rotate_left
  · have HF : Hid (zF (zcH o) left = -1) := zx (by unfold zcH; omega)
    go_enter Tryz.func52, Tryz.ntmps52
    go_wp2_with fail
    go_ret
    exact ⟨zl HF.out.symm, (Below.refl _ _).alloc (Nat.le_refl _) _⟩
  by_cases c3 : (o.tm.size : Int) <= left - o.kd.size - o.nm.size
  rotate_left
  · have HF : Hid (zF (zcH o) left = -1) := zx (by unfold zcH; omega)
    go_enter Tryz.func52, Tryz.ntmps52
    go_wp2_with fail
    go_ret
    exact ⟨zl HF.out.symm, (Below.refl _ _).alloc (Nat.le_refl _) _⟩
  by_cases c4 : (qj o.vs : Int) <= left - o.kd.size - o.nm.size - o.tm.size
  rotate_left
  · have HF : Hid (zF (zcH o) left = -1) := zx (by unfold zcH; omega)
    go_enter Tryz.func52, Tryz.ntmps52
    go_wp2_with fail
    refine (zcV _ _ _ _ _ (hv.mono ((Below.refl _ _).alloc (Nat.le_refl _) _)) (by omega) (by omega) (by omega)).mono ?_
    rintro e w1 ⟨rfl, rfl⟩
    go_wp2_with fail
    go_ret
    exact ⟨zl HF.out.symm, (Below.refl _ _).alloc (Nat.le_refl _) _⟩
  by_cases c5 : (qj o.hs : Int) <= left - o.kd.size - o.nm.size - o.tm.size - qj o.vs
  rotate_left
  · have HF : Hid (zF (zcH o) left = -1) := zx (by unfold zcH; omega)
    go_enter Tryz.func52, Tryz.ntmps52
    go_wp2_with fail
    refine (jD _ _ _ _ _ (hv.mono ((Below.refl _ _).alloc (Nat.le_refl _) _)) (by omega) (by omega) (by omega)).mono ?_
    rintro e w1 ⟨rfl, rfl⟩
    go_wp2_with fail
    refine (zcV _ _ _ _ _ (hh.mono ((Below.refl _ _).alloc (Nat.le_refl _) _)) (by omega) (by omega) (by omega)).mono ?_
    rintro e w1 ⟨rfl, rfl⟩
    go_wp2_with fail
    go_ret
    exact ⟨zl HF.out.symm, (Below.refl _ _).alloc (Nat.le_refl _) _⟩
  · have HF : Hid (zF (zcH o) left = left - o.kd.size - o.nm.size - o.tm.size - qj o.vs - qj o.hs) := by
      have e : zF (zcH o) left = left - zcH o := zG (by unfold zcH; omega)
      unfold Hid; rw [e]; unfold zcH; omega
    go_enter Tryz.func52, Tryz.ntmps52
    go_wp2_with fail
    refine (jD _ _ _ _ _ (hv.mono ((Below.refl _ _).alloc (Nat.le_refl _) _)) (by omega) (by omega) (by omega)).mono ?_
    rintro e w1 ⟨rfl, rfl⟩
    go_wp2_with fail
    refine (jD _ _ _ _ _ (hh.mono ((Below.refl _ _).alloc (Nat.le_refl _) _)) (by omega) (by omega) (by omega)).mono ?_
    rintro e w1 ⟨rfl, rfl⟩
    go_wp2_with fail
    go_ret
    exact ⟨zl HF.out.symm, (Below.refl _ _).alloc (Nat.le_refl _) _⟩
set_option maxHeartbeats 1000000 in
theorem zf4 (o : Ob) (a a' b b' : Option Addr) (cap cap' dap dap' : Nat) (w : World) (ho : qL w o a a') (ho' : qL w o b b') :
    Calls Tryz.prog 76 #[.agg (oC o a a' cap cap'), .agg (oC o b b' dap dap')] w fun e w' => e = .returned (.bool true) /\ Below w.heap.size w w' := by
  go_enter Tryz.func76, Tryz.ntmps76
  go_wp2_with fail
  refine (zcw _ _ _ _ _ _ (ho.vals.mono (zq _ _ _)) (ho'.vals.mono (zq _ _ _))).mono ?_
  rintro e w1 ⟨rfl, hb1⟩
  have hX1 := za (wk := (w.alloc (.cells (oC o a a' cap cap') 115)).alloc (.cells (oC o b b' dap dap') 115)) (b := w.heap.size) (X := (oC o a a' cap cap')) (fun j => by rw [World.cell?_alloc_lt _ _ ⟨w.heap.size, j, none⟩ (by simp)]; exact zH w _ _ j) (by simp; omega) hb1
  have hY1 := za (wk := (w.alloc (.cells (oC o a a' cap cap') 115)).alloc (.cells (oC o b b' dap dap') 115)) (b := w.heap.size + 1) (X := (oC o b b' dap dap')) (fun j => by rw [World.cell?_alloc_at _ _ _ _ (by simp)]) (by simp) hb1
  have hz1 : w.heap.size + 1 < w1.heap.size := by have := hb1.size; simp at this; omega
  have hB1 : Below w.heap.size w w1 := (zq _ _ _).trans (hb1.mono (by simp; omega))
  clear hb1
  go_wp2_with fail
  refine (zcw _ _ _ _ _ _ (ho.holds.mono hB1) (ho'.holds.mono hB1)).mono ?_
  rintro e w2 ⟨rfl, hb2⟩
  have hX2 := za hX1 (by omega) hb2
  have hY2 := za hY1 (by omega) hb2
  have hB2 := hB1.trans (hb2.mono (by omega))
  clear hb2 hX1 hY1
  go_wp2_with fail
  go_ret
  exact ⟨rfl, hB2⟩
theorem zpt (w : World) (o1 o2 o3 o4 o5 : Obj) : (((((w.alloc o1).alloc o2).alloc o3).alloc o4).alloc o5).heap[w.heap.size + 1 + 1 + 1]? = some o4 :=
  (Below.heap_alloc _ _ _ (by simp)).trans (at4 _ _ _ _ _)
theorem zpu (w : World) (o1 o2 o3 o4 o5 : Obj) : (((((w.alloc o1).alloc o2).alloc o3).alloc o4).alloc o5).heap[w.heap.size + 1 + 1 + 1 + 1]? = some o5 := by
  have h := (MapKept.heap_alloc ((((w.alloc o1).alloc o2).alloc o3).alloc o4) o5).1
  simpa using h
set_option maxHeartbeats 2000000 in
theorem zgj (o : Ob) (a a' : Option Addr) (cap cap' : Nat) (w : World) (ho : qL w o a a') (hl : o.vs.length <= 1048576) (hl' : o.hs.length <= 1048576) :
    Calls Tryz.prog 65 #[.agg (oC o a a' cap cap')] w fun e w' => ∃ bv bh, e = .returned (.agg #[.string o.kd, .string o.nm, .string o.tm, .slice (some ⟨bv, 0, none⟩) o.vs.length o.vs.length, .bool o.en, .slice (some ⟨bh, 0, none⟩) o.hs.length o.hs.length, .int .i64 o.vr]) /\
      w.heap.size <= bv /\ w.heap.size <= bh /\ bv ≠ bh /\ w'.heap[bv]? = some (.cells (ji o.vs) 9) /\ w'.heap[bh]? = some (.cells (ji o.hs) 9) /\ Below w.heap.size w w' := by
  go_enter Tryz.func65, Tryz.ntmps65
  go_wp2_with fail
  refine (zcr _ _ _ _ (ho.vals.mono ((((Below.refl _ _).alloc (Nat.le_refl _) _).alloc (by simp) _).alloc (by simp; omega) _)) hl).mono ?_
  rintro e w1 ⟨rfl, rfl⟩
  go_wp2_with fail
  refine (zcr _ _ _ _ (ho.holds.mono (zmA _ _ _ _ _)) hl').mono ?_
  rintro e w2 ⟨rfl, rfl⟩
  go_wp2_with fail
  refine bodyPost_ret (v := .agg #[.string o.kd, .string o.nm, .string o.tm, .slice (some ⟨w.heap.size + 1 + 1 + 1, 0, none⟩) o.vs.length o.vs.length, .bool o.en, .slice (some ⟨w.heap.size + 1 + 1 + 1 + 1, 0, none⟩) o.hs.length o.hs.length, .int .i64 o.vr]) (by simp [results, Tryz.results65, go_sem]) rfl ⟨w.heap.size + 1 + 1 + 1, w.heap.size + 1 + 1 + 1 + 1, rfl, by omega, by omega, by omega, zpt _ _ _ _ _ _, zpu _ _ _ _ _ _, (zmA _ _ _ _ _).alloc (by simp; omega) _⟩
end Go.Proofs.YtfcdmlnpfoikhaaGreat
