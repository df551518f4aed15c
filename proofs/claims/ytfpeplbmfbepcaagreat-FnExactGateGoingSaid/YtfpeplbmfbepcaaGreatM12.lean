import Derived.Test.YtfpeplbmfbepcaaGreatM03
import Derived.Test.YtfpeplbmfbepcaaGreatM06
import Derived.Test.YtfpeplbmfbepcaaGreatM05
import Derived.Deep.RegionHeld3
import Derived.Test.YtfpeplbmfbepcaaGreatM07
namespace Go.Proofs.YtfpeplbmfbepcaaGreat
open Go.RowKit
def Mnd.sz (m : Mnd) : Nat := m.kd.size + m.fd.size + m.wh.size + m.wi.size + m.pt.size + m.fr.size
def zhN (ms : List Mnd) : Nat := (ms.map Mnd.sz).sum
def zaV (ms : List Mnd) : Nat := ms.length + zhN ms
set_option maxHeartbeats 1000000 in
theorem zd3 (m : Mnd) (left : Int) (w : World) (hm : m.Small) (h0 : 0 <= left) (h1 : left <= 1048576) :
    Calls Tryz.prog 52 #[.agg m.cells, .int .i64 left] w fun e w' => e = .returned (.int .i64 (zF m.sz left)) /\ Below w.heap.size w w' := by
  have k1 := hm.kd
  have k2 := hm.fd
  have k3 := hm.wh
  have k4 := hm.wi
  have k5 := hm.pt
  have k6 := hm.fr
  unfold maxLen at k1 k2 k3 k4 k5 k6
  unfold Mnd.cells
  have hB : ∀ ob, Below w.heap.size w (w.alloc ob) := fun ob => (Below.refl _ _).alloc (Nat.le_refl _) _
  by_cases hf : (m.sz : Int) <= left
  · have HF : Hid (zF m.sz left = left - m.kd.size - m.fd.size - m.wh.size - m.wi.size - m.pt.size - m.fr.size) := by
      unfold Hid; rw [zH hf]; unfold Mnd.sz; omega
    unfold Mnd.sz at hf
    go_enter Tryz.func52, Tryz.ntmps52
    go_wp2_with fail
    go_ret
    exact ⟨zl HF.out.symm, hB _⟩
  · have HF : Hid (zF m.sz left = -1) := zx hf
    have HN : Hid (¬ ((m.kd.size + m.fd.size + m.wh.size + m.wi.size + m.pt.size + m.fr.size : Nat) : Int) <= left) := hf
    clear hf
    go_enter Tryz.func52, Tryz.ntmps52
    go_wp2_with fail
    all_goals go_ret
    all_goals first | exact ⟨zl HF.out.symm, hB _⟩ | (exfalso; have := HN.out; simp at *; omega)
theorem zim (m : Mnd) (left : Int) (w : World) (hm : m.Small) (h0 : 0 <= left) (h1 : left <= 1048576) (h : (m.sz : Int) <= left) :
    Calls Tryz.prog 52 #[.agg m.cells, .int .i64 left] w fun e w' => e = .returned (.int .i64 (left - m.sz)) /\ Below w.heap.size w w' := by
  refine (zd3 m left w hm h0 h1).mono ?_
  rintro e w' ⟨rfl, hb⟩
  exact ⟨zl (zH h), hb⟩
theorem zjN (m : Mnd) (left : Int) (w : World) (hm : m.Small) (h0 : 0 <= left) (h1 : left <= 1048576) (h : ¬ (m.sz : Int) <= left) :
    Calls Tryz.prog 52 #[.agg m.cells, .int .i64 left] w fun e w' => e = .returned (.int .i64 (-1)) /\ Below w.heap.size w w' := by
  refine (zd3 m left w hm h0 h1).mono ?_
  rintro e w' ⟨rfl, hb⟩
  exact ⟨zl (zx h), hb⟩
set_option maxHeartbeats 1000000 in
theorem zhC (a : Option Addr) (cap : Nat) (ms : List Mnd) (left : Int) (w : World) (hw : qy w a ms) (h0 : 0 <= left) (h1 : left <= 1048576) :
    Calls Tryz.prog 18 #[.slice a ms.length cap, .int .i64 left] w fun e w' => e = .returned (.int .i64 (zF (zaV ms) left)) /\ Below w.heap.size w w' := by
  have hl := hw.len
  unfold maxLen at hl
  by_cases hfit : (ms.length : Int) <= left
  · go_enter Tryz.func18, Tryz.ntmps18
    go_wp2_with fail
    go_loopw [1, 5] (fun l i wr => ∃ k : Nat, k <= ms.length /\ i = .int .i64 k /\ 0 <= left - ms.length - zhN (ms.take k) /\ l = .int .i64 (left - ms.length - zhN (ms.take k)) /\ Below w.heap.size w wr) (fun _ i _ => ms.length - (intOf i).toNat)
    case atStart => exact ⟨0, Nat.zero_le _, rfl, by simp [zhN]; omega, by simp [zhN], Below.refl _ _⟩
    case round =>
      obtain ⟨k, hk, rfl, hpos, rfl, hB⟩ := hrel
      by_cases hlt : k < ms.length
      · obtain ⟨b, off, rfl, hb, c0, c1, c2, c3, c4, c5⟩ := hw.load hB k hlt
        have hsm := hw.small k hlt
        have HS : Hid (zhN (ms.take (k + 1)) = zhN (ms.take k) + ms[k].sz) := zaH Mnd.sz ms k hlt
        have hle : zhN (ms.take (k + 1)) <= zhN ms := zce Mnd.sz ms (k + 1)
        clear hw
        by_cases hneg : (ms[k].sz : Int) <= left - ms.length - zhN (ms.take k)
        · have HNG : Hid ((ms[k].sz : Int) <= left - ms.length - zhN (ms.take k)) := hneg
          clear hle
          go_wp2_with fail
          refine (zim _ _ _ hsm hpos (by omega) HNG.out).mono ?_
          rintro e w1 ⟨rfl, hb1⟩
          have hB1 := hB.trans (hb1.mono hB.size)
          clear hb1
          go_wp2_with fail
          exact ⟨⟨k + 1, by omega, by go_num, by rw [HS.out]; omega, by rw [HS.out]; congr 1; omega, hB1⟩, by simp [intOf]; omega⟩
        · have HF : Hid (zF (zaV ms) left = -1) := zx (by have := HS.out; unfold zaV; omega)
          have HNG := hid hneg
          clear hneg hle
          go_wp2_with fail
          refine (zjN _ _ _ hsm hpos (by omega) (by have := HNG.out; omega)).mono ?_
          rintro e w1 ⟨rfl, hb1⟩
          have hB1 := hB.trans (hb1.mono hB.size)
          clear hb1
          go_wp2_with fail
          go_ret
          exact ⟨zl HF.out.symm, hB1⟩
      · have HF : Hid (zF (zaV ms) left = left - ms.length - zhN (ms.take k)) := by
          rw [List.take_of_length_le (by omega)] at hpos ⊢
          have e : zF (zaV ms) left = left - zaV ms := zH (by unfold zaV; omega)
          unfold Hid; rw [e]; unfold zaV; omega
        clear hw
        go_wp2
        go_ret
        exact ⟨zl HF.out.symm, hB⟩
  · have HF : Hid (zF (zaV ms) left = -1) := zx (by unfold zaV; omega)
    clear hw
    go_enter Tryz.func18, Tryz.ntmps18
    go_wp2
    go_ret
    exact ⟨zl HF.out.symm, Below.refl _ _⟩
theorem ziU (m : Mnd) (w : World) : Calls Tryz.prog 76 #[.agg m.cells, .agg m.cells] w fun e w' => e = .returned (.bool true) /\ Below w.heap.size w w' := by
  unfold Mnd.cells
  go_enter Tryz.func76, Tryz.ntmps76
  go_wp2_with fail
  go_ret
  exact ⟨rfl, zn _ _ _⟩
set_option maxHeartbeats 2000000 in
theorem zho (a a' : Option Addr) (cap cap' : Nat) (ms : List Mnd) (w : World) (hw : qy w a ms) (hw' : qy w a' ms) :
    Calls Tryz.prog 38 #[.slice a ms.length cap, .slice a' ms.length cap'] w fun e w' => e = .returned (.bool true) /\ Below w.heap.size w w' := by
  have hl := hw.len
  unfold maxLen at hl
  have hnn : ((ms.length : Int) != ms.length) = false := by simp
  go_enter Tryz.func38, Tryz.ntmps38
  go_wp2_with fail
  go_loopw [5] (fun i wr => ∃ k : Nat, k <= ms.length /\ i = .int .i64 k /\ Below w.heap.size w wr) (fun i _ => ms.length - (intOf i).toNat)
  case atStart => exact ⟨0, Nat.zero_le _, rfl, Below.refl _ _⟩
  case round =>
    obtain ⟨k, hk, rfl, hB⟩ := hrel
    by_cases hlt : k < ms.length
    · obtain ⟨b, off, rfl, hb, c0, c1, c2, c3, c4, c5⟩ := hw.load hB k hlt
      obtain ⟨b', off', rfl, hb', d0, d1, d2, d3, d4, d5⟩ := hw'.load hB k hlt
      have hltI : (k : Int) < (ms.length : Int) := by omega
      clear hw hw'
      go_wp2_with fail
      go_region_with (go_at_call 76; refine (ziU ms[k] _).mono ?_; rintro e w1 ⟨rfl, hb1'⟩; have hb1 := (Below.refl wr.heap.size wr).drew.trans hb1'; clear hb1')
      all_goals go_wp2_with fail
      all_goals exact ⟨⟨k + 1, by omega, by go_num, hB.trans (hb1.mono hB.size)⟩, by simp [intOf]; omega⟩
    · clear hw hw'
      go_wp2_with fail
      go_ret
      exact ⟨rfl, hB⟩
structure qF (lo : Nat) (w : World) (bo : Nat) (ms : List Mnd) (k : Nat) : Prop where
  low : lo <= bo
  rows : ∃ C, w.heap[bo]? = some (.cells C 125) /\ C.size = ms.length * 6 /\ ∀ i (h : i < ms.length), i < k -> ∀ j, j < 6 -> C[i * 6 + j]? = ms[i].cells[j]?
theorem qF.at {lo : Nat} {w : World} {bo : Nat} {ms : List Mnd} (h : qF lo w bo ms ms.length) (hs : ∀ i (h : i < ms.length), ms[i].Small) (hl : ms.length <= maxLen) : qy w (some ⟨bo, 0, none⟩) ms := by
  obtain ⟨C, hC, hsz, hr⟩ := h.rows
  refine ⟨hl, hs, fun _ => ⟨bo, 0, rfl, (Array.getElem?_eq_some_iff.1 hC).1, fun i hi j hj => ?_⟩⟩
  rw [cell_of_block hC, Nat.zero_add]
  exact hr i hi hi j hj
theorem qF.later {lo : Nat} {w w' : World} {bo : Nat} {ms : List Mnd} {k : Nat} (h : qF lo w bo ms k) (hb : Below w.heap.size w w') : qF lo w' bo ms k := by
  obtain ⟨C, hC, hsz, hr⟩ := h.rows
  exact ⟨h.low, C, (hb.block bo (Array.getElem?_eq_some_iff.1 hC).1).trans hC, hsz, hr⟩
end Go.Proofs.YtfpeplbmfbepcaaGreat

namespace Go.Proofs.YtfpeplbmfbepcaaGreat
open Go.RowKit
def zcY (o : Ob) : Nat := o.kd.size + o.nm.size + o.tm.size + qm o.vs + qm o.hs
set_option maxHeartbeats 2000000 in
theorem zgn (o : Ob) (a a' : Option Addr) (cap cap' : Nat) (left : Int) (w : World) (ho : qR w o a a') (h0 : 0 <= left) (h1 : left <= 1048576) :
    Calls Tryz.prog 54 #[.agg (oC o a a' cap cap'), .int .i64 left] w fun e w' => e = .returned (.int .i64 (zF (zcY o) left)) /\ Below w.heap.size w w' := by
  have hkd := ho.small.kd
  have hnm := ho.small.nm
  have htm := ho.small.tm
  have hv := ho.vals
  have hh := ho.holds
  clear ho
  unfold maxLen at hkd hnm htm
  by_cases c1 : (o.kd.size : Int) <= left
  rotate_left
  · have HF : Hid (zF (zcY o) left = -1) := zx (by unfold zcY; omega)
    go_enter Tryz.func54, Tryz.ntmps54
    go_wp2_with fail
    go_ret
    exact ⟨zl HF.out.symm, (Below.refl _ _).alloc (Nat.le_refl _) _⟩
  by_cases c2 : (o.nm.size : Int) <= left - o.kd.size
  rotate_left
  · have HF : Hid (zF (zcY o) left = -1) := zx (by unfold zcY; omega)
    go_enter Tryz.func54, Tryz.ntmps54
    go_wp2_with fail
    go_ret
    exact ⟨zl HF.out.symm, (Below.refl _ _).alloc (Nat.le_refl _) _⟩
  by_cases c3 : (o.tm.size : Int) <= left - o.kd.size - o.nm.size
  rotate_left
  · have HF : Hid (zF (zcY o) left = -1) := zx (by unfold zcY; omega)
    go_enter Tryz.func54, Tryz.ntmps54
    go_wp2_with fail
    go_ret
    exact ⟨zl HF.out.symm, (Below.refl _ _).alloc (Nat.le_refl _) _⟩
  by_cases c4 : (qm o.vs : Int) <= left - o.kd.size - o.nm.size - o.tm.size
  rotate_left
  · have HF : Hid (zF (zcY o) left = -1) := zx (by unfold zcY; omega)
    go_enter Tryz.func54, Tryz.ntmps54
    go_wp2_with fail
    refine (zdc _ _ _ _ _ (hv.mono ((Below.refl _ _).alloc (Nat.le_refl _) _)) (by omega) (by omega) (by omega)).mono ?_
    rintro e w1 ⟨rfl, rfl⟩
    go_wp2_with fail
    go_ret
    exact ⟨zl HF.out.symm, (Below.refl _ _).alloc (Nat.le_refl _) _⟩
  by_cases c5 : (qm o.hs : Int) <= left - o.kd.size - o.nm.size - o.tm.size - qm o.vs
  rotate_left
  · have HF : Hid (zF (zcY o) left = -1) := zx (by unfold zcY; omega)
    go_enter Tryz.func54, Tryz.ntmps54
    go_wp2_with fail
    refine (jF _ _ _ _ _ (hv.mono ((Below.refl _ _).alloc (Nat.le_refl _) _)) (by omega) (by omega) (by omega)).mono ?_
    rintro e w1 ⟨rfl, rfl⟩
    go_wp2_with fail
    refine (zdc _ _ _ _ _ (hh.mono ((Below.refl _ _).alloc (Nat.le_refl _) _)) (by omega) (by omega) (by omega)).mono ?_
    rintro e w1 ⟨rfl, rfl⟩
    go_wp2_with fail
    go_ret
    exact ⟨zl HF.out.symm, (Below.refl _ _).alloc (Nat.le_refl _) _⟩
  · have HF : Hid (zF (zcY o) left = left - o.kd.size - o.nm.size - o.tm.size - qm o.vs - qm o.hs) := by
      have e : zF (zcY o) left = left - zcY o := zH (by unfold zcY; omega)
      unfold Hid; rw [e]; unfold zcY; omega
    go_enter Tryz.func54, Tryz.ntmps54
    go_wp2_with fail
    refine (jF _ _ _ _ _ (hv.mono ((Below.refl _ _).alloc (Nat.le_refl _) _)) (by omega) (by omega) (by omega)).mono ?_
    rintro e w1 ⟨rfl, rfl⟩
    go_wp2_with fail
    refine (jF _ _ _ _ _ (hh.mono ((Below.refl _ _).alloc (Nat.le_refl _) _)) (by omega) (by omega) (by omega)).mono ?_
    rintro e w1 ⟨rfl, rfl⟩
    go_wp2_with fail
    go_ret
    exact ⟨zl HF.out.symm, (Below.refl _ _).alloc (Nat.le_refl _) _⟩
set_option maxHeartbeats 1000000 in
theorem zgu (o : Ob) (a a' b b' : Option Addr) (cap cap' dap dap' : Nat) (w : World) (ho : qR w o a a') (ho' : qR w o b b') :
    Calls Tryz.prog 78 #[.agg (oC o a a' cap cap'), .agg (oC o b b' dap dap')] w fun e w' => e = .returned (.bool true) /\ Below w.heap.size w w' := by
  go_enter Tryz.func78, Tryz.ntmps78
  go_wp2_with fail
  refine (zcO _ _ _ _ _ _ (ho.vals.mono (zn _ _ _)) (ho'.vals.mono (zn _ _ _))).mono ?_
  rintro e w1 ⟨rfl, hb1⟩
  have hX1 := za (wk := (w.alloc (.cells (oC o a a' cap cap') 119)).alloc (.cells (oC o b b' dap dap') 119)) (b := w.heap.size) (X := (oC o a a' cap cap')) (fun j => by rw [World.cell?_alloc_lt _ _ ⟨w.heap.size, j, none⟩ (by simp)]; exact zG w _ _ j) (by simp; omega) hb1
  have hY1 := za (wk := (w.alloc (.cells (oC o a a' cap cap') 119)).alloc (.cells (oC o b b' dap dap') 119)) (b := w.heap.size + 1) (X := (oC o b b' dap dap')) (fun j => by rw [World.cell?_alloc_at _ _ _ _ (by simp)]) (by simp) hb1
  have hz1 : w.heap.size + 1 < w1.heap.size := by have := hb1.size; simp at this; omega
  have hB1 : Below w.heap.size w w1 := (zn _ _ _).trans (hb1.mono (by simp; omega))
  clear hb1
  go_wp2_with fail
  refine (zcO _ _ _ _ _ _ (ho.holds.mono hB1) (ho'.holds.mono hB1)).mono ?_
  rintro e w2 ⟨rfl, hb2⟩
  have hX2 := za hX1 (by omega) hb2
  have hY2 := za hY1 (by omega) hb2
  have hB2 := hB1.trans (hb2.mono (by omega))
  clear hb2 hX1 hY1
  go_wp2_with fail
  go_ret
  exact ⟨rfl, hB2⟩
theorem zqu (w : World) (o1 o2 o3 o4 o5 : Obj) : (((((w.alloc o1).alloc o2).alloc o3).alloc o4).alloc o5).heap[w.heap.size + 1 + 1 + 1]? = some o4 :=
  (Below.heap_alloc _ _ _ (by simp)).trans (at4 _ _ _ _ _)
theorem zqx (w : World) (o1 o2 o3 o4 o5 : Obj) : (((((w.alloc o1).alloc o2).alloc o3).alloc o4).alloc o5).heap[w.heap.size + 1 + 1 + 1 + 1]? = some o5 := by
  have h := (MapKept.heap_alloc ((((w.alloc o1).alloc o2).alloc o3).alloc o4) o5).1
  simpa using h
set_option maxHeartbeats 2000000 in
theorem zgK (o : Ob) (a a' : Option Addr) (cap cap' : Nat) (w : World) (ho : qR w o a a') (hl : o.vs.length <= 1048576) (hl' : o.hs.length <= 1048576) :
    Calls Tryz.prog 67 #[.agg (oC o a a' cap cap')] w fun e w' => ∃ bv bh, e = .returned (.agg #[.string o.kd, .string o.nm, .string o.tm, .slice (some ⟨bv, 0, none⟩) o.vs.length o.vs.length, .bool o.en, .slice (some ⟨bh, 0, none⟩) o.hs.length o.hs.length, .int .i64 o.vr]) /\
      w.heap.size <= bv /\ w.heap.size <= bh /\ bv ≠ bh /\ w'.heap[bv]? = some (.cells (jk o.vs) 9) /\ w'.heap[bh]? = some (.cells (jk o.hs) 9) /\ Below w.heap.size w w' := by
  go_enter Tryz.func67, Tryz.ntmps67
  go_wp2_with fail
  refine (zcI _ _ _ _ (ho.vals.mono ((((Below.refl _ _).alloc (Nat.le_refl _) _).alloc (by simp) _).alloc (by simp; omega) _)) hl).mono ?_
  rintro e w1 ⟨rfl, rfl⟩
  go_wp2_with fail
  refine (zcI _ _ _ _ (ho.holds.mono (zk6 _ _ _ _ _)) hl').mono ?_
  rintro e w2 ⟨rfl, rfl⟩
  go_wp2_with fail
  refine bodyPost_ret (v := .agg #[.string o.kd, .string o.nm, .string o.tm, .slice (some ⟨w.heap.size + 1 + 1 + 1, 0, none⟩) o.vs.length o.vs.length, .bool o.en, .slice (some ⟨w.heap.size + 1 + 1 + 1 + 1, 0, none⟩) o.hs.length o.hs.length, .int .i64 o.vr]) (by simp [results, Tryz.results67, go_sem]) rfl ⟨w.heap.size + 1 + 1 + 1, w.heap.size + 1 + 1 + 1 + 1, rfl, by omega, by omega, by omega, zqu _ _ _ _ _ _, zqx _ _ _ _ _ _, (zk6 _ _ _ _ _).alloc (by simp; omega) _⟩
end Go.Proofs.YtfpeplbmfbepcaaGreat
