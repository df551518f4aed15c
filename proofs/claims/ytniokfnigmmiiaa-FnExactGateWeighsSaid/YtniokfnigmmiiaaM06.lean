import Derived.Test.YtniokfnigmmiiaaM04
import Derived.Test.YtniokfnigmmiiaaM02
import Derived.Test.YtniokfnigmmiiaaM05
import Derived.Test.YtniokfnigmmiiaaM03
namespace Go.Proofs.Ytniokfnigmmiiaa
open Go.RowKit

def obSz (o : Ob) : Nat := o.kd.size + o.nm.size + o.tm.size + strsSz o.vs + strsSz o.hs

set_option maxHeartbeats 2000000 in
theorem szGateObject_any (o : Ob) (a a' : Option Addr) (cap cap' : Nat) (left : Int) (w : World) (ho : ObAt w o a a') (h0 : 0 ≤ left) (h1 : left ≤ 1048576) :
    Calls Try.prog 6 #[.agg #[.string o.kd, .string o.nm, .string o.tm, .slice a o.vs.length cap, .bool o.en, .slice a' o.hs.length cap', .int .i64 o.vr], .int .i64 left] w fun e w' => e = .returned (.int .i64 (szRes (obSz o) left)) ∧ Below w.heap.size w w' := by
  have hkd := ho.small.kd
  have hnm := ho.small.nm
  have htm := ho.small.tm
  have hv := ho.vals
  have hh := ho.holds
  clear ho
  unfold maxLen at hkd hnm htm
  by_cases c1 : (o.kd.size : Int) ≤ left
  rotate_left
  · have HF : Hid (szRes (obSz o) left = -1) := szRes_no (by unfold obSz; omega)
    go_enter Try.func6, Try.ntmps6
    go_wp2_with fail
    go_ret
    exact ⟨ret_int HF.out.symm, (Below.refl _ _).alloc (Nat.le_refl _) _⟩
  by_cases c2 : (o.nm.size : Int) ≤ left - o.kd.size
  rotate_left
  · have HF : Hid (szRes (obSz o) left = -1) := szRes_no (by unfold obSz; omega)
    go_enter Try.func6, Try.ntmps6
    go_wp2_with fail
    go_ret
    exact ⟨ret_int HF.out.symm, (Below.refl _ _).alloc (Nat.le_refl _) _⟩
  by_cases c3 : (o.tm.size : Int) ≤ left - o.kd.size - o.nm.size
  rotate_left
  · have HF : Hid (szRes (obSz o) left = -1) := szRes_no (by unfold obSz; omega)
    go_enter Try.func6, Try.ntmps6
    go_wp2_with fail
    go_ret
    exact ⟨ret_int HF.out.symm, (Below.refl _ _).alloc (Nat.le_refl _) _⟩
  by_cases c4 : (strsSz o.vs : Int) ≤ left - o.kd.size - o.nm.size - o.tm.size
  rotate_left
  · have HF : Hid (szRes (obSz o) left = -1) := szRes_no (by unfold obSz; omega)
    go_enter Try.func6, Try.ntmps6
    go_wp2_with fail
    refine (szStringS_no _ _ _ _ _ (hv.mono ((Below.refl _ _).alloc (Nat.le_refl _) _)) (by omega) (by omega) (by omega)).mono ?_
    rintro e w1 ⟨rfl, rfl⟩
    go_wp2_with fail
    go_ret
    exact ⟨ret_int HF.out.symm, (Below.refl _ _).alloc (Nat.le_refl _) _⟩
  by_cases c5 : (strsSz o.hs : Int) ≤ left - o.kd.size - o.nm.size - o.tm.size - strsSz o.vs
  rotate_left
  · have HF : Hid (szRes (obSz o) left = -1) := szRes_no (by unfold obSz; omega)
    go_enter Try.func6, Try.ntmps6
    go_wp2_with fail
    refine (szStringS_yes _ _ _ _ _ (hv.mono ((Below.refl _ _).alloc (Nat.le_refl _) _)) (by omega) (by omega) (by omega)).mono ?_
    rintro e w1 ⟨rfl, rfl⟩
    go_wp2_with fail
    refine (szStringS_no _ _ _ _ _ (hh.mono ((Below.refl _ _).alloc (Nat.le_refl _) _)) (by omega) (by omega) (by omega)).mono ?_
    rintro e w1 ⟨rfl, rfl⟩
    go_wp2_with fail
    go_ret
    exact ⟨ret_int HF.out.symm, (Below.refl _ _).alloc (Nat.le_refl _) _⟩
  · have HF : Hid (szRes (obSz o) left = left - o.kd.size - o.nm.size - o.tm.size - strsSz o.vs - strsSz o.hs) := by
      have e : szRes (obSz o) left = left - obSz o := szRes_yes (by unfold obSz; omega)
      unfold Hid; rw [e]; unfold obSz; omega
    go_enter Try.func6, Try.ntmps6
    go_wp2_with fail
    refine (szStringS_yes _ _ _ _ _ (hv.mono ((Below.refl _ _).alloc (Nat.le_refl _) _)) (by omega) (by omega) (by omega)).mono ?_
    rintro e w1 ⟨rfl, rfl⟩
    go_wp2_with fail
    refine (szStringS_yes _ _ _ _ _ (hh.mono ((Below.refl _ _).alloc (Nat.le_refl _) _)) (by omega) (by omega) (by omega)).mono ?_
    rintro e w1 ⟨rfl, rfl⟩
    go_wp2_with fail
    go_ret
    exact ⟨ret_int HF.out.symm, (Below.refl _ _).alloc (Nat.le_refl _) _⟩

set_option maxHeartbeats 1000000 in
theorem eqGateObject_yes (o : Ob) (a a' b b' : Option Addr) (cap cap' dap dap' : Nat) (w : World) (ho : ObAt w o a a') (ho' : ObAt w o b b') :
    Calls Try.prog 12 #[.agg #[.string o.kd, .string o.nm, .string o.tm, .slice a o.vs.length cap, .bool o.en, .slice a' o.hs.length cap', .int .i64 o.vr], .agg #[.string o.kd, .string o.nm, .string o.tm, .slice b o.vs.length dap, .bool o.en, .slice b' o.hs.length dap', .int .i64 o.vr]] w fun e w' => e = .returned (.bool true) ∧ Below w.heap.size w w' := by
  go_enter Try.func12, Try.ntmps12
  go_wp2_with fail
  refine (eqStringS_yes _ _ _ _ _ _ (ho.vals.mono (below2' _ _ _)) (ho'.vals.mono (below2' _ _ _))).mono ?_
  rintro e w1 ⟨rfl, hb1⟩
  have hX1 := box_later (wk := (w.alloc (.cells #[.string o.kd, .string o.nm, .string o.tm, .slice a o.vs.length cap, .bool o.en, .slice a' o.hs.length cap', .int .i64 o.vr] 39)).alloc (.cells #[.string o.kd, .string o.nm, .string o.tm, .slice b o.vs.length dap, .bool o.en, .slice b' o.hs.length dap', .int .i64 o.vr] 39)) (b := w.heap.size) (X := #[.string o.kd, .string o.nm, .string o.tm, .slice a o.vs.length cap, .bool o.en, .slice a' o.hs.length cap', .int .i64 o.vr]) (fun j => by rw [World.cell?_alloc_lt _ _ ⟨w.heap.size, j, none⟩ (by simp)]; exact box_new w _ _ j) (by simp; omega) hb1
  have hY1 := box_later (wk := (w.alloc (.cells #[.string o.kd, .string o.nm, .string o.tm, .slice a o.vs.length cap, .bool o.en, .slice a' o.hs.length cap', .int .i64 o.vr] 39)).alloc (.cells #[.string o.kd, .string o.nm, .string o.tm, .slice b o.vs.length dap, .bool o.en, .slice b' o.hs.length dap', .int .i64 o.vr] 39)) (b := w.heap.size + 1) (X := #[.string o.kd, .string o.nm, .string o.tm, .slice b o.vs.length dap, .bool o.en, .slice b' o.hs.length dap', .int .i64 o.vr]) (fun j => by rw [World.cell?_alloc_at _ _ _ _ (by simp)]) (by simp) hb1
  have hz1 : w.heap.size + 1 < w1.heap.size := by have := hb1.size; simp at this; omega
  have hB1 : Below w.heap.size w w1 := (below2' _ _ _).trans (hb1.mono (by simp; omega))
  clear hb1
  go_wp2_with fail
  refine (eqStringS_yes _ _ _ _ _ _ (ho.holds.mono hB1) (ho'.holds.mono hB1)).mono ?_
  rintro e w2 ⟨rfl, hb2⟩
  have hX2 := box_later hX1 (by omega) hb2
  have hY2 := box_later hY1 (by omega) hb2
  have hB2 := hB1.trans (hb2.mono (by omega))
  clear hb2 hX1 hY1
  go_wp2_with fail
  go_ret
  exact ⟨rfl, hB2⟩

theorem at5a (w : World) (o1 o2 o3 o4 o5 : Obj) : (((((w.alloc o1).alloc o2).alloc o3).alloc o4).alloc o5).heap[w.heap.size + 1 + 1 + 1]? = some o4 :=
  (Below.heap_alloc _ _ _ (by simp)).trans (at4 _ _ _ _ _)
theorem at5b (w : World) (o1 o2 o3 o4 o5 : Obj) : (((((w.alloc o1).alloc o2).alloc o3).alloc o4).alloc o5).heap[w.heap.size + 1 + 1 + 1 + 1]? = some o5 := by
  have h := (MapKept.heap_alloc ((((w.alloc o1).alloc o2).alloc o3).alloc o4) o5).1
  simpa using h

set_option maxHeartbeats 2000000 in
theorem toGateObject_any (o : Ob) (a a' : Option Addr) (cap cap' : Nat) (w : World) (ho : ObAt w o a a') (hl : o.vs.length ≤ 1048576) (hl' : o.hs.length ≤ 1048576) :
    Calls Try.prog 9 #[.agg #[.string o.kd, .string o.nm, .string o.tm, .slice a o.vs.length cap, .bool o.en, .slice a' o.hs.length cap', .int .i64 o.vr]] w fun e w' => ∃ bv bh, e = .returned (.agg #[.string o.kd, .string o.nm, .string o.tm, .slice (some ⟨bv, 0, none⟩) o.vs.length o.vs.length, .bool o.en, .slice (some ⟨bh, 0, none⟩) o.hs.length o.hs.length, .int .i64 o.vr]) ∧
      w.heap.size ≤ bv ∧ w.heap.size ≤ bh ∧ bv ≠ bh ∧ w'.heap[bv]? = some (.cells (strArr o.vs) 9) ∧ w'.heap[bh]? = some (.cells (strArr o.hs) 9) ∧ Below w.heap.size w w' := by
  go_enter Try.func9, Try.ntmps9
  go_wp2_with fail
  refine (toStringS_any _ _ _ _ (ho.vals.mono ((((Below.refl _ _).alloc (Nat.le_refl _) _).alloc (by simp) _).alloc (by simp; omega) _)) hl).mono ?_
  rintro e w1 ⟨rfl, rfl⟩
  go_wp2_with fail
  refine (toStringS_any _ _ _ _ (ho.holds.mono (below4 _ _ _ _ _)) hl').mono ?_
  rintro e w2 ⟨rfl, rfl⟩
  go_wp2_with fail
  refine bodyPost_ret (v := .agg #[.string o.kd, .string o.nm, .string o.tm, .slice (some ⟨w.heap.size + 1 + 1 + 1, 0, none⟩) o.vs.length o.vs.length, .bool o.en, .slice (some ⟨w.heap.size + 1 + 1 + 1 + 1, 0, none⟩) o.hs.length o.hs.length, .int .i64 o.vr]) (by simp [results, Try.results9, go_sem]) rfl ⟨w.heap.size + 1 + 1 + 1, w.heap.size + 1 + 1 + 1 + 1, rfl, by omega, by omega, by omega, at5a _ _ _ _ _ _, at5b _ _ _ _ _ _, (below4 _ _ _ _ _).alloc (by simp; omega) _⟩

end Go.Proofs.Ytniokfnigmmiiaa

namespace Go.Proofs.Ytniokfnigmmiiaa
open Go.RowKit

theorem shps_few {ss : List Shp} (h : (shpsSz ss : Int) ≤ 1048576) : ss.length ≤ 1048576 ∧ ∀ i (h : i < ss.length), ss[i].fs.length ≤ 1048576 ∧ ∀ j (h' : j < ss[i].fs.length), ss[i].fs[j].ws.length ≤ 1048576 := by
  unfold shpsSz at h
  refine ⟨by omega, fun i hi => ?_⟩
  have h1 : Shp.sz ss[i] ≤ sumS ss := sum_mem Shp.sz ss i hi
  unfold Shp.sz fldsSz at h1
  refine ⟨by omega, fun j hj => ?_⟩
  have h2 : Fld.sz ss[i].fs[j] ≤ sumF ss[i].fs := sum_mem Fld.sz ss[i].fs j hj
  unfold Fld.sz fldSz strsSz at h2
  omega

theorem ob_few {o : Ob} {l : Int} (h : (obSz o : Int) ≤ l) (hl : l ≤ 1048576) : o.vs.length ≤ 1048576 ∧ o.hs.length ≤ 1048576 := by
  unfold obSz strsSz at h
  omega

theorem ob_own {w w' : World} {o : Ob} {a a' : Option Addr} {bv bh : Nat} (ho : ObAt w o a a') (h1 : w'.heap[bv]? = some (.cells (strArr o.vs) 9)) (h2 : w'.heap[bh]? = some (.cells (strArr o.hs) 9)) : ObAt w' o (some ⟨bv, 0, none⟩) (some ⟨bh, 0, none⟩) :=
  ⟨ho.small, heap_strs h1 ho.vals.len ho.vals.small, heap_strs h2 ho.holds.len ho.holds.small⟩

end Go.Proofs.Ytniokfnigmmiiaa

namespace Go.Proofs.Ytniokfnigmmiiaa
open Go.RowKit

/-- What a mend holds. -/
structure Mnd where
  kd : ByteArray
  fd : ByteArray
  wh : ByteArray
  wi : ByteArray
  pt : ByteArray
  fr : ByteArray

def Mnd.cells (m : Mnd) : Array Value := #[.string m.kd, .string m.fd, .string m.wh, .string m.wi, .string m.pt, .string m.fr]

structure Mnd.Small (m : Mnd) : Prop where
  kd : m.kd.size ≤ maxLen
  fd : m.fd.size ≤ maxLen
  wh : m.wh.size ≤ maxLen
  wi : m.wi.size ≤ maxLen
  pt : m.pt.size ≤ maxLen
  fr : m.fr.size ≤ maxLen

/-- A slice of mends that lies in memory. -/
structure MndsAt (w : World) (a : Option Addr) (ms : List Mnd) : Prop where
  len : ms.length ≤ maxLen
  small : ∀ i (h : i < ms.length), ms[i].Small
  rows : ms ≠ [] → ∃ b off, a = some ⟨b, off, none⟩ ∧ b < w.heap.size ∧ ∀ i (h : i < ms.length), ∀ j, j < 6 → w.cell? ⟨b, off + i * 6 + j, none⟩ = ms[i].cells[j]?

theorem MndsAt.mono {w w' : World} {a : Option Addr} {ms : List Mnd} (h : MndsAt w a ms) (hl : Below w.heap.size w w') : MndsAt w' a ms :=
  ⟨h.len, h.small, fun hne => by
    obtain ⟨b, off, ha, hb, hr⟩ := h.rows hne
    exact ⟨b, off, ha, Nat.lt_of_lt_of_le hb hl.size, fun i hi j hj => (hl.cell (p := ⟨b, off + i * 6 + j, none⟩) hb).trans (hr i hi j hj)⟩⟩

/-- The six cells of a mend, in a later world. -/
theorem MndsAt.load {w w' : World} {a : Option Addr} {ms : List Mnd} (h : MndsAt w a ms) (hl : Below w.heap.size w w') (i : Nat) (hi : i < ms.length) : ∃ b off, a = some ⟨b, off, none⟩ ∧ b < w.heap.size ∧
    w'.cell? ⟨b, off + i * 6, none⟩ = some (.string ms[i].kd) ∧ w'.cell? ⟨b, off + i * 6 + 1, none⟩ = some (.string ms[i].fd) ∧ w'.cell? ⟨b, off + i * 6 + 2, none⟩ = some (.string ms[i].wh) ∧ w'.cell? ⟨b, off + i * 6 + 3, none⟩ = some (.string ms[i].wi) ∧ w'.cell? ⟨b, off + i * 6 + 4, none⟩ = some (.string ms[i].pt) ∧ w'.cell? ⟨b, off + i * 6 + 5, none⟩ = some (.string ms[i].fr) := by
  obtain ⟨b, off, ha, hb, hr⟩ := h.rows (by rintro rfl; simp at hi)
  have hc : ∀ j, j < 6 → w'.cell? ⟨b, off + i * 6 + j, none⟩ = ms[i].cells[j]? := fun j hj => (hl.cell (p := ⟨b, off + i * 6 + j, none⟩) hb).trans (hr i hi j hj)
  exact ⟨b, off, ha, hb, hc 0 (by omega), hc 1 (by omega), hc 2 (by omega), hc 3 (by omega), hc 4 (by omega), hc 5 (by omega)⟩

end Go.Proofs.Ytniokfnigmmiiaa
