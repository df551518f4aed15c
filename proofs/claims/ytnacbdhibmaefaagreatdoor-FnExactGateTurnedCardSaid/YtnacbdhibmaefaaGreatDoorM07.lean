import Derived.Test.YtnacbdhibmaefaaGreatDoorM03
import Derived.Test.YtnacbdhibmaefaaGreatDoorM06
import Derived.Test.YtnacbdhibmaefaaGreatDoorM02
namespace Go.Proofs.YtnacbdhibmaefaaGreatDoor

/-- What an object holds. -/
structure Ob where
  kd : ByteArray
  nm : ByteArray
  tm : ByteArray
  vs : List ByteArray
  en : Bool
  hs : List ByteArray
  vr : Int

def Ob.cells (o : Ob) (a : Option Addr) (cap : Nat) (a' : Option Addr) (cap' : Nat) : Array Value :=
  #[.string o.kd, .string o.nm, .string o.tm, .slice a o.vs.length cap, .bool o.en, .slice a' o.hs.length cap', .int .i64 o.vr]

structure Ob.Small (o : Ob) : Prop where
  kd : o.kd.size ≤ maxLen
  nm : o.nm.size ≤ maxLen
  tm : o.tm.size ≤ maxLen

namespace Gate

/-- What is wrong with a value, by its field: 2, 3, or nothing. -/
def faultAt (f : Fld) (v : ByteArray) : Int := if v.size = 0 then (if f.mu then 2 else 0) else if fitsF f v then 0 else 3
def faultIx (fs : List Fld) (vs : List ByteArray) (i : Nat) : Int := faultAt (fs.getD i noField) (vs.getD i ByteArray.empty)
def valOkAt (fs : List Fld) (vs : List ByteArray) (i : Nat) : Bool := decide (faultIx fs vs i = 0)
/-- The first fault among the values. -/
def valRes (fs : List Fld) (vs : List ByteArray) : Int × Int := match (List.range fs.length).find? (fun i => !valOkAt fs vs i) with | some i => (faultIx fs vs i, i) | none => (0, 0)

theorem find_range {P : Nat → Bool} {n k : Nat} (hk : k < n) (hu : up P k = true) (hp : P k = false) : (List.range n).find? (fun i => !P i) = some k := by
  rw [List.find?_eq_some_iff_getElem]
  refine ⟨by simp [hp], k, by simpa using hk, by simp, fun j hj => ?_⟩
  have := up_at hj hu
  simp [this]

theorem find_range_none {P : Nat → Bool} {n : Nat} (hu : up P n = true) : (List.range n).find? (fun i => !P i) = none := by
  rw [List.find?_eq_none]
  intro x hx
  have := up_at (List.mem_range.1 hx) hu
  simp [this]

theorem valRes_at {fs : List Fld} {vs : List ByteArray} {k : Nat} (hk : k < fs.length) (hu : up (valOkAt fs vs) k = true) (hp : valOkAt fs vs k = false) : valRes fs vs = (faultIx fs vs k, (k : Int)) := by
  unfold valRes; rw [find_range hk hu hp]
theorem valRes_none {fs : List Fld} {vs : List ByteArray} (hu : up (valOkAt fs vs) fs.length = true) : valRes fs vs = (0, 0) := by
  unfold valRes; rw [find_range_none hu]

theorem faultIx_eq {fs : List Fld} {vs : List ByteArray} {k : Nat} (h1 : k < fs.length) (h2 : k < vs.length) : faultIx fs vs k = faultAt fs[k] vs[k] := by
  unfold faultIx; rw [getD_at fs k _ h1, getD_at vs k _ h2]

def wholeNames (o : Ob) : Bool := nameOk o.nm && nameOk o.tm
def wholeHolds (o : Ob) : Bool := decide (o.hs.length ≤ 3) && asc o.hs
def wholeVersion (o : Ob) : Bool := decide (0 ≤ o.vr) && decide (o.vr ≤ 1000000)
def wholeCount (ss : List Shp) (o : Ob) : Bool := hasKind ss o.kd && decide (o.vs.length = (shapeOf ss o.kd).fs.length)
def whole (ss : List Shp) (o : Ob) : Bool := wholeNames o && wholeHolds o && wholeVersion o && wholeCount ss o

/-- What is wrong with an object, by shapes that are ok. -/
def checkRes (ss : List Shp) (o : Ob) : Int × Int := if whole ss o = true then valRes (shapeOf ss o.kd).fs o.vs else (1, 0)
def check (ss : List Shp) (o : Ob) : Int × Int := if shapesOk ss = true then checkRes ss o else (1, 0)

end Gate
end Go.Proofs.YtnacbdhibmaefaaGreatDoor

namespace Go.Proofs.YtnacbdhibmaefaaGreatDoor
open Go.RowKit

/-- An object by value: its two lists lie in memory. -/
structure ObAt (w : World) (o : Ob) (a a' : Option Addr) : Prop where
  small : o.Small
  vals : StrsAt w a o.vs
  holds : StrsAt w a' o.hs

theorem ObAt.mono {w w' : World} {o : Ob} {a a' : Option Addr} (h : ObAt w o a a') (hb : Below w.heap.size w w') : ObAt w' o a a' :=
  ⟨h.small, h.vals.mono hb, h.holds.mono hb⟩

end Go.Proofs.YtnacbdhibmaefaaGreatDoor

namespace Go.Proofs.YtnacbdhibmaefaaGreatDoor
open Go.RowKit

def obSz (o : Ob) : Nat := o.kd.size + o.nm.size + o.tm.size + strsSz o.vs + strsSz o.hs

set_option maxHeartbeats 2000000 in
theorem szGateObject_any (o : Ob) (a a' : Option Addr) (cap cap' : Nat) (left : Int) (w : World) (ho : ObAt w o a a') (h0 : 0 ≤ left) (h1 : left ≤ 1048576) :
    Calls Tryz.prog 5 #[.agg #[.string o.kd, .string o.nm, .string o.tm, .slice a o.vs.length cap, .bool o.en, .slice a' o.hs.length cap', .int .i64 o.vr], .int .i64 left] w fun e w' => e = .returned (.int .i64 (szRes (obSz o) left)) ∧ Below w.heap.size w w' := by
  have hkd := ho.small.kd
  have hnm := ho.small.nm
  have htm := ho.small.tm
  have hv := ho.vals
  have hh := ho.holds
  clear ho
  unfold maxLen at hkd hnm htm
  by_cases c1 : (o.kd.size : Int) ≤ left
  rotate_left
  · have HF : Hid (szRes (obSz o) left = -1) := szRes_no (by unfold obSz; omega)
    go_enter Tryz.func5, Tryz.ntmps5
    go_wp2_with fail
    go_ret
    exact ⟨ret_int HF.out.symm, (Below.refl _ _).alloc (Nat.le_refl _) _⟩
  by_cases c2 : (o.nm.size : Int) ≤ left - o.kd.size
  rotate_left
  · have HF : Hid (szRes (obSz o) left = -1) := szRes_no (by unfold obSz; omega)
    go_enter Tryz.func5, Tryz.ntmps5
    go_wp2_with fail
    go_ret
    exact ⟨ret_int HF.out.symm, (Below.refl _ _).alloc (Nat.le_refl _) _⟩
  by_cases c3 : (o.tm.size : Int) ≤ left - o.kd.size - o.nm.size
  rotate_left
  · have HF : Hid (szRes (obSz o) left = -1) := szRes_no (by unfold obSz; omega)
    go_enter Tryz.func5, Tryz.ntmps5
    go_wp2_with fail
    go_ret
    exact ⟨ret_int HF.out.symm, (Below.refl _ _).alloc (Nat.le_refl _) _⟩
  by_cases c4 : (strsSz o.vs : Int) ≤ left - o.kd.size - o.nm.size - o.tm.size
  rotate_left
  · have HF : Hid (szRes (obSz o) left = -1) := szRes_no (by unfold obSz; omega)
    go_enter Tryz.func5, Tryz.ntmps5
    go_wp2_with fail
    refine (szStringS_no _ _ _ _ _ (hv.mono ((Below.refl _ _).alloc (Nat.le_refl _) _)) (by omega) (by omega) (by omega)).mono ?_
    rintro e w1 ⟨rfl, rfl⟩
    go_wp2_with fail
    go_ret
    exact ⟨ret_int HF.out.symm, (Below.refl _ _).alloc (Nat.le_refl _) _⟩
  by_cases c5 : (strsSz o.hs : Int) ≤ left - o.kd.size - o.nm.size - o.tm.size - strsSz o.vs
  rotate_left
  · have HF : Hid (szRes (obSz o) left = -1) := szRes_no (by unfold obSz; omega)
    go_enter Tryz.func5, Tryz.ntmps5
    go_wp2_with fail
    refine (szStringS_yes _ _ _ _ _ (hv.mono ((Below.refl _ _).alloc (Nat.le_refl _) _)) (by omega) (by omega) (by omega)).mono ?_
    rintro e w1 ⟨rfl, rfl⟩
    go_wp2_with fail
    refine (szStringS_no _ _ _ _ _ (hh.mono ((Below.refl _ _).alloc (Nat.le_refl _) _)) (by omega) (by omega) (by omega)).mono ?_
    rintro e w1 ⟨rfl, rfl⟩
    go_wp2_with fail
    go_ret
    exact ⟨ret_int HF.out.symm, (Below.refl _ _).alloc (Nat.le_refl _) _⟩
  · have HF : Hid (szRes (obSz o) left = left - o.kd.size - o.nm.size - o.tm.size - strsSz o.vs - strsSz o.hs) := by
      have e : szRes (obSz o) left = left - obSz o := szRes_yes (by unfold obSz; omega)
      unfold Hid; rw [e]; unfold obSz; omega
    go_enter Tryz.func5, Tryz.ntmps5
    go_wp2_with fail
    refine (szStringS_yes _ _ _ _ _ (hv.mono ((Below.refl _ _).alloc (Nat.le_refl _) _)) (by omega) (by omega) (by omega)).mono ?_
    rintro e w1 ⟨rfl, rfl⟩
    go_wp2_with fail
    refine (szStringS_yes _ _ _ _ _ (hh.mono ((Below.refl _ _).alloc (Nat.le_refl _) _)) (by omega) (by omega) (by omega)).mono ?_
    rintro e w1 ⟨rfl, rfl⟩
    go_wp2_with fail
    go_ret
    exact ⟨ret_int HF.out.symm, (Below.refl _ _).alloc (Nat.le_refl _) _⟩

set_option maxHeartbeats 1000000 in
theorem eqGateObject_yes (o : Ob) (a a' b b' : Option Addr) (cap cap' dap dap' : Nat) (w : World) (ho : ObAt w o a a') (ho' : ObAt w o b b') :
    Calls Tryz.prog 11 #[.agg #[.string o.kd, .string o.nm, .string o.tm, .slice a o.vs.length cap, .bool o.en, .slice a' o.hs.length cap', .int .i64 o.vr], .agg #[.string o.kd, .string o.nm, .string o.tm, .slice b o.vs.length dap, .bool o.en, .slice b' o.hs.length dap', .int .i64 o.vr]] w fun e w' => e = .returned (.bool true) ∧ Below w.heap.size w w' := by
  go_enter Tryz.func11, Tryz.ntmps11
  go_wp2_with fail
  refine (eqStringS_yes _ _ _ _ _ _ (ho.vals.mono (below2' _ _ _)) (ho'.vals.mono (below2' _ _ _))).mono ?_
  rintro e w1 ⟨rfl, hb1⟩
  have hX1 := box_later (wk := (w.alloc (.cells #[.string o.kd, .string o.nm, .string o.tm, .slice a o.vs.length cap, .bool o.en, .slice a' o.hs.length cap', .int .i64 o.vr] 32)).alloc (.cells #[.string o.kd, .string o.nm, .string o.tm, .slice b o.vs.length dap, .bool o.en, .slice b' o.hs.length dap', .int .i64 o.vr] 32)) (b := w.heap.size) (X := #[.string o.kd, .string o.nm, .string o.tm, .slice a o.vs.length cap, .bool o.en, .slice a' o.hs.length cap', .int .i64 o.vr]) (fun j => by rw [World.cell?_alloc_lt _ _ ⟨w.heap.size, j, none⟩ (by simp)]; exact box_new w _ _ j) (by simp; omega) hb1
  have hY1 := box_later (wk := (w.alloc (.cells #[.string o.kd, .string o.nm, .string o.tm, .slice a o.vs.length cap, .bool o.en, .slice a' o.hs.length cap', .int .i64 o.vr] 32)).alloc (.cells #[.string o.kd, .string o.nm, .string o.tm, .slice b o.vs.length dap, .bool o.en, .slice b' o.hs.length dap', .int .i64 o.vr] 32)) (b := w.heap.size + 1) (X := #[.string o.kd, .string o.nm, .string o.tm, .slice b o.vs.length dap, .bool o.en, .slice b' o.hs.length dap', .int .i64 o.vr]) (fun j => by rw [World.cell?_alloc_at _ _ _ _ (by simp)]) (by simp) hb1
  have hz1 : w.heap.size + 1 < w1.heap.size := by have := hb1.size; simp at this; omega
  have hB1 : Below w.heap.size w w1 := (below2' _ _ _).trans (hb1.mono (by simp; omega))
  clear hb1
  go_wp2_with fail
  refine (eqStringS_yes _ _ _ _ _ _ (ho.holds.mono hB1) (ho'.holds.mono hB1)).mono ?_
  rintro e w2 ⟨rfl, hb2⟩
  have hX2 := box_later hX1 (by omega) hb2
  have hY2 := box_later hY1 (by omega) hb2
  have hB2 := hB1.trans (hb2.mono (by omega))
  clear hb2 hX1 hY1
  go_wp2_with fail
  go_ret
  exact ⟨rfl, hB2⟩

theorem at5a (w : World) (o1 o2 o3 o4 o5 : Obj) : (((((w.alloc o1).alloc o2).alloc o3).alloc o4).alloc o5).heap[w.heap.size + 1 + 1 + 1]? = some o4 :=
  (Below.heap_alloc _ _ _ (by simp)).trans (at4 _ _ _ _ _)
theorem at5b (w : World) (o1 o2 o3 o4 o5 : Obj) : (((((w.alloc o1).alloc o2).alloc o3).alloc o4).alloc o5).heap[w.heap.size + 1 + 1 + 1 + 1]? = some o5 := by
  have h := (MapKept.heap_alloc ((((w.alloc o1).alloc o2).alloc o3).alloc o4) o5).1
  simpa using h

set_option maxHeartbeats 2000000 in
theorem toGateObject_any (o : Ob) (a a' : Option Addr) (cap cap' : Nat) (w : World) (ho : ObAt w o a a') (hl : o.vs.length ≤ 1048576) (hl' : o.hs.length ≤ 1048576) :
    Calls Tryz.prog 8 #[.agg #[.string o.kd, .string o.nm, .string o.tm, .slice a o.vs.length cap, .bool o.en, .slice a' o.hs.length cap', .int .i64 o.vr]] w fun e w' => ∃ bv bh, e = .returned (.agg #[.string o.kd, .string o.nm, .string o.tm, .slice (some ⟨bv, 0, none⟩) o.vs.length o.vs.length, .bool o.en, .slice (some ⟨bh, 0, none⟩) o.hs.length o.hs.length, .int .i64 o.vr]) ∧
      w.heap.size ≤ bv ∧ w.heap.size ≤ bh ∧ bv ≠ bh ∧ w'.heap[bv]? = some (.cells (strArr o.vs) 9) ∧ w'.heap[bh]? = some (.cells (strArr o.hs) 9) ∧ Below w.heap.size w w' := by
  go_enter Tryz.func8, Tryz.ntmps8
  go_wp2_with fail
  refine (toStringS_any _ _ _ _ (ho.vals.mono ((((Below.refl _ _).alloc (Nat.le_refl _) _).alloc (by simp) _).alloc (by simp; omega) _)) hl).mono ?_
  rintro e w1 ⟨rfl, rfl⟩
  go_wp2_with fail
  refine (toStringS_any _ _ _ _ (ho.holds.mono (below4 _ _ _ _ _)) hl').mono ?_
  rintro e w2 ⟨rfl, rfl⟩
  go_wp2_with fail
  refine bodyPost_ret (v := .agg #[.string o.kd, .string o.nm, .string o.tm, .slice (some ⟨w.heap.size + 1 + 1 + 1, 0, none⟩) o.vs.length o.vs.length, .bool o.en, .slice (some ⟨w.heap.size + 1 + 1 + 1 + 1, 0, none⟩) o.hs.length o.hs.length, .int .i64 o.vr]) (by simp [results, Tryz.results8, go_sem]) rfl ⟨w.heap.size + 1 + 1 + 1, w.heap.size + 1 + 1 + 1 + 1, rfl, by omega, by omega, by omega, at5a _ _ _ _ _ _, at5b _ _ _ _ _ _, (below4 _ _ _ _ _).alloc (by simp; omega) _⟩

end Go.Proofs.YtnacbdhibmaefaaGreatDoor
