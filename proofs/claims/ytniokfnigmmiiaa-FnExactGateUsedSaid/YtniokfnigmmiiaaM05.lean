import Derived.Test.YtniokfnigmmiiaaM03
import Derived.Deep.RegionWith
namespace Go.Proofs.Ytniokfnigmmiiaa
open Go.RowKit

set_option maxHeartbeats 2000000 in
theorem eqGateFieldS_yes (a a' : Option Addr) (cap cap' : Nat) (fs : List Fld) (w : World) (hw : FldsAt w a fs) (hw' : FldsAt w a' fs) :
    Calls Try.prog 73 #[.slice a fs.length cap, .slice a' fs.length cap'] w fun e w' => e = .returned (.bool true) ∧ Below w.heap.size w w' := by
  have hl := hw.len
  unfold maxLen at hl
  have hnn : ((fs.length : Int) != fs.length) = false := by simp
  go_enter Try.func73, Try.ntmps73
  go_wp2_with fail
  go_loopw [5] (fun i wr => ∃ k : Nat, k ≤ fs.length ∧ i = .int .i64 k ∧ Below w.heap.size w wr) (fun i _ => fs.length - (intOf i).toNat)
  case atStart => exact ⟨0, Nat.zero_le _, rfl, Below.refl _ _⟩
  case round =>
    obtain ⟨k, hk, rfl, hB⟩ := hrel
    by_cases hlt : k < fs.length
    · obtain ⟨b, off, rfl, hb, hr⟩ := hw.rows (by rintro rfl; simp at hlt)
      obtain ⟨b', off', rfl, hb', hr'⟩ := hw'.rows (by rintro rfl; simp at hlt)
      obtain ⟨wa, wcap, hf0⟩ := hr k hlt
      obtain ⟨wa', wcap', hf0'⟩ := hr' k hlt
      have hf := hf0.mono hb hB
      have hf' := hf0'.mono hb' hB
      obtain ⟨c0, c1, c2, c3, c4, c5, c6, c7, c8, c9, c10⟩ := hf.load
      obtain ⟨d0, d1, d2, d3, d4, d5, d6, d7, d8, d9, d10⟩ := hf'.load
      have hst := hf.strs
      have hst' := hf'.strs
      have hltI : (k : Int) < (fs.length : Int) := by omega
      clear hw hw' hr hr' hf0 hf0' hf hf'
      go_wp2_with fail
      go_region_with (go_at_call 79; refine (eqGateField_yes _ _ _ _ _ _ _ _ _ _ _ _ _ _ _ _ (by exact hst.mono ((Below.refl _ _).drew)) (by exact hst'.mono ((Below.refl _ _).drew))).mono ?_; rintro e w1 ⟨rfl, hb1'⟩; have hb1 := (Below.refl wr.heap.size wr).drew.trans hb1'; clear hb1')
      all_goals go_wp2_with fail
      all_goals exact ⟨⟨k + 1, by omega, by go_num, hB.trans (hb1.mono hB.size)⟩, by simp [intOf]; omega⟩
    · clear hw hw'
      go_wp2_with fail
      go_ret
      exact ⟨rfl, hB⟩

set_option maxHeartbeats 1000000 in
theorem eqGateShape_yes (kd : ByteArray) (a a' : Option Addr) (cap cap' : Nat) (fs : List Fld) (w : World) (hw : FldsAt w a fs) (hw' : FldsAt w a' fs) :
    Calls Try.prog 57 #[.agg #[.string kd, .slice a fs.length cap], .agg #[.string kd, .slice a' fs.length cap']] w fun e w' => e = .returned (.bool true) ∧ Below w.heap.size w w' := by
  go_enter Try.func57, Try.ntmps57
  go_wp2_with fail
  refine (eqGateFieldS_yes _ _ _ _ _ _ (hw.mono (below2' _ _ _)) (hw'.mono (below2' _ _ _))).mono ?_
  rintro e w1 ⟨rfl, hb1⟩
  go_wp2_with fail
  go_ret
  exact ⟨rfl, (below2' _ _ _).trans (hb1.mono (by simp; omega))⟩

set_option maxHeartbeats 2000000 in
theorem eqGateShapeS_yes (a a' : Option Addr) (cap cap' : Nat) (ss : List Shp) (w : World) (hw : ShpsAt w a ss) (hw' : ShpsAt w a' ss) :
    Calls Try.prog 30 #[.slice a ss.length cap, .slice a' ss.length cap'] w fun e w' => e = .returned (.bool true) ∧ Below w.heap.size w w' := by
  have hl := hw.len
  unfold maxLen at hl
  have hnn : ((ss.length : Int) != ss.length) = false := by simp
  go_enter Try.func30, Try.ntmps30
  go_wp2_with fail
  go_loopw [5] (fun i wr => ∃ k : Nat, k ≤ ss.length ∧ i = .int .i64 k ∧ Below w.heap.size w wr) (fun i _ => ss.length - (intOf i).toNat)
  case atStart => exact ⟨0, Nat.zero_le _, rfl, Below.refl _ _⟩
  case round =>
    obtain ⟨k, hk, rfl, hB⟩ := hrel
    by_cases hlt : k < ss.length
    · obtain ⟨b, off, rfl, hb, hr⟩ := hw.rows (by rintro rfl; simp at hlt)
      obtain ⟨b', off', rfl, hb', hr'⟩ := hw'.rows (by rintro rfl; simp at hlt)
      obtain ⟨wa, wcap, hf0⟩ := hr k hlt
      obtain ⟨wa', wcap', hf0'⟩ := hr' k hlt
      have hf := hf0.mono hb hB
      have hf' := hf0'.mono hb' hB
      have c0 := hf.kind
      have c1 := hf.list
      have d0 := hf'.kind
      have d1 := hf'.list
      have hst := hf.flds
      have hst' := hf'.flds
      have hltI : (k : Int) < (ss.length : Int) := by omega
      clear hw hw' hr hr' hf0 hf0' hf hf'
      go_wp2_with fail
      go_region_with (go_at_call 57; refine (eqGateShape_yes _ _ _ _ _ _ _ (by exact hst.mono ((Below.refl _ _).drew)) (by exact hst'.mono ((Below.refl _ _).drew))).mono ?_; rintro e w1 ⟨rfl, hb1'⟩; have hb1 := (Below.refl wr.heap.size wr).drew.trans hb1'; clear hb1')
      all_goals go_wp2_with fail
      all_goals exact ⟨⟨k + 1, by omega, by go_num, hB.trans (hb1.mono hB.size)⟩, by simp [intOf]; omega⟩
    · clear hw hw'
      go_wp2_with fail
      go_ret
      exact ⟨rfl, hB⟩

end Go.Proofs.Ytniokfnigmmiiaa

namespace Go.Proofs.Ytniokfnigmmiiaa

/-- What an object holds. -/
structure Ob where
  kd : ByteArray
  nm : ByteArray
  tm : ByteArray
  vs : List ByteArray
  en : Bool
  hs : List ByteArray
  vr : Int

def Ob.cells (o : Ob) (a : Option Addr) (cap : Nat) (a' : Option Addr) (cap' : Nat) : Array Value :=
  #[.string o.kd, .string o.nm, .string o.tm, .slice a o.vs.length cap, .bool o.en, .slice a' o.hs.length cap', .int .i64 o.vr]

structure Ob.Small (o : Ob) : Prop where
  kd : o.kd.size ≤ maxLen
  nm : o.nm.size ≤ maxLen
  tm : o.tm.size ≤ maxLen

namespace Gate

/-- What is wrong with a value, by its field: 2, 3, or nothing. -/
def faultAt (f : Fld) (v : ByteArray) : Int := if v.size = 0 then (if f.mu then 2 else 0) else if fitsF f v then 0 else 3
def faultIx (fs : List Fld) (vs : List ByteArray) (i : Nat) : Int := faultAt (fs.getD i noField) (vs.getD i ByteArray.empty)
def valOkAt (fs : List Fld) (vs : List ByteArray) (i : Nat) : Bool := decide (faultIx fs vs i = 0)
/-- The first fault among the values. -/
def valRes (fs : List Fld) (vs : List ByteArray) : Int × Int := match (List.range fs.length).find? (fun i => !valOkAt fs vs i) with | some i => (faultIx fs vs i, i) | none => (0, 0)

theorem find_range {P : Nat → Bool} {n k : Nat} (hk : k < n) (hu : up P k = true) (hp : P k = false) : (List.range n).find? (fun i => !P i) = some k := by
  rw [List.find?_eq_some_iff_getElem]
  refine ⟨by simp [hp], k, by simpa using hk, by simp, fun j hj => ?_⟩
  have := up_at hj hu
  simp [this]

theorem find_range_none {P : Nat → Bool} {n : Nat} (hu : up P n = true) : (List.range n).find? (fun i => !P i) = none := by
  rw [List.find?_eq_none]
  intro x hx
  have := up_at (List.mem_range.1 hx) hu
  simp [this]

theorem valRes_at {fs : List Fld} {vs : List ByteArray} {k : Nat} (hk : k < fs.length) (hu : up (valOkAt fs vs) k = true) (hp : valOkAt fs vs k = false) : valRes fs vs = (faultIx fs vs k, (k : Int)) := by
  unfold valRes; rw [find_range hk hu hp]
theorem valRes_none {fs : List Fld} {vs : List ByteArray} (hu : up (valOkAt fs vs) fs.length = true) : valRes fs vs = (0, 0) := by
  unfold valRes; rw [find_range_none hu]

theorem faultIx_eq {fs : List Fld} {vs : List ByteArray} {k : Nat} (h1 : k < fs.length) (h2 : k < vs.length) : faultIx fs vs k = faultAt fs[k] vs[k] := by
  unfold faultIx; rw [getD_at fs k _ h1, getD_at vs k _ h2]

def wholeNames (o : Ob) : Bool := nameOk o.nm && nameOk o.tm
def wholeHolds (o : Ob) : Bool := decide (o.hs.length ≤ 3) && asc o.hs
def wholeVersion (o : Ob) : Bool := decide (0 ≤ o.vr) && decide (o.vr ≤ 1000000)
def wholeCount (ss : List Shp) (o : Ob) : Bool := hasKind ss o.kd && decide (o.vs.length = (shapeOf ss o.kd).fs.length)
def whole (ss : List Shp) (o : Ob) : Bool := wholeNames o && wholeHolds o && wholeVersion o && wholeCount ss o

/-- What is wrong with an object, by shapes that are ok. -/
def checkRes (ss : List Shp) (o : Ob) : Int × Int := if whole ss o = true then valRes (shapeOf ss o.kd).fs o.vs else (1, 0)
def check (ss : List Shp) (o : Ob) : Int × Int := if shapesOk ss = true then checkRes ss o else (1, 0)

end Gate
end Go.Proofs.Ytniokfnigmmiiaa

namespace Go.Proofs.Ytniokfnigmmiiaa
open Go.RowKit

/-- An object by value: its two lists lie in memory. -/
structure ObAt (w : World) (o : Ob) (a a' : Option Addr) : Prop where
  small : o.Small
  vals : StrsAt w a o.vs
  holds : StrsAt w a' o.hs

theorem ObAt.mono {w w' : World} {o : Ob} {a a' : Option Addr} (h : ObAt w o a a') (hb : Below w.heap.size w w') : ObAt w' o a a' :=
  ⟨h.small, h.vals.mono hb, h.holds.mono hb⟩

end Go.Proofs.Ytniokfnigmmiiaa
