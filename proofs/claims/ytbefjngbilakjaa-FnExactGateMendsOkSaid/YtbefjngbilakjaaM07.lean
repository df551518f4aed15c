import Derived.Test.YtbefjngbilakjaaM03
import Derived.Test.YtbefjngbilakjaaM06
import Derived.WalkKit
namespace Go.Proofs.Ytbefjngbilakjaa

/-- What an object holds. -/
structure Ob where
  kd : ByteArray
  nm : ByteArray
  tm : ByteArray
  vs : List ByteArray
  en : Bool
  hs : List ByteArray
  vr : Int

def Ob.cells (o : Ob) (a : Option Addr) (cap : Nat) (a' : Option Addr) (cap' : Nat) : Array Value :=
  #[.string o.kd, .string o.nm, .string o.tm, .slice a o.vs.length cap, .bool o.en, .slice a' o.hs.length cap', .int .i64 o.vr]

structure Ob.Small (o : Ob) : Prop where
  kd : o.kd.size ≤ maxLen
  nm : o.nm.size ≤ maxLen
  tm : o.tm.size ≤ maxLen

namespace Gate

/-- What is wrong with a value, by its field: 2, 3, or nothing. -/
def faultAt (f : Fld) (v : ByteArray) : Int := if v.size = 0 then (if f.mu then 2 else 0) else if fitsF f v then 0 else 3
def faultIx (fs : List Fld) (vs : List ByteArray) (i : Nat) : Int := faultAt (fs.getD i noField) (vs.getD i ByteArray.empty)
def valOkAt (fs : List Fld) (vs : List ByteArray) (i : Nat) : Bool := decide (faultIx fs vs i = 0)
/-- The first fault among the values. -/
def valRes (fs : List Fld) (vs : List ByteArray) : Int × Int := match (List.range fs.length).find? (fun i => !valOkAt fs vs i) with | some i => (faultIx fs vs i, i) | none => (0, 0)

theorem find_range {P : Nat → Bool} {n k : Nat} (hk : k < n) (hu : up P k = true) (hp : P k = false) : (List.range n).find? (fun i => !P i) = some k := by
  rw [List.find?_eq_some_iff_getElem]
  refine ⟨by simp [hp], k, by simpa using hk, by simp, fun j hj => ?_⟩
  have := up_at hj hu
  simp [this]

theorem find_range_none {P : Nat → Bool} {n : Nat} (hu : up P n = true) : (List.range n).find? (fun i => !P i) = none := by
  rw [List.find?_eq_none]
  intro x hx
  have := up_at (List.mem_range.1 hx) hu
  simp [this]

theorem valRes_at {fs : List Fld} {vs : List ByteArray} {k : Nat} (hk : k < fs.length) (hu : up (valOkAt fs vs) k = true) (hp : valOkAt fs vs k = false) : valRes fs vs = (faultIx fs vs k, (k : Int)) := by
  unfold valRes; rw [find_range hk hu hp]
theorem valRes_none {fs : List Fld} {vs : List ByteArray} (hu : up (valOkAt fs vs) fs.length = true) : valRes fs vs = (0, 0) := by
  unfold valRes; rw [find_range_none hu]

theorem faultIx_eq {fs : List Fld} {vs : List ByteArray} {k : Nat} (h1 : k < fs.length) (h2 : k < vs.length) : faultIx fs vs k = faultAt fs[k] vs[k] := by
  unfold faultIx; rw [getD_at fs k _ h1, getD_at vs k _ h2]

def wholeNames (o : Ob) : Bool := nameOk o.nm && nameOk o.tm
def wholeHolds (o : Ob) : Bool := decide (o.hs.length ≤ 3) && asc o.hs
def wholeVersion (o : Ob) : Bool := decide (0 ≤ o.vr) && decide (o.vr ≤ 1000000)
def wholeCount (ss : List Shp) (o : Ob) : Bool := hasKind ss o.kd && decide (o.vs.length = (shapeOf ss o.kd).fs.length)
def whole (ss : List Shp) (o : Ob) : Bool := wholeNames o && wholeHolds o && wholeVersion o && wholeCount ss o

/-- What is wrong with an object, by shapes that are ok. -/
def checkRes (ss : List Shp) (o : Ob) : Int × Int := if whole ss o = true then valRes (shapeOf ss o.kd).fs o.vs else (1, 0)
def check (ss : List Shp) (o : Ob) : Int × Int := if shapesOk ss = true then checkRes ss o else (1, 0)

end Gate
end Go.Proofs.Ytbefjngbilakjaa

namespace Go.Proofs.Ytbefjngbilakjaa
open Go.RowKit

/-- An object by value: its two lists lie in memory. -/
structure ObAt (w : World) (o : Ob) (a a' : Option Addr) : Prop where
  small : o.Small
  vals : StrsAt w a o.vs
  holds : StrsAt w a' o.hs

theorem ObAt.mono {w w' : World} {o : Ob} {a a' : Option Addr} (h : ObAt w o a a') (hb : Below w.heap.size w w') : ObAt w' o a a' :=
  ⟨h.small, h.vals.mono hb, h.holds.mono hb⟩

end Go.Proofs.Ytbefjngbilakjaa

namespace Go.Proofs.Ytbefjngbilakjaa
open Go.RowKit

theorem Try.infoString : (Try.prog.info? 9).map (fun i => (i.zero, i.size, i.bytes)) = some (some (.string ByteArray.empty), 1, 16) := by kernel_rfl

set_option maxHeartbeats 1000000 in
theorem copyTexts_any (b off cap : Nat) (ws : List ByteArray) (w : World) (hw : StrsAt w (some ⟨b, off, none⟩) ws) (hl : ws.length ≤ 1048576) :
    Calls Try.prog 76 #[.slice (some ⟨b, off, none⟩) ws.length cap] w
      fun e w' => ∃ v, e = .returned v ∧ w'.ownsRow w.heap.size 9 1 v ws.length (ws.map Value.string) ∧ Below w.heap.size w w' := by
  obtain ⟨i0, hi, hz0, hz1, hz2⟩ := info_parts Try.infoString
  have hnews : ∀ j u, (ws.map Value.string)[j]? = some u → w.cell? ((⟨b, off, none⟩ : Addr).add j) = some u := by
    intro j u hj
    have hlt : j < ws.length := by
      have := (List.getElem?_eq_some_iff.1 hj).1; simpa using this
    obtain ⟨b', off', he, hb, hc⟩ := hw.cells (by rintro rfl; simp at hlt)
    simp only [Option.some.injEq, Addr.mk.injEq] at he
    obtain ⟨rfl, rfl, _⟩ := he
    have h1 := hc j hlt
    have e1 : (⟨b, off, none⟩ : Addr).add j = ⟨b, off + j, none⟩ := by
      unfold Addr.add; split
      · rename_i h; subst h; simp
      · rfl
    rw [e1, h1]
    rw [List.getElem?_map, List.getElem?_eq_getElem hlt] at hj
    simpa using hj
  have hone : ∀ u ∈ ws.map Value.string, u.oneCell' = true := by
    intro u hu; simp only [List.mem_map] at hu; obtain ⟨s, _, rfl⟩ := hu; rfl
  go_enter Try.func76, Try.ntmps76
  go_wp2_with (at_builtin; refine wpList_append_own _ rfl _ _ 22 rfl w.heap.size 9 i0 (.string ByteArray.empty) 1 16 Try.underlying22 hi hz0 hz1 hz2 rfl (by decide) (.slice none 0 0) 0 [] rfl ⟨rfl, .inl ⟨rfl, rfl⟩⟩ ⟨b, off, none⟩ ws.length cap (ws.map Value.string) rfl (by simp) hnews hone (by unfold maxLen; omega) (by omega) (Nat.le_refl _) ?_; intro v' w1 hown hgr _)
  simp only [Nat.zero_add, List.nil_append] at hown
  go_ret
  exact ⟨v', rfl, hown, (Below.refl _ _).grown hgr (Nat.le_refl _) (by simp [Value.ownBlock])⟩

end Go.Proofs.Ytbefjngbilakjaa
