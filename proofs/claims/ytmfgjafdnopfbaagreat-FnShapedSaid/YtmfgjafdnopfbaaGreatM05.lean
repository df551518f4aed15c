import Derived.Test.YtmfgjafdnopfbaaGreatM01
import Derived.Maps.AppendAt
import Derived.Test.YtmfgjafdnopfbaaGreatM02
import Derived.Test.YtmfgjafdnopfbaaGreatM03
import Derived.Test.YtmfgjafdnopfbaaGreatRows
import Derived.ProofKit
import Derived.OpenShut
import Derived.SliceStrings
namespace Go.Proofs.YtmfgjafdnopfbaaGreat
open Go.RowKit
theorem zdm {w : World} {lo : Nat} {a : Option Addr} {n cap : Nat} {row : List ByteArray} (h : w.ownsRow lo 9 1 (.slice a n cap) row.length (row.map Value.string)) (hl : row.length <= maxLen) (hs : ∀ s ∈ row, s.size <= maxLen) : zZ w a row := by
  refine ⟨hl, hs, fun hne => ?_⟩
  obtain ⟨_, ⟨h0, h1⟩ | ⟨g, cp, cur, h0, h1⟩⟩ := id h
  · exact absurd (List.length_eq_zero_iff.1 h1) hne
  · cases h0
    refine ⟨g, 0, rfl, (h.lt g rfl).2, fun i hi => ?_⟩
    rw [Nat.zero_add, h.cellAt i (by omega)]
    simp [hi]
end Go.Proofs.YtmfgjafdnopfbaaGreat

namespace Go.Proofs.YtmfgjafdnopfbaaGreat.LawFnShaped
open Go.ChangeShapes Go.WideShapes Go.ChangeAt Go.RowKit
theorem closed : joinedFacts Tryz.pinned.checked.prog 3 Tryz.f3 Rows.fnShapedSpec Rows.fnShapedRow = true := by
  unfold joinedFacts
  rw [kInPlace, kUnfol, kRecur, kNamed, kLaid, kMaps, kMay, kLifts]
  kernel_rfl
end Go.Proofs.YtmfgjafdnopfbaaGreat.LawFnShaped

namespace Go.Proofs.YtmfgjafdnopfbaaGreat
open Go.ChangeShapes Go.WideShapes Go.ChangeAt Go.RowKit
section
variable {H : Type} {enc : TypeId × Value -> H} {P : Program} {w : World} {base : Nat} {spare : Nat -> Bool} {held : Bool}
theorem zfY {a : Addr} {v : Value} (h : w.cell? a = some v) : a = ⟨a.block, a.off, none⟩ /\ a.block < w.heap.size := by
  obtain ⟨b, o, s⟩ := a
  unfold World.cell? at h
  cases hb : w.heap[b]? with
  | none => simp [hb] at h
  | some x =>
    have hlt := (Array.getElem?_eq_some_iff.1 hb).1
    cases s with
    | none => exact ⟨rfl, hlt⟩
    | some k => cases x <;> simp [hb] at h
end
section
variable {H : Type} {enc : TypeId × Value -> H} {P : Program} {w : World} {base : Nat} {spare : Nat -> Bool} {held : Bool}
end
end Go.Proofs.YtmfgjafdnopfbaaGreat
