import Derived.Test.YtkfigdbbncjojaaGreatM12
import Derived.Test.YtkfigdbbncjojaaGreatM15
import Derived.Test.YtkfigdbbncjojaaGreatM18
namespace Go.Proofs.YtkfigdbbncjojaaGreat
open Go.ChangeShapes Go.WideShapes Go.ChangeAt Go.RowKit
theorem Tryz.zm2 : Tryz.prog.cellsOf 26 = 3 := by kernel_rfl
theorem Tryz.zj5 : Tryz.prog.cellsOf 22 = 1 := by kernel_rfl
theorem Tryz.zlg : Tryz.prog.cellsOf 23 = 1 := by kernel_rfl
theorem Tryz.zli : Tryz.prog.cellsOf 24 = 1 := by kernel_rfl
theorem zm5 {H : Type} {enc : TypeId × Value -> H} {w : World} {base : Nat} {spare : Nat -> Bool} {held : Bool} {fuel : Nat} {cs : List Value} {x : DataW H × List MemPlace}
    (h : DataW.trod enc Tryz.prog w base spare held fuel 26 cs = some x) :
    ∃ (l : Lw) (a b c : Option Addr) (ca cb cc : Nat), cs = (l.cells a b c ca cb cc).toList /\ qO w l a b c := by
  have hlen : cs.length = 3 := by
    obtain ⟨_, _, _, _, hl, _, _⟩ := DataW.trod_struct Tryz.underlying26 h
    rw [hl]; exact Tryz.zm2
  match cs, hlen with
  | [c0, c1, c2], _ =>
    have hf := jk Tryz.underlying26 h
    obtain ⟨_, _, f0⟩ := hf 0 22 0 c0 rfl Tryz.zj5 rfl
    obtain ⟨_, _, f1⟩ := hf 1 23 1 c1 rfl Tryz.zlg rfl
    obtain ⟨_, _, f2⟩ := hf 2 24 2 c2 rfl Tryz.zli rfl
    obtain ⟨a, ca, ss, e0, hS⟩ := zj7 f0
    obtain ⟨b, cb, ms, e1, hM⟩ := zk9 f1
    obtain ⟨c, cc, ts, e2, hT⟩ := zlS f2
    simp only [List.cons.injEq, and_true] at e0 e1 e2
    subst e0 e1 e2
    exact ⟨⟨ss, ms, ts⟩, a, b, c, ca, cb, cc, rfl, ⟨hS, hM, hT⟩⟩
structure Lk where
  pl : Int
  rl : Int
  to : ByteArray
  nm : ByteArray
  hto : to.size <= maxLen
  hnm : nm.size <= maxLen
end Go.Proofs.YtkfigdbbncjojaaGreat
