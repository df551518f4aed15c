import Derived.Test.YtkfigdbbncjojaaGreatRows
import Derived.Test.YtkfigdbbncjojaaGreatM01
import Derived.Test.YtkfigdbbncjojaaGreatM04
import Derived.ProofKit
import Derived.SliceStrings
namespace Go.Proofs.YtkfigdbbncjojaaGreat
open Go.ChangeShapes Go.WideShapes Go.ChangeAt Go.RowKit
theorem Tryz.zcI : Tryz.prog.cellsOf 87 = 1 := by kernel_rfl
theorem Tryz.zhe : Tryz.prog.cellsOf 195 = 11 := by kernel_rfl
theorem zld {H : Type} {enc : TypeId × Value -> H} {w : World} {base : Nat} {spare : Nat -> Bool} {held : Bool} {fuel : Nat} {cs : List Value} {x : DataW H × List MemPlace}
    (h : DataW.trod enc Tryz.prog w base spare held fuel 195 cs = some x) :
    ∃ nm kd ls ms a cap ws to rl mu fx df wg, cs = [.string nm, .int .i64 kd, .int .i64 ls, .int .i64 ms, .slice a (List.length ws) cap, .string to, .int .i64 rl, .bool mu, .bool fx, .string df, .string wg] /\ zB w a ws /\
      nm.size <= maxLen /\ to.size <= maxLen /\ df.size <= maxLen /\ wg.size <= maxLen := by
  have hlen : cs.length = 11 := by
    obtain ⟨_, _, _, _, hl, _, _⟩ := DataW.trod_struct Tryz.underlying195 h
    rw [hl]; exact Tryz.zhe
  match cs, hlen with
  | [c0, c1, c2, c3, c4, c5, c6, c7, c8, c9, c10], _ =>
    have hf := jk Tryz.underlying195 h
    obtain ⟨_, _, f0⟩ := hf 0 9 0 c0 rfl Tryz.zJ rfl
    obtain ⟨_, _, f1⟩ := hf 1 3 1 c1 rfl Tryz.qW rfl
    obtain ⟨_, _, f2⟩ := hf 2 3 2 c2 rfl Tryz.qW rfl
    obtain ⟨_, _, f3⟩ := hf 3 3 3 c3 rfl Tryz.qW rfl
    obtain ⟨_, _, f4⟩ := hf 4 87 4 c4 rfl Tryz.zcI rfl
    obtain ⟨_, _, f5⟩ := hf 5 9 5 c5 rfl Tryz.zJ rfl
    obtain ⟨_, _, f6⟩ := hf 6 3 6 c6 rfl Tryz.qW rfl
    obtain ⟨_, _, f7⟩ := hf 7 4 7 c7 rfl Tryz.ze1 rfl
    obtain ⟨_, _, f8⟩ := hf 8 4 8 c8 rfl Tryz.ze1 rfl
    obtain ⟨_, _, f9⟩ := hf 9 9 9 c9 rfl Tryz.zJ rfl
    obtain ⟨_, _, f10⟩ := hf 10 9 10 c10 rfl Tryz.zJ rfl
    obtain ⟨nm, e0, _, s0⟩ := DataW.trod_string Tryz.underlying9 f0
    obtain ⟨kd, e1, _, _⟩ := DataW.trod_int Tryz.underlying3 f1
    obtain ⟨ls, e2, _, _⟩ := DataW.trod_int Tryz.underlying3 f2
    obtain ⟨ms, e3, _, _⟩ := DataW.trod_int Tryz.underlying3 f3
    obtain ⟨a, cap, ws, e4, hS⟩ := zfq Tryz.underlying87 Tryz.underlying9 Tryz.zJ f4
    obtain ⟨to, e5, _, s5⟩ := DataW.trod_string Tryz.underlying9 f5
    obtain ⟨rl, e6, _, _⟩ := DataW.trod_int Tryz.underlying3 f6
    obtain ⟨mu, e7, _⟩ := DataW.trod_bool Tryz.underlying4 f7
    obtain ⟨fx, e8, _⟩ := DataW.trod_bool Tryz.underlying4 f8
    obtain ⟨df, e9, _, s9⟩ := DataW.trod_string Tryz.underlying9 f9
    obtain ⟨wg, e10, _, s10⟩ := DataW.trod_string Tryz.underlying9 f10
    simp only [List.cons.injEq, and_true] at e0 e1 e2 e3 e4 e5 e6 e7 e8 e9 e10
    subst e0 e1 e2 e3 e4 e5 e6 e7 e8 e9 e10
    exact ⟨nm, kd, ls, ms, a, cap, ws, to, rl, mu, fx, df, wg, rfl, hS, s0, s5, s9, s10⟩
end Go.Proofs.YtkfigdbbncjojaaGreat
