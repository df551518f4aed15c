import Derived.Test.YtpmlngcljbkchaaGreatM09
import Derived.Test.YtpmlngcljbkchaaGreatM13
import Derived.Test.YtpmlngcljbkchaaGreatM12
namespace Go.Proofs.YtpmlngcljbkchaaGreat
open Go.RowKit

set_option maxHeartbeats 400000 in
theorem numberFits_any (nm : ByteArray) (kd ls ms : Int) (sl : Value) (to : ByteArray) (rl : Int) (mu fx : Bool) (df wg : ByteArray) (s : ByteArray) (w : World) (hs : s.size ≤ maxLen) :
    Calls Tryz.prog 155 #[.agg #[.string nm, .int .i64 kd, .int .i64 ls, .int .i64 ms, sl, .string to, .int .i64 rl, .bool mu, .bool fx, .string df, .string wg], .string s] w
      fun e w' => e = .returned (.bool (Gate.numFits ls ms s)) ∧ Below w.heap.size w w' := by
  by_cases hd : Gate.decOk s = true
  · have HE : Hid (decNum s = Gate.decS s) := by unfold decNum Hid; rw [hd]; rfl
    have HF : Hid (Gate.numFits ls ms s = (decide (ls ≤ Gate.decS s) && decide (Gate.decS s ≤ ms))) := by unfold Gate.numFits Hid; rw [hd]; rfl
    go_enter Tryz.func155, Tryz.ntmps155
    go_wp2_with (go_at_call 157; refine (decimalOf_any _ _ hs).mono ?_; rintro e w' ⟨rfl, rfl⟩)
    all_goals
      go_ret
      refine ⟨ret_bool ?_, (Below.refl _ _).alloc (Nat.le_refl _) _⟩
      rw [HF.out]; have := HE.out; rw [Bool.eq_iff_iff]; simp; omega
  · have hd' : Gate.decOk s = false := by simpa using hd
    have HF : Hid (Gate.numFits ls ms s = false) := by unfold Gate.numFits Hid; rw [hd']; rfl
    go_enter Tryz.func155, Tryz.ntmps155
    go_wp2_with (go_at_call 157; refine (decimalOf_any _ _ hs).mono ?_; rintro e w' ⟨rfl, rfl⟩)
    go_ret
    exact ⟨ret_bool HF.out.symm, (Below.refl _ _).alloc (Nat.le_refl _) _⟩

end Go.Proofs.YtpmlngcljbkchaaGreat

namespace Go.Proofs.YtpmlngcljbkchaaGreat
open Go.ChangeShapes Go.WideShapes Go.ChangeAt Go.RowKit

theorem Tryz.cellsInts : Tryz.prog.cellsOf 28 = 1 := by kernel_rfl
theorem Tryz.cellsRule : Tryz.prog.cellsOf 30 = 4 := by kernel_rfl

section
variable {H : Type} {enc : TypeId × Value → H} {w : World} {base : Nat} {spare : Nat → Bool} {held : Bool}

theorem read_ints {fuel : Nat} {cs : List Value} {x : DataW H × List MemPlace} (h : DataW.trod enc Tryz.prog w base spare held fuel 28 cs = some x) :
    ∃ a cap vs, cs = [.slice a (List.length vs) cap] ∧ IntsAt w a vs := by
  obtain ⟨a, len, cap, rfl, hm, hr⟩ := read_rows Tryz.underlying28 Tryz.cellsInt (by omega) h
  rcases Nat.eq_zero_or_pos len with h0 | hp
  · subst h0
    exact ⟨a, cap, [], rfl, ⟨by simp [maxLen], fun h => absurd rfl h⟩⟩
  · obtain ⟨b, off, rfl, hb, hrow⟩ := hr hp
    have hf : ∀ i, i < len → ∃ v : Int, w.cell? ⟨b, off + i, none⟩ = some (.int .i64 v) := by
      intro i hi
      obtain ⟨es, n, y, hel, hcell, hy⟩ := hrow i hi
      obtain ⟨v, e0, _, _⟩ := DataW.trod_int Tryz.underlying3 hy
      subst e0
      exact ⟨v, by simpa using hcell 0 (by omega)⟩
    obtain ⟨vs, hl, hvs⟩ := list_of len hf
    exact ⟨_, cap, vs, by rw [hl], ⟨by omega, fun _ => ⟨b, off, rfl, hb, hvs⟩⟩⟩

theorem read_rule {fuel : Nat} {cs : List Value} {x : DataW H × List MemPlace} (h : DataW.trod enc Tryz.prog w base spare held fuel 30 cs = some x) :
    ∃ (r : Rl) (a : Option Addr) (cap : Nat), cs = (r.cells a cap).toList ∧ r.Small ∧ IntsAt w a r.vs := by
  have hlen : cs.length = 4 := by
    obtain ⟨_, _, _, _, hl, _, _⟩ := DataW.trod_struct Tryz.underlying30 h
    rw [hl]; exact Tryz.cellsRule
  match cs, hlen with
  | [c0, c1, c2, c3], _ =>
    have hf := field_one Tryz.underlying30 h
    obtain ⟨_, _, f0⟩ := hf 0 28 0 c0 rfl Tryz.cellsInts rfl
    obtain ⟨_, _, f1⟩ := hf 1 9 1 c1 rfl Tryz.cellsString rfl
    obtain ⟨_, _, f2⟩ := hf 2 9 2 c2 rfl Tryz.cellsString rfl
    obtain ⟨_, _, f3⟩ := hf 3 9 3 c3 rfl Tryz.cellsString rfl
    obtain ⟨a, cap, vs, e0, hI⟩ := read_ints f0
    obtain ⟨x1, e1, _, s1⟩ := DataW.trod_string Tryz.underlying9 f1
    obtain ⟨x2, e2, _, s2⟩ := DataW.trod_string Tryz.underlying9 f2
    obtain ⟨x3, e3, _, s3⟩ := DataW.trod_string Tryz.underlying9 f3
    simp only [List.cons.injEq, and_true] at e0 e1 e2 e3
    subst e0 e1 e2 e3
    exact ⟨⟨vs, x1, x2, x3⟩, a, cap, rfl, ⟨s1, s2, s3⟩, hI⟩

end

end Go.Proofs.YtpmlngcljbkchaaGreat
