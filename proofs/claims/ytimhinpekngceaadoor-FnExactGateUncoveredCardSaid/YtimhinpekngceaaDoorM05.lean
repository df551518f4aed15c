import Derived.Test.YtimhinpekngceaaDoorM03
import Derived.Test.YtimhinpekngceaaDoorM04
import Derived.Shelf.Lay
import Derived.Shelf.LaySoft
import Derived.Shelf.LaysM
import Derived.Shelf.Strconv.Itoa3
import Derived.Lib.ItoaLen
namespace Go.Proofs
open Go.Shelf
shelf_lay LaysM.n171 Nm 171 at Tryd as YtimhinpekngceaaDoor.laysM171
end Go.Proofs
namespace Go.Proofs.YtimhinpekngceaaDoor
open Go.RowKit Go.Shelf

theorem below_drewN_grow (w : World) (k : Nat) (os : Array Obj) : Below w.heap.size w (Sort.grow (w.drewN k) os) := by
  refine ⟨rfl, rfl, rfl, ?_, ?_⟩
  · show w.heap.size ≤ ((w.drewN k).heap ++ os).size
    rw [Array.size_append]; exact Nat.le_add_right _ _
  · intro i hi
    show ((w.drewN k).heap ++ os)[i]? = w.heap[i]?
    exact Array.getElem?_append_left hi

/-- The table of powers of ten. -/
def TabW (w : World) : Prop := Lib.TabIs Tryd.prog w "internal/strconv.uint64pow10" .u64 Lib.pow10Tab

theorem TabW.mono {w w' : World} (h : TabW w) (hb : Below w.heap.size w w') : TabW w' := by
  unfold TabW Lib.TabIs World.var? at h ⊢
  cases hg : Program.globalNamed Tryd.prog "internal/strconv.uint64pow10" with
  | none => rw [hg] at h; cases h
  | some g =>
    rw [hg] at h
    simp only [Option.bind_some] at h ⊢
    have hlt : g < w.heap.size := by
      rcases Nat.lt_or_ge g w.heap.size with h' | h'
      · exact h'
      · rw [Array.getElem?_eq_none h'] at h; cases h
    rw [hb.block g hlt]
    exact h

theorem itoa_at (n : Nat) (h : n < 4611686018427387904) (w : World) (htab : TabW w) :
    Calls Tryd.prog 84 #[.int .i64 (n : Int)] w fun e w' => e = .returned (.string ⟨(Lib.decDigits n).toArray⟩) ∧ Below w.heap.size w w' := by
  have hc : Calls Tryd.prog 84 #[.int .i64 (n : Int)] w fun e w' => e = .returned (.string ⟨(Lib.itoa (n : Int)).toArray⟩) ∧ ∃ k os, w' = Sort.grow (w.drewN k) os := Any.strconv_Itoa laysM171 (n : Int) (by omega) (by omega) w htab
  refine hc.mono ?_
  rintro e w' ⟨rfl, k, os, rfl⟩
  rw [Lib.itoa_nonneg]
  exact ⟨rfl, below_drewN_grow w k os⟩

set_option maxHeartbeats 1000000 in
theorem freeName_any (l : ByteArray) (r : Nat) (f : ByteArray → Option Int) (L : List ByteArray) (w : World) (htab : TabW w) (hm : StrMap w r f) (hL : ∀ s, 0 < (f s).getD 0 ↔ s ∈ L) (hlen : L.length < 2305843009213693952) (hl : l.size ≤ 1) :
    Calls Tryd.prog 65 #[.string l, .map (some r)] w fun e w' => (∃ k, e = .returned (.string (Gate.numbered l k)) ∧ Gate.IsFree l L k) ∧ Below w.heap.size w w' := by
  have HL : Hid (∀ s, 0 < (f s).getD 0 ↔ s ∈ L) := hL
  have HN : Hid (L.length < 2305843009213693952) := hlen
  have HT : Hid (TabW w) := htab
  have HM : Hid (StrMap w r f) := hm
  clear hL hlen htab hm
  go_enter Tryd.func65, Tryd.ntmps65
  go_wp2_with fail
  go_loopw [5] (fun n wr => ∃ k : Nat, n = .int .i64 k ∧ Hid (∀ j, j < k → Gate.numbered l j ∈ L) ∧ Below w.heap.size w wr) (fun n _ => L.length + 1 - (intOf n).toNat)
  case atStart => exact ⟨0, rfl, fun j hj => by omega, Below.refl _ _⟩
  case round =>
    obtain ⟨k, rfl, hall, hB⟩ := hrel
    have hk : k < 4611686018427387904 := by have := Gate.numbered_le k L hall.out; have := HN.out; omega
    have HK : Hid (k ≤ L.length) := Gate.numbered_le k L hall.out
    obtain ⟨d, HD⟩ : ∃ d : ByteArray, Hid (⟨(Lib.decDigits k).toArray⟩ = d) := ⟨_, rfl⟩
    have HC : Hid (∀ W, Below wr.heap.size wr W → Calls Tryd.prog 84 #[.int .i64 (k : Int)] W fun e w' => e = .returned (.string d) ∧ Below wr.heap.size wr w') := fun W hW => by
      rw [← HD.out]
      refine (itoa_at k hk W (HT.out.mono (hB.trans (hW.mono hB.size)))).mono ?_
      rintro e w' ⟨rfl, hb⟩
      exact ⟨rfl, hW.trans (hb.mono hW.size)⟩
    have hkI : (k : Int) < 4611686018427387904 := by omega
    have hsz : l.size + d.size ≤ 9223372036854775807 := by
      have h1 := Lib.itoa_length_le (k : Int) (by omega) (by omega)
      rw [Lib.itoa_nonneg] at h1
      have h2 : d.size ≤ 21 := by rw [← HD.out]; simpa [ByteArray.size] using h1
      omega
    obtain ⟨s, hs, HS⟩ : ∃ s : ByteArray, (∀ W, (Op.stringOp .add l d).run Tryd.prog W = .ok (.string s) W) ∧ Hid (s = Gate.numbered l k) := ⟨l ++ d, fun W => run_string_add_sum W _ _ hsz, by rw [← HD.out]; rfl⟩
    obtain ⟨v, hlook, HV⟩ : ∃ v : Int, Hid (∀ w2, Below wr.heap.size wr w2 → (Instr.lookup 99 (.map (some r)) (.string s) false).run Tryd.prog w2 = .ok (.int .i64 v) w2) ∧ Hid (0 < v ↔ Gate.numbered l k ∈ L) := ⟨_, fun w2 h => (HM.out.mono ((hB.trans (h.mono hB.size)).block r HM.out.lt)).look s, by unfold Hid; rw [HL.out s, HS.out]⟩
    clear hsz hk
    by_cases hv : 0 < v
    · have HY : Hid (Gate.numbered l k ∈ L) := HV.out.1 hv
      go_wp2_with (go_at_call 84; refine (HC.out _ (Below.refl _ _)).mono ?_; rintro e w2 ⟨rfl, hb2⟩; have hlk := hlook.out w2 hb2)
      refine ⟨⟨k + 1, by go_num, fun j hj => ?_, hB.trans (hb2.mono hB.size)⟩, by simp [intOf]; have := HK.out; omega⟩
      rcases Nat.lt_or_ge j k with h | h
      · exact hall.out j h
      · have e : j = k := by omega
        subst e; exact HY.out
    · have HY : Hid (Gate.numbered l k ∉ L) := fun h => hv (HV.out.2 h)
      have hdec : decide (0 < v) = false := by simp; omega
      have HZ : Hid (Gate.IsFree l L k ∧ s = Gate.numbered l k ∧ ∀ w3, Below wr.heap.size wr w3 → Below w.heap.size w w3) := ⟨⟨HY.out, hall.out⟩, HS.out, fun w3 h => hB.trans (h.mono hB.size)⟩
      clear hv HT HM HL HN HK hall HV HS HD hkI hl hB HY
      go_wp2_with fail
      refine (HC.out _ (Below.refl _ _)).mono ?_
      rintro e w2 ⟨rfl, hb2⟩
      have hlk := hlook.out w2 hb2
      have HB2 : Hid (Below wr.heap.size wr w2) := hb2
      clear hb2
      go_wp2_with fail
      refine (HC.out _ HB2.out).mono ?_
      rintro e w3 ⟨rfl, hb3⟩
      go_wp2_with fail
      go_ret
      exact ⟨⟨k, by rw [← HZ.out.2.1]; rfl, HZ.out.1⟩, HZ.out.2.2 _ hb3⟩

end Go.Proofs.YtimhinpekngceaaDoor
