import Derived.Test.YtpmlngcljbkchaaGreatM16
import Derived.Test.YtpmlngcljbkchaaGreatM41
import Derived.Test.YtpmlngcljbkchaaGreatM36
import Derived.Test.YtpmlngcljbkchaaGreatM19
namespace Go.Proofs.YtpmlngcljbkchaaGreat
open Go.RowKit

def Gate.lawOk (l : Lw) : Bool := Gate.mendsOk l.ss l.ms && Gate.teamsOk l.ts

set_option maxHeartbeats 1000000 in
theorem implLawOk_any (l : Lw) (a b c : Option Addr) (ca cb cc : Nat) (w : World) (hl : LwAt w l a b c) (hf : l.Few) :
    Calls Tryz.prog 24 #[.agg (l.cells a b c ca cb cc)] w fun e w' => e = .returned (.bool (Gate.lawOk l)) ∧ Below w.heap.size w w' := by
  have HL : Hid (LwAt w l a b c) := hl
  have HF : Hid l.Few := hf
  clear hl hf
  unfold Lw.cells
  by_cases h1 : Gate.mendsOk l.ss l.ms = true
  · have HQ : Hid (Gate.lawOk l = Gate.teamsOk l.ts) := by unfold Hid Gate.lawOk; rw [h1]; rfl
    have HM : Hid (Gate.mendsOk l.ss l.ms = true) := h1
    clear h1
    go_enter Tryz.func24, Tryz.ntmps24
    go_wp2_with fail
    refine (as_bool HM.out (implMendsOk_any _ _ _ _ l.ss l.ms _ (HL.out.ss.mono ((Below.refl _ _).alloc (Nat.le_refl _) _)) (HL.out.ms.mono ((Below.refl _ _).alloc (Nat.le_refl _) _)) HF.out.ms)).mono ?_
    rintro e w1 ⟨rfl, hb⟩
    have hX1 := box_later (box_new w #[.slice a l.ss.length ca, .slice b l.ms.length cb, .slice c l.ts.length cc] 40) (by simp) hb
    have hz1 : w.heap.size < w1.heap.size := by have := hb.size; simp at this; omega
    have hB1 : Below w.heap.size w w1 := ((Below.refl _ _).alloc (Nat.le_refl _) _).trans (hb.mono (by simp))
    clear hb
    go_wp2_with fail
    refine (implTeamsOk_any _ _ l.ts _ (HL.out.ts.mono hB1)).mono ?_
    rintro e w2 ⟨rfl, hb⟩
    have hB2 := hB1.trans (hb.mono hB1.size)
    clear hb hX1 hz1 hB1
    go_wp2_with fail
    go_ret
    exact ⟨ret_bool HQ.out.symm, hB2⟩
  · have h1' : Gate.mendsOk l.ss l.ms = false := by simpa using h1
    have HQ : Hid (Gate.lawOk l = false) := by unfold Hid Gate.lawOk; rw [h1']; rfl
    have HM : Hid (Gate.mendsOk l.ss l.ms = false) := h1'
    clear h1 h1'
    go_enter Tryz.func24, Tryz.ntmps24
    go_wp2_with fail
    refine (as_bool HM.out (implMendsOk_any _ _ _ _ l.ss l.ms _ (HL.out.ss.mono ((Below.refl _ _).alloc (Nat.le_refl _) _)) (HL.out.ms.mono ((Below.refl _ _).alloc (Nat.le_refl _) _)) HF.out.ms)).mono ?_
    rintro e w1 ⟨rfl, hb⟩
    have hB1 : Below w.heap.size w w1 := ((Below.refl _ _).alloc (Nat.le_refl _) _).trans (hb.mono (by simp))
    clear hb
    go_wp2_with fail
    go_ret
    exact ⟨ret_bool HQ.out.symm, hB1⟩

set_option maxHeartbeats 1000000 in
theorem specLawOk_any (l : Lw) (a b c : Option Addr) (ca cb cc : Nat) (w : World) (hl : LwAt w l a b c) :
    Calls Tryz.prog 17 #[.agg (l.cells a b c ca cb cc)] w fun e w' => e = .returned (.bool (Gate.lawOk l)) ∧ Below w.heap.size w w' := by
  have HL : Hid (LwAt w l a b c) := hl
  clear hl
  unfold Lw.cells
  by_cases h1 : Gate.mendsOk l.ss l.ms = true
  · have HQ : Hid (Gate.lawOk l = Gate.teamsOkS l.ts) := by unfold Hid Gate.lawOk; rw [h1, Gate.teamsOk_same]; rfl
    have HM : Hid (Gate.mendsOkS l.ss l.ms = true) := by unfold Hid; rw [← Gate.mendsOk_same]; exact h1
    clear h1
    go_enter Tryz.func17, Tryz.ntmps17
    go_wp2_with fail
    refine (as_bool HM.out (specMendsOk_any _ _ _ _ l.ss l.ms _ (HL.out.ss.mono ((Below.refl _ _).alloc (Nat.le_refl _) _)) (HL.out.ms.mono ((Below.refl _ _).alloc (Nat.le_refl _) _)))).mono ?_
    rintro e w1 ⟨rfl, hb⟩
    have hX1 := box_later (box_new w #[.slice a l.ss.length ca, .slice b l.ms.length cb, .slice c l.ts.length cc] 40) (by simp) hb
    have hz1 : w.heap.size < w1.heap.size := by have := hb.size; simp at this; omega
    have hB1 : Below w.heap.size w w1 := ((Below.refl _ _).alloc (Nat.le_refl _) _).trans (hb.mono (by simp))
    clear hb
    go_wp2_with fail
    refine (specTeamsOk_any _ _ l.ts _ (HL.out.ts.mono hB1)).mono ?_
    rintro e w2 ⟨rfl, hb⟩
    have hB2 := hB1.trans (hb.mono hB1.size)
    clear hb hX1 hz1 hB1
    go_wp2_with fail
    go_ret
    exact ⟨ret_bool HQ.out.symm, hB2⟩
  · have h1' : Gate.mendsOk l.ss l.ms = false := by simpa using h1
    have HQ : Hid (Gate.lawOk l = false) := by unfold Hid Gate.lawOk; rw [h1']; rfl
    have HM : Hid (Gate.mendsOkS l.ss l.ms = false) := by unfold Hid; rw [← Gate.mendsOk_same]; exact h1'
    clear h1 h1'
    go_enter Tryz.func17, Tryz.ntmps17
    go_wp2_with fail
    refine (as_bool HM.out (specMendsOk_any _ _ _ _ l.ss l.ms _ (HL.out.ss.mono ((Below.refl _ _).alloc (Nat.le_refl _) _)) (HL.out.ms.mono ((Below.refl _ _).alloc (Nat.le_refl _) _)))).mono ?_
    rintro e w1 ⟨rfl, hb⟩
    have hB1 : Below w.heap.size w w1 := ((Below.refl _ _).alloc (Nat.le_refl _) _).trans (hb.mono (by simp))
    clear hb
    go_wp2_with fail
    go_ret
    exact ⟨ret_bool HQ.out.symm, hB1⟩

end Go.Proofs.YtpmlngcljbkchaaGreat
