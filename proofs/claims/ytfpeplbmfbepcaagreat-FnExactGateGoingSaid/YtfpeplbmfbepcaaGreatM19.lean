import Derived.Test.YtfpeplbmfbepcaaGreatM15
namespace Go.Proofs.YtfpeplbmfbepcaaGreat
open Go.RowKit
theorem Gate.zfm (s : ByteArray) : s.toList.isEmpty = true \/ (s.toList.isEmpty = false /\ Hid (Gate.zy s = true)) \/ (s.toList.isEmpty = false /\ Hid (Gate.zy s = false)) := by
  by_cases h : s.toList.isEmpty = true
  · exact Or.inl h
  · by_cases h2 : Gate.zy s = true
    · exact Or.inr (Or.inl ⟨by simpa using h, h2⟩)
    · exact Or.inr (Or.inr ⟨by simpa using h, by simpa [Hid] using h2⟩)
set_option maxHeartbeats 2000000 in
theorem zn1 (r : Rl) (a : Option Addr) (cap : Nat) (w : World) (hm : r.Small) (hw : yM w a r.vs) :
    Calls Tryz.prog 157 #[.agg (r.cells a cap)] w fun e w' => e = .returned (.bool (Gate.zac r)) /\ Below w.heap.size w w' := by
  have hskd := hm.kd
  have hstm := hm.tm
  have hspx := hm.px
  have hpx := hm.px
  unfold maxLen at hpx
  unfold Rl.cells
  have HB : Hid (∀ ob, Below w.heap.size w (w.alloc ob)) := fun ob => (Below.refl _ _).alloc (Nat.le_refl _) _
  have HI : Hid (∀ ob, yM (w.alloc ob) a r.vs) := fun ob => hw.mono (HB.out ob)
  clear hw hm
  rcases Gate.zfm r.kd with hk | ⟨hk, HK⟩ | ⟨hk, HK⟩ <;> rcases Gate.zfm r.tm with ht | ⟨ht, HT⟩ | ⟨ht, HT⟩ <;> cases hv : Gate.zbF r.vs <;> by_cases h16 : r.px.size <= 16
  all_goals
    have HV := hid hv
    have HS := hid h16
    clear hv
    first
      | (have h16I : (r.px.size : Int) <= 16 := by omega)
      | (have h16I : decide ((r.px.size : Int) <= 16) = false := by simp; omega)
    clear h16
    go_enter Tryz.func157, Tryz.ntmps157
    go_wp2_with (first | (go_at_call_of 145 (Value.string r.kd); refine (zw HK.out (zR r.kd _ hskd)).mono ?_; rintro e w' ⟨rfl, rfl⟩) | (go_at_call_of 145 (Value.string r.tm); refine (zw HT.out (zR r.tm _ hstm)).mono ?_; rintro e w' ⟨rfl, rfl⟩) | (go_at_call 199; refine (zw HV.out (zkY _ _ r.vs _ (by exact HI.out _))).mono ?_; rintro e w' ⟨rfl, rfl⟩) | (go_at_call 189; refine (zbT r.px _ hspx).mono ?_; rintro e w' ⟨rfl, rfl⟩))
    go_ret
    refine ⟨ze ?_, HB.out _⟩
    unfold Gate.zac Gate.zdf
    (try rw [HK.out])
    (try rw [HT.out])
    simp [HV.out, hk, ht, HS.out]
end Go.Proofs.YtfpeplbmfbepcaaGreat
