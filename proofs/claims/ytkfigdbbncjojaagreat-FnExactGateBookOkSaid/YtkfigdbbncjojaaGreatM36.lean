import Derived.Test.YtkfigdbbncjojaaGreatM08
import Derived.Test.YtkfigdbbncjojaaGreatM05
import Derived.Test.YtkfigdbbncjojaaGreatM01
import Derived.Test.YtkfigdbbncjojaaGreatM03
import Derived.Deep.OwnRows
import Derived.MapKept
import Derived.Test.YtkfigdbbncjojaaGreatM34
namespace Go.Proofs.YtkfigdbbncjojaaGreat
open Go.RowKit
theorem zn3 {fs : List Fld} (h : zaS fs) : ∀ f ∈ fs, f.df.size <= maxLen := by
  intro f hf
  obtain ⟨i, hi, rfl⟩ := List.mem_iff_getElem.1 hf
  exact (h.small i hi).1.df
theorem zlr {ss : List Shp} {o : Ob} (hs : zcf ss) (ho : ∀ s ∈ o.vs, s.size <= maxLen) : ∀ s ∈ Gate.zgC ss o, s.size <= maxLen := by
  unfold Gate.zgC
  split
  · rename_i h
    have hf : zaS (Gate.shapeOf ss o.kd).fs := by
      obtain ⟨hk, _, _⟩ := h
      unfold Gate.zC at hk
      rw [List.any_eq_true] at hk
      obtain ⟨x, hx, he⟩ := hk
      unfold Gate.shapeOf
      cases hfi : ss.find? (fun s => decide (s.kd = o.kd)) with
      | none => rw [List.find?_eq_none] at hfi; exact absurd he (hfi x hx)
      | some y =>
        obtain ⟨i, hi, rfl⟩ := List.mem_iff_getElem.1 (List.mem_of_find?_eq_some hfi)
        exact (hs.small i hi).2.2
    intro s hm
    obtain ⟨i, hi, rfl⟩ := List.mem_iff_getElem.1 hm
    have hl := Gate.yR h.2.2
    have e : (Gate.jg (Gate.shapeOf ss o.kd).fs o.vs)[i] = Gate.jy ((Gate.shapeOf ss o.kd).fs[i]'(by have := h.2.2; omega)) (o.vs[i]'(by omega)) := by simp [Gate.jg]
    rw [e]
    unfold Gate.jy
    split
    · exact zn3 hf _ (List.getElem_mem _)
    · exact ho _ (List.getElem_mem _)
  · exact ho
end Go.Proofs.YtkfigdbbncjojaaGreat
