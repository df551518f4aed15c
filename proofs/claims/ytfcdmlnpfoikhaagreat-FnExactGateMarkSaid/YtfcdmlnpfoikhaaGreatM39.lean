import Derived.Test.YtfcdmlnpfoikhaaGreatM35
import Derived.Test.YtfcdmlnpfoikhaaGreatM03
import Derived.DeepKeys4
namespace Go.Proofs.YtfcdmlnpfoikhaaGreat
open Go.RowKit
def y7 (a b : ByteArray) : Value := .agg #[.string a, .string b]
structure yc (w : World) (r : Nat) (f : ByteArray -> ByteArray -> Option Int) : Prop where
  ex : ∃ es clock, w.heap[r]? = some (.map es clock) /\ (∀ x ∈ es.toList, ∃ a b v, x.key = y7 a b /\ a.size <= maxLen /\ b.size <= maxLen /\ x.val = .int .i64 v /\ f a b = some v) /\ (∀ a b v, f a b = some v -> ∃ x ∈ es.toList, x.key = y7 a b) /\ ∀ (i j : Nat) (x y : MapEntry), es[i]? = some x -> es[j]? = some y -> x.key = y.key -> i = j
  stamps : ∀ es clock, w.heap[r]? = some (.map es clock) -> (∀ x ∈ es.toList, x.born < clock) /\ (es.toList.map (·.born)).Nodup
theorem yc.keep {w w' : World} {r : Nat} {f : ByteArray -> ByteArray -> Option Int} (h : yc w r f) (hb : w'.heap[r]? = w.heap[r]?) : yc w' r f := by
  obtain ⟨es, clock, h1, h2⟩ := h.ex
  exact ⟨⟨es, clock, hb.trans h1, h2⟩, fun es' c' h' => h.stamps es' c' (hb.symm.trans h')⟩
theorem yc.lt {w : World} {r : Nat} {f : ByteArray -> ByteArray -> Option Int} (h : yc w r f) : r < w.heap.size := by
  obtain ⟨es, clock, h1, _⟩ := h.ex
  exact (Array.getElem?_eq_some_iff.1 h1).1
theorem yc.mono {w w' : World} {r : Nat} {f : ByteArray -> ByteArray -> Option Int} (h : yc w r f) (hb : Below w.heap.size w w') : yc w' r f := h.keep (hb.block r h.lt)
structure zhy (kt : TypeId) : Prop where
  law : WideMaps.KeyLaw Tryz.prog kt
  key : ∀ a b : ByteArray, a.size <= maxLen -> b.size <= maxLen -> ∃ l, keyOf Tryz.prog kt (y7 a b) = some l
theorem zlW (a b : ByteArray) (ha : a.size <= maxLen) (hb : b.size <= maxLen) : Tryz.prog.keyLits (Tryz.prog.types.size + 1) 223 [.string a, .string b] = some [.string a.data.toList, .string b.data.toList] := by
  have e : Tryz.prog.types.size = (Tryz.prog.types.size - 1) + 1 := by kernel_rfl
  rw [e]
  generalize Tryz.prog.types.size - 1 = n
  have c : Tryz.prog.cellsOf 223 = 2 := by kernel_rfl
  have cs : Tryz.prog.cellsOf 9 = 1 := by kernel_rfl
  simp [Program.keyLits, Tryz.underlying223, Tryz.underlying9, c, cs, ha, hb]
theorem zbX : zhy 223 := by
  refine ⟨deep_law_laid (m := 3) (by kernel_rfl) (by omega) (by decide +kernel) (by kernel_rfl) (by kernel_rfl), fun a b ha hb => ?_⟩
  have h1 : Tryz.prog.keyType 223 = true := by kernel_rfl
  have h2 : (y7 a b).formed Tryz.prog 223 = true := by kernel_rfl
  have h3 : (y7 a b).cells.toList = [.string a, .string b] := rfl
  refine ⟨.string (keyBytes [.string a.data.toList, .string b.data.toList]), ?_⟩
  · unfold keyOf
    rw [Tryz.underlying223]
    simp only [h1, h2, h3, Bool.and_self, if_true]
    rw [zlW a b ha hb]
    rfl
theorem zlZ (a b : ByteArray) (ha : a.size <= maxLen) (hb : b.size <= maxLen) : Tryz.prog.keyLits (Tryz.prog.types.size + 1) 171 [.string a, .string b] = some [.string a.data.toList, .string b.data.toList] := by
  have e : Tryz.prog.types.size = (Tryz.prog.types.size - 1) + 1 := by kernel_rfl
  rw [e]
  generalize Tryz.prog.types.size - 1 = n
  have c : Tryz.prog.cellsOf 171 = 2 := by kernel_rfl
  have cs : Tryz.prog.cellsOf 9 = 1 := by kernel_rfl
  simp [Program.keyLits, Tryz.underlying171, Tryz.underlying9, c, cs, ha, hb]
theorem zc6 : zhy 171 := by
  refine ⟨deep_law_laid (m := 3) (by kernel_rfl) (by omega) (by decide +kernel) (by kernel_rfl) (by kernel_rfl), fun a b ha hb => ?_⟩
  have h1 : Tryz.prog.keyType 171 = true := by kernel_rfl
  have h2 : (y7 a b).formed Tryz.prog 171 = true := by kernel_rfl
  have h3 : (y7 a b).cells.toList = [.string a, .string b] := rfl
  refine ⟨.string (keyBytes [.string a.data.toList, .string b.data.toList]), ?_⟩
  · unfold keyOf
    rw [Tryz.underlying171]
    simp only [h1, h2, h3, Bool.and_self, if_true]
    rw [zlZ a b ha hb]
    rfl
section
variable {kt mt : TypeId} (K : zhy kt) (hm : Tryz.prog.underlying mt = some (.map kt 3))
include K hm
theorem yc.look {w : World} {r : Nat} {f : ByteArray -> ByteArray -> Option Int} (h : yc w r f) (a b : ByteArray) (ha : a.size <= maxLen) (hb : b.size <= maxLen) (ok : Bool) :
    (Instr.lookup mt (.map (some r)) (y7 a b) ok).run Tryz.prog w = .ok (if ok then .tuple #[.int .i64 ((f a b).getD 0), .bool (f a b).isSome] else .int .i64 ((f a b).getD 0)) w := by
  obtain ⟨es, clock, hh, h1, h2, h3⟩ := h.ex
  obtain ⟨l, hl⟩ := K.key a b ha hb
  have hz : (zeroValue 3).run Tryz.prog w = .ok (.int .i64 0) w := by kernel_rfl
  have hkeys : ∀ e ∈ es.toList, ∃ l, keyOf Tryz.prog kt e.key = some l := fun e he => by
    obtain ⟨a', b', v, e1, ha', hb', _⟩ := h1 e he
    rw [e1]; exact K.key a' b' ha' hb'
  have hc := K.law.check w es.isEmpty hl
  rcases K.law.find w hl es.toList hkeys with ⟨g1, g2⟩ | ⟨j, e, g1, g2, g3⟩
  · have hn : f a b = none := by
      cases hf : f a b with
      | none => rfl
      | some v =>
        obtain ⟨x, hx, hk⟩ := h2 a b v hf
        exact absurd hk (g2 x hx)
    rw [hn]
    cases ok <;> simp [Instr.lookup, run_underlying hm, MapKept.run_getObj_map hh, hc, g1, hz, Result.andThen]
  · obtain ⟨a', b', v', e1, _, _, e2, e3⟩ := h1 e (List.mem_of_getElem? g2)
    rw [g3] at e1
    have hab : a = a' /\ b = b' := by unfold y7 at e1; simpa using e1
    obtain ⟨rfl, rfl⟩ := hab
    rw [e3]
    rw [e2] at g1
    cases ok <;> simp [Instr.lookup, run_underlying hm, MapKept.run_getObj_map hh, hc, g1, Result.andThen]
theorem yc.upd {w : World} {r : Nat} {f : ByteArray -> ByteArray -> Option Int} (h : yc w r f) (a b : ByteArray) (ha : a.size <= maxLen) (hb : b.size <= maxLen) (v : Int) :
    ∃ w', (Instr.mapUpdate mt (.map (some r)) (y7 a b) (.int .i64 v)).run Tryz.prog w = .ok () w' /\ yc w' r (fun p q => if p = a /\ q = b then some v else f p q) /\ zfU r w w' := by
  obtain ⟨es, clock, hh, h1, h2, h3⟩ := h.ex
  obtain ⟨l, hl⟩ := K.key a b ha hb
  have hkeys : ∀ e ∈ es.toList, ∃ l, keyOf Tryz.prog kt e.key = some l := fun e he => by
    obtain ⟨a', b', v, e1, ha', hb', _⟩ := h1 e he
    rw [e1]; exact K.key a' b' ha' hb'
  have hc := K.law.check w es.isEmpty hl
  have hs := K.law.stays w hl
  have inj : ∀ p q, y7 p q = y7 a b ↔ p = a /\ q = b := fun p q => by unfold y7; simp
  rcases K.law.find w hl es.toList hkeys with ⟨g1, g2⟩ | ⟨j, e, g1, g2, g3⟩
  · refine ⟨{ w with heap := w.heap.setIfInBounds r (.map (es.push ⟨y7 a b, .int .i64 v, clock⟩) (clock + 1)) }, ?_, ⟨⟨_, _, (MapKept.heap_set hh).1, ?_, ?_, ?_⟩, ?_⟩, rfl, rfl, rfl, by simp, fun q hq => (MapKept.heap_set hh).2 q hq⟩
    · have hc' := K.law.check w false hl
      simp [Instr.mapUpdate, run_underlying hm, MapKept.run_getObj_map hh, hc', g1, MapKept.run_setObj_map _ hh, Result.andThen]
    · intro x hx
      rw [Array.toList_push, List.mem_append, List.mem_singleton] at hx
      rcases hx with hx | rfl
      · obtain ⟨a', b', v', e1, s1, s2, e2, e3⟩ := h1 x hx
        refine ⟨a', b', v', e1, s1, s2, e2, ?_⟩
        have : ¬ (a' = a /\ b' = b) := fun he => g2 x hx (e1.trans ((inj a' b').2 he))
        simp only [if_neg this]; exact e3
      · exact ⟨a, b, v, rfl, ha, hb, rfl, by simp⟩
    · intro p q u hq
      by_cases e : p = a /\ q = b
      · obtain ⟨rfl, rfl⟩ := e
        exact ⟨⟨y7 p q, .int .i64 v, clock⟩, by simp, rfl⟩
      · rw [if_neg e] at hq
        obtain ⟨x, hx, hk⟩ := h2 p q u hq
        exact ⟨x, by simp [Array.toList_push]; exact Or.inl (by simpa using hx), hk⟩
    · intro i j' x y hx hy hxy
      rw [Array.getElem?_push] at hx hy
      by_cases e1 : i = es.size
      · by_cases e2 : j' = es.size
        · omega
        · rw [if_pos e1] at hx
          rw [if_neg e2] at hy
          have hm : y ∈ es.toList := by rw [<- Array.mem_def]; exact Array.mem_of_getElem? hy
          cases hx
          exact absurd hxy.symm (g2 y hm)
      · by_cases e2 : j' = es.size
        · rw [if_neg e1] at hx
          rw [if_pos e2] at hy
          have hm : x ∈ es.toList := by rw [<- Array.mem_def]; exact Array.mem_of_getElem? hx
          cases hy
          exact absurd hxy (g2 x hm)
        · rw [if_neg e1] at hx
          rw [if_neg e2] at hy
          exact h3 i j' x y hx hy hxy
    · intro es' c' h'
      rw [(MapKept.heap_set hh).1] at h'
      cases h'
      obtain ⟨s1, s2⟩ := h.stamps es clock hh
      refine ⟨fun x hx => ?_, ?_⟩
      · rw [Array.toList_push, List.mem_append, List.mem_singleton] at hx
        rcases hx with hx | rfl
        · have := s1 x hx; omega
        · exact Nat.lt_succ_self _
      · simp only [Array.toList_push, List.map_append, List.map_cons, List.map_nil]
        refine List.nodup_append.2 ⟨s2, by simp, fun a ha c hc e1 => ?_⟩
        simp only [List.mem_singleton] at hc
        obtain ⟨x, hx, rfl⟩ := List.mem_map.1 ha
        have := s1 x hx
        omega
  · have hj : es[j]? = some e := by simpa using g2
    have hj' : j < es.size := (Array.getElem?_eq_some_iff.1 hj).1
    refine ⟨{ w with heap := w.heap.setIfInBounds r (.map (es.modify j fun x => { x with key := y7 a b, val := .int .i64 v }) clock) }, ?_, ⟨⟨_, _, (MapKept.heap_set hh).1, ?_, ?_, ?_⟩, ?_⟩, rfl, rfl, rfl, by simp, fun q hq => (MapKept.heap_set hh).2 q hq⟩
    · have hc' := K.law.check w false hl
      simp [Instr.mapUpdate, run_underlying hm, MapKept.run_getObj_map hh, hc', g1, hj, g3, hs, MapKept.run_setObj_map _ hh, Result.andThen]
    · intro x hx
      obtain ⟨i, hi, rfl⟩ := List.mem_iff_getElem.1 hx
      have hi' : i < es.size := by simpa using hi
      simp only [Array.getElem_toList, Array.getElem_modify]
      by_cases e' : j = i
      · subst e'
        simp only [if_true]
        exact ⟨a, b, v, rfl, ha, hb, rfl, by simp⟩
      · simp only [if_neg e']
        obtain ⟨a', b', v', e1, s1, s2, e2, e3⟩ := h1 es[i] (by simp)
        have ek : ¬ (a' = a /\ b' = b) := by
          intro he
          exact e' (h3 j i e es[i] hj (Array.getElem?_eq_getElem hi') (g3.trans (e1.trans ((inj a' b').2 he)).symm))
        exact ⟨a', b', v', e1, s1, s2, e2, by rw [if_neg ek]; exact e3⟩
    · intro p q u hq
      by_cases e' : p = a /\ q = b
      · obtain ⟨rfl, rfl⟩ := e'
        refine ⟨(es.modify j fun x => { x with key := y7 p q, val := .int .i64 v })[j]'(by simpa using hj'), ?_, ?_⟩
        · rw [<- Array.mem_def]; exact Array.getElem_mem _
        · rw [Array.getElem_modify]; simp
      · rw [if_neg e'] at hq
        obtain ⟨x, hx, hk⟩ := h2 p q u hq
        obtain ⟨i, hi, rfl⟩ := List.mem_iff_getElem.1 hx
        have hi' : i < es.size := by simpa using hi
        refine ⟨(es.modify j fun x => { x with key := y7 a b, val := .int .i64 v })[i]'(by simpa using hi'), ?_, ?_⟩
        · rw [<- Array.mem_def]; exact Array.getElem_mem _
        · rw [Array.getElem_modify]
          by_cases e2 : j = i
          · subst e2
            have hjj : es[j] = e := by
              have := Array.getElem?_eq_getElem hj'
              rw [hj] at this
              exact (Option.some.inj this).symm
            simp only [Array.getElem_toList] at hk
            rw [hjj, g3] at hk
            exact absurd ((inj p q).1 hk.symm) e'
          · rw [if_neg e2]; exact hk
    · have hkey : ∀ (i : Nat) (x : MapEntry), (es.modify j fun x => { x with key := y7 a b, val := .int .i64 v })[i]? = some x -> ∃ y, es[i]? = some y /\ x.key = y.key := by
        intro i x hx
        obtain ⟨hi, rfl⟩ := Array.getElem?_eq_some_iff.1 hx
        have hi' : i < es.size := by simpa using hi
        refine ⟨es[i], Array.getElem?_eq_getElem hi', ?_⟩
        rw [Array.getElem_modify]
        by_cases e' : j = i
        · subst e'
          rw [Array.getElem?_eq_getElem hi'] at hj
          cases hj
          simp [g3]
        · rw [if_neg e']
      intro i j' x y hx hy hxy
      obtain ⟨x', hx', ex⟩ := hkey i x hx
      obtain ⟨y', hy', ey⟩ := hkey j' y hy
      exact h3 i j' x' y' hx' hy' (ex.symm.trans (hxy.trans ey))
    · intro es' c' h'
      rw [(MapKept.heap_set hh).1] at h'
      cases h'
      obtain ⟨s1, s2⟩ := h.stamps es clock hh
      have hb : (es.modify j fun x => { x with key := y7 a b, val := .int .i64 v }).toList.map (·.born) = es.toList.map (·.born) := by
        apply List.ext_getElem?
        intro i
        simp only [Array.toList_modify, List.getElem?_map, List.getElem?_modify]
        by_cases e' : j = i
        · simp only [if_pos e']; cases es.toList[i]? <;> rfl
        · simp [if_neg e']
      refine ⟨fun x hx => ?_, by rw [hb]; exact s2⟩
      have h4 : x.born ∈ es.toList.map (·.born) := by rw [<- hb]; exact List.mem_map.2 ⟨x, hx, rfl⟩
      obtain ⟨y, hy, e5⟩ := List.mem_map.1 h4
      rw [<- e5]; exact s1 y hy
end
end Go.Proofs.YtfcdmlnpfoikhaaGreat
