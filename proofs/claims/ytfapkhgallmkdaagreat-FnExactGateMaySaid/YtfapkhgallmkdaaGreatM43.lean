import Derived.Test.YtfapkhgallmkdaaGreatM36
import Derived.Test.YtfapkhgallmkdaaGreatM06
import Derived.DeepKeys4
import Derived.Test.YtfapkhgallmkdaaGreatM28
import Derived.Test.YtfapkhgallmkdaaGreatM04
import Derived.Test.YtfapkhgallmkdaaGreatM07
import Derived.Deep.CutRange
namespace Go.Proofs.YtfapkhgallmkdaaGreat
open Go.RowKit
def qB (a b : ByteArray) : Value := .agg #[.string a, .string b]
structure yF (w : World) (r : Nat) (f : ByteArray -> ByteArray -> Option Int) : Prop where
  ex : ∃ es clock, w.heap[r]? = some (.map es clock) /\ (∀ x ∈ es.toList, ∃ a b v, x.key = qB a b /\ a.size <= maxLen /\ b.size <= maxLen /\ x.val = .int .i64 v /\ f a b = some v) /\ (∀ a b v, f a b = some v -> ∃ x ∈ es.toList, x.key = qB a b) /\ ∀ (i j : Nat) (x y : MapEntry), es[i]? = some x -> es[j]? = some y -> x.key = y.key -> i = j
  stamps : ∀ es clock, w.heap[r]? = some (.map es clock) -> (∀ x ∈ es.toList, x.born < clock) /\ (es.toList.map (·.born)).Nodup
theorem yF.keep {w w' : World} {r : Nat} {f : ByteArray -> ByteArray -> Option Int} (h : yF w r f) (hb : w'.heap[r]? = w.heap[r]?) : yF w' r f := by
  obtain ⟨es, clock, h1, h2⟩ := h.ex
  exact ⟨⟨es, clock, hb.trans h1, h2⟩, fun es' c' h' => h.stamps es' c' (hb.symm.trans h')⟩
theorem yF.lt {w : World} {r : Nat} {f : ByteArray -> ByteArray -> Option Int} (h : yF w r f) : r < w.heap.size := by
  obtain ⟨es, clock, h1, _⟩ := h.ex
  exact (Array.getElem?_eq_some_iff.1 h1).1
theorem yF.mono {w w' : World} {r : Nat} {f : ByteArray -> ByteArray -> Option Int} (h : yF w r f) (hb : Below w.heap.size w w') : yF w' r f := h.keep (hb.block r h.lt)
structure zhb (kt : TypeId) : Prop where
  law : WideMaps.KeyLaw Tryz.prog kt
  key : ∀ a b : ByteArray, a.size <= maxLen -> b.size <= maxLen -> ∃ l, keyOf Tryz.prog kt (qB a b) = some l
theorem zlE (a b : ByteArray) (ha : a.size <= maxLen) (hb : b.size <= maxLen) : Tryz.prog.keyLits (Tryz.prog.types.size + 1) 217 [.string a, .string b] = some [.string a.data.toList, .string b.data.toList] := by
  have e : Tryz.prog.types.size = (Tryz.prog.types.size - 1) + 1 := by kernel_rfl
  rw [e]
  generalize Tryz.prog.types.size - 1 = n
  have c : Tryz.prog.cellsOf 217 = 2 := by kernel_rfl
  have cs : Tryz.prog.cellsOf 9 = 1 := by kernel_rfl
  simp [Program.keyLits, Tryz.underlying217, Tryz.underlying9, c, cs, ha, hb]
theorem zbU : zhb 217 := by
  refine ⟨deep_law_laid (m := 3) (by kernel_rfl) (by omega) (by decide +kernel) (by kernel_rfl) (by kernel_rfl), fun a b ha hb => ?_⟩
  have h1 : Tryz.prog.keyType 217 = true := by kernel_rfl
  have h2 : (qB a b).formed Tryz.prog 217 = true := by kernel_rfl
  have h3 : (qB a b).cells.toList = [.string a, .string b] := rfl
  refine ⟨.string (keyBytes [.string a.data.toList, .string b.data.toList]), ?_⟩
  · unfold keyOf
    rw [Tryz.underlying217]
    simp only [h1, h2, h3, Bool.and_self, if_true]
    rw [zlE a b ha hb]
    rfl
theorem zlH (a b : ByteArray) (ha : a.size <= maxLen) (hb : b.size <= maxLen) : Tryz.prog.keyLits (Tryz.prog.types.size + 1) 246 [.string a, .string b] = some [.string a.data.toList, .string b.data.toList] := by
  have e : Tryz.prog.types.size = (Tryz.prog.types.size - 1) + 1 := by kernel_rfl
  rw [e]
  generalize Tryz.prog.types.size - 1 = n
  have c : Tryz.prog.cellsOf 246 = 2 := by kernel_rfl
  have cs : Tryz.prog.cellsOf 9 = 1 := by kernel_rfl
  simp [Program.keyLits, Tryz.underlying246, Tryz.underlying9, c, cs, ha, hb]
theorem zhR : zhb 246 := by
  refine ⟨deep_law_laid (m := 3) (by kernel_rfl) (by omega) (by decide +kernel) (by kernel_rfl) (by kernel_rfl), fun a b ha hb => ?_⟩
  have h1 : Tryz.prog.keyType 246 = true := by kernel_rfl
  have h2 : (qB a b).formed Tryz.prog 246 = true := by kernel_rfl
  have h3 : (qB a b).cells.toList = [.string a, .string b] := rfl
  refine ⟨.string (keyBytes [.string a.data.toList, .string b.data.toList]), ?_⟩
  · unfold keyOf
    rw [Tryz.underlying246]
    simp only [h1, h2, h3, Bool.and_self, if_true]
    rw [zlH a b ha hb]
    rfl
section
variable {kt mt : TypeId} (K : zhb kt) (hm : Tryz.prog.underlying mt = some (.map kt 3))
include K hm
theorem yF.look {w : World} {r : Nat} {f : ByteArray -> ByteArray -> Option Int} (h : yF w r f) (a b : ByteArray) (ha : a.size <= maxLen) (hb : b.size <= maxLen) (ok : Bool) :
    (Instr.lookup mt (.map (some r)) (qB a b) ok).run Tryz.prog w = .ok (if ok then .tuple #[.int .i64 ((f a b).getD 0), .bool (f a b).isSome] else .int .i64 ((f a b).getD 0)) w := by
  obtain ⟨es, clock, hh, h1, h2, h3⟩ := h.ex
  obtain ⟨l, hl⟩ := K.key a b ha hb
  have hz : (zeroValue 3).run Tryz.prog w = .ok (.int .i64 0) w := by kernel_rfl
  have hkeys : ∀ e ∈ es.toList, ∃ l, keyOf Tryz.prog kt e.key = some l := fun e he => by
    obtain ⟨a', b', v, e1, ha', hb', _⟩ := h1 e he
    rw [e1]; exact K.key a' b' ha' hb'
  have hc := K.law.check w es.isEmpty hl
  rcases K.law.find w hl es.toList hkeys with ⟨g1, g2⟩ | ⟨j, e, g1, g2, g3⟩
  · have hn : f a b = none := by
      cases hf : f a b with
      | none => rfl
      | some v =>
        obtain ⟨x, hx, hk⟩ := h2 a b v hf
        exact absurd hk (g2 x hx)
    rw [hn]
    cases ok <;> simp [Instr.lookup, run_underlying hm, MapKept.run_getObj_map hh, hc, g1, hz, Result.andThen]
  · obtain ⟨a', b', v', e1, _, _, e2, e3⟩ := h1 e (List.mem_of_getElem? g2)
    rw [g3] at e1
    have hab : a = a' /\ b = b' := by unfold qB at e1; simpa using e1
    obtain ⟨rfl, rfl⟩ := hab
    rw [e3]
    rw [e2] at g1
    cases ok <;> simp [Instr.lookup, run_underlying hm, MapKept.run_getObj_map hh, hc, g1, Result.andThen]
theorem yF.upd {w : World} {r : Nat} {f : ByteArray -> ByteArray -> Option Int} (h : yF w r f) (a b : ByteArray) (ha : a.size <= maxLen) (hb : b.size <= maxLen) (v : Int) :
    ∃ w', (Instr.mapUpdate mt (.map (some r)) (qB a b) (.int .i64 v)).run Tryz.prog w = .ok () w' /\ yF w' r (fun p q => if p = a /\ q = b then some v else f p q) /\ zfD r w w' := by
  obtain ⟨es, clock, hh, h1, h2, h3⟩ := h.ex
  obtain ⟨l, hl⟩ := K.key a b ha hb
  have hkeys : ∀ e ∈ es.toList, ∃ l, keyOf Tryz.prog kt e.key = some l := fun e he => by
    obtain ⟨a', b', v, e1, ha', hb', _⟩ := h1 e he
    rw [e1]; exact K.key a' b' ha' hb'
  have hc := K.law.check w es.isEmpty hl
  have hs := K.law.stays w hl
  have inj : ∀ p q, qB p q = qB a b ↔ p = a /\ q = b := fun p q => by unfold qB; simp
  rcases K.law.find w hl es.toList hkeys with ⟨g1, g2⟩ | ⟨j, e, g1, g2, g3⟩
  · refine ⟨{ w with heap := w.heap.setIfInBounds r (.map (es.push ⟨qB a b, .int .i64 v, clock⟩) (clock + 1)) }, ?_, ⟨⟨_, _, (MapKept.heap_set hh).1, ?_, ?_, ?_⟩, ?_⟩, rfl, rfl, rfl, by simp, fun q hq => (MapKept.heap_set hh).2 q hq⟩
    · have hc' := K.law.check w false hl
      simp [Instr.mapUpdate, run_underlying hm, MapKept.run_getObj_map hh, hc', g1, MapKept.run_setObj_map _ hh, Result.andThen]
    · intro x hx
      rw [Array.toList_push, List.mem_append, List.mem_singleton] at hx
      rcases hx with hx | rfl
      · obtain ⟨a', b', v', e1, s1, s2, e2, e3⟩ := h1 x hx
        refine ⟨a', b', v', e1, s1, s2, e2, ?_⟩
        have : ¬ (a' = a /\ b' = b) := fun he => g2 x hx (e1.trans ((inj a' b').2 he))
        simp only [if_neg this]; exact e3
      · exact ⟨a, b, v, rfl, ha, hb, rfl, by simp⟩
    · intro p q u hq
      by_cases e : p = a /\ q = b
      · obtain ⟨rfl, rfl⟩ := e
        exact ⟨⟨qB p q, .int .i64 v, clock⟩, by simp, rfl⟩
      · rw [if_neg e] at hq
        obtain ⟨x, hx, hk⟩ := h2 p q u hq
        exact ⟨x, by simp [Array.toList_push]; exact Or.inl (by simpa using hx), hk⟩
    · intro i j' x y hx hy hxy
      rw [Array.getElem?_push] at hx hy
      by_cases e1 : i = es.size
      · by_cases e2 : j' = es.size
        · omega
        · rw [if_pos e1] at hx
          rw [if_neg e2] at hy
          have hm : y ∈ es.toList := by rw [<- Array.mem_def]; exact Array.mem_of_getElem? hy
          cases hx
          exact absurd hxy.symm (g2 y hm)
      · by_cases e2 : j' = es.size
        · rw [if_neg e1] at hx
          rw [if_pos e2] at hy
          have hm : x ∈ es.toList := by rw [<- Array.mem_def]; exact Array.mem_of_getElem? hx
          cases hy
          exact absurd hxy (g2 x hm)
        · rw [if_neg e1] at hx
          rw [if_neg e2] at hy
          exact h3 i j' x y hx hy hxy
    · intro es' c' h'
      rw [(MapKept.heap_set hh).1] at h'
      cases h'
      obtain ⟨s1, s2⟩ := h.stamps es clock hh
      refine ⟨fun x hx => ?_, ?_⟩
      · rw [Array.toList_push, List.mem_append, List.mem_singleton] at hx
        rcases hx with hx | rfl
        · have := s1 x hx; omega
        · exact Nat.lt_succ_self _
      · simp only [Array.toList_push, List.map_append, List.map_cons, List.map_nil]
        refine List.nodup_append.2 ⟨s2, by simp, fun a ha c hc e1 => ?_⟩
        simp only [List.mem_singleton] at hc
        obtain ⟨x, hx, rfl⟩ := List.mem_map.1 ha
        have := s1 x hx
        omega
  · have hj : es[j]? = some e := by simpa using g2
    have hj' : j < es.size := (Array.getElem?_eq_some_iff.1 hj).1
    refine ⟨{ w with heap := w.heap.setIfInBounds r (.map (es.modify j fun x => { x with key := qB a b, val := .int .i64 v }) clock) }, ?_, ⟨⟨_, _, (MapKept.heap_set hh).1, ?_, ?_, ?_⟩, ?_⟩, rfl, rfl, rfl, by simp, fun q hq => (MapKept.heap_set hh).2 q hq⟩
    · have hc' := K.law.check w false hl
      simp [Instr.mapUpdate, run_underlying hm, MapKept.run_getObj_map hh, hc', g1, hj, g3, hs, MapKept.run_setObj_map _ hh, Result.andThen]
    · intro x hx
      obtain ⟨i, hi, rfl⟩ := List.mem_iff_getElem.1 hx
      have hi' : i < es.size := by simpa using hi
      simp only [Array.getElem_toList, Array.getElem_modify]
      by_cases e' : j = i
      · subst e'
        simp only [if_true]
        exact ⟨a, b, v, rfl, ha, hb, rfl, by simp⟩
      · simp only [if_neg e']
        obtain ⟨a', b', v', e1, s1, s2, e2, e3⟩ := h1 es[i] (by simp)
        have ek : ¬ (a' = a /\ b' = b) := by
          intro he
          exact e' (h3 j i e es[i] hj (Array.getElem?_eq_getElem hi') (g3.trans (e1.trans ((inj a' b').2 he)).symm))
        exact ⟨a', b', v', e1, s1, s2, e2, by rw [if_neg ek]; exact e3⟩
    · intro p q u hq
      by_cases e' : p = a /\ q = b
      · obtain ⟨rfl, rfl⟩ := e'
        refine ⟨(es.modify j fun x => { x with key := qB p q, val := .int .i64 v })[j]'(by simpa using hj'), ?_, ?_⟩
        · rw [<- Array.mem_def]; exact Array.getElem_mem _
        · rw [Array.getElem_modify]; simp
      · rw [if_neg e'] at hq
        obtain ⟨x, hx, hk⟩ := h2 p q u hq
        obtain ⟨i, hi, rfl⟩ := List.mem_iff_getElem.1 hx
        have hi' : i < es.size := by simpa using hi
        refine ⟨(es.modify j fun x => { x with key := qB a b, val := .int .i64 v })[i]'(by simpa using hi'), ?_, ?_⟩
        · rw [<- Array.mem_def]; exact Array.getElem_mem _
        · rw [Array.getElem_modify]
          by_cases e2 : j = i
          · subst e2
            have hjj : es[j] = e := by
              have := Array.getElem?_eq_getElem hj'
              rw [hj] at this
              exact (Option.some.inj this).symm
            simp only [Array.getElem_toList] at hk
            rw [hjj, g3] at hk
            exact absurd ((inj p q).1 hk.symm) e'
          · rw [if_neg e2]; exact hk
    · have hkey : ∀ (i : Nat) (x : MapEntry), (es.modify j fun x => { x with key := qB a b, val := .int .i64 v })[i]? = some x -> ∃ y, es[i]? = some y /\ x.key = y.key := by
        intro i x hx
        obtain ⟨hi, rfl⟩ := Array.getElem?_eq_some_iff.1 hx
        have hi' : i < es.size := by simpa using hi
        refine ⟨es[i], Array.getElem?_eq_getElem hi', ?_⟩
        rw [Array.getElem_modify]
        by_cases e' : j = i
        · subst e'
          rw [Array.getElem?_eq_getElem hi'] at hj
          cases hj
          simp [g3]
        · rw [if_neg e']
      intro i j' x y hx hy hxy
      obtain ⟨x', hx', ex⟩ := hkey i x hx
      obtain ⟨y', hy', ey⟩ := hkey j' y hy
      exact h3 i j' x' y' hx' hy' (ex.symm.trans (hxy.trans ey))
    · intro es' c' h'
      rw [(MapKept.heap_set hh).1] at h'
      cases h'
      obtain ⟨s1, s2⟩ := h.stamps es clock hh
      have hb : (es.modify j fun x => { x with key := qB a b, val := .int .i64 v }).toList.map (·.born) = es.toList.map (·.born) := by
        apply List.ext_getElem?
        intro i
        simp only [Array.toList_modify, List.getElem?_map, List.getElem?_modify]
        by_cases e' : j = i
        · simp only [if_pos e']; cases es.toList[i]? <;> rfl
        · simp [if_neg e']
      refine ⟨fun x hx => ?_, by rw [hb]; exact s2⟩
      have h4 : x.born ∈ es.toList.map (·.born) := by rw [<- hb]; exact List.mem_map.2 ⟨x, hx, rfl⟩
      obtain ⟨y, hy, e5⟩ := List.mem_map.1 h4
      rw [<- e5]; exact s1 y hy
end
end Go.Proofs.YtfapkhgallmkdaaGreat

namespace Go.Proofs.YtfapkhgallmkdaaGreat
open Go.RowKit
theorem Gate.zi8 {a b : Int} : Gate.zcl a b < 0 ↔ a < b := by
  unfold Gate.zcl
  split
  · omega
  · split <;> omega
set_option maxRecDepth 20000 in
set_option maxHeartbeats 40000000 in
theorem zh7 (b : Bk) (a0 a1 a2 a3 : Option Addr) (c0 c1 c2 c3 : Nat) (w : World) (hb : qL w b a0 a1 a2 a3) :
    Calls Tryz.prog 49 #[.agg (b.cells a0 a1 a2 a3 c0 c1 c2 c3)] w fun e w' => e = .returned (.bool (Gate.yt b)) /\ Below w.heap.size w w' := by
  have HK := hid hb
  clear hb
  unfold Bk.cells
  go_enter Tryz.func49, Tryz.ntmps49
  go_upto_region 1 with fail
  refine zaW (fun W => Below w.heap.size w W /\ W.heap[w.heap.size]? = some (.cells (bC b a0 a1 a2 a3 c0 c1 c2 c3) 50)) ⟨(Below.refl _ _).alloc (Nat.le_refl _) _, (MapKept.heap_alloc w _).1⟩ ?_
  rintro W0 ⟨h01, h02⟩
  have HB : Hid (∀ W, Below W0.heap.size W0 W -> Below w.heap.size w W /\ (∀ j, W.cell? ⟨w.heap.size, j, none⟩ = (bC b a0 a1 a2 a3 c0 c1 c2 c3)[j]?)) := fun W h => ⟨h01.trans (h.mono h01.size), fun j => cell_of_block ((h.block _ (Array.getElem?_eq_some_iff.1 h02).1).trans h02)⟩
  clear h01 h02
  have cX := (HB.out W0 (Below.refl _ _)).2
  by_cases hln : b.gs.length <= 24
  rotate_left
  · have HF : Hid (Gate.yt b = false) := by unfold Hid Gate.yt; rw [decide_eq_false hln]; rfl
    have hg : (24 : Int) < (b.gs.length : Int) := by omega
    go_wp2_with fail
    go_ret
    exact ⟨ze HF.out.symm, (HB.out _ (Below.refl _ _)).1⟩
  have hg : decide ((24 : Int) < (b.gs.length : Int)) = false := by simp; omega
  have HLN := hid hln
  clear hln
  go_wp2_with fail
  clear hg cX
  go_loopg [3] b.gs.length (fun gn iv wr => ∃ k : Nat, k + gn = b.gs.length /\ iv = .int .i64 k /\ Hid ((b.gs.take k).all (Gate.yN b.given) = true /\ Gate.zak Gate.zbM b.gs k /\ Below W0.heap.size W0 wr))
  case atStart => exact ⟨0, by omega, rfl, by simp, fun i _ h => by omega, Below.refl _ _⟩
  case round =>
    obtain ⟨k, hk, rfl, HQ⟩ := hrel
    have hkn : k <= 24 := by have := HLN.out; omega
    have cX := (HB.out _ HQ.out.2.2).2
    have hstep : IntKind.i64.wrap ((k : Int) + 1) = ((k + 1 : Nat) : Int) := by rw [IntKind.wrap_i64]; omega
    by_cases hlt : k < b.gs.length
    · obtain ⟨g1, rfl⟩ : ∃ g, gk = g + 1 := ⟨gk - 1, by omega⟩
      obtain ⟨ob, off, v0, q0, rfl, hob, hsm, hi0, d0, d1, d2, d3, d4, d5, d6⟩ := HK.out.gs.load (HB.out _ HQ.out.2.2).1 k hlt
      have hltI : (k : Int) < (b.gs.length : Int) := by omega
      obtain ⟨v, hvE⟩ : ∃ v : Gr, ∀ h0 : 0 < k, v = b.gs[k - 1]'(by omega) := by
        by_cases h0 : 0 < k
        · exact ⟨b.gs[k - 1]'(by omega), fun _ => rfl⟩
        · exact ⟨b.gs[k], fun h => absurd h h0⟩
      have HNo : Hid (Gate.yN b.given b.gs[k] = false -> Gate.yt b = false) := fun h => by unfold Gate.yt; rw [Gate.jT _ _ _ hlt h]; simp
      have HNa : Hid (0 < k -> 0 <= Gate.zbM v b.gs[k] -> Gate.yt b = false) := fun h0 h => by unfold Gate.yt; rw [Gate.zc1 hlt h0 (Int.not_lt.2 (by rw [<- hvE h0]; exact h))]; simp
      have HYes : Hid (Gate.yN b.given b.gs[k] = true -> (0 < k -> Gate.zbM v b.gs[k] < 0) -> (b.gs.take (k + 1)).all (Gate.yN b.given) = true /\ Gate.zak Gate.zbM b.gs (k + 1)) := fun h h' => ⟨by rw [Gate.y7 _ _ _ hlt, HQ.out.1, h]; rfl, Gate.zd4 HQ.out.2.1 hlt (Gate.zg9 hlt fun h0 => by rw [<- hvE h0]; exact h' h0)⟩
      have HVC : Hid (∀ W, Below w.heap.size w W -> 0 < k -> W.cell? ⟨ob, off + (k - 1) * 7, none⟩ = some (.int .i64 v.no)) := fun W hW h0 => by
        obtain ⟨ob', off', v0', q0', e', -, -, -, e0, -⟩ := HK.out.gs.load hW (k - 1) (by omega)
        cases e'
        rw [hvE h0]
        exact e0
      obtain ⟨g, hgE⟩ : ∃ g, g = b.gs[k] := ⟨_, rfl⟩
      rw [<- hgE] at d0 d1 d2 d3 d4 d5 d6 hsm hi0 HNo HNa HYes
      have HSm := j4 hsm hi0
      clear hvE hob hgE hsm hi0
      go_upto_region 7 with fail
      refine zaW (fun W => Below wr.heap.size wr W /\ W.heap[wr.heap.size]? = some (.cells #[.int .i64 g.no, .string g.to, .string g.gb, .slice v0 g.r.vs.length q0, .string g.r.kd, .string g.r.tm, .string g.r.px] 124)) ⟨(Below.refl _ _).alloc (Nat.le_refl _) _, (MapKept.heap_alloc wr _).1⟩ ?_
      rintro W5 ⟨h51, h52⟩
      obtain ⟨kG, hkG⟩ : ∃ x, x = wr.heap.size := ⟨_, rfl⟩
      rw [<- hkG] at h52 ⊢
      have HV : Hid (∀ W, Below W5.heap.size W5 W -> ((∀ j, W.cell? ⟨w.heap.size, j, none⟩ = (bC b a0 (some ⟨ob, off, none⟩) a2 a3 c0 c1 c2 c3)[j]?) /\ (∀ j, W.cell? ⟨kG, j, none⟩ = (#[.int .i64 g.no, .string g.to, .string g.gb, .slice v0 g.r.vs.length q0, .string g.r.kd, .string g.r.tm, .string g.r.px] : Array Value)[j]?) /\ (0 < k -> W.cell? ⟨ob, off + (k - 1) * 7, none⟩ = some (.int .i64 v.no))) /\ Below W0.heap.size W0 W /\ yw W v0 g.r.vs) := fun W h => by
        have h5 := h51.trans (h.mono h51.size)
        have h6 := HQ.out.2.2.trans (h5.mono HQ.out.2.2.size)
        have hB := HB.out _ h6
        exact ⟨⟨hB.2, fun j => cell_of_block ((h.block _ (Array.getElem?_eq_some_iff.1 h52).1).trans h52), HVC.out _ hB.1⟩, h6, HSm.out.2.mono h5⟩
      obtain ⟨y1, hy1⟩ : ∃ x, x = (decide (1 <= g.no) && decide (g.no <= b.given)) := ⟨_, rfl⟩
      obtain ⟨x1, hx1⟩ : ∃ x, x = (!y1 || (decide (0 < k) && decide (g.no <= v.no))) := ⟨_, rfl⟩
      obtain ⟨x2, hx2⟩ : ∃ x, x = (x1 || !Gate.zy g.to) := ⟨_, rfl⟩
      obtain ⟨x3, hx3⟩ : ∃ x, x = (x2 || (!g.gb.toList.isEmpty && !Gate.zy g.gb)) := ⟨_, rfl⟩
      obtain ⟨x4, hx4⟩ : ∃ x, x = (x3 || !Gate.jF g.r) := ⟨_, rfl⟩
      have HX := znZ hy1 hx1 hx2 hx3 hx4
      have hkw : IntKind.i64.wrap ((k : Int) - 1) = (k : Int) - 1 := by rw [IntKind.wrap_i64]; omega
      have hki : decide (0 < k) = true -> 0 < k /\ (0 : Int) <= (k : Int) - 1 /\ (k : Int) - 1 < (b.gs.length : Int) /\ ((k : Int) - 1).toNat = k - 1 /\ (1 : Int) <= (k : Int) := fun h => by have h := of_decide_eq_true h; omega
      have HKI := hid hki
      have HD5 := hid (show Below W5.heap.size W5 W5.drew from (Below.refl _ _).drew)
      clear h51 h52 hkG d0 d1 d2 d3 d4 d5 d6 HVC hy1 hx1 hx2 hx3 hx4 cX hki
      refine wp_region_held_drew (S := fun W => (∀ j, W.cell? ⟨w.heap.size, j, none⟩ = (bC b a0 (some ⟨ob, off, none⟩) a2 a3 c0 c1 c2 c3)[j]?) /\ (∀ j, W.cell? ⟨kG, j, none⟩ = (#[.int .i64 g.no, .string g.to, .string g.gb, .slice v0 g.r.vs.length q0, .string g.r.kd, .string g.r.tm, .string g.r.px] : Array Value)[j]?) /\ (0 < k -> W.cell? ⟨ob, off + (k - 1) * 7, none⟩ = some (.int .i64 v.no))) (by kernel_rfl) (HV.out _ HD5.out).1 (fun hHeld => ?_)
      obtain ⟨V, hVe⟩ : ∃ x, x = W5.drew := ⟨_, rfl⟩
      rw [<- hVe] at HD5 hHeld ⊢
      clear hVe
      refine tG 0 ?_; refine tG 1 ?_; refine tG 2 ?_; refine tG 3 ?_
      refine cH 4 rfl fun K hK => ?_
      go_simp
      refine (zk HX.out.1.symm (jD _ _ _ _)).mono ?_
      rintro e w6 ⟨rfl, rfl⟩
      (try go_wp2_with fail)
      refine hK.out _ _ hHeld (fun hHeld => ?_)
      clear hK K
      (try simp only [Act.put, sA, s0, sS])
      refine tG 5 ?_; refine tG 6 ?_; refine sF 7 ?_; refine sF 8 ?_; refine sF 9 ?_; refine sFT 10 ?_; refine sFT 11 ?_; refine sFT 12 ?_; refine sFT 13 ?_
      refine sFT 14 ?_ (hy := by
        intro hg hx w hSw
        obtain ⟨-, h1, h2, h3, h4⟩ := HKI.out hx
        go_simp
        try with_reducible rfl)
      refine sFT 15 ?_
      refine sFT (v := .int .i64 v.no) 16 ?_ (hy := by
        intro hg hx w hSw
        obtain ⟨h0, h1, h2, h3, h4⟩ := HKI.out hx
        have e0 := hSw.2.2 h0
        go_simp)
      refine sFT 17 ?_; refine sFT 18 ?_; refine sFT 19 ?_
      refine sF (v := .bool (decide (0 < k) && decide (g.no <= v.no))) 20 ?_ (hy := by intro hg w hSw; cases h : decide (0 < k) <;> go_simp)
      refine tG (v := .bool x1) 21 ?_ (hy := by intro w hSw; rw [HX.out.2.1]; cases h : y1 <;> go_simp)
      refine tG 22 ?_; refine sF 23 ?_; refine sF 24 ?_
      refine cF 25 (.bool (Gate.zy g.to)) (fun W => Below W5.heap.size W5 W) (fun hg K hK => ?_) ?_ HD5.out
      · go_simp
        refine (zR _ _ HSm.out.1.to).mono ?_
        rintro e w6 ⟨rfl, rfl⟩
        (try go_wp2_with fail)
        first | exact ⟨rfl, hK.out _ hHeld HD5.out⟩ | exact hK.out _ hHeld HD5.out
      rintro w7 hw7 hHeld
      have HD6 := hid hw7
      clear hw7 HD5
      (try simp only [Act.put, sA, s0, sS])
      refine sF 26 ?_
      refine tG (v := .bool x2) 27 ?_ (hy := by intro w hSw; rw [HX.out.2.2.1]; cases h : x1 <;> go_simp)
      refine tG 28 ?_; refine sF 29 ?_; refine sF 30 ?_; refine sF 31 ?_; refine sF 32 ?_; refine sFT 33 ?_; refine sFT 34 ?_
      refine cFT 35 (.bool (Gate.zy g.gb)) (fun W => Below W5.heap.size W5 W) (fun hg hx K hK => ?_) ?_ HD6.out
      · go_simp
        refine (zR _ _ HSm.out.1.gb).mono ?_
        rintro e w6 ⟨rfl, rfl⟩
        (try go_wp2_with fail)
        first | exact ⟨rfl, hK.out _ hHeld HD6.out⟩ | exact hK.out _ hHeld HD6.out
      rintro w8 hw8 hHeld
      have HD7 := hid hw8
      clear hw8 HD6
      (try simp only [Act.put, sA, s0, sS])
      refine sFT 36 ?_
      refine sF (v := .bool (!g.gb.toList.isEmpty && !Gate.zy g.gb)) 37 ?_ (hy := by intro hg w hSw; cases h : g.gb.toList.isEmpty <;> go_simp)
      refine tG (v := .bool x3) 38 ?_ (hy := by intro w hSw; rw [HX.out.2.2.2.1]; cases h : x2 <;> go_simp)
      refine tG 39 ?_; refine sF 40 ?_; refine sF 41 ?_
      refine cF 42 (.bool (Gate.jF g.r)) (fun W => Below W5.heap.size W5 W) (fun hg K hK => ?_) ?_ HD7.out
      · go_simp
        refine (zkj g.r v0 q0 _ HSm.out.1.r (HV.out _ HD7.out).2.2).mono ?_
        rintro e w6 ⟨rfl, hb6⟩
        (try go_wp2_with fail)
        have hb6 := HD7.out.trans (hb6.mono HD7.out.size)
        first | exact ⟨rfl, hK.out _ (HV.out _ hb6).1 hb6⟩ | exact hK.out _ (HV.out _ hb6).1 hb6
      rintro w9 hw9 hHeld
      have HD8 := hid hw9
      clear hw9 HD7
      (try simp only [Act.put, sA, s0, sS])
      refine sF 43 ?_
      refine tG (v := .bool x4) 44 ?_ (hy := by intro w hSw; rw [HX.out.2.2.2.2]; cases h : x3 <;> go_simp)
      refine wpAnyH_done (by kernel_rfl) ?_ _
      clear hHeld HKI
      have HGA : Hid (x4 = (!Gate.yN b.given g || (decide (0 < k) && decide (g.no <= v.no)))) := by
        unfold Hid Gate.yN Gate.within
        rw [HX.out.2.2.2.2, HX.out.2.2.2.1, HX.out.2.2.1, HX.out.2.1, HX.out.1]
        cases (decide (1 <= g.no) && decide (g.no <= b.given)) <;> cases (decide (0 < k) && decide (g.no <= v.no)) <;> cases Gate.zy g.to <;> cases g.gb.toList.isEmpty <;> cases Gate.zy g.gb <;> cases Gate.jF g.r <;> rfl
      have HR9 := hid (HV.out _ HD8.out).2.1
      cases x4 with
      | true =>
        have HF : Hid (Gate.yt b = false) := by
          cases hq : Gate.yN b.given g with
          | false => exact HNo.out hq
          | true =>
            have h := HGA.out.symm
            rw [hq] at h
            simp only [Bool.not_true, Bool.false_or, Bool.and_eq_true, decide_eq_true_eq] at h
            exact HNa.out h.1 (Int.not_lt.1 fun h2 => by have := Gate.zi8.1 h2; omega)
        go_wp2_with fail
        go_ret
        exact ⟨ze HF.out.symm, (HB.out _ HR9.out).1⟩
      | false =>
        have HY : Hid ((b.gs.take (k + 1)).all (Gate.yN b.given) = true /\ Gate.zak Gate.zbM b.gs (k + 1)) := by
          have h := HGA.out.symm
          simp only [Bool.or_eq_false_iff, Bool.not_eq_false'] at h
          refine HYes.out h.1 fun h0 => ?_
          have h2 := h.2
          rw [decide_eq_true h0, Bool.true_and] at h2
          exact Gate.zi8.2 (Int.not_le.1 (of_decide_eq_false h2))
        go_wp2_with fail
        go_roundg g1
        case measure => omega
        case rel => exact ⟨k + 1, by omega, rfl, HY.out.1, HY.out.2, HR9.out⟩
    · have e : k = b.gs.length := by omega
      subst e
      have HE : Hid (Gate.yt b = true) := by
        unfold Hid Gate.yt
        rw [Gate.zez HQ.out.2.1 (Nat.le_refl _), decide_eq_true HLN.out]
        have := HQ.out.1
        rw [List.take_of_length_le (Nat.le_refl _)] at this
        rw [this]; rfl
      have HR := hid (HB.out _ HQ.out.2.2).1
      clear HQ hlt hk
      go_wp2_with fail
      go_ret
      exact ⟨ze HE.out.symm, HR.out⟩
end Go.Proofs.YtfapkhgallmkdaaGreat
