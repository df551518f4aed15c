import Derived.Test.YtfpeplbmfbepcaaGreatM36
import Derived.Test.YtfpeplbmfbepcaaGreatM05
import Derived.DeepKeys4
namespace Go.Proofs.YtfpeplbmfbepcaaGreat
open Go.RowKit
def yO (a b : ByteArray) : Value := .agg #[.string a, .string b]
structure zN (w : World) (r : Nat) (f : ByteArray -> ByteArray -> Option Int) : Prop where
  ex : ∃ es clock, w.heap[r]? = some (.map es clock) /\ (∀ x ∈ es.toList, ∃ a b v, x.key = yO a b /\ a.size <= maxLen /\ b.size <= maxLen /\ x.val = .int .i64 v /\ f a b = some v) /\ (∀ a b v, f a b = some v -> ∃ x ∈ es.toList, x.key = yO a b) /\ ∀ (i j : Nat) (x y : MapEntry), es[i]? = some x -> es[j]? = some y -> x.key = y.key -> i = j
  stamps : ∀ es clock, w.heap[r]? = some (.map es clock) -> (∀ x ∈ es.toList, x.born < clock) /\ (es.toList.map (·.born)).Nodup
theorem zN.keep {w w' : World} {r : Nat} {f : ByteArray -> ByteArray -> Option Int} (h : zN w r f) (hb : w'.heap[r]? = w.heap[r]?) : zN w' r f := by
  obtain ⟨es, clock, h1, h2⟩ := h.ex
  exact ⟨⟨es, clock, hb.trans h1, h2⟩, fun es' c' h' => h.stamps es' c' (hb.symm.trans h')⟩
theorem zN.lt {w : World} {r : Nat} {f : ByteArray -> ByteArray -> Option Int} (h : zN w r f) : r < w.heap.size := by
  obtain ⟨es, clock, h1, _⟩ := h.ex
  exact (Array.getElem?_eq_some_iff.1 h1).1
theorem zN.mono {w w' : World} {r : Nat} {f : ByteArray -> ByteArray -> Option Int} (h : zN w r f) (hb : Below w.heap.size w w') : zN w' r f := h.keep (hb.block r h.lt)
structure zh3 (kt : TypeId) : Prop where
  law : WideMaps.KeyLaw Tryz.prog kt
  key : ∀ a b : ByteArray, a.size <= maxLen -> b.size <= maxLen -> ∃ l, keyOf Tryz.prog kt (yO a b) = some l
theorem zmR (a b : ByteArray) (ha : a.size <= maxLen) (hb : b.size <= maxLen) : Tryz.prog.keyLits (Tryz.prog.types.size + 1) 229 [.string a, .string b] = some [.string a.data.toList, .string b.data.toList] := by
  have e : Tryz.prog.types.size = (Tryz.prog.types.size - 1) + 1 := by kernel_rfl
  rw [e]
  generalize Tryz.prog.types.size - 1 = n
  have c : Tryz.prog.cellsOf 229 = 2 := by kernel_rfl
  have cs : Tryz.prog.cellsOf 9 = 1 := by kernel_rfl
  simp [Program.keyLits, Tryz.underlying229, Tryz.underlying9, c, cs, ha, hb]
theorem zcb : zh3 229 := by
  refine ⟨deep_law_laid (m := 3) (by kernel_rfl) (by omega) (by decide +kernel) (by kernel_rfl) (by kernel_rfl), fun a b ha hb => ?_⟩
  have h1 : Tryz.prog.keyType 229 = true := by kernel_rfl
  have h2 : (yO a b).formed Tryz.prog 229 = true := by kernel_rfl
  have h3 : (yO a b).cells.toList = [.string a, .string b] := rfl
  refine ⟨.string (keyBytes [.string a.data.toList, .string b.data.toList]), ?_⟩
  · unfold keyOf
    rw [Tryz.underlying229]
    simp only [h1, h2, h3, Bool.and_self, if_true]
    rw [zmR a b ha hb]
    rfl
theorem zmU (a b : ByteArray) (ha : a.size <= maxLen) (hb : b.size <= maxLen) : Tryz.prog.keyLits (Tryz.prog.types.size + 1) 178 [.string a, .string b] = some [.string a.data.toList, .string b.data.toList] := by
  have e : Tryz.prog.types.size = (Tryz.prog.types.size - 1) + 1 := by kernel_rfl
  rw [e]
  generalize Tryz.prog.types.size - 1 = n
  have c : Tryz.prog.cellsOf 178 = 2 := by kernel_rfl
  have cs : Tryz.prog.cellsOf 9 = 1 := by kernel_rfl
  simp [Program.keyLits, Tryz.underlying178, Tryz.underlying9, c, cs, ha, hb]
theorem zat : zh3 178 := by
  refine ⟨deep_law_laid (m := 3) (by kernel_rfl) (by omega) (by decide +kernel) (by kernel_rfl) (by kernel_rfl), fun a b ha hb => ?_⟩
  have h1 : Tryz.prog.keyType 178 = true := by kernel_rfl
  have h2 : (yO a b).formed Tryz.prog 178 = true := by kernel_rfl
  have h3 : (yO a b).cells.toList = [.string a, .string b] := rfl
  refine ⟨.string (keyBytes [.string a.data.toList, .string b.data.toList]), ?_⟩
  · unfold keyOf
    rw [Tryz.underlying178]
    simp only [h1, h2, h3, Bool.and_self, if_true]
    rw [zmU a b ha hb]
    rfl
section
variable {kt mt : TypeId} (K : zh3 kt) (hm : Tryz.prog.underlying mt = some (.map kt 3))
include K hm
theorem zN.look {w : World} {r : Nat} {f : ByteArray -> ByteArray -> Option Int} (h : zN w r f) (a b : ByteArray) (ha : a.size <= maxLen) (hb : b.size <= maxLen) (ok : Bool) :
    (Instr.lookup mt (.map (some r)) (yO a b) ok).run Tryz.prog w = .ok (if ok then .tuple #[.int .i64 ((f a b).getD 0), .bool (f a b).isSome] else .int .i64 ((f a b).getD 0)) w := by
  obtain ⟨es, clock, hh, h1, h2, h3⟩ := h.ex
  obtain ⟨l, hl⟩ := K.key a b ha hb
  have hz : (zeroValue 3).run Tryz.prog w = .ok (.int .i64 0) w := by kernel_rfl
  have hkeys : ∀ e ∈ es.toList, ∃ l, keyOf Tryz.prog kt e.key = some l := fun e he => by
    obtain ⟨a', b', v, e1, ha', hb', _⟩ := h1 e he
    rw [e1]; exact K.key a' b' ha' hb'
  have hc := K.law.check w es.isEmpty hl
  rcases K.law.find w hl es.toList hkeys with ⟨g1, g2⟩ | ⟨j, e, g1, g2, g3⟩
  · have hn : f a b = none := by
      cases hf : f a b with
      | none => rfl
      | some v =>
        obtain ⟨x, hx, hk⟩ := h2 a b v hf
        exact absurd hk (g2 x hx)
    rw [hn]
    cases ok <;> simp [Instr.lookup, run_underlying hm, MapKept.run_getObj_map hh, hc, g1, hz, Result.andThen]
  · obtain ⟨a', b', v', e1, _, _, e2, e3⟩ := h1 e (List.mem_of_getElem? g2)
    rw [g3] at e1
    have hab : a = a' /\ b = b' := by unfold yO at e1; simpa using e1
    obtain ⟨rfl, rfl⟩ := hab
    rw [e3]
    rw [e2] at g1
    cases ok <;> simp [Instr.lookup, run_underlying hm, MapKept.run_getObj_map hh, hc, g1, Result.andThen]
theorem zN.upd {w : World} {r : Nat} {f : ByteArray -> ByteArray -> Option Int} (h : zN w r f) (a b : ByteArray) (ha : a.size <= maxLen) (hb : b.size <= maxLen) (v : Int) :
    ∃ w', (Instr.mapUpdate mt (.map (some r)) (yO a b) (.int .i64 v)).run Tryz.prog w = .ok () w' /\ zN w' r (fun p q => if p = a /\ q = b then some v else f p q) /\ zdl r w w' := by
  obtain ⟨es, clock, hh, h1, h2, h3⟩ := h.ex
  obtain ⟨l, hl⟩ := K.key a b ha hb
  have hkeys : ∀ e ∈ es.toList, ∃ l, keyOf Tryz.prog kt e.key = some l := fun e he => by
    obtain ⟨a', b', v, e1, ha', hb', _⟩ := h1 e he
    rw [e1]; exact K.key a' b' ha' hb'
  have hc := K.law.check w es.isEmpty hl
  have hs := K.law.stays w hl
  have inj : ∀ p q, yO p q = yO a b ↔ p = a /\ q = b := fun p q => by unfold yO; simp
  rcases K.law.find w hl es.toList hkeys with ⟨g1, g2⟩ | ⟨j, e, g1, g2, g3⟩
  · refine ⟨{ w with heap := w.heap.setIfInBounds r (.map (es.push ⟨yO a b, .int .i64 v, clock⟩) (clock + 1)) }, ?_, ⟨⟨_, _, (MapKept.heap_set hh).1, ?_, ?_, ?_⟩, ?_⟩, rfl, rfl, rfl, by simp, fun q hq => (MapKept.heap_set hh).2 q hq⟩
    · have hc' := K.law.check w false hl
      simp [Instr.mapUpdate, run_underlying hm, MapKept.run_getObj_map hh, hc', g1, MapKept.run_setObj_map _ hh, Result.andThen]
    · intro x hx
      rw [Array.toList_push, List.mem_append, List.mem_singleton] at hx
      rcases hx with hx | rfl
      · obtain ⟨a', b', v', e1, s1, s2, e2, e3⟩ := h1 x hx
        refine ⟨a', b', v', e1, s1, s2, e2, ?_⟩
        have : ¬ (a' = a /\ b' = b) := fun he => g2 x hx (e1.trans ((inj a' b').2 he))
        simp only [if_neg this]; exact e3
      · exact ⟨a, b, v, rfl, ha, hb, rfl, by simp⟩
    · intro p q u hq
      by_cases e : p = a /\ q = b
      · obtain ⟨rfl, rfl⟩ := e
        exact ⟨⟨yO p q, .int .i64 v, clock⟩, by simp, rfl⟩
      · rw [if_neg e] at hq
        obtain ⟨x, hx, hk⟩ := h2 p q u hq
        exact ⟨x, by simp [Array.toList_push]; exact Or.inl (by simpa using hx), hk⟩
    · intro i j' x y hx hy hxy
      rw [Array.getElem?_push] at hx hy
      by_cases e1 : i = es.size
      · by_cases e2 : j' = es.size
        · omega
        · rw [if_pos e1] at hx
          rw [if_neg e2] at hy
          have hm : y ∈ es.toList := by rw [<- Array.mem_def]; exact Array.mem_of_getElem? hy
          cases hx
          exact absurd hxy.symm (g2 y hm)
      · by_cases e2 : j' = es.size
        · rw [if_neg e1] at hx
          rw [if_pos e2] at hy
          have hm : x ∈ es.toList := by rw [<- Array.mem_def]; exact Array.mem_of_getElem? hx
          cases hy
          exact absurd hxy (g2 x hm)
        · rw [if_neg e1] at hx
          rw [if_neg e2] at hy
          exact h3 i j' x y hx hy hxy
    · intro es' c' h'
      rw [(MapKept.heap_set hh).1] at h'
      cases h'
      obtain ⟨s1, s2⟩ := h.stamps es clock hh
      refine ⟨fun x hx => ?_, ?_⟩
      · rw [Array.toList_push, List.mem_append, List.mem_singleton] at hx
        rcases hx with hx | rfl
        · have := s1 x hx; omega
        · exact Nat.lt_succ_self _
      · simp only [Array.toList_push, List.map_append, List.map_cons, List.map_nil]
        refine List.nodup_append.2 ⟨s2, by simp, fun a ha c hc e1 => ?_⟩
        simp only [List.mem_singleton] at hc
        obtain ⟨x, hx, rfl⟩ := List.mem_map.1 ha
        have := s1 x hx
        omega
  · have hj : es[j]? = some e := by simpa using g2
    have hj' : j < es.size := (Array.getElem?_eq_some_iff.1 hj).1
    refine ⟨{ w with heap := w.heap.setIfInBounds r (.map (es.modify j fun x => { x with key := yO a b, val := .int .i64 v }) clock) }, ?_, ⟨⟨_, _, (MapKept.heap_set hh).1, ?_, ?_, ?_⟩, ?_⟩, rfl, rfl, rfl, by simp, fun q hq => (MapKept.heap_set hh).2 q hq⟩
    · have hc' := K.law.check w false hl
      simp [Instr.mapUpdate, run_underlying hm, MapKept.run_getObj_map hh, hc', g1, hj, g3, hs, MapKept.run_setObj_map _ hh, Result.andThen]
    · intro x hx
      obtain ⟨i, hi, rfl⟩ := List.mem_iff_getElem.1 hx
      have hi' : i < es.size := by simpa using hi
      simp only [Array.getElem_toList, Array.getElem_modify]
      by_cases e' : j = i
      · subst e'
        simp only [if_true]
        exact ⟨a, b, v, rfl, ha, hb, rfl, by simp⟩
      · simp only [if_neg e']
        obtain ⟨a', b', v', e1, s1, s2, e2, e3⟩ := h1 es[i] (by simp)
        have ek : ¬ (a' = a /\ b' = b) := by
          intro he
          exact e' (h3 j i e es[i] hj (Array.getElem?_eq_getElem hi') (g3.trans (e1.trans ((inj a' b').2 he)).symm))
        exact ⟨a', b', v', e1, s1, s2, e2, by rw [if_neg ek]; exact e3⟩
    · intro p q u hq
      by_cases e' : p = a /\ q = b
      · obtain ⟨rfl, rfl⟩ := e'
        refine ⟨(es.modify j fun x => { x with key := yO p q, val := .int .i64 v })[j]'(by simpa using hj'), ?_, ?_⟩
        · rw [<- Array.mem_def]; exact Array.getElem_mem _
        · rw [Array.getElem_modify]; simp
      · rw [if_neg e'] at hq
        obtain ⟨x, hx, hk⟩ := h2 p q u hq
        obtain ⟨i, hi, rfl⟩ := List.mem_iff_getElem.1 hx
        have hi' : i < es.size := by simpa using hi
        refine ⟨(es.modify j fun x => { x with key := yO a b, val := .int .i64 v })[i]'(by simpa using hi'), ?_, ?_⟩
        · rw [<- Array.mem_def]; exact Array.getElem_mem _
        · rw [Array.getElem_modify]
          by_cases e2 : j = i
          · subst e2
            have hjj : es[j] = e := by
              have := Array.getElem?_eq_getElem hj'
              rw [hj] at this
              exact (Option.some.inj this).symm
            simp only [Array.getElem_toList] at hk
            rw [hjj, g3] at hk
            exact absurd ((inj p q).1 hk.symm) e'
          · rw [if_neg e2]; exact hk
    · have hkey : ∀ (i : Nat) (x : MapEntry), (es.modify j fun x => { x with key := yO a b, val := .int .i64 v })[i]? = some x -> ∃ y, es[i]? = some y /\ x.key = y.key := by
        intro i x hx
        obtain ⟨hi, rfl⟩ := Array.getElem?_eq_some_iff.1 hx
        have hi' : i < es.size := by simpa using hi
        refine ⟨es[i], Array.getElem?_eq_getElem hi', ?_⟩
        rw [Array.getElem_modify]
        by_cases e' : j = i
        · subst e'
          rw [Array.getElem?_eq_getElem hi'] at hj
          cases hj
          simp [g3]
        · rw [if_neg e']
      intro i j' x y hx hy hxy
      obtain ⟨x', hx', ex⟩ := hkey i x hx
      obtain ⟨y', hy', ey⟩ := hkey j' y hy
      exact h3 i j' x' y' hx' hy' (ex.symm.trans (hxy.trans ey))
    · intro es' c' h'
      rw [(MapKept.heap_set hh).1] at h'
      cases h'
      obtain ⟨s1, s2⟩ := h.stamps es clock hh
      have hb : (es.modify j fun x => { x with key := yO a b, val := .int .i64 v }).toList.map (·.born) = es.toList.map (·.born) := by
        apply List.ext_getElem?
        intro i
        simp only [Array.toList_modify, List.getElem?_map, List.getElem?_modify]
        by_cases e' : j = i
        · simp only [if_pos e']; cases es.toList[i]? <;> rfl
        · simp [if_neg e']
      refine ⟨fun x hx => ?_, by rw [hb]; exact s2⟩
      have h4 : x.born ∈ es.toList.map (·.born) := by rw [<- hb]; exact List.mem_map.2 ⟨x, hx, rfl⟩
      obtain ⟨y, hy, e5⟩ := List.mem_map.1 h4
      rw [<- e5]; exact s1 y hy
end
end Go.Proofs.YtfpeplbmfbepcaaGreat

namespace Go.Proofs.YtfpeplbmfbepcaaGreat
open Go.RowKit
namespace Gate
def yK (ls : List Lg) (tick : Int) (p : Pu) : Bool := jK ls p.tm p.rs && (zy p.dr && (within p.am 1 1000000 && within p.un tick (tick + 10)))
noncomputable def yJ (b : Bk) : Bool := decide (b.ps.length <= 24) && (zbs jO b.ps && b.ps.all (yK b.ls b.tick))
end Gate
set_option maxHeartbeats 1000000 in
theorem zc1 (p : Pu) (w : World) : Calls Tryz.prog 164 #[.agg p.cells] w fun e w' => e = .returned (yO p.tm p.rs) /\ Below w.heap.size w w' := by
  unfold Pu.cells yO
  go_enter Tryz.func164, Tryz.ntmps164
  go_wp2_with fail
  refine bodyPost_ret (v := .agg #[.string p.tm, .string p.rs]) (by simp [results, Tryz.results164, go_sem]) rfl ⟨rfl, ?_⟩
  first | exact zn _ _ _ | exact ((zn _ _ _).setCell (by simp) _).setCell (by simp) _ | exact ((zn _ _ _).setCell (by show _ <= _ + 1; omega) _).setCell (by show _ <= _ + 1; omega) _
set_option maxHeartbeats 1000000 in
theorem zbi (p : Lg) (w : World) : Calls Tryz.prog 166 #[.agg p.cells] w fun e w' => e = .returned (yO p.tm p.rs) /\ Below w.heap.size w w' := by
  unfold Lg.cells yO
  go_enter Tryz.func166, Tryz.ntmps166
  go_wp2_with fail
  refine bodyPost_ret (v := .agg #[.string p.tm, .string p.rs]) (by simp [results, Tryz.results166, go_sem]) rfl ⟨rfl, ?_⟩
  first | exact zn _ _ _ | exact ((zn _ _ _).setCell (by simp) _).setCell (by simp) _ | exact ((zn _ _ _).setCell (by show _ <= _ + 1; omega) _).setCell (by show _ <= _ + 1; omega) _
set_option maxHeartbeats 1000000 in
theorem zhD (a : Option Addr) (cap : Nat) (ms : List Lg) (tm rs : ByteArray) (w : World) (hw : zck w a ms) (hl : ms.length <= 1000) (hr : Gate.rising Gate.yU ms) :
    Calls Tryz.prog 163 #[.slice a ms.length cap, yO tm rs] w fun e w' => (∃ p : Nat, e = .returned (.tuple #[.int .i64 p, .bool (Gate.jK ms tm rs)]) /\ Gate.zdT ms tm rs p) /\ Below w.heap.size w w' := by
  unfold yO
  go_enter Tryz.func163, Tryz.ntmps163
  go_wp2_with fail
  refine (zgh _ _ ms ⟨tm, rs, 0, 0⟩ _ (hw.mono ((Below.refl _ _).alloc (Nat.le_refl _) _)) hl hr).mono ?_
  rintro e w1 ⟨⟨p, rfl, hp⟩, hb⟩
  have hB1 : Below w.heap.size w w1 := ((Below.refl _ _).alloc (Nat.le_refl _) _).trans (hb.mono (by simp))
  clear hb
  go_wp2_with fail
  go_ret2
  exact ⟨⟨p, rfl, hp⟩, hB1⟩
set_option maxHeartbeats 4000000 in
theorem zjA (b : Bk) (a0 a1 a2 a3 : Option Addr) (c0 c1 c2 c3 : Nat) (w : World) (hb : y9 w b a0 a1 a2 a3) (hrl : Gate.rising Gate.yU b.ls) (hll : b.ls.length <= 10) (htk : 0 <= b.tick /\ b.tick <= 1000000) :
    Calls Tryz.prog 113 #[.agg (b.cells a0 a1 a2 a3 c0 c1 c2 c3)] w fun e w' => e = .returned (.bool (Gate.yJ b)) /\ Below w.heap.size w w' := by
  have HK := hid hb
  have HRL := qJ hrl hll
  clear hb hrl hll
  unfold Bk.cells
  by_cases hln : b.ps.length <= 24
  rotate_left
  · have HF : Hid (Gate.yJ b = false) := by unfold Hid Gate.yJ; rw [decide_eq_false hln]; rfl
    have hg : (24 : Int) < (b.ps.length : Int) := by omega
    go_enter Tryz.func113, Tryz.ntmps113
    go_wp2_with fail
    go_ret
    exact ⟨ze HF.out.symm, (Below.refl _ _).alloc (Nat.le_refl _) _⟩
  have hg : decide ((24 : Int) < (b.ps.length : Int)) = false := by simp; omega
  have HLN : Hid (b.ps.length <= 24) := hln
  clear hln
  go_enter Tryz.func113, Tryz.ntmps113
  go_wp2_with fail
  have hX0 := zG w (bC b a0 a1 a2 a3 c0 c1 c2 c3) 48
  have HB0 : Hid (Below w.heap.size w (w.alloc (.cells (bC b a0 a1 a2 a3 c0 c1 c2 c3) 48))) := (Below.refl _ _).alloc (Nat.le_refl _) _
  obtain ⟨W0, hW0⟩ : ∃ W0, W0 = w.alloc (.cells (bC b a0 a1 a2 a3 c0 c1 c2 c3) 48) := ⟨_, rfl⟩
  have hz0 : w.heap.size < W0.heap.size := by rw [hW0]; simp
  rw [<- hW0] at HB0 hX0 ⊢
  clear hW0
  refine (zhT _ _ b.ps _ (HK.out.ps.mono HB0.out)).mono ?_
  rintro e w1 ⟨rfl, hb1⟩
  have HB1 := hid (HB0.out.trans (hb1.mono HB0.out.size))
  have hX1 := za hX0 hz0 hb1
  have hz1 := Nat.lt_of_lt_of_le hz0 hb1.size
  clear hb1 hX0 hz0 HB0
  by_cases has : Gate.zbs Gate.jO b.ps = true
  rotate_left
  · have has' : Gate.zbs Gate.jO b.ps = false := by simpa using has
    have HF : Hid (Gate.yJ b = false) := by unfold Hid Gate.yJ; rw [has']; simp
    rw [has']
    clear has has'
    go_wp2_with fail
    go_ret
    exact ⟨ze HF.out.symm, HB1.out⟩
  have HG : Hid (Gate.yJ b = b.ps.all (Gate.yK b.ls b.tick)) := by unfold Hid Gate.yJ; rw [has, decide_eq_true HLN.out]; rfl
  rw [has]
  clear has
  go_wp2_with fail
  go_loopw [20] (fun iv wr => ∃ k : Nat, k <= b.ps.length /\ iv = .int .i64 k /\ Hid ((b.ps.take k).all (Gate.yK b.ls b.tick) = true /\ Below w1.heap.size w1 wr)) (fun iv _ => b.ps.length - (intOf iv).toNat)
  case atStart => exact ⟨0, Nat.zero_le _, rfl, by simp, Below.refl _ _⟩
  case round =>
    obtain ⟨k, hk, rfl, HQ⟩ := hrel
    have hkn : k <= 24 := by have := HLN.out; omega
    by_cases hlt : k < b.ps.length
    · obtain ⟨ob, off, rfl, hob, d0, d1, d2, d3, d4⟩ := HK.out.ps.load (HB1.out.trans (HQ.out.2.mono HB1.out.size)) k hlt
      have hob' := Nat.lt_of_lt_of_le hob (HB1.out.trans (HQ.out.2.mono HB1.out.size)).size
      have hltI : (k : Int) < (b.ps.length : Int) := by omega
      have hX := za hX1 hz1 HQ.out.2
      have hz : w.heap.size < wr.heap.size := Nat.lt_of_lt_of_le hz1 HQ.out.2.size
      have HSn : Hid ((b.ps.take (k + 1)).all (Gate.yK b.ls b.tick) = ((b.ps.take k).all (Gate.yK b.ls b.tick) && (Gate.yK b.ls b.tick) b.ps[k])) := Gate.ql _ _ _ hlt
      have HBo : Hid (∀ ob, Below w1.heap.size w1 (wr.alloc ob)) := fun ob => HQ.out.2.alloc HQ.out.2.size _
      have HBw : Hid (∀ W, Below w1.heap.size w1 W -> Below w.heap.size w W) := fun W hW => HB1.out.trans (hW.mono HB1.out.size)
      have HNo : Hid ((Gate.yK b.ls b.tick) b.ps[k] = false -> Gate.yJ b = false) := fun h => by rw [HG.out]; exact Gate.j6 _ _ _ hlt h
      have HYes : Hid ((Gate.yK b.ls b.tick) b.ps[k] = true -> (b.ps.take (k + 1)).all (Gate.yK b.ls b.tick) = true) := fun h => by rw [HSn.out, HQ.out.1, h]; rfl
      have HSm : Hid b.ps[k].Small := HK.out.ps.small k hlt
      go_wp2_with fail
      have hbN : Below wr.heap.size wr (wr.alloc (.cells #[.string b.ps[k].dr, .string b.ps[k].tm, .string b.ps[k].rs, .int .i64 b.ps[k].am, .int .i64 b.ps[k].un] 136)) := (Below.refl _ _).alloc (Nat.le_refl _) _
      have hN := zG wr #[.string b.ps[k].dr, .string b.ps[k].tm, .string b.ps[k].rs, .int .i64 b.ps[k].am, .int .i64 b.ps[k].un] 136
      obtain ⟨w2, hw2⟩ : ∃ w2, w2 = wr.alloc (.cells #[.string b.ps[k].dr, .string b.ps[k].tm, .string b.ps[k].rs, .int .i64 b.ps[k].am, .int .i64 b.ps[k].un] 136) := ⟨_, rfl⟩
      have hn2 : wr.heap.size < w2.heap.size := by rw [hw2]; simp
      rw [<- hw2] at hbN hN ⊢
      have HB2 : Hid (Below w1.heap.size w1 w2) := by unfold Hid; rw [hw2]; exact HBo.out _
      have hX2 := za hX hz hbN
      have hzX2 := Nat.lt_trans hz hn2
      clear hw2 d0 d1 d2 d3 d4 hX hbN
      have hS : (∀ j, w2.drew.cell? ⟨w.heap.size, j, none⟩ = (bC b a0 a1 a2 (some ⟨ob, off, none⟩) c0 c1 c2 c3)[j]?) /\ (∀ j, w2.drew.cell? ⟨wr.heap.size, j, none⟩ = (#[.string b.ps[k].dr, .string b.ps[k].tm, .string b.ps[k].rs, .int .i64 b.ps[k].am, .int .i64 b.ps[k].un] : Array Value)[j]?) := ⟨hX2, hN⟩
      have hB := HB2.out.drew
      have hzx := hzX2
      have hzn := hn2
      clear hX2 hN
      go_region_held3 (fun w' => (∀ j, w'.cell? ⟨w.heap.size, j, none⟩ = (bC b a0 a1 a2 (some ⟨ob, off, none⟩) c0 c1 c2 c3)[j]?) /\ (∀ j, w'.cell? ⟨wr.heap.size, j, none⟩ = (#[.string b.ps[k].dr, .string b.ps[k].tm, .string b.ps[k].rs, .int .i64 b.ps[k].am, .int .i64 b.ps[k].un] : Array Value)[j]?)) (exact hS) (first
        | (go_at_call 164; refine (zc1 b.ps[k] _).mono ?_; rintro e w3 ⟨rfl, hb3⟩; have hS := (⟨za hS.1 hzx hb3, za hS.2 hzn hb3⟩ : _ /\ _); have hB := hB.trans (hb3.mono hB.size); have hzx := Nat.lt_of_lt_of_le hzx hb3.size; have hzn := Nat.lt_of_lt_of_le hzn hb3.size; clear hb3)
        | (go_at_call 163; refine (zhD _ _ b.ls b.ps[k].tm b.ps[k].rs _ (by exact HK.out.ls.mono (HBw.out _ hB)) (by have := HRL.out.2; omega) HRL.out.1).mono ?_; rintro e w3 ⟨⟨pl, rfl, _⟩, hb3⟩; have hS := (⟨za hS.1 hzx hb3, za hS.2 hzn hb3⟩ : _ /\ _); have hB := hB.trans (hb3.mono hB.size); have hzx := Nat.lt_of_lt_of_le hzx hb3.size; have hzn := Nat.lt_of_lt_of_le hzn hb3.size; clear hb3))
      have HB3 := hid hB
      have hX3 := hS.1
      have hN3 := hS.2
      clear hS hB
      have htk1 := htk
      have HN1 : ∀ v, Gate.zy b.ps[k].dr = v -> Hid (∀ W, Calls Tryz.prog 145 #[.string b.ps[k].dr] W fun e w' => e = .returned (.bool v) /\ w' = W) := fun v h W => zw h (zR _ W HSm.out.dr)
      have HW1 : ∀ v, Gate.within b.ps[k].am 1 1000000 = v -> Hid (∀ W, Calls Tryz.prog 150 #[.int .i64 b.ps[k].am, .int .i64 1, .int .i64 1000000] W fun e w' => e = .returned (.bool v) /\ w' = W) := fun v h W => zw h (qE _ _ _ W)
      have HW2 : ∀ v, Gate.within b.ps[k].un b.tick (b.tick + 10) = v -> Hid (∀ W, Calls Tryz.prog 150 #[.int .i64 b.ps[k].un, .int .i64 b.tick, .int .i64 (b.tick + 10)] W fun e w' => e = .returned (.bool v) /\ w' = W) := fun v h W => zw h (qE _ _ _ W)
      by_cases t1 : Gate.jK b.ls b.ps[k].tm b.ps[k].rs = true
      rotate_left
      · have HF : Hid (Gate.yJ b = false) := HNo.out (by unfold Gate.yK; rw [Bool.eq_false_iff.2 t1]; rfl)
        rw [Bool.eq_false_iff.2 t1]
        clear HN1 HW1 HW2 t1
        go_wp2_with fail
        go_ret
        exact ⟨ze HF.out.symm, HBw.out _ HB3.out⟩
      rw [t1]
      by_cases t2 : Gate.zy b.ps[k].dr = true
      rotate_left
      · have HF : Hid (Gate.yJ b = false) := HNo.out (by unfold Gate.yK; rw [t1, Bool.eq_false_iff.2 t2]; rfl)
        have Ht2 := HN1 false (Bool.eq_false_iff.2 t2)
        clear HN1 HW1 HW2 t1 t2
        go_wp2_with fail
        refine (Ht2.out _).mono ?_
        rintro e w4 ⟨rfl, rfl⟩
        go_wp2_with fail
        go_ret
        exact ⟨ze HF.out.symm, HBw.out _ HB3.out⟩
      have Ht2 := HN1 true t2
      by_cases t3 : Gate.within b.ps[k].am 1 1000000 = true
      rotate_left
      · have HF : Hid (Gate.yJ b = false) := HNo.out (by unfold Gate.yK; rw [t1, t2, Bool.eq_false_iff.2 t3]; rfl)
        have Ht3 := HW1 false (Bool.eq_false_iff.2 t3)
        clear HN1 HW1 HW2 t1 t2 t3
        go_wp2_with fail
        refine (Ht2.out _).mono ?_
        rintro e w4 ⟨rfl, rfl⟩
        go_wp2_with fail
        refine (Ht3.out _).mono ?_
        rintro e w4 ⟨rfl, rfl⟩
        go_wp2_with fail
        go_ret
        exact ⟨ze HF.out.symm, HBw.out _ HB3.out⟩
      have Ht3 := HW1 true t3
      by_cases t4 : Gate.within b.ps[k].un b.tick (b.tick + 10) = true
      rotate_left
      · have HF : Hid (Gate.yJ b = false) := HNo.out (by unfold Gate.yK; rw [t1, t2, t3, Bool.eq_false_iff.2 t4]; rfl)
        have Ht4 := HW2 false (Bool.eq_false_iff.2 t4)
        clear HN1 HW1 HW2 t1 t2 t3 t4
        go_wp2_with fail
        refine (Ht2.out _).mono ?_
        rintro e w4 ⟨rfl, rfl⟩
        go_wp2_with fail
        refine (Ht3.out _).mono ?_
        rintro e w4 ⟨rfl, rfl⟩
        go_wp2_with fail
        refine (Ht4.out _).mono ?_
        rintro e w4 ⟨rfl, rfl⟩
        go_wp2_with fail
        go_ret
        exact ⟨ze HF.out.symm, HBw.out _ HB3.out⟩
      have Ht4 := HW2 true t4
      have HY : Hid ((b.ps.take (k + 1)).all (Gate.yK b.ls b.tick) = true) := HYes.out (by unfold Gate.yK; rw [t1, t2, t3, t4]; rfl)
      clear HN1 HW1 HW2 t1 t2 t3 t4
      go_wp2_with fail
      refine (Ht2.out _).mono ?_
      rintro e w4 ⟨rfl, rfl⟩
      go_wp2_with fail
      refine (Ht3.out _).mono ?_
      rintro e w4 ⟨rfl, rfl⟩
      go_wp2_with fail
      refine (Ht4.out _).mono ?_
      rintro e w4 ⟨rfl, rfl⟩
      go_wp2_with fail
      exact ⟨⟨k + 1, by omega, by go_num, HY.out, HB3.out⟩, zi hlt⟩
    · have e : k = b.ps.length := by omega
      subst e
      have HE : Hid (Gate.yJ b = true) := by
        unfold Hid
        rw [HG.out]
        have h := HQ.out.1
        rw [List.take_of_length_le (Nat.le_refl _)] at h
        exact h
      have HBe := hid (HB1.out.trans (HQ.out.2.mono HB1.out.size))
      clear hlt hk HQ
      go_wp2_with fail
      go_ret
      exact ⟨ze HE.out.symm, HBe.out⟩
end Go.Proofs.YtfpeplbmfbepcaaGreat
