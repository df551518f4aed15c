import Derived.Test.YtkfigdbbncjojaaGreatM38
import Derived.Test.YtkfigdbbncjojaaGreatM20
import Derived.Test.YtkfigdbbncjojaaGreatM18
import Derived.Test.YtkfigdbbncjojaaGreatM08
import Derived.DeepKeys4
import Derived.Test.YtkfigdbbncjojaaGreatM31
namespace Go.Proofs.YtkfigdbbncjojaaGreat
open Go.RowKit
set_option maxHeartbeats 400000 in
theorem jT (a : Option Addr) (cap : Nat) (fs : List Fld) (v : ByteArray) (w : World) (hw : zW w a fs) :
    Calls Tryz.prog 138 #[.slice a fs.length cap, .string v] w fun e w' => e = .returned (.int .i64 (Gate.zQ fs v)) /\ w' = w := by
  have hl := hw.len
  unfold maxLen at hl
  go_enter Tryz.func138, Tryz.ntmps138
  go_wp2
  go_loop [5] (fun i => ∃ k : Nat, k <= fs.length /\ i = .int .i64 k /\ Gate.hasName (fs.take k) v = false) (fun i => fs.length - (intOf i).toNat)
  case atStart => exact ⟨0, Nat.zero_le _, rfl, rfl⟩
  case round =>
    obtain ⟨k, hk, rfl, hno⟩ := hrel
    by_cases hlt : k < fs.length
    · obtain ⟨b, off, rfl, hb, hr⟩ := hw.rows (by rintro rfl; simp at hlt)
      obtain ⟨wa, wcap, hf⟩ := hr k hlt
      obtain ⟨c0, c1, c2, c3, c4, c5, c6, c7, c8, c9, c10⟩ := hf.load
      clear hw hr hf c1 c2 c3 c4 c5 c6 c7 c8 c9 c10
      by_cases he : fs[k].nm = v
      · have hbe : (fs[k].nm.toList == v.toList) = true := by rw [Gate.beq_toList]; simpa using he
        have HB : Hid (Gate.zQ fs v = (k : Int)) := Gate.zcr fs v k hlt hno he
        clear he hno
        go_wp2
        go_ret
        exact ⟨by rw [HB.out]; rfl, rfl⟩
      · have hbe : (fs[k].nm.toList == v.toList) = false := by rw [Gate.beq_toList]; simpa using he
        have HS : Hid (Gate.hasName (fs.take (k + 1)) v = false) := by unfold Hid; rw [Gate.zcl fs v k hlt, hno, decide_eq_false he]; rfl
        clear he hno
        go_wp2
        go_round
        case rel => exact ⟨k + 1, by omega, by go_num, HS.out⟩
        case measure => simp [intOf]; omega
    · have HA : Hid (Gate.zQ fs v = -1) := Gate.zeM fs v (by rw [<- Gate.zfB fs v k (by omega)]; exact hno)
      clear hno hw
      go_wp2
      go_ret
      exact ⟨by rw [HA.out]; rfl, rfl⟩
set_option maxHeartbeats 1000000 in
theorem zkS (a : Option Addr) (cap : Nat) (fs : List Fld) (v : ByteArray) (w : World) (hw : zW w a fs) :
    Calls Tryz.prog 137 #[.slice a fs.length cap, .string v] w fun e w' => e = .returned (.bool (Gate.plain fs v)) /\ Below w.heap.size w w' := by
  have hl := hw.len
  unfold maxLen at hl
  rcases Gate.qX fs v with ⟨h1, h2⟩ | ⟨i, hi, h1, h2, h3⟩
  · have HP : Hid (Gate.plain fs v = false) := Gate.zas h2
    go_enter Tryz.func137, Tryz.ntmps137
    go_wp2_with fail
    have h := jT a cap fs v w hw
    rw [h1] at h
    refine h.mono ?_
    rintro e w1 ⟨rfl, rfl⟩
    clear h
    go_wp2_with fail
    go_ret
    exact ⟨by rw [HP.out]; rfl, Below.refl _ _⟩
  · have HP : Hid (Gate.plain fs v = decide (fs[i].kd ≠ 4)) := Gate.zhh h3
    obtain ⟨b, off, rfl, hb, hr⟩ := hw.rows (by rintro rfl; simp at hi)
    obtain ⟨wa, wcap, hf0⟩ := hr i hi
    go_enter Tryz.func137, Tryz.ntmps137
    go_wp2_with fail
    have h := jT (some ⟨b, off, none⟩) cap fs v w hw
    rw [h1] at h
    refine h.mono ?_
    rintro e w1 ⟨rfl, rfl⟩
    obtain ⟨c0, c1, c2, c3, c4, c5, c6, c7, c8, c9, c10⟩ := hf0.load
    have hiI : (i : Int) < (fs.length : Int) := by omega
    have hge : decide ((i : Int) ≥ 0) = true := by simp
    clear h hw hr hf0 h3 h2 h1
    go_wp2_with fail
    go_ret
    exact ⟨by rw [HP.out]; exact znW fs[i].kd, Below.refl _ _⟩
namespace Gate
def zcn (fs : List Fld) (m : Mnd) : Bool :=
  plain fs m.fd && (!isSet m.wh || plain fs m.wh) && (!isSet m.fr || plain fs m.fr) && !decide (m.wh = m.fd) && !decide (m.fr = m.fd) && zac fs m
theorem zmO (s : ByteArray) : isSet s = true ↔ s ≠ ByteArray.empty := by
  unfold isSet
  rw [zo]
  constructor
  · intro h e; subst e; simp at h
  · intro h
    simp only [Bool.not_eq_true', decide_eq_false_iff_not]
    intro h0
    apply h
    have : s.data.size = 0 := h0
    cases s with
    | mk d => simp only at this; have := Array.eq_empty_of_size_eq_zero this; subst this; rfl
end Gate
end Go.Proofs.YtkfigdbbncjojaaGreat

namespace Go.Proofs.YtkfigdbbncjojaaGreat
open Go.RowKit
def y9 (a b : ByteArray) : Value := .agg #[.string a, .string b]
structure yx (w : World) (r : Nat) (f : ByteArray -> ByteArray -> Option Int) : Prop where
  ex : ∃ es clock, w.heap[r]? = some (.map es clock) /\ (∀ x ∈ es.toList, ∃ a b v, x.key = y9 a b /\ a.size <= maxLen /\ b.size <= maxLen /\ x.val = .int .i64 v /\ f a b = some v) /\ (∀ a b v, f a b = some v -> ∃ x ∈ es.toList, x.key = y9 a b) /\ ∀ (i j : Nat) (x y : MapEntry), es[i]? = some x -> es[j]? = some y -> x.key = y.key -> i = j
  stamps : ∀ es clock, w.heap[r]? = some (.map es clock) -> (∀ x ∈ es.toList, x.born < clock) /\ (es.toList.map (·.born)).Nodup
theorem yx.keep {w w' : World} {r : Nat} {f : ByteArray -> ByteArray -> Option Int} (h : yx w r f) (hb : w'.heap[r]? = w.heap[r]?) : yx w' r f := by
  obtain ⟨es, clock, h1, h2⟩ := h.ex
  exact ⟨⟨es, clock, hb.trans h1, h2⟩, fun es' c' h' => h.stamps es' c' (hb.symm.trans h')⟩
theorem yx.lt {w : World} {r : Nat} {f : ByteArray -> ByteArray -> Option Int} (h : yx w r f) : r < w.heap.size := by
  obtain ⟨es, clock, h1, _⟩ := h.ex
  exact (Array.getElem?_eq_some_iff.1 h1).1
theorem yx.mono {w w' : World} {r : Nat} {f : ByteArray -> ByteArray -> Option Int} (h : yx w r f) (hb : Below w.heap.size w w') : yx w' r f := h.keep (hb.block r h.lt)
structure zgz (kt : TypeId) : Prop where
  law : WideMaps.KeyLaw Tryz.prog kt
  key : ∀ a b : ByteArray, a.size <= maxLen -> b.size <= maxLen -> ∃ l, keyOf Tryz.prog kt (y9 a b) = some l
theorem zkb (a b : ByteArray) (ha : a.size <= maxLen) (hb : b.size <= maxLen) : Tryz.prog.keyLits (Tryz.prog.types.size + 1) 188 [.string a, .string b] = some [.string a.data.toList, .string b.data.toList] := by
  have e : Tryz.prog.types.size = (Tryz.prog.types.size - 1) + 1 := by kernel_rfl
  rw [e]
  generalize Tryz.prog.types.size - 1 = n
  have c : Tryz.prog.cellsOf 188 = 2 := by kernel_rfl
  have cs : Tryz.prog.cellsOf 9 = 1 := by kernel_rfl
  simp [Program.keyLits, Tryz.underlying188, Tryz.underlying9, c, cs, ha, hb]
theorem zbr : zgz 188 := by
  refine ⟨deep_law_laid (m := 3) (by kernel_rfl) (by omega) (by decide +kernel) (by kernel_rfl) (by kernel_rfl), fun a b ha hb => ?_⟩
  have h1 : Tryz.prog.keyType 188 = true := by kernel_rfl
  have h2 : (y9 a b).formed Tryz.prog 188 = true := by kernel_rfl
  have h3 : (y9 a b).cells.toList = [.string a, .string b] := rfl
  refine ⟨.string (keyBytes [.string a.data.toList, .string b.data.toList]), ?_⟩
  · unfold keyOf
    rw [Tryz.underlying188]
    simp only [h1, h2, h3, Bool.and_self, if_true]
    rw [zkb a b ha hb]
    rfl
theorem zkm (a b : ByteArray) (ha : a.size <= maxLen) (hb : b.size <= maxLen) : Tryz.prog.keyLits (Tryz.prog.types.size + 1) 222 [.string a, .string b] = some [.string a.data.toList, .string b.data.toList] := by
  have e : Tryz.prog.types.size = (Tryz.prog.types.size - 1) + 1 := by kernel_rfl
  rw [e]
  generalize Tryz.prog.types.size - 1 = n
  have c : Tryz.prog.cellsOf 222 = 2 := by kernel_rfl
  have cs : Tryz.prog.cellsOf 9 = 1 := by kernel_rfl
  simp [Program.keyLits, Tryz.underlying222, Tryz.underlying9, c, cs, ha, hb]
theorem zg2 : zgz 222 := by
  refine ⟨deep_law_laid (m := 3) (by kernel_rfl) (by omega) (by decide +kernel) (by kernel_rfl) (by kernel_rfl), fun a b ha hb => ?_⟩
  have h1 : Tryz.prog.keyType 222 = true := by kernel_rfl
  have h2 : (y9 a b).formed Tryz.prog 222 = true := by kernel_rfl
  have h3 : (y9 a b).cells.toList = [.string a, .string b] := rfl
  refine ⟨.string (keyBytes [.string a.data.toList, .string b.data.toList]), ?_⟩
  · unfold keyOf
    rw [Tryz.underlying222]
    simp only [h1, h2, h3, Bool.and_self, if_true]
    rw [zkm a b ha hb]
    rfl
section
variable {kt mt : TypeId} (K : zgz kt) (hm : Tryz.prog.underlying mt = some (.map kt 3))
include K hm
theorem yx.look {w : World} {r : Nat} {f : ByteArray -> ByteArray -> Option Int} (h : yx w r f) (a b : ByteArray) (ha : a.size <= maxLen) (hb : b.size <= maxLen) (ok : Bool) :
    (Instr.lookup mt (.map (some r)) (y9 a b) ok).run Tryz.prog w = .ok (if ok then .tuple #[.int .i64 ((f a b).getD 0), .bool (f a b).isSome] else .int .i64 ((f a b).getD 0)) w := by
  obtain ⟨es, clock, hh, h1, h2, h3⟩ := h.ex
  obtain ⟨l, hl⟩ := K.key a b ha hb
  have hz : (zeroValue 3).run Tryz.prog w = .ok (.int .i64 0) w := by kernel_rfl
  have hkeys : ∀ e ∈ es.toList, ∃ l, keyOf Tryz.prog kt e.key = some l := fun e he => by
    obtain ⟨a', b', v, e1, ha', hb', _⟩ := h1 e he
    rw [e1]; exact K.key a' b' ha' hb'
  have hc := K.law.check w es.isEmpty hl
  rcases K.law.find w hl es.toList hkeys with ⟨g1, g2⟩ | ⟨j, e, g1, g2, g3⟩
  · have hn : f a b = none := by
      cases hf : f a b with
      | none => rfl
      | some v =>
        obtain ⟨x, hx, hk⟩ := h2 a b v hf
        exact absurd hk (g2 x hx)
    rw [hn]
    cases ok <;> simp [Instr.lookup, run_underlying hm, MapKept.run_getObj_map hh, hc, g1, hz, Result.andThen]
  · obtain ⟨a', b', v', e1, _, _, e2, e3⟩ := h1 e (List.mem_of_getElem? g2)
    rw [g3] at e1
    have hab : a = a' /\ b = b' := by unfold y9 at e1; simpa using e1
    obtain ⟨rfl, rfl⟩ := hab
    rw [e3]
    rw [e2] at g1
    cases ok <;> simp [Instr.lookup, run_underlying hm, MapKept.run_getObj_map hh, hc, g1, Result.andThen]
theorem yx.upd {w : World} {r : Nat} {f : ByteArray -> ByteArray -> Option Int} (h : yx w r f) (a b : ByteArray) (ha : a.size <= maxLen) (hb : b.size <= maxLen) (v : Int) :
    ∃ w', (Instr.mapUpdate mt (.map (some r)) (y9 a b) (.int .i64 v)).run Tryz.prog w = .ok () w' /\ yx w' r (fun p q => if p = a /\ q = b then some v else f p q) /\ zfi r w w' := by
  obtain ⟨es, clock, hh, h1, h2, h3⟩ := h.ex
  obtain ⟨l, hl⟩ := K.key a b ha hb
  have hkeys : ∀ e ∈ es.toList, ∃ l, keyOf Tryz.prog kt e.key = some l := fun e he => by
    obtain ⟨a', b', v, e1, ha', hb', _⟩ := h1 e he
    rw [e1]; exact K.key a' b' ha' hb'
  have hc := K.law.check w es.isEmpty hl
  have hs := K.law.stays w hl
  have inj : ∀ p q, y9 p q = y9 a b ↔ p = a /\ q = b := fun p q => by unfold y9; simp
  rcases K.law.find w hl es.toList hkeys with ⟨g1, g2⟩ | ⟨j, e, g1, g2, g3⟩
  · refine ⟨{ w with heap := w.heap.setIfInBounds r (.map (es.push ⟨y9 a b, .int .i64 v, clock⟩) (clock + 1)) }, ?_, ⟨⟨_, _, (MapKept.heap_set hh).1, ?_, ?_, ?_⟩, ?_⟩, rfl, rfl, rfl, by simp, fun q hq => (MapKept.heap_set hh).2 q hq⟩
    · have hc' := K.law.check w false hl
      simp [Instr.mapUpdate, run_underlying hm, MapKept.run_getObj_map hh, hc', g1, MapKept.run_setObj_map _ hh, Result.andThen]
    · intro x hx
      rw [Array.toList_push, List.mem_append, List.mem_singleton] at hx
      rcases hx with hx | rfl
      · obtain ⟨a', b', v', e1, s1, s2, e2, e3⟩ := h1 x hx
        refine ⟨a', b', v', e1, s1, s2, e2, ?_⟩
        have : ¬ (a' = a /\ b' = b) := fun he => g2 x hx (e1.trans ((inj a' b').2 he))
        simp only [if_neg this]; exact e3
      · exact ⟨a, b, v, rfl, ha, hb, rfl, by simp⟩
    · intro p q u hq
      by_cases e : p = a /\ q = b
      · obtain ⟨rfl, rfl⟩ := e
        exact ⟨⟨y9 p q, .int .i64 v, clock⟩, by simp, rfl⟩
      · rw [if_neg e] at hq
        obtain ⟨x, hx, hk⟩ := h2 p q u hq
        exact ⟨x, by simp [Array.toList_push]; exact Or.inl (by simpa using hx), hk⟩
    · intro i j' x y hx hy hxy
      rw [Array.getElem?_push] at hx hy
      by_cases e1 : i = es.size
      · by_cases e2 : j' = es.size
        · omega
        · rw [if_pos e1] at hx
          rw [if_neg e2] at hy
          have hm : y ∈ es.toList := by rw [<- Array.mem_def]; exact Array.mem_of_getElem? hy
          cases hx
          exact absurd hxy.symm (g2 y hm)
      · by_cases e2 : j' = es.size
        · rw [if_neg e1] at hx
          rw [if_pos e2] at hy
          have hm : x ∈ es.toList := by rw [<- Array.mem_def]; exact Array.mem_of_getElem? hx
          cases hy
          exact absurd hxy (g2 x hm)
        · rw [if_neg e1] at hx
          rw [if_neg e2] at hy
          exact h3 i j' x y hx hy hxy
    · intro es' c' h'
      rw [(MapKept.heap_set hh).1] at h'
      cases h'
      obtain ⟨s1, s2⟩ := h.stamps es clock hh
      refine ⟨fun x hx => ?_, ?_⟩
      · rw [Array.toList_push, List.mem_append, List.mem_singleton] at hx
        rcases hx with hx | rfl
        · have := s1 x hx; omega
        · exact Nat.lt_succ_self _
      · simp only [Array.toList_push, List.map_append, List.map_cons, List.map_nil]
        refine List.nodup_append.2 ⟨s2, by simp, fun a ha c hc e1 => ?_⟩
        simp only [List.mem_singleton] at hc
        obtain ⟨x, hx, rfl⟩ := List.mem_map.1 ha
        have := s1 x hx
        omega
  · have hj : es[j]? = some e := by simpa using g2
    have hj' : j < es.size := (Array.getElem?_eq_some_iff.1 hj).1
    refine ⟨{ w with heap := w.heap.setIfInBounds r (.map (es.modify j fun x => { x with key := y9 a b, val := .int .i64 v }) clock) }, ?_, ⟨⟨_, _, (MapKept.heap_set hh).1, ?_, ?_, ?_⟩, ?_⟩, rfl, rfl, rfl, by simp, fun q hq => (MapKept.heap_set hh).2 q hq⟩
    · have hc' := K.law.check w false hl
      simp [Instr.mapUpdate, run_underlying hm, MapKept.run_getObj_map hh, hc', g1, hj, g3, hs, MapKept.run_setObj_map _ hh, Result.andThen]
    · intro x hx
      obtain ⟨i, hi, rfl⟩ := List.mem_iff_getElem.1 hx
      have hi' : i < es.size := by simpa using hi
      simp only [Array.getElem_toList, Array.getElem_modify]
      by_cases e' : j = i
      · subst e'
        simp only [if_true]
        exact ⟨a, b, v, rfl, ha, hb, rfl, by simp⟩
      · simp only [if_neg e']
        obtain ⟨a', b', v', e1, s1, s2, e2, e3⟩ := h1 es[i] (by simp)
        have ek : ¬ (a' = a /\ b' = b) := by
          intro he
          exact e' (h3 j i e es[i] hj (Array.getElem?_eq_getElem hi') (g3.trans (e1.trans ((inj a' b').2 he)).symm))
        exact ⟨a', b', v', e1, s1, s2, e2, by rw [if_neg ek]; exact e3⟩
    · intro p q u hq
      by_cases e' : p = a /\ q = b
      · obtain ⟨rfl, rfl⟩ := e'
        refine ⟨(es.modify j fun x => { x with key := y9 p q, val := .int .i64 v })[j]'(by simpa using hj'), ?_, ?_⟩
        · rw [<- Array.mem_def]; exact Array.getElem_mem _
        · rw [Array.getElem_modify]; simp
      · rw [if_neg e'] at hq
        obtain ⟨x, hx, hk⟩ := h2 p q u hq
        obtain ⟨i, hi, rfl⟩ := List.mem_iff_getElem.1 hx
        have hi' : i < es.size := by simpa using hi
        refine ⟨(es.modify j fun x => { x with key := y9 a b, val := .int .i64 v })[i]'(by simpa using hi'), ?_, ?_⟩
        · rw [<- Array.mem_def]; exact Array.getElem_mem _
        · rw [Array.getElem_modify]
          by_cases e2 : j = i
          · subst e2
            have hjj : es[j] = e := by
              have := Array.getElem?_eq_getElem hj'
              rw [hj] at this
              exact (Option.some.inj this).symm
            simp only [Array.getElem_toList] at hk
            rw [hjj, g3] at hk
            exact absurd ((inj p q).1 hk.symm) e'
          · rw [if_neg e2]; exact hk
    · have hkey : ∀ (i : Nat) (x : MapEntry), (es.modify j fun x => { x with key := y9 a b, val := .int .i64 v })[i]? = some x -> ∃ y, es[i]? = some y /\ x.key = y.key := by
        intro i x hx
        obtain ⟨hi, rfl⟩ := Array.getElem?_eq_some_iff.1 hx
        have hi' : i < es.size := by simpa using hi
        refine ⟨es[i], Array.getElem?_eq_getElem hi', ?_⟩
        rw [Array.getElem_modify]
        by_cases e' : j = i
        · subst e'
          rw [Array.getElem?_eq_getElem hi'] at hj
          cases hj
          simp [g3]
        · rw [if_neg e']
      intro i j' x y hx hy hxy
      obtain ⟨x', hx', ex⟩ := hkey i x hx
      obtain ⟨y', hy', ey⟩ := hkey j' y hy
      exact h3 i j' x' y' hx' hy' (ex.symm.trans (hxy.trans ey))
    · intro es' c' h'
      rw [(MapKept.heap_set hh).1] at h'
      cases h'
      obtain ⟨s1, s2⟩ := h.stamps es clock hh
      have hb : (es.modify j fun x => { x with key := y9 a b, val := .int .i64 v }).toList.map (·.born) = es.toList.map (·.born) := by
        apply List.ext_getElem?
        intro i
        simp only [Array.toList_modify, List.getElem?_map, List.getElem?_modify]
        by_cases e' : j = i
        · simp only [if_pos e']; cases es.toList[i]? <;> rfl
        · simp [if_neg e']
      refine ⟨fun x hx => ?_, by rw [hb]; exact s2⟩
      have h4 : x.born ∈ es.toList.map (·.born) := by rw [<- hb]; exact List.mem_map.2 ⟨x, hx, rfl⟩
      obtain ⟨y, hy, e5⟩ := List.mem_map.1 h4
      rw [<- e5]; exact s1 y hy
end
end Go.Proofs.YtkfigdbbncjojaaGreat

namespace Go.Proofs.YtkfigdbbncjojaaGreat
open Go.RowKit
set_option maxRecDepth 20000 in
set_option maxHeartbeats 4000000 in
theorem zcS (a a' : Option Addr) (cap cap' : Nat) (ss : List Shp) (ms : List Mnd) (w : World) (hw : yB w a ss) (hm : y5 w a' ms) (hml : ms.length <= 1048576) :
    Calls Tryz.prog 69 #[.slice a ss.length cap, .slice a' ms.length cap'] w fun e w' => e = .returned (.bool (Gate.zY ss ms)) /\ Below w.heap.size w w' := by
  have HW := jO hw hm
  have hl := hw.len
  unfold maxLen at hl
  clear hw hm
  by_cases h12 : ms.length <= 12
  rotate_left
  · have HF : Hid (Gate.zY ss ms = false) := by unfold Hid Gate.zY; rw [decide_eq_false h12]; simp
    go_enter Tryz.func69, Tryz.ntmps69
    go_wp2_with fail
    go_ret
    exact ⟨by rw [HF.out]; rfl, Below.refl _ _⟩
  have h12I : (ms.length : Int) <= 12 := by omega
  by_cases hok : Gate.zM ss = true
  rotate_left
  · have hokf : Gate.zM ss = false := by simpa using hok
    have HF : Hid (Gate.zY ss ms = false) := by unfold Hid Gate.zY; rw [hokf]; simp
    go_enter Tryz.func69, Tryz.ntmps69
    go_wp2_with fail
    have h := zb5 a cap ss w HW.out.1
    rw [hokf] at h
    refine h.mono ?_
    rintro e w1 ⟨rfl, hb1⟩
    clear h
    go_wp2_with fail
    go_ret
    exact ⟨by rw [HF.out]; rfl, hb1⟩
  have HOK := hid hok
  go_enter Tryz.func69, Tryz.ntmps69
  go_wp2_with fail
  have h := zb5 a cap ss w HW.out.1
  rw [hok] at h
  refine h.mono ?_
  rintro e w1 ⟨rfl, hb1⟩
  have HB1 := hid hb1
  clear h hb1 hok
  go_wp2_with fail
  refine (zbB _).mono ?_
  rintro e w2 ⟨rfl, hw2⟩
  have HB2 : Hid (Below w.heap.size w w2 /\ w2.heap[w1.heap.size]? = some (.map qB 4) /\ w1.heap.size < w2.heap.size) := by
    rw [hw2]; exact ⟨HB1.out.trans (((Below.refl _ _).alloc (Nat.le_refl _) _).mono HB1.out.size), alloc_at _ _, by simp⟩
  clear hw2
  go_wp2_with fail
  go_loopw [25] (fun iv wr => ∃ k : Nat, k <= ms.length /\ iv = .int .i64 k /\ (ms.take k).all (Gate.jc ss) = true /\ Below w2.heap.size w2 wr) (fun iv _ => ms.length - (intOf iv).toNat)
  case atStart => exact ⟨0, Nat.zero_le _, rfl, rfl, Below.refl _ _⟩
  case round =>
    obtain ⟨k, hk, rfl, hall, hB⟩ := hrel
    have HB := jO hB (HB2.out.1.trans (hB.mono HB2.out.1.size))
    have HA := hid hall
    clear hall hB
    by_cases hlt : k < ms.length
    · obtain ⟨b, off, rfl, hb, c0, c1, c2, c3, c4, c5⟩ := HW.out.2.load HB.out.2 k hlt
      have hltI : (k : Int) < (ms.length : Int) := by omega
      have hsm := HW.out.2.small k hlt
      have HTK : Hid ((ms.take (k + 1)).all (Gate.jc ss) = Gate.jc ss ms[k]) := by
        unfold Hid; rw [List.take_succ_eq_append_getElem hlt, List.all_append, HA.out]; simp
      have HNO : Hid (Gate.jc ss ms[k] = false -> Gate.zY ss ms = false) := by
        intro h
        have : ms.all (Gate.jc ss) = false := by rw [List.all_eq_false]; exact ⟨_, List.getElem_mem hlt, by rw [h]; simp⟩
        unfold Gate.zY; rw [this]; simp
      have hba := (Below.refl wr.heap.size wr).alloc (Nat.le_refl _) (.cells #[.string ms[k].kd, .string ms[k].fd, .string ms[k].wh, .string ms[k].wi, .string ms[k].pt, .string ms[k].fr] 129)
      have HSM := hid hsm
      clear hsm
      go_wp2_with fail
      have h := qj a cap ss ms[k].kd _ (HW.out.1.mono (HB.out.2.trans (hba.mono HB.out.2.size)))
      by_cases hkk : Gate.zC ss ms[k].kd = true
      rotate_left
      · have hkf : Gate.zC ss ms[k].kd = false := by simpa using hkk
        rw [hkf] at h
        refine h.mono ?_
        rintro e w3 ⟨fa, fcap, rfl, hfl, hb3⟩
        have HF := jO (HNO.out (by unfold Gate.jc; rw [hkf]; rfl)) (HB.out.2.trans ((hba.trans (hb3.mono hba.size)).mono HB.out.2.size))
        clear h hba hfl hb3 c0 c1 c2 c3 c4 c5
        go_wp2_with fail
        go_ret
        exact ⟨by rw [HF.out.1]; rfl, HF.out.2.alloc HF.out.2.size _⟩
      rw [hkk] at h
      refine h.mono ?_
      rintro e w3 ⟨fa, fcap, rfl, hfl, hb3⟩
      have hX3 := za (zH wr _ _) (by simp) hb3
      have hz3 : wr.heap.size < w3.heap.size := by have := hb3.size; simp at this; omega
      have HB3 := hid (hba.trans (hb3.mono hba.size))
      have hbs := (Below.refl w3.heap.size w3).alloc (Nat.le_refl _) (.cells #[.string (Gate.shapeOf ss ms[k].kd).kd, .slice fa (Gate.shapeOf ss ms[k].kd).fs.length fcap] 127)
      have HB4 := hid (HB3.out.trans (hbs.mono HB3.out.size))
      have HFL := hid ((hfl.mono hb3).mono hbs)
      have HMA : Hid (Gate.jc ss ms[k] = Gate.j4 (Gate.shapeOf ss ms[k].kd).fs ms[k]) := by unfold Hid Gate.jc; rw [hkk]; simp
      have HRM : Hid ((w3.alloc (.cells #[.string (Gate.shapeOf ss ms[k].kd).kd, .slice fa (Gate.shapeOf ss ms[k].kd).fs.length fcap] 127)).heap[w1.heap.size]? = some (.map qB 4)) := by
        have h1 := HB.out.1.size
        have h2 := HB2.out.2.2
        exact (HB4.out.block w1.heap.size (by omega)).trans ((HB.out.1.block w1.heap.size h2).trans HB2.out.2.1)
      clear h hba hfl hb3 hbs hkk c0 c1 c2 c3 c4 c5
      go_wp2_with fail
      have h := zlU w1.heap.size fa fcap (Gate.shapeOf ss ms[k].kd).fs ms[k] _ HRM.out HFL.out HSM.out
      by_cases hmo : Gate.j4 (Gate.shapeOf ss ms[k].kd).fs ms[k] = true
      · rw [hmo] at h
        refine h.mono ?_
        rintro e w5 ⟨rfl, hb5⟩
        have HY : Hid ((ms.take (k + 1)).all (Gate.jc ss) = true /\ Below w2.heap.size w2 w5) := ⟨by rw [HTK.out, HMA.out]; exact hmo, HB.out.1.trans ((HB4.out.trans (hb5.mono HB4.out.size)).mono HB.out.1.size)⟩
        clear h hb5 hmo hX3
        go_wp2_with fail
        exact ⟨⟨k + 1, by omega, by go_num, HY.out.1, HY.out.2⟩, zm hlt⟩
      · have hmf : Gate.j4 (Gate.shapeOf ss ms[k].kd).fs ms[k] = false := by simpa using hmo
        rw [hmf] at h
        refine h.mono ?_
        rintro e w5 ⟨rfl, hb5⟩
        have HF := jO (HNO.out (by rw [HMA.out]; exact hmf)) (HB.out.2.trans ((HB4.out.trans (hb5.mono HB4.out.size)).mono HB.out.2.size))
        clear h hb5 hmo hX3
        go_wp2_with fail
        go_ret
        exact ⟨by rw [HF.out.1]; rfl, HF.out.2⟩
    · have e : k = ms.length := by omega
      have hall := HA.out
      rw [e, List.take_of_length_le (Nat.le_refl _)] at hall
      have HALL := hid hall
      subst e
      clear hall HA
      go_wp2_with fail
      have HBw := hid HB.out.2
      clear HB
      go_loopw [49] (fun iv wq => ∃ k : Nat, k <= ss.length /\ iv = .int .i64 k /\ (ss.take k).all (Gate.rowOk ms) = true /\ Below w.heap.size w wq) (fun iv _ => ss.length - (intOf iv).toNat)
      case atStart => exact ⟨0, Nat.zero_le _, rfl, rfl, HBw.out⟩
      case round =>
        obtain ⟨k, hk, rfl, hall, hB⟩ := hrel
        have HB := hid hB
        have HA := hid hall
        clear hall hB
        by_cases hlt : k < ss.length
        · obtain ⟨b, off, rfl, hb, hr⟩ := HW.out.1.rows (by rintro rfl; simp at hlt)
          obtain ⟨fa, fcap, hs0⟩ := hr k hlt
          have hs := hs0.mono hb HB.out
          have hck := hs.kind
          have hcl := hs.list
          have hfl := hs.flds
          have hltI : (k : Int) < (ss.length : Int) := by omega
          have HTK : Hid ((ss.take (k + 1)).all (Gate.rowOk ms) = Gate.rowOk ms ss[k]) := by
            unfold Hid; rw [List.take_succ_eq_append_getElem hlt, List.all_append, HA.out]; simp
          have HNO : Hid (Gate.rowOk ms ss[k] = false -> Gate.zY ss ms = false) := by
            intro h
            have : ss.all (Gate.rowOk ms) = false := by rw [List.all_eq_false]; exact ⟨_, List.getElem_mem hlt, by rw [h]; simp⟩
            unfold Gate.zY; rw [this]; simp
          have hba := (Below.refl wr.heap.size wr).alloc (Nat.le_refl _) (.cells #[.string ss[k].kd, .slice fa ss[k].fs.length fcap] 127)
          have HFL := hid (hfl.mono hba)
          have HBA : Hid (Below w.heap.size w (wr.alloc (.cells #[.string ss[k].kd, .slice fa ss[k].fs.length fcap] 127))) := HB.out.trans (hba.mono HB.out.size)
          clear hr hs0 hs hfl hba
          go_wp2_with fail
          have h := zfw ss[k] ms a' fa cap' fcap _ (HW.out.2.mono HBA.out) HFL.out hml (Gate.zdU HOK.out k hlt) (Gate.zg1 HOK.out HALL.out k hlt)
          by_cases hrk : Gate.rowOk ms ss[k] = true
          · have hrk' : (Gate.zD (Gate.zh ss[k] ms) ss[k].fs.length).1 = true := hrk
            refine h.mono ?_
            rintro e w5 ⟨v5, rfl, hb5, _⟩
            have HY : Hid ((ss.take (k + 1)).all (Gate.rowOk ms) = true /\ Below w.heap.size w w5) := ⟨by rw [HTK.out]; exact hrk, HBA.out.trans (hb5.mono HBA.out.size)⟩
            rw [hrk']
            clear h hb5 hrk hrk' hck hcl
            go_wp2_with fail
            exact ⟨⟨k + 1, by omega, by go_num, HY.out.1, HY.out.2⟩, zm hlt⟩
          · have hrf : Gate.rowOk ms ss[k] = false := by simpa using hrk
            have hrk' : (Gate.zD (Gate.zh ss[k] ms) ss[k].fs.length).1 = false := hrf
            refine h.mono ?_
            rintro e w5 ⟨v5, rfl, hb5, _⟩
            have HF : Hid (Gate.zY ss ms = false /\ Below w.heap.size w w5) := ⟨HNO.out hrf, HBA.out.trans (hb5.mono HBA.out.size)⟩
            rw [hrk']
            clear h hb5 hrk hrk' hck hcl
            go_wp2_with fail
            go_ret
            exact ⟨by rw [HF.out.1]; rfl, HF.out.2⟩
        · have e : k = ss.length := by omega
          have hall := HA.out
          rw [e, List.take_of_length_le (Nat.le_refl _)] at hall
          have HF : Hid (Gate.zY ss ms = true) := by unfold Hid Gate.zY; rw [HALL.out, HOK.out, hall, decide_eq_true h12]; rfl
          subst e
          clear hall HA
          go_wp2_with fail
          go_ret
          exact ⟨by rw [HF.out]; rfl, HB.out⟩
end Go.Proofs.YtkfigdbbncjojaaGreat
