import Derived.Test.YtackfmeepggedaaDoorM04
import Derived.Test.YtackfmeepggedaaDoorRows
import Derived.Test.YtackfmeepggedaaDoorM02
namespace Go.Proofs.YtackfmeepggedaaDoor

/-- A team: its name, the one over it. -/
structure Tm where
  nm : ByteArray
  ov : ByteArray

namespace Gate

def noTeam : Tm := ⟨ByteArray.empty, ByteArray.empty⟩
def hasTeam (ts : List Tm) (v : ByteArray) : Bool := ts.any fun t => decide (t.nm = v)
/-- What stands over the first team of a name. -/
def over (ts : List Tm) (v : ByteArray) : ByteArray := ((ts.find? fun t => decide (t.nm = v)).getD noTeam).ov

theorem hasTeam_snoc (ts : List Tm) (v : ByteArray) (k : Nat) (h : k < ts.length) : hasTeam (ts.take (k + 1)) v = (hasTeam (ts.take k) v || decide (ts[k].nm = v)) := by
  unfold hasTeam; rw [List.take_succ_eq_append_getElem h, List.any_append]; simp
theorem hasTeam_at (ts : List Tm) (v : ByteArray) (k : Nat) (h : k < ts.length) (e : ts[k].nm = v) : hasTeam ts v = true := by
  unfold hasTeam; rw [List.any_eq_true]; exact ⟨ts[k], List.getElem_mem h, by simpa using e⟩
theorem hasTeam_all (ts : List Tm) (v : ByteArray) (k : Nat) (h : ts.length ≤ k) : hasTeam (ts.take k) v = hasTeam ts v := by rw [List.take_of_length_le h]
theorem over_at (ts : List Tm) (v : ByteArray) (k : Nat) (h : k < ts.length) (hb : hasTeam (ts.take k) v = false) (e : ts[k].nm = v) : over ts v = ts[k].ov := by
  unfold over
  have hn : (ts.take k).find? (fun s => decide (s.nm = v)) = none := by
    rw [List.find?_eq_none]; intro x hx; unfold hasTeam at hb; rw [List.any_eq_false] at hb; exact hb x hx
  have hf : ts.find? (fun s => decide (s.nm = v)) = some ts[k] := by
    conv => lhs; rw [← List.take_append_drop k ts]
    rw [List.find?_append, hn, List.drop_eq_getElem_cons h, List.find?_cons_of_pos (by simpa using e)]; rfl
  rw [hf]; rfl
theorem over_none (ts : List Tm) (v : ByteArray) (hb : hasTeam ts v = false) : over ts v = ByteArray.empty := by
  unfold over
  have hn : ts.find? (fun s => decide (s.nm = v)) = none := by
    rw [List.find?_eq_none]; intro x hx; unfold hasTeam at hb; rw [List.any_eq_false] at hb; exact hb x hx
  rw [hn]; rfl

/-- A stands under b, in at most n steps. -/
def under (ts : List Tm) : Nat → ByteArray → ByteArray → Bool
  | 0, a, b => decide (a = b)
  | n + 1, a, b => decide (a = b) || (decide (¬ (over ts a).size = 0) && under ts n (over ts a) b)

theorem under_same (ts : List Tm) (n : Nat) (a b : ByteArray) (h : a = b) : under ts n a b = true := by
  cases n <;> simp [under, h]
theorem under_end (ts : List Tm) {a b : ByteArray} (h : ¬ a = b) : under ts 0 a b = false := by simp [under, h]
theorem under_stop (ts : List Tm) (n : Nat) {a b : ByteArray} (h : ¬ a = b) (h0 : (over ts a).size = 0) : under ts (n + 1) a b = false := by simp [under, h, h0]
theorem under_on (ts : List Tm) (n : Nat) {a b : ByteArray} (h : ¬ a = b) (h0 : ¬ (over ts a).size = 0) : under ts (n + 1) a b = under ts n (over ts a) b := by simp [under, h, h0]

/-- A team by itself and beside the others. -/
def teamAt (ts : List Tm) (i : Nat) : Bool :=
  nameOk (ts.getD i noTeam).nm && (decide (i = 0) || less (ts.getD (i - 1) noTeam).nm (ts.getD i noTeam).nm) && ((ts.getD i noTeam).ov.toList.isEmpty || hasTeam ts (ts.getD i noTeam).ov)

def climb (ts : List Tm) : Nat → ByteArray → ByteArray
  | 0, a => a
  | n + 1, a => climb ts n (over ts a)
/-- The same, that stands still at the empty name. -/
def climbS (ts : List Tm) : Nat → ByteArray → ByteArray
  | 0, a => a
  | n + 1, a => if a.size = 0 then a else climbS ts n (over ts a)

def deepOk (ts : List Tm) (t : Tm) : Bool := decide ((climb ts 4 t.ov).size = 0)
def deepAt (ts : List Tm) (i : Nat) : Bool := deepOk ts (ts.getD i noTeam)
def deepS (ts : List Tm) (i : Nat) : Bool := decide ((climbS ts 5 (ts.getD i noTeam).nm).size = 0)
def teamsOk (ts : List Tm) : Bool := decide (ts.length ≤ 12) && (up (teamAt ts) ts.length && up (deepAt ts) ts.length)
def teamAtS (ts : List Tm) (i : Nat) : Bool := teamAt ts i && deepS ts i
def teamsOkS (ts : List Tm) : Bool := decide (ts.length ≤ 12) && up (teamAtS ts) ts.length

theorem up_eq_true {P : Nat → Bool} {n : Nat} : up P n = true ↔ ∀ i, i < n → P i = true := by
  unfold up; rw [List.all_eq_true]; simp

theorem team_name {ts : List Tm} {i : Nat} (hi : i < ts.length) (h : teamAt ts i = true) : nameOk ts[i].nm = true := by
  unfold teamAt at h; rw [getD_at ts i _ hi] at h; simp only [Bool.and_eq_true] at h; exact h.1.1
theorem team_less {ts : List Tm} {i : Nat} (hi : i + 1 < ts.length) (h : teamAt ts (i + 1) = true) : less ts[i].nm ts[i + 1].nm = true := by
  unfold teamAt at h; rw [getD_at ts (i + 1) _ hi, Nat.add_sub_cancel, getD_at ts i _ (by omega)] at h; simp only [Bool.and_eq_true] at h
  simpa using h.1.2

theorem teams_less {ts : List Tm} (h : up (teamAt ts) ts.length = true) : ∀ (j : Nat) (hj : j < ts.length) (i : Nat) (hi : i < j), less (ts[i]'(by omega)).nm ts[j].nm = true := by
  intro j
  induction j with
  | zero => intro _ i hi; omega
  | succ j ih =>
    intro hj i hi
    have h2 := team_less hj (up_at hj h)
    rcases Nat.lt_or_ge i j with hlt | hge
    · exact bytesLess_trans _ _ _ (ih (by omega) i hlt) h2
    · have e : i = j := by omega
      subst e; exact h2

theorem over_self {ts : List Tm} (h : up (teamAt ts) ts.length = true) (i : Nat) (hi : i < ts.length) : over ts ts[i].nm = ts[i].ov := by
  refine over_at ts _ i hi ?_ rfl
  unfold hasTeam
  rw [List.any_eq_false]
  intro x hx
  obtain ⟨k, hk, rfl⟩ := List.mem_iff_getElem.1 hx
  have hk' : k < i := by simp at hk; omega
  have h1 := teams_less h i hi k hk'
  simp only [List.getElem_take, decide_eq_true_eq]
  intro e
  unfold less at h1
  rw [e, bytesLess_irrefl] at h1
  cases h1

theorem over_empty {ts : List Tm} (h : up (teamAt ts) ts.length = true) : over ts ByteArray.empty = ByteArray.empty := by
  apply over_none
  unfold hasTeam
  rw [List.any_eq_false]
  intro x hx
  obtain ⟨k, hk, rfl⟩ := List.mem_iff_getElem.1 hx
  have h1 := team_name hk (up_at hk h)
  simp only [decide_eq_true_eq]
  intro e
  rw [e, nameOk_empty _ rfl] at h1
  cases h1

theorem climb_empty {ts : List Tm} (h : over ts ByteArray.empty = ByteArray.empty) : ∀ n, climb ts n ByteArray.empty = ByteArray.empty
  | 0 => rfl
  | n + 1 => by unfold climb; rw [h]; exact climb_empty h n

theorem climb_same {ts : List Tm} (h : over ts ByteArray.empty = ByteArray.empty) : ∀ n a, climbS ts n a = climb ts n a
  | 0, _ => rfl
  | n + 1, a => by
    unfold climbS
    by_cases h0 : a.size = 0
    · rw [if_pos h0, empty_of_size a h0, climb_empty h]
    · rw [if_neg h0, climb_same h n]; rfl

theorem deep_same {ts : List Tm} (h : up (teamAt ts) ts.length = true) (i : Nat) (hi : i < ts.length) : deepS ts i = deepAt ts i := by
  unfold deepS deepAt deepOk
  rw [getD_at ts i _ hi, climb_same (over_empty h), show climb ts 5 ts[i].nm = climb ts 4 (over ts ts[i].nm) from rfl, over_self h i hi]

theorem teamsOk_same (ts : List Tm) : teamsOk ts = teamsOkS ts := by
  unfold teamsOk teamsOkS
  congr 1
  rw [Bool.eq_iff_iff, Bool.and_eq_true]
  constructor
  · rintro ⟨h1, h2⟩
    rw [up_eq_true]
    intro i hi
    unfold teamAtS
    rw [up_at hi h1, deep_same h1 i hi, up_at hi h2]; rfl
  · intro h
    rw [up_eq_true] at h
    have h1 : up (teamAt ts) ts.length = true := by
      rw [up_eq_true]; intro i hi; have := h i hi; unfold teamAtS at this; rw [Bool.and_eq_true] at this; exact this.1
    refine ⟨h1, ?_⟩
    rw [up_eq_true]; intro i hi; have := h i hi; unfold teamAtS at this; rw [Bool.and_eq_true, deep_same h1 i hi] at this; exact this.2

/-- Among teams that are ok nothing stands under a name but the empty one. -/
theorem under_empty {ts : List Tm} (h : up (teamAt ts) ts.length = true) (n : Nat) (b : ByteArray) (hb : ¬ b.size = 0) : under ts n ByteArray.empty b = false := by
  have hne : ¬ ByteArray.empty = b := by rintro rfl; exact hb rfl
  cases n with
  | zero => exact under_end ts hne
  | succ n => exact under_stop ts n hne (by rw [over_empty h]; rfl)

end Gate
end Go.Proofs.YtackfmeepggedaaDoor

namespace Go.Proofs.YtackfmeepggedaaDoor
open Go.RowKit

/-- A map from strings to ints that lies in a block. -/
structure StrMap (w : World) (r : Nat) (f : ByteArray → Option Int) : Prop where
  ex : ∃ es clock, w.heap[r]? = some (.map es clock) ∧ (∀ x ∈ es.toList, ∃ k v, x.key = .string k ∧ x.val = .int .i64 v ∧ f k = some v) ∧ (∀ k v, f k = some v → ∃ x ∈ es.toList, x.key = .string k) ∧ ∀ (i j : Nat) (x y : MapEntry), es[i]? = some x → es[j]? = some y → x.key = y.key → i = j

theorem StrMap.mono {w w' : World} {r : Nat} {f : ByteArray → Option Int} (h : StrMap w r f) (hb : w'.heap[r]? = w.heap[r]?) : StrMap w' r f := by
  obtain ⟨es, clock, h1, h2⟩ := h.ex
  exact ⟨es, clock, hb.trans h1, h2⟩

theorem StrMap.lt {w : World} {r : Nat} {f : ByteArray → Option Int} (h : StrMap w r f) : r < w.heap.size := by
  obtain ⟨es, clock, h1, _⟩ := h.ex
  exact (Array.getElem?_eq_some_iff.1 h1).1

theorem isKey_str (k : ByteArray) : MapKept.IsKey .string (.string k) := by simp [MapKept.IsKey]

theorem StrMap.keys {es : Array MapEntry} {f : ByteArray → Option Int} (h : ∀ x ∈ es.toList, ∃ k v, x.key = .string k ∧ x.val = .int .i64 v ∧ f k = some v) : ∀ x ∈ es.toList, MapKept.IsKey .string x.key := by
  intro x hx
  obtain ⟨k, v, h1, _⟩ := h x hx
  rw [h1]; exact isKey_str k

theorem run_look1_hit {P : Program} {mty kt et : TypeId} {d : TypeDesc} (hm : P.underlying mty = some (.map kt et)) (hd : P.underlying kt = some d) (key val : Value) (hk : MapKept.IsKey d key)
    (es : Array MapEntry) (clock i : Nat) (hf : Instr.findNow d key es.toList 0 = some (some (i, val))) (w : World) (r : Nat) (hb : w.heap[r]? = some (.map es clock)) :
    (Instr.lookup mty (.map (some r)) key false).run P w = .ok val w := by
  have hc := MapKept.run_checkKey (P := P) (w := w) hd hk es.isEmpty 9999
  simp [Instr.lookup, run_underlying hm, MapKept.run_getObj_map hb, hc, MapKept.run_findKey hd hf, Result.andThen]

theorem run_look1_miss {P : Program} {mty kt et : TypeId} {d : TypeDesc} (hm : P.underlying mty = some (.map kt et)) (hd : P.underlying kt = some d) (key z : Value) (hk : MapKept.IsKey d key)
    (es : Array MapEntry) (clock : Nat) (hf : Instr.findNow d key es.toList 0 = some none) (w : World) (hz : (zeroValue et).run P w = .ok z w) (r : Nat) (hb : w.heap[r]? = some (.map es clock)) :
    (Instr.lookup mty (.map (some r)) key false).run P w = .ok z w := by
  have hc := MapKept.run_checkKey (P := P) (w := w) hd hk es.isEmpty 9999
  simp [Instr.lookup, run_underlying hm, MapKept.run_getObj_map hb, hc, MapKept.run_findKey hd hf, hz, Result.andThen]

theorem StrMap.look {w : World} {r : Nat} {f : ByteArray → Option Int} (h : StrMap w r f) (k : ByteArray) :
    (Instr.lookup 79 (.map (some r)) (.string k) false).run Tryd.prog w = .ok (.int .i64 ((f k).getD 0)) w := by
  obtain ⟨es, clock, hb, h1, h2, h3⟩ := h.ex
  rcases MapKept.findNow_spec (isKey_str k) es.toList 0 (StrMap.keys h1) with ⟨g1, g2⟩ | ⟨j, e, g1, g2, g3⟩
  · have hn : f k = none := by
      cases hf : f k with
      | none => rfl
      | some v =>
        obtain ⟨x, hx, hk⟩ := h2 k v hf
        exact absurd hk (g2 x hx)
    rw [hn]
    exact run_look1_miss Tryd.underlying79 Tryd.underlying9 (.string k) (.int .i64 0) (isKey_str k) es clock g1 w (by kernel_rfl) r hb
  · obtain ⟨k', v', e1, e2, e3⟩ := h1 e (List.mem_of_getElem? g2)
    rw [g3] at e1
    cases e1
    rw [e3]
    rw [e2] at g1
    exact run_look1_hit Tryd.underlying79 Tryd.underlying9 (.string k) (.int .i64 v') (isKey_str k) es clock _ g1 w r hb

/-- What a write into the map leaves: all other blocks. -/
structure StrPut (r : Nat) (w w' : World) : Prop where
  os : w'.os = w.os
  tape : w'.tape = w.tape
  output : w'.output = w.output
  size : w'.heap.size = w.heap.size
  out : ∀ k, k ≠ r → w'.heap[k]? = w.heap[k]?

theorem StrMap.upd {w : World} {r : Nat} {f : ByteArray → Option Int} (h : StrMap w r f) (k : ByteArray) (v : Int) :
    ∃ w', (Instr.mapUpdate 79 (.map (some r)) (.string k) (.int .i64 v)).run Tryd.prog w = .ok () w' ∧ StrMap w' r (fun q => if q = k then some v else f q) ∧ StrPut r w w' := by
  obtain ⟨es, clock, hb, h1, h2, h3⟩ := h.ex
  have hm := Tryd.underlying79
  have hd := Tryd.underlying9
  rcases MapKept.findNow_spec (isKey_str k) es.toList 0 (StrMap.keys h1) with ⟨g1, g2⟩ | ⟨j, e, g1, g2, g3⟩
  · refine ⟨{ w with heap := w.heap.setIfInBounds r (.map (es.push ⟨.string k, .int .i64 v, clock⟩) (clock + 1)) }, ?_, ⟨_, _, (MapKept.heap_set hb).1, ?_, ?_, ?_⟩, rfl, rfl, rfl, by simp, fun q hq => (MapKept.heap_set hb).2 q hq⟩
    · simp [Instr.mapUpdate, run_underlying hm, MapKept.run_getObj_map hb, MapKept.run_checkKey hd (isKey_str k), MapKept.run_findKey hd g1, MapKept.run_setObj_map _ hb, Result.andThen]
    · intro x hx
      rw [Array.toList_push, List.mem_append, List.mem_singleton] at hx
      rcases hx with hx | rfl
      · obtain ⟨k', v', e1, e2, e3⟩ := h1 x hx
        refine ⟨k', v', e1, e2, ?_⟩
        have : k' ≠ k := by rintro rfl; exact g2 x hx e1
        simp only [if_neg this]; exact e3
      · exact ⟨k, v, rfl, rfl, by simp⟩
    · intro q u hq
      by_cases e : q = k
      · subst e
        exact ⟨⟨.string q, .int .i64 v, clock⟩, by simp, rfl⟩
      · rw [if_neg e] at hq
        obtain ⟨x, hx, hk⟩ := h2 q u hq
        exact ⟨x, by simp [Array.toList_push]; exact Or.inl (by simpa using hx), hk⟩
    · intro i j' x y hx hy hxy
      rw [Array.getElem?_push] at hx hy
      by_cases e1 : i = es.size
      · by_cases e2 : j' = es.size
        · omega
        · rw [if_pos e1] at hx
          rw [if_neg e2] at hy
          have hm : y ∈ es.toList := by rw [← Array.mem_def]; exact Array.mem_of_getElem? hy
          cases hx
          exact absurd hxy.symm (g2 y hm)
      · by_cases e2 : j' = es.size
        · rw [if_neg e1] at hx
          rw [if_pos e2] at hy
          have hm : x ∈ es.toList := by rw [← Array.mem_def]; exact Array.mem_of_getElem? hx
          cases hy
          exact absurd hxy (g2 x hm)
        · rw [if_neg e1] at hx
          rw [if_neg e2] at hy
          exact h3 i j' x y hx hy hxy
  · have hj : es[j]? = some e := by simpa using g2
    refine ⟨{ w with heap := w.heap.setIfInBounds r (.map (es.modify j fun x => { x with key := .string k, val := .int .i64 v }) clock) }, ?_, ⟨_, _, (MapKept.heap_set hb).1, ?_, ?_, ?_⟩, rfl, rfl, rfl, by simp, fun q hq => (MapKept.heap_set hb).2 q hq⟩
    · simp [Instr.mapUpdate, run_underlying hm, MapKept.run_getObj_map hb, MapKept.run_checkKey hd (isKey_str k), MapKept.run_findKey hd g1, hj, g3, MapKept.run_keyThatStays (isKey_str k), MapKept.run_setObj_map _ hb, Result.andThen]
    · intro x hx
      obtain ⟨i, hi, rfl⟩ := List.mem_iff_getElem.1 hx
      have hi' : i < es.size := by simpa using hi
      simp only [Array.getElem_toList, Array.getElem_modify]
      by_cases e' : j = i
      · subst e'
        simp only [if_true]
        exact ⟨k, v, rfl, rfl, by simp⟩
      · simp only [if_neg e']
        obtain ⟨k', v', e1, e2, e3⟩ := h1 es[i] (by simp)
        have ek : k' ≠ k := by
          rintro rfl
          exact e' (h3 j i e es[i] hj (Array.getElem?_eq_getElem hi') (g3.trans e1.symm))
        exact ⟨k', v', e1, e2, by rw [if_neg ek]; exact e3⟩
    · intro q u hq
      have hj' : j < es.size := (Array.getElem?_eq_some_iff.1 hj).1
      by_cases e' : q = k
      · subst e'
        refine ⟨(es.modify j fun x => { x with key := .string q, val := .int .i64 v })[j]'(by simpa using hj'), ?_, ?_⟩
        · rw [← Array.mem_def]; exact Array.getElem_mem _
        · rw [Array.getElem_modify]; simp
      · rw [if_neg e'] at hq
        obtain ⟨x, hx, hk⟩ := h2 q u hq
        obtain ⟨i, hi, rfl⟩ := List.mem_iff_getElem.1 hx
        have hi' : i < es.size := by simpa using hi
        have hij : j ≠ i := by
          rintro rfl
          rw [Array.getElem_toList] at hk
          rw [Array.getElem?_eq_getElem hi'] at hj
          cases hj
          rw [g3] at hk
          cases hk
          exact e' rfl
        refine ⟨(es.modify j fun x => { x with key := .string k, val := .int .i64 v })[i]'(by simpa using hi'), ?_, ?_⟩
        · rw [← Array.mem_def]; exact Array.getElem_mem _
        · rw [Array.getElem_modify, if_neg hij]; simpa using hk
    · have hkey : ∀ (i : Nat) (x : MapEntry), (es.modify j fun x => { x with key := .string k, val := .int .i64 v })[i]? = some x → ∃ y, es[i]? = some y ∧ x.key = y.key := by
        intro i x hx
        obtain ⟨hi, rfl⟩ := Array.getElem?_eq_some_iff.1 hx
        have hi' : i < es.size := by simpa using hi
        refine ⟨es[i], Array.getElem?_eq_getElem hi', ?_⟩
        rw [Array.getElem_modify]
        by_cases e' : j = i
        · subst e'
          rw [Array.getElem?_eq_getElem hi'] at hj
          cases hj
          simp [g3]
        · rw [if_neg e']
      intro i j' x y hx hy hxy
      obtain ⟨x', hx', ex⟩ := hkey i x hx
      obtain ⟨y', hy', ey⟩ := hkey j' y hy
      exact h3 i j' x' y' hx' hy' (ex.symm.trans (hxy.trans ey))

end Go.Proofs.YtackfmeepggedaaDoor

namespace Go.Proofs.YtackfmeepggedaaDoor
open Go.RowKit

set_option maxHeartbeats 400000 in
theorem l1NameOk_any (s : ByteArray) (w : World) (hs : s.size ≤ maxLen) :
    Calls Tryd.prog 62 #[.string s] w fun e w' => e = .returned (.bool (Gate.nameOk s)) ∧ w' = w := by
  unfold maxLen at hs
  by_cases hb : 1 ≤ s.size ∧ s.size ≤ 16
  · obtain ⟨hb1, hb2⟩ := hb
    go_enter Tryd.func62, Tryd.ntmps62
    go_wp2_with (go_at_call 65; refine (l1In_yes _ _ _ _ (by omega) (by omega)).mono ?_; rintro e w' ⟨rfl, rfl⟩)
    go_loop [3] (fun i => ∃ k : Nat, k ≤ s.size ∧ i = .int .i64 k ∧ (s.data.toList.take k).all Gate.nameByte = true) (fun i => s.size - (intOf i).toNat)
    case atStart => exact ⟨0, Nat.zero_le _, rfl, rfl⟩
    case round =>
      obtain ⟨k, hk, rfl, hall⟩ := hrel
      by_cases hlt : k < s.size
      · have HS : Hid ((s.data.toList.take (k + 1)).all Gate.nameByte = (true && Gate.nameByte s[k])) := by rw [Gate.all_snoc _ s k hlt, hall]; rfl
        have HN := fun h => Gate.all_not Gate.nameByte s k hlt h
        have HN' : Hid (Gate.nameByte s[k] = false → Gate.allName s = false) := HN
        clear HN hall
        by_cases hc : Gate.nameByte s[k] = true
        · go_wp2_with (go_at_call 66; refine (l1Byte_any _ _).mono ?_; rintro e w' ⟨rfl, rfl⟩)
          go_round
          case rel => exact ⟨k + 1, by omega, by go_num, by rw [HS.out, hc]; rfl⟩
          case measure => simp [intOf]; omega
        · have hc' : Gate.nameByte s[k] = false := by simpa using hc
          clear hc
          go_wp2_with (go_at_call 66; refine (l1Byte_any _ _).mono ?_; rintro e w' ⟨rfl, rfl⟩)
          go_ret
          refine ⟨ret_bool ?_, rfl⟩
          simp [Gate.nameOk, HN'.out hc']
      · have HA : Hid (Gate.allName s = true) := by unfold Gate.allName Hid; rw [← Gate.take_all s k (by omega)]; exact hall
        clear hall
        go_wp2
        go_ret
        refine ⟨ret_bool ?_, rfl⟩
        simp only [Gate.nameOk, HA.out]; simp; omega
  · go_enter Tryd.func62, Tryd.ntmps62
    go_wp2_with (go_at_call 65; refine (l1In_no _ _ _ _ (by omega)).mono ?_; rintro e w' ⟨rfl, rfl⟩)
    go_ret
    refine ⟨ret_bool ?_, rfl⟩
    simp [Gate.nameOk]; omega

set_option maxHeartbeats 400000 in
theorem isNameBytes_any (s : ByteArray) (w : World) (hs : s.size ≤ maxLen) :
    Calls Tryd.prog 40 #[.string s] w fun e w' => e = .returned (.bool (Gate.allName s)) ∧ w' = w := by
  unfold maxLen at hs
  go_enter Tryd.func40, Tryd.ntmps40
  go_wp2
  go_loop [7] (fun i => ∃ k : Nat, k ≤ s.size ∧ i = .int .i64 k ∧ (s.data.toList.take k).all Gate.nameByte = true) (fun i => s.size - (intOf i).toNat)
  case atStart => exact ⟨0, Nat.zero_le _, rfl, rfl⟩
  case round =>
    obtain ⟨k, hk, rfl, hall⟩ := hrel
    by_cases hlt : k < s.size
    · have HS : Hid ((s.data.toList.take (k + 1)).all Gate.nameByte = (true && Gate.nameByte s[k])) := by rw [Gate.all_snoc _ s k hlt, hall]; rfl
      have HN : Hid (Gate.nameByte s[k] = false → Gate.allName s = false) := fun h => Gate.all_not Gate.nameByte s k hlt h
      clear hall
      by_cases hd : 48 ≤ (s[k].toNat : Int) ∧ (s[k].toNat : Int) ≤ 57
      · have HC : Hid (Gate.nameByte s[k] = true) := by simp [Gate.nameByte, Hid]; omega
        obtain ⟨hd1, hd2⟩ := hd
        go_wp2_with (go_at_call 59; refine (isDigit_yes _ _ hd1 hd2).mono ?_; rintro e w' ⟨rfl, rfl⟩)
        go_round
        case rel => exact ⟨k + 1, by omega, by go_num, by rw [HS.out, HC.out]; rfl⟩
        case measure => simp [intOf]; omega
      · have HD : Hid (¬ (48 ≤ (s[k].toNat : Int) ∧ (s[k].toNat : Int) ≤ 57)) := hd
        clear hd
        by_cases h45 : (s[k].toNat : Int) = 45
        · have HC : Hid (Gate.nameByte s[k] = true) := by simp [Gate.nameByte, Hid]; omega
          have h45' : ((s[k].toNat : Int) != 45) = false := by simp [h45]
          clear h45
          go_wp2_with (go_at_call 59; refine (isDigit_no _ _ HD.out).mono ?_; rintro e w' ⟨rfl, rfl⟩)
          go_round
          case rel => exact ⟨k + 1, by omega, by go_num, by rw [HS.out, HC.out]; rfl⟩
          case measure => simp [intOf]; omega
        · have h45' : ((s[k].toNat : Int) != 45) = true := by simp [h45]
          by_cases h97 : (s[k].toNat : Int) < 97
          · have HC : Hid (Gate.nameByte s[k] = false) := by have := HD.out; simp [Gate.nameByte, Hid]; omega
            clear h45
            go_wp2_with (go_at_call 59; refine (isDigit_no _ _ HD.out).mono ?_; rintro e w' ⟨rfl, rfl⟩)
            go_ret
            exact ⟨ret_bool (HN.out HC.out).symm, rfl⟩
          · by_cases h122 : 122 < (s[k].toNat : Int)
            · have HC : Hid (Gate.nameByte s[k] = false) := by have := HD.out; simp [Gate.nameByte, Hid]; omega
              clear h45
              go_wp2_with (go_at_call 59; refine (isDigit_no _ _ HD.out).mono ?_; rintro e w' ⟨rfl, rfl⟩)
              go_ret
              exact ⟨ret_bool (HN.out HC.out).symm, rfl⟩
            · have HC : Hid (Gate.nameByte s[k] = true) := by simp [Gate.nameByte, Hid]; omega
              clear h45
              go_wp2_with (go_at_call 59; refine (isDigit_no _ _ HD.out).mono ?_; rintro e w' ⟨rfl, rfl⟩)
              go_round
              case rel => exact ⟨k + 1, by omega, by go_num, by rw [HS.out, HC.out]; rfl⟩
              case measure => simp [intOf]; omega
    · have HA : Hid (Gate.allName s = true) := by unfold Gate.allName Hid; rw [← Gate.take_all s k (by omega)]; exact hall
      clear hall
      go_wp2
      go_ret
      exact ⟨ret_bool HA.out.symm, rfl⟩

set_option maxHeartbeats 400000 in
theorem isName_any (s : ByteArray) (w : World) (hs : s.size ≤ maxLen) :
    Calls Tryd.prog 34 #[.string s] w fun e w' => e = .returned (.bool (Gate.nameOk s)) ∧ w' = w := by
  have hs' := hs
  unfold maxLen at hs'
  by_cases h0 : s.size = 0
  · rw [Gate.empty_of_size s h0]
    go_enter Tryd.func34, Tryd.ntmps34
    go_wp2
    go_ret
    exact ⟨rfl, rfl⟩
  · have hne : s.toList.isEmpty = false := by rw [Gate.isEmpty_of_size]; simp [h0]
    by_cases h16 : s.size ≤ 16
    · have HF : Hid (Gate.nameOk s = Gate.allName s) := by
        simp only [Hid, Gate.nameOk]; rw [decide_eq_true (show 1 ≤ s.size by omega), decide_eq_true h16]; simp
      go_enter Tryd.func34, Tryd.ntmps34
      go_wp2_with (go_at_call 40; refine (isNameBytes_any _ _ hs).mono ?_; rintro e w' ⟨rfl, rfl⟩)
      go_ret
      exact ⟨ret_bool HF.out.symm, rfl⟩
    · go_enter Tryd.func34, Tryd.ntmps34
      go_wp2_with (go_at_call 40; refine (isNameBytes_any _ _ hs).mono ?_; rintro e w' ⟨rfl, rfl⟩)
      go_ret
      refine ⟨ret_bool ?_, rfl⟩
      simp only [Gate.nameOk]; rw [decide_eq_false h16]; simp

end Go.Proofs.YtackfmeepggedaaDoor
