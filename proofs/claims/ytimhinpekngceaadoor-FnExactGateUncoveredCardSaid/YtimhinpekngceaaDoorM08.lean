import Derived.Test.YtimhinpekngceaaDoorM07
import Derived.Test.YtimhinpekngceaaDoorM02
namespace Go.Proofs.YtimhinpekngceaaDoor
namespace Gate

/-- A rule covers a verb of another one. -/
def covs (ts : List Tm) (r q : Rl) (v : Int) : Bool := hasVerb q.vs v && meets ts q r.kd r.tm r.px
def lacksAt (ts : List Tm) (rs : List Rl) (r : Rl) (v : Int) : Bool := hasVerb r.vs v && !(rs.any fun q => covs ts r q v)
def leftBits (ts : List Tm) (rs : List Rl) (r : Rl) : Int := bitsOf (lacksAt ts rs r)
def allOk (ts : List Tm) (rs : List Rl) (r : Rl) : Bool := teamsOk ts && (ruleOk r && rulesOk rs)
def covers (ts : List Tm) (rs : List Rl) (r : Rl) : Bool := allOk ts rs r && (leftBits ts rs r == 0)

/-- The same as the specification says it: the empty team apart. -/
def meetsS (ts : List Tm) (r q : Rl) : Bool := (q.kd.toList.isEmpty || decide (q.kd = r.kd)) && ((q.tm.toList.isEmpty || (!r.tm.toList.isEmpty && under ts 4 r.tm q.tm)) && begins r.px q.px)
def covsS (ts : List Tm) (r q : Rl) (v : Int) : Bool := hasVerb q.vs v && meetsS ts r q
def lacksS (ts : List Tm) (rs : List Rl) (r : Rl) : Int := (r.vs.find? fun v => !(rs.any fun q => covsS ts r q v)).getD 0
def coversS (ts : List Tm) (rs : List Rl) (r : Rl) : Bool := allOk ts rs r && (lacksS ts rs r == 0)

theorem left_zero (ts : List Tm) (r : Rl) : leftBits ts [] r = bitsOf (hasVerb r.vs) := by
  unfold leftBits; apply bits_congr; intro v _; simp [lacksAt]

theorem left_snoc (ts : List Tm) (rs : List Rl) (r : Rl) (k : Nat) (h : k < rs.length) :
    leftBits ts (rs.take (k + 1)) r = clrI (leftBits ts (rs.take k) r) (bitsOf fun v => meets ts rs[k] r.kd r.tm r.px && hasVerb rs[k].vs v) := by
  unfold leftBits
  rw [bits_clr]
  apply bits_congr
  intro v _
  unfold lacksAt
  rw [List.take_succ_eq_append_getElem h, List.any_append]
  simp only [List.any_cons, List.any_nil, Bool.or_false, covs]
  cases hasVerb r.vs v <;> cases (List.take k rs).any (fun q => hasVerb q.vs v && meets ts q r.kd r.tm r.px) <;> cases meets ts rs[k] r.kd r.tm r.px <;> cases hasVerb rs[k].vs v <;> rfl

theorem meets_same {ts : List Tm} (hok : teamsOk ts = true) (r q : Rl) : meetsS ts r q = meets ts q r.kd r.tm r.px := by
  have hup : up (teamAt ts) ts.length = true := by
    unfold teamsOk at hok; simp only [Bool.and_eq_true] at hok; exact hok.2.1
  unfold meetsS meets
  congr 2
  cases hq : q.tm.toList.isEmpty
  · cases hr : r.tm.toList.isEmpty
    · rfl
    · have h0 : r.tm = ByteArray.empty := empty_of_size _ (by rw [isEmpty_of_size] at hr; simpa using hr)
      rw [h0, under_empty hup 4 q.tm (by rw [isEmpty_of_size] at hq; simpa using hq)]
      rfl
  · rfl

theorem covs_same {ts : List Tm} (hok : teamsOk ts = true) (r q : Rl) (v : Int) : covsS ts r q v = covs ts r q v := by
  unfold covsS covs; rw [meets_same hok]

theorem lacks_find {ts : List Tm} (hok : teamsOk ts = true) (rs : List Rl) (r : Rl) : lacksS ts rs r = (r.vs.find? fun v => !(rs.any fun q => covs ts r q v)).getD 0 := by
  unfold lacksS
  have : (fun v => !(rs.any fun q => covsS ts r q v)) = fun v => !(rs.any fun q => covs ts r q v) := by
    funext v; congr 2; funext q; exact covs_same hok r q v
  rw [this]

theorem left_zero_iff {ts : List Tm} (rs : List Rl) {r : Rl} (hv : verbsOk r.vs = true) : (leftBits ts rs r == 0) = true ↔ ∀ v ∈ r.vs, (rs.any fun q => covs ts r q v) = true := by
  unfold leftBits
  rw [bits_zero]
  constructor
  · intro h v hm
    simp only [Bool.not_eq_true', Bool.or_eq_false_iff] at h
    have h5 : 1 ≤ v ∧ v ≤ 5 := by
      obtain ⟨i, hi, rfl⟩ := List.mem_iff_getElem.1 hm
      exact verbsOk_at hv i hi
    have hl : lacksAt ts rs r v = false := by
      obtain ⟨⟨⟨⟨h1, h2⟩, h3⟩, h4⟩, h6⟩ := h
      exact five (fun v => lacksAt ts rs r v = false) h1 h2 h3 h4 h6 v h5
    unfold lacksAt at hl
    have hh : hasVerb r.vs v = true := by unfold hasVerb; rw [List.any_eq_true]; exact ⟨v, hm, by simp⟩
    rw [hh] at hl
    simpa using hl
  · intro h
    have hl : ∀ v, lacksAt ts rs r v = false := by
      intro v
      unfold lacksAt
      cases hh : hasVerb r.vs v
      · rfl
      · unfold hasVerb at hh
        rw [List.any_eq_true] at hh
        obtain ⟨x, hx, he⟩ := hh
        have e : x = v := by simpa using he
        subst e
        rw [h x hx]; rfl
    simp [hl]

theorem lacks_zero_iff {ts : List Tm} (hok : teamsOk ts = true) (rs : List Rl) {r : Rl} (hv : verbsOk r.vs = true) : (lacksS ts rs r == 0) = true ↔ ∀ v ∈ r.vs, (rs.any fun q => covs ts r q v) = true := by
  rw [lacks_find hok]
  constructor
  · intro h v hm
    cases hf : r.vs.find? (fun v => !(rs.any fun q => covs ts r q v)) with
    | none =>
      rw [List.find?_eq_none] at hf
      simpa using hf v hm
    | some x =>
      rw [hf] at h
      have hx := List.mem_of_find?_eq_some hf
      obtain ⟨i, hi, rfl⟩ := List.mem_iff_getElem.1 hx
      have h5 := verbsOk_at hv i hi
      simp at h
      omega
  · intro h
    have hf : r.vs.find? (fun v => !(rs.any fun q => covs ts r q v)) = none := by
      rw [List.find?_eq_none]; intro v hm; rw [h v hm]; simp
    rw [hf]; rfl

theorem covers_same (ts : List Tm) (rs : List Rl) (r : Rl) : covers ts rs r = coversS ts rs r := by
  unfold covers coversS
  cases ha : allOk ts rs r
  · rfl
  · unfold allOk at ha
    simp only [Bool.and_eq_true] at ha
    have hv : verbsOk r.vs = true := by
      have := ha.2.1; unfold ruleOk at this; simp only [Bool.and_eq_true] at this; exact this.2.1
    simp only [Bool.true_and]
    rw [Bool.eq_iff_iff, left_zero_iff rs hv, lacks_zero_iff ha.1 rs hv]

theorem all_take_snoc {α : Type} (p : α → Bool) (l : List α) (k : Nat) (h : k < l.length) : (l.take (k + 1)).all p = ((l.take k).all p && p l[k]) := by
  rw [List.take_succ_eq_append_getElem h, List.all_append]; simp
theorem all_at_no {α : Type} (p : α → Bool) (l : List α) (k : Nat) (h : k < l.length) (hp : p l[k] = false) : l.all p = false := by
  rw [List.all_eq_false]; exact ⟨l[k], List.getElem_mem h, by simp [hp]⟩
theorem not_any_not {α : Type} (p : α → Bool) (l : List α) : (!(l.any fun x => !p x)) = l.all p := by
  rw [Bool.eq_iff_iff]; simp

end Gate
end Go.Proofs.YtimhinpekngceaaDoor

namespace Go.Proofs.YtimhinpekngceaaDoor
open Go.RowKit

def Tm.cells (m : Tm) : Array Value := #[.string m.nm, .string m.ov]

structure Tm.Small (m : Tm) : Prop where
  nm : m.nm.size ≤ maxLen
  ov : m.ov.size ≤ maxLen

/-- A slice of teams that lies in memory. -/
structure TmsAt (w : World) (a : Option Addr) (ts : List Tm) : Prop where
  len : ts.length ≤ maxLen
  small : ∀ i (h : i < ts.length), ts[i].Small
  rows : ts ≠ [] → ∃ b off, a = some ⟨b, off, none⟩ ∧ b < w.heap.size ∧ ∀ i (h : i < ts.length), ∀ j, j < 2 → w.cell? ⟨b, off + i * 2 + j, none⟩ = ts[i].cells[j]?

theorem TmsAt.mono {w w' : World} {a : Option Addr} {ts : List Tm} (h : TmsAt w a ts) (hl : Below w.heap.size w w') : TmsAt w' a ts :=
  ⟨h.len, h.small, fun hne => by
    obtain ⟨b, off, ha, hb, hr⟩ := h.rows hne
    exact ⟨b, off, ha, Nat.lt_of_lt_of_le hb hl.size, fun i hi j hj => (hl.cell (p := ⟨b, off + i * 2 + j, none⟩) hb).trans (hr i hi j hj)⟩⟩

/-- The two cells of a team, in a later world. -/
theorem TmsAt.load {w w' : World} {a : Option Addr} {ts : List Tm} (h : TmsAt w a ts) (hl : Below w.heap.size w w') (i : Nat) (hi : i < ts.length) : ∃ b off, a = some ⟨b, off, none⟩ ∧ b < w.heap.size ∧
    w'.cell? ⟨b, off + i * 2, none⟩ = some (.string ts[i].nm) ∧ w'.cell? ⟨b, off + i * 2 + 1, none⟩ = some (.string ts[i].ov) := by
  obtain ⟨b, off, ha, hb, hr⟩ := h.rows (by rintro rfl; simp at hi)
  have hc : ∀ j, j < 2 → w'.cell? ⟨b, off + i * 2 + j, none⟩ = ts[i].cells[j]? := fun j hj => (hl.cell (p := ⟨b, off + i * 2 + j, none⟩) hb).trans (hr i hi j hj)
  exact ⟨b, off, ha, hb, hc 0 (by omega), hc 1 (by omega)⟩

def Tm.sz (m : Tm) : Nat := m.nm.size + m.ov.size
def sumT (ts : List Tm) : Nat := (ts.map Tm.sz).sum
def tmsSz (ts : List Tm) : Nat := ts.length + sumT ts

def put2 (w : World) (b o : Nat) (v0 v1 : Value) : World := (w.setCell ⟨b, o, none⟩ v0).setCell ⟨b, o + 1, none⟩ v1
def set2 (C : Array Value) (o : Nat) (v0 v1 : Value) : Array Value := (C.setIfInBounds o v0).setIfInBounds (o + 1) v1
theorem put2_block {w : World} {b o : Nat} {C : Array Value} {t : TypeId} (h : w.heap[b]? = some (.cells C t)) (v0 v1 : Value) : (put2 w b o v0 v1).heap[b]? = some (.cells (set2 C o v0 v1) t) :=
  heap_setCell_at (heap_setCell_at h v0) v1
theorem put2_below {B : Nat} {a w : World} (h : Below B a w) {b : Nat} (hb : B ≤ b) (o : Nat) (v0 v1 : Value) : Below B a (put2 w b o v0 v1) :=
  (h.setCell hb v0).setCell hb v1
theorem set2_size (C : Array Value) (o : Nat) (v0 v1 : Value) : (set2 C o v0 v1).size = C.size := by simp [set2]
theorem set2_out (C : Array Value) (o i : Nat) (v0 v1 : Value) (h : i < o ∨ o + 2 ≤ i) : (set2 C o v0 v1)[i]? = C[i]? := by
  unfold set2
  iterate 2 rw [Array.getElem?_setIfInBounds, if_neg (by omega)]
theorem set2_in (C : Array Value) (o j : Nat) (v0 v1 : Value) (hj : j < 2) (ho : o + 2 ≤ C.size) : (set2 C o v0 v1)[o + j]? = (#[v0, v1] : Array Value)[j]? := by
  have hc : j = 0 ∨ j = 1 := by omega
  unfold set2
  rcases hc with h | h <;> subst h <;> simp [Array.getElem?_setIfInBounds] <;> omega

/-- A row of teams in memory of its own, the first k laid. -/
structure TmsOwn (ty : TypeId) (lo : Nat) (w : World) (bo : Nat) (ts : List Tm) (k : Nat) : Prop where
  low : lo ≤ bo
  rows : ∃ C, w.heap[bo]? = some (.cells C ty) ∧ C.size = ts.length * 2 ∧ ∀ i (h : i < ts.length), i < k → ∀ j, j < 2 → C[i * 2 + j]? = ts[i].cells[j]?

theorem TmsOwn.at {ty : TypeId} {lo : Nat} {w : World} {bo : Nat} {ts : List Tm} (h : TmsOwn ty lo w bo ts ts.length) (hs : ∀ i (h : i < ts.length), ts[i].Small) (hl : ts.length ≤ maxLen) : TmsAt w (some ⟨bo, 0, none⟩) ts := by
  obtain ⟨C, hC, hsz, hr⟩ := h.rows
  refine ⟨hl, hs, fun _ => ⟨bo, 0, rfl, (Array.getElem?_eq_some_iff.1 hC).1, fun i hi j hj => ?_⟩⟩
  rw [cell_of_block hC, Nat.zero_add]
  exact hr i hi hi j hj

theorem TmsOwn.later {ty : TypeId} {lo : Nat} {w w' : World} {bo : Nat} {ts : List Tm} {k : Nat} (h : TmsOwn ty lo w bo ts k) (hb : Below w.heap.size w w') : TmsOwn ty lo w' bo ts k := by
  obtain ⟨C, hC, hsz, hr⟩ := h.rows
  exact ⟨h.low, C, (hb.block bo (Array.getElem?_eq_some_iff.1 hC).1).trans hC, hsz, hr⟩

theorem TmsOwn.put {ty : TypeId} {lo : Nat} {w : World} {bo : Nat} {ts : List Tm} {k : Nat} (h : TmsOwn ty lo w bo ts k) (hk : k < ts.length) :
    TmsOwn ty lo (put2 w bo (k * 2) (.string ts[k].nm) (.string ts[k].ov)) bo ts (k + 1) := by
  obtain ⟨C, hC, hsz, hr⟩ := h.rows
  refine ⟨h.low, _, put2_block hC _ _, by rw [set2_size]; exact hsz, fun i hi hik j hj => ?_⟩
  rcases Nat.lt_or_ge i k with hlt | hge
  · rw [set2_out _ _ _ _ _ (by omega)]
    exact hr i hi hlt j hj
  · have e : i = k := by omega
    subst e
    rw [set2_in _ _ _ _ _ hj (by omega)]
    rfl

def tmZero : Array Value := #[.string ByteArray.empty, .string ByteArray.empty]
def tmsZero (n : Nat) : Array Value := madeCells tmZero (n * 2)

end Go.Proofs.YtimhinpekngceaaDoor
