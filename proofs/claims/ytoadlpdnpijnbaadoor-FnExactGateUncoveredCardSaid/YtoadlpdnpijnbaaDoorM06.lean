import Derived.Test.YtoadlpdnpijnbaaDoorM05
namespace Go.Proofs.YtoadlpdnpijnbaaDoor

/-- A rule, and an act. -/
structure Rl where
  vs : List Int
  kd : ByteArray
  tm : ByteArray
  px : ByteArray
structure Ac where
  vb : Int
  kd : ByteArray
  tm : ByteArray
  nm : ByteArray

namespace Gate

def verbOk (v : Int) : Bool := decide (1 ≤ v) && decide (v ≤ 5)
def verbAt (vs : List Int) (i : Nat) : Bool := verbOk (vs.getD i 0) && (decide (i = 0) || decide (vs.getD (i - 1) 0 < vs.getD i 0))
def verbsOk (vs : List Int) : Bool := decide (0 < vs.length) && up (verbAt vs) vs.length
def kindsOk (r : Rl) : Bool := (r.kd.toList.isEmpty || nameOk r.kd) && (r.tm.toList.isEmpty || nameOk r.tm)
def ruleOk (r : Rl) : Bool := kindsOk r && (verbsOk r.vs && (decide (r.px.size ≤ 16) && allName r.px))
def rulesOk (rs : List Rl) : Bool := rs.all ruleOk

def begins (s p : ByteArray) : Bool := decide (p.size ≤ s.size) && ((s.extract 0 p.size).toList == p.toList)
/-- What a rule is held to besides its verbs. -/
def meets (ts : List Tm) (r : Rl) (kd tm nm : ByteArray) : Bool := (r.kd.toList.isEmpty || decide (r.kd = kd)) && ((r.tm.toList.isEmpty || under ts 4 tm r.tm) && begins nm r.px)
def hasVerb (vs : List Int) (v : Int) : Bool := vs.any fun x => decide (x = v)
def allowsOf (ts : List Tm) (r : Rl) (a : Ac) : Bool := hasVerb r.vs a.vb && meets ts r a.kd a.tm a.nm
def allows (ts : List Tm) (r : Rl) (a : Ac) : Bool := teamsOk ts && (ruleOk r && allowsOf ts r a)

theorem hasVerb_snoc (vs : List Int) (v : Int) (k : Nat) (h : k < vs.length) : hasVerb (vs.take (k + 1)) v = (hasVerb (vs.take k) v || decide (vs[k] = v)) := by
  unfold hasVerb; rw [List.take_succ_eq_append_getElem h, List.any_append]; simp
theorem hasVerb_at (vs : List Int) (v : Int) (k : Nat) (h : k < vs.length) (e : vs[k] = v) : hasVerb vs v = true := by
  unfold hasVerb; rw [List.any_eq_true]; exact ⟨vs[k], List.getElem_mem h, by simpa using e⟩
theorem hasVerb_all (vs : List Int) (v : Int) (k : Nat) (h : vs.length ≤ k) : hasVerb (vs.take k) v = hasVerb vs v := by rw [List.take_of_length_le h]

theorem verbsOk_at {vs : List Int} (h : verbsOk vs = true) (i : Nat) (hi : i < vs.length) : 1 ≤ vs[i] ∧ vs[i] ≤ 5 := by
  unfold verbsOk at h
  rw [Bool.and_eq_true] at h
  have h1 := up_at hi h.2
  unfold verbAt at h1
  rw [getD_at vs i _ hi, Bool.and_eq_true] at h1
  have h2 := h1.1
  simpa [verbOk] using h2

theorem hasVerb_given {vs : List Int} (h : verbsOk vs = true) (v : Int) (hv : hasVerb vs v = true) : 1 ≤ v ∧ v ≤ 5 := by
  unfold hasVerb at hv
  rw [List.any_eq_true] at hv
  obtain ⟨x, hx, he⟩ := hv
  obtain ⟨i, hi, rfl⟩ := List.mem_iff_getElem.1 hx
  have := verbsOk_at h i hi
  have e : vs[i] = v := by simpa using he
  rw [e] at this; exact this

/-- A set of verbs, a bit each. -/
def bits5 (a b c d e : Bool) : Int := (cond a 2 0) + (cond b 4 0) + (cond c 8 0) + (cond d 16 0) + (cond e 32 0)
def bitsOf (f : Int → Bool) : Int := bits5 (f 1) (f 2) (f 3) (f 4) (f 5)
def orI (x y : Int) : Int := bits BinOp.or IntKind.u8 x y
def andI (x y : Int) : Int := bits BinOp.and IntKind.u8 x y
def clrI (x y : Int) : Int := bits BinOp.andNot IntKind.u8 x y
def oneAt (v : Int) : Int := 2 ^ v.toNat % 256

theorem five (P : Int → Prop) (h1 : P 1) (h2 : P 2) (h3 : P 3) (h4 : P 4) (h5 : P 5) (v : Int) (hv : 1 ≤ v ∧ v ≤ 5) : P v := by
  have hc : v = 1 ∨ v = 2 ∨ v = 3 ∨ v = 4 ∨ v = 5 := by omega
  rcases hc with rfl | rfl | rfl | rfl | rfl <;> assumption

theorem bits_congr {f g : Int → Bool} (h : ∀ v, 1 ≤ v ∧ v ≤ 5 → f v = g v) : bitsOf f = bitsOf g := by
  unfold bitsOf; rw [h 1 (by omega), h 2 (by omega), h 3 (by omega), h 4 (by omega), h 5 (by omega)]

theorem or_all : ∀ a b c d e : Bool, orI (bits5 a b c d e) (oneAt 1) = bits5 (a || true) (b || false) (c || false) (d || false) (e || false) ∧ orI (bits5 a b c d e) (oneAt 2) = bits5 (a || false) (b || true) (c || false) (d || false) (e || false) ∧
    orI (bits5 a b c d e) (oneAt 3) = bits5 (a || false) (b || false) (c || true) (d || false) (e || false) ∧ orI (bits5 a b c d e) (oneAt 4) = bits5 (a || false) (b || false) (c || false) (d || true) (e || false) ∧ orI (bits5 a b c d e) (oneAt 5) = bits5 (a || false) (b || false) (c || false) (d || false) (e || true) := by decide +kernel
theorem and_all : ∀ a b c d e : Bool, (andI (bits5 a b c d e) (oneAt 1) != 0) = a ∧ (andI (bits5 a b c d e) (oneAt 2) != 0) = b ∧ (andI (bits5 a b c d e) (oneAt 3) != 0) = c ∧ (andI (bits5 a b c d e) (oneAt 4) != 0) = d ∧ (andI (bits5 a b c d e) (oneAt 5) != 0) = e := by decide +kernel
theorem clr_all : ∀ a b c d e a' b' c' d' e' : Bool, clrI (bits5 a b c d e) (bits5 a' b' c' d' e') = bits5 (a && !a') (b && !b') (c && !c') (d && !d') (e && !e') := by decide +kernel
theorem zero_all : ∀ a b c d e : Bool, (bits5 a b c d e == 0) = !(a || b || c || d || e) := by decide +kernel
theorem range_all : ∀ a b c d e : Bool, 0 ≤ bits5 a b c d e ∧ bits5 a b c d e ≤ 62 := by decide +kernel

theorem bits_or (f : Int → Bool) (v : Int) (hv : 1 ≤ v ∧ v ≤ 5) : orI (bitsOf f) (oneAt v) = bitsOf (fun u => f u || decide (v = u)) := by
  obtain ⟨h1, h2, h3, h4, h5⟩ := or_all (f 1) (f 2) (f 3) (f 4) (f 5)
  exact five (fun v => orI (bitsOf f) (oneAt v) = bitsOf (fun u => f u || decide (v = u))) h1 h2 h3 h4 h5 v hv
theorem bits_and (f : Int → Bool) (v : Int) (hv : 1 ≤ v ∧ v ≤ 5) : (andI (bitsOf f) (oneAt v) != 0) = f v := by
  obtain ⟨h1, h2, h3, h4, h5⟩ := and_all (f 1) (f 2) (f 3) (f 4) (f 5)
  exact five (fun v => (andI (bitsOf f) (oneAt v) != 0) = f v) h1 h2 h3 h4 h5 v hv
theorem bits_clr (f g : Int → Bool) : clrI (bitsOf f) (bitsOf g) = bitsOf (fun v => f v && !g v) := clr_all _ _ _ _ _ _ _ _ _ _
theorem bits_zero (f : Int → Bool) : (bitsOf f == 0) = !(f 1 || f 2 || f 3 || f 4 || f 5) := zero_all _ _ _ _ _
theorem bits_range (f : Int → Bool) : 0 ≤ bitsOf f ∧ bitsOf f ≤ 62 := range_all _ _ _ _ _
theorem bits_none : bitsOf (fun _ => false) = 0 := rfl

end Gate
end Go.Proofs.YtoadlpdnpijnbaaDoor

namespace Go.Proofs.YtoadlpdnpijnbaaDoor
namespace Gate

/-- A rule covers a verb of another one. -/
def covs (ts : List Tm) (r q : Rl) (v : Int) : Bool := hasVerb q.vs v && meets ts q r.kd r.tm r.px
def lacksAt (ts : List Tm) (rs : List Rl) (r : Rl) (v : Int) : Bool := hasVerb r.vs v && !(rs.any fun q => covs ts r q v)
def leftBits (ts : List Tm) (rs : List Rl) (r : Rl) : Int := bitsOf (lacksAt ts rs r)
def allOk (ts : List Tm) (rs : List Rl) (r : Rl) : Bool := teamsOk ts && (ruleOk r && rulesOk rs)
def covers (ts : List Tm) (rs : List Rl) (r : Rl) : Bool := allOk ts rs r && (leftBits ts rs r == 0)

/-- The same as the specification says it: the empty team apart. -/
def meetsS (ts : List Tm) (r q : Rl) : Bool := (q.kd.toList.isEmpty || decide (q.kd = r.kd)) && ((q.tm.toList.isEmpty || (!r.tm.toList.isEmpty && under ts 4 r.tm q.tm)) && begins r.px q.px)
def covsS (ts : List Tm) (r q : Rl) (v : Int) : Bool := hasVerb q.vs v && meetsS ts r q
def lacksS (ts : List Tm) (rs : List Rl) (r : Rl) : Int := (r.vs.find? fun v => !(rs.any fun q => covsS ts r q v)).getD 0
def coversS (ts : List Tm) (rs : List Rl) (r : Rl) : Bool := allOk ts rs r && (lacksS ts rs r == 0)

theorem left_zero (ts : List Tm) (r : Rl) : leftBits ts [] r = bitsOf (hasVerb r.vs) := by
  unfold leftBits; apply bits_congr; intro v _; simp [lacksAt]

theorem left_snoc (ts : List Tm) (rs : List Rl) (r : Rl) (k : Nat) (h : k < rs.length) :
    leftBits ts (rs.take (k + 1)) r = clrI (leftBits ts (rs.take k) r) (bitsOf fun v => meets ts rs[k] r.kd r.tm r.px && hasVerb rs[k].vs v) := by
  unfold leftBits
  rw [bits_clr]
  apply bits_congr
  intro v _
  unfold lacksAt
  rw [List.take_succ_eq_append_getElem h, List.any_append]
  simp only [List.any_cons, List.any_nil, Bool.or_false, covs]
  cases hasVerb r.vs v <;> cases (List.take k rs).any (fun q => hasVerb q.vs v && meets ts q r.kd r.tm r.px) <;> cases meets ts rs[k] r.kd r.tm r.px <;> cases hasVerb rs[k].vs v <;> rfl

theorem meets_same {ts : List Tm} (hok : teamsOk ts = true) (r q : Rl) : meetsS ts r q = meets ts q r.kd r.tm r.px := by
  have hup : up (teamAt ts) ts.length = true := by
    unfold teamsOk at hok; simp only [Bool.and_eq_true] at hok; exact hok.2.1
  unfold meetsS meets
  congr 2
  cases hq : q.tm.toList.isEmpty
  · cases hr : r.tm.toList.isEmpty
    · rfl
    · have h0 : r.tm = ByteArray.empty := empty_of_size _ (by rw [isEmpty_of_size] at hr; simpa using hr)
      rw [h0, under_empty hup 4 q.tm (by rw [isEmpty_of_size] at hq; simpa using hq)]
      rfl
  · rfl

theorem covs_same {ts : List Tm} (hok : teamsOk ts = true) (r q : Rl) (v : Int) : covsS ts r q v = covs ts r q v := by
  unfold covsS covs; rw [meets_same hok]

theorem lacks_find {ts : List Tm} (hok : teamsOk ts = true) (rs : List Rl) (r : Rl) : lacksS ts rs r = (r.vs.find? fun v => !(rs.any fun q => covs ts r q v)).getD 0 := by
  unfold lacksS
  have : (fun v => !(rs.any fun q => covsS ts r q v)) = fun v => !(rs.any fun q => covs ts r q v) := by
    funext v; congr 2; funext q; exact covs_same hok r q v
  rw [this]

theorem left_zero_iff {ts : List Tm} (rs : List Rl) {r : Rl} (hv : verbsOk r.vs = true) : (leftBits ts rs r == 0) = true ↔ ∀ v ∈ r.vs, (rs.any fun q => covs ts r q v) = true := by
  unfold leftBits
  rw [bits_zero]
  constructor
  · intro h v hm
    simp only [Bool.not_eq_true', Bool.or_eq_false_iff] at h
    have h5 : 1 ≤ v ∧ v ≤ 5 := by
      obtain ⟨i, hi, rfl⟩ := List.mem_iff_getElem.1 hm
      exact verbsOk_at hv i hi
    have hl : lacksAt ts rs r v = false := by
      obtain ⟨⟨⟨⟨h1, h2⟩, h3⟩, h4⟩, h6⟩ := h
      exact five (fun v => lacksAt ts rs r v = false) h1 h2 h3 h4 h6 v h5
    unfold lacksAt at hl
    have hh : hasVerb r.vs v = true := by unfold hasVerb; rw [List.any_eq_true]; exact ⟨v, hm, by simp⟩
    rw [hh] at hl
    simpa using hl
  · intro h
    have hl : ∀ v, lacksAt ts rs r v = false := by
      intro v
      unfold lacksAt
      cases hh : hasVerb r.vs v
      · rfl
      · unfold hasVerb at hh
        rw [List.any_eq_true] at hh
        obtain ⟨x, hx, he⟩ := hh
        have e : x = v := by simpa using he
        subst e
        rw [h x hx]; rfl
    simp [hl]

theorem lacks_zero_iff {ts : List Tm} (hok : teamsOk ts = true) (rs : List Rl) {r : Rl} (hv : verbsOk r.vs = true) : (lacksS ts rs r == 0) = true ↔ ∀ v ∈ r.vs, (rs.any fun q => covs ts r q v) = true := by
  rw [lacks_find hok]
  constructor
  · intro h v hm
    cases hf : r.vs.find? (fun v => !(rs.any fun q => covs ts r q v)) with
    | none =>
      rw [List.find?_eq_none] at hf
      simpa using hf v hm
    | some x =>
      rw [hf] at h
      have hx := List.mem_of_find?_eq_some hf
      obtain ⟨i, hi, rfl⟩ := List.mem_iff_getElem.1 hx
      have h5 := verbsOk_at hv i hi
      simp at h
      omega
  · intro h
    have hf : r.vs.find? (fun v => !(rs.any fun q => covs ts r q v)) = none := by
      rw [List.find?_eq_none]; intro v hm; rw [h v hm]; simp
    rw [hf]; rfl

theorem covers_same (ts : List Tm) (rs : List Rl) (r : Rl) : covers ts rs r = coversS ts rs r := by
  unfold covers coversS
  cases ha : allOk ts rs r
  · rfl
  · unfold allOk at ha
    simp only [Bool.and_eq_true] at ha
    have hv : verbsOk r.vs = true := by
      have := ha.2.1; unfold ruleOk at this; simp only [Bool.and_eq_true] at this; exact this.2.1
    simp only [Bool.true_and]
    rw [Bool.eq_iff_iff, left_zero_iff rs hv, lacks_zero_iff ha.1 rs hv]

theorem all_take_snoc {α : Type} (p : α → Bool) (l : List α) (k : Nat) (h : k < l.length) : (l.take (k + 1)).all p = ((l.take k).all p && p l[k]) := by
  rw [List.take_succ_eq_append_getElem h, List.all_append]; simp
theorem all_at_no {α : Type} (p : α → Bool) (l : List α) (k : Nat) (h : k < l.length) (hp : p l[k] = false) : l.all p = false := by
  rw [List.all_eq_false]; exact ⟨l[k], List.getElem_mem h, by simp [hp]⟩
theorem not_any_not {α : Type} (p : α → Bool) (l : List α) : (!(l.any fun x => !p x)) = l.all p := by
  rw [Bool.eq_iff_iff]; simp

end Gate
end Go.Proofs.YtoadlpdnpijnbaaDoor
