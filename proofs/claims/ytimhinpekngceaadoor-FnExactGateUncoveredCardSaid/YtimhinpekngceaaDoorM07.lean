import Derived.Test.YtimhinpekngceaaDoorM06
namespace Go.Proofs.YtimhinpekngceaaDoor

/-- A team: its name, the one over it. -/
structure Tm where
  nm : ByteArray
  ov : ByteArray

namespace Gate

def noTeam : Tm := ⟨ByteArray.empty, ByteArray.empty⟩
def hasTeam (ts : List Tm) (v : ByteArray) : Bool := ts.any fun t => decide (t.nm = v)
/-- What stands over the first team of a name. -/
def over (ts : List Tm) (v : ByteArray) : ByteArray := ((ts.find? fun t => decide (t.nm = v)).getD noTeam).ov

theorem hasTeam_snoc (ts : List Tm) (v : ByteArray) (k : Nat) (h : k < ts.length) : hasTeam (ts.take (k + 1)) v = (hasTeam (ts.take k) v || decide (ts[k].nm = v)) := by
  unfold hasTeam; rw [List.take_succ_eq_append_getElem h, List.any_append]; simp
theorem hasTeam_at (ts : List Tm) (v : ByteArray) (k : Nat) (h : k < ts.length) (e : ts[k].nm = v) : hasTeam ts v = true := by
  unfold hasTeam; rw [List.any_eq_true]; exact ⟨ts[k], List.getElem_mem h, by simpa using e⟩
theorem hasTeam_all (ts : List Tm) (v : ByteArray) (k : Nat) (h : ts.length ≤ k) : hasTeam (ts.take k) v = hasTeam ts v := by rw [List.take_of_length_le h]
theorem over_at (ts : List Tm) (v : ByteArray) (k : Nat) (h : k < ts.length) (hb : hasTeam (ts.take k) v = false) (e : ts[k].nm = v) : over ts v = ts[k].ov := by
  unfold over
  have hn : (ts.take k).find? (fun s => decide (s.nm = v)) = none := by
    rw [List.find?_eq_none]; intro x hx; unfold hasTeam at hb; rw [List.any_eq_false] at hb; exact hb x hx
  have hf : ts.find? (fun s => decide (s.nm = v)) = some ts[k] := by
    conv => lhs; rw [← List.take_append_drop k ts]
    rw [List.find?_append, hn, List.drop_eq_getElem_cons h, List.find?_cons_of_pos (by simpa using e)]; rfl
  rw [hf]; rfl
theorem over_none (ts : List Tm) (v : ByteArray) (hb : hasTeam ts v = false) : over ts v = ByteArray.empty := by
  unfold over
  have hn : ts.find? (fun s => decide (s.nm = v)) = none := by
    rw [List.find?_eq_none]; intro x hx; unfold hasTeam at hb; rw [List.any_eq_false] at hb; exact hb x hx
  rw [hn]; rfl

/-- A stands under b, in at most n steps. -/
def under (ts : List Tm) : Nat → ByteArray → ByteArray → Bool
  | 0, a, b => decide (a = b)
  | n + 1, a, b => decide (a = b) || (decide (¬ (over ts a).size = 0) && under ts n (over ts a) b)

theorem under_same (ts : List Tm) (n : Nat) (a b : ByteArray) (h : a = b) : under ts n a b = true := by
  cases n <;> simp [under, h]
theorem under_end (ts : List Tm) {a b : ByteArray} (h : ¬ a = b) : under ts 0 a b = false := by simp [under, h]
theorem under_stop (ts : List Tm) (n : Nat) {a b : ByteArray} (h : ¬ a = b) (h0 : (over ts a).size = 0) : under ts (n + 1) a b = false := by simp [under, h, h0]
theorem under_on (ts : List Tm) (n : Nat) {a b : ByteArray} (h : ¬ a = b) (h0 : ¬ (over ts a).size = 0) : under ts (n + 1) a b = under ts n (over ts a) b := by simp [under, h, h0]

/-- A team by itself and beside the others. -/
def teamAt (ts : List Tm) (i : Nat) : Bool :=
  nameOk (ts.getD i noTeam).nm && (decide (i = 0) || less (ts.getD (i - 1) noTeam).nm (ts.getD i noTeam).nm) && ((ts.getD i noTeam).ov.toList.isEmpty || hasTeam ts (ts.getD i noTeam).ov)

def climb (ts : List Tm) : Nat → ByteArray → ByteArray
  | 0, a => a
  | n + 1, a => climb ts n (over ts a)
/-- The same, that stands still at the empty name. -/
def climbS (ts : List Tm) : Nat → ByteArray → ByteArray
  | 0, a => a
  | n + 1, a => if a.size = 0 then a else climbS ts n (over ts a)

def deepOk (ts : List Tm) (t : Tm) : Bool := decide ((climb ts 4 t.ov).size = 0)
def deepAt (ts : List Tm) (i : Nat) : Bool := deepOk ts (ts.getD i noTeam)
def deepS (ts : List Tm) (i : Nat) : Bool := decide ((climbS ts 5 (ts.getD i noTeam).nm).size = 0)
def teamsOk (ts : List Tm) : Bool := decide (ts.length ≤ 12) && (up (teamAt ts) ts.length && up (deepAt ts) ts.length)
def teamAtS (ts : List Tm) (i : Nat) : Bool := teamAt ts i && deepS ts i
def teamsOkS (ts : List Tm) : Bool := decide (ts.length ≤ 12) && up (teamAtS ts) ts.length

theorem up_eq_true {P : Nat → Bool} {n : Nat} : up P n = true ↔ ∀ i, i < n → P i = true := by
  unfold up; rw [List.all_eq_true]; simp

theorem team_name {ts : List Tm} {i : Nat} (hi : i < ts.length) (h : teamAt ts i = true) : nameOk ts[i].nm = true := by
  unfold teamAt at h; rw [getD_at ts i _ hi] at h; simp only [Bool.and_eq_true] at h; exact h.1.1
theorem team_less {ts : List Tm} {i : Nat} (hi : i + 1 < ts.length) (h : teamAt ts (i + 1) = true) : less ts[i].nm ts[i + 1].nm = true := by
  unfold teamAt at h; rw [getD_at ts (i + 1) _ hi, Nat.add_sub_cancel, getD_at ts i _ (by omega)] at h; simp only [Bool.and_eq_true] at h
  simpa using h.1.2

theorem teams_less {ts : List Tm} (h : up (teamAt ts) ts.length = true) : ∀ (j : Nat) (hj : j < ts.length) (i : Nat) (hi : i < j), less (ts[i]'(by omega)).nm ts[j].nm = true := by
  intro j
  induction j with
  | zero => intro _ i hi; omega
  | succ j ih =>
    intro hj i hi
    have h2 := team_less hj (up_at hj h)
    rcases Nat.lt_or_ge i j with hlt | hge
    · exact bytesLess_trans _ _ _ (ih (by omega) i hlt) h2
    · have e : i = j := by omega
      subst e; exact h2

theorem over_self {ts : List Tm} (h : up (teamAt ts) ts.length = true) (i : Nat) (hi : i < ts.length) : over ts ts[i].nm = ts[i].ov := by
  refine over_at ts _ i hi ?_ rfl
  unfold hasTeam
  rw [List.any_eq_false]
  intro x hx
  obtain ⟨k, hk, rfl⟩ := List.mem_iff_getElem.1 hx
  have hk' : k < i := by simp at hk; omega
  have h1 := teams_less h i hi k hk'
  simp only [List.getElem_take, decide_eq_true_eq]
  intro e
  unfold less at h1
  rw [e, bytesLess_irrefl] at h1
  cases h1

theorem over_empty {ts : List Tm} (h : up (teamAt ts) ts.length = true) : over ts ByteArray.empty = ByteArray.empty := by
  apply over_none
  unfold hasTeam
  rw [List.any_eq_false]
  intro x hx
  obtain ⟨k, hk, rfl⟩ := List.mem_iff_getElem.1 hx
  have h1 := team_name hk (up_at hk h)
  simp only [decide_eq_true_eq]
  intro e
  rw [e, nameOk_empty _ rfl] at h1
  cases h1

theorem climb_empty {ts : List Tm} (h : over ts ByteArray.empty = ByteArray.empty) : ∀ n, climb ts n ByteArray.empty = ByteArray.empty
  | 0 => rfl
  | n + 1 => by unfold climb; rw [h]; exact climb_empty h n

theorem climb_same {ts : List Tm} (h : over ts ByteArray.empty = ByteArray.empty) : ∀ n a, climbS ts n a = climb ts n a
  | 0, _ => rfl
  | n + 1, a => by
    unfold climbS
    by_cases h0 : a.size = 0
    · rw [if_pos h0, empty_of_size a h0, climb_empty h]
    · rw [if_neg h0, climb_same h n]; rfl

theorem deep_same {ts : List Tm} (h : up (teamAt ts) ts.length = true) (i : Nat) (hi : i < ts.length) : deepS ts i = deepAt ts i := by
  unfold deepS deepAt deepOk
  rw [getD_at ts i _ hi, climb_same (over_empty h), show climb ts 5 ts[i].nm = climb ts 4 (over ts ts[i].nm) from rfl, over_self h i hi]

theorem teamsOk_same (ts : List Tm) : teamsOk ts = teamsOkS ts := by
  unfold teamsOk teamsOkS
  congr 1
  rw [Bool.eq_iff_iff, Bool.and_eq_true]
  constructor
  · rintro ⟨h1, h2⟩
    rw [up_eq_true]
    intro i hi
    unfold teamAtS
    rw [up_at hi h1, deep_same h1 i hi, up_at hi h2]; rfl
  · intro h
    rw [up_eq_true] at h
    have h1 : up (teamAt ts) ts.length = true := by
      rw [up_eq_true]; intro i hi; have := h i hi; unfold teamAtS at this; rw [Bool.and_eq_true] at this; exact this.1
    refine ⟨h1, ?_⟩
    rw [up_eq_true]; intro i hi; have := h i hi; unfold teamAtS at this; rw [Bool.and_eq_true, deep_same h1 i hi] at this; exact this.2

/-- Among teams that are ok nothing stands under a name but the empty one. -/
theorem under_empty {ts : List Tm} (h : up (teamAt ts) ts.length = true) (n : Nat) (b : ByteArray) (hb : ¬ b.size = 0) : under ts n ByteArray.empty b = false := by
  have hne : ¬ ByteArray.empty = b := by rintro rfl; exact hb rfl
  cases n with
  | zero => exact under_end ts hne
  | succ n => exact under_stop ts n hne (by rw [over_empty h]; rfl)

end Gate
end Go.Proofs.YtimhinpekngceaaDoor

namespace Go.Proofs.YtimhinpekngceaaDoor

/-- A rule, and an act. -/
structure Rl where
  vs : List Int
  kd : ByteArray
  tm : ByteArray
  px : ByteArray
structure Ac where
  vb : Int
  kd : ByteArray
  tm : ByteArray
  nm : ByteArray

namespace Gate

def verbOk (v : Int) : Bool := decide (1 ≤ v) && decide (v ≤ 5)
def verbAt (vs : List Int) (i : Nat) : Bool := verbOk (vs.getD i 0) && (decide (i = 0) || decide (vs.getD (i - 1) 0 < vs.getD i 0))
def verbsOk (vs : List Int) : Bool := decide (0 < vs.length) && up (verbAt vs) vs.length
def kindsOk (r : Rl) : Bool := (r.kd.toList.isEmpty || nameOk r.kd) && (r.tm.toList.isEmpty || nameOk r.tm)
def ruleOk (r : Rl) : Bool := kindsOk r && (verbsOk r.vs && (decide (r.px.size ≤ 16) && allName r.px))
def rulesOk (rs : List Rl) : Bool := rs.all ruleOk

def begins (s p : ByteArray) : Bool := decide (p.size ≤ s.size) && ((s.extract 0 p.size).toList == p.toList)
/-- What a rule is held to besides its verbs. -/
def meets (ts : List Tm) (r : Rl) (kd tm nm : ByteArray) : Bool := (r.kd.toList.isEmpty || decide (r.kd = kd)) && ((r.tm.toList.isEmpty || under ts 4 tm r.tm) && begins nm r.px)
def hasVerb (vs : List Int) (v : Int) : Bool := vs.any fun x => decide (x = v)
def allowsOf (ts : List Tm) (r : Rl) (a : Ac) : Bool := hasVerb r.vs a.vb && meets ts r a.kd a.tm a.nm
def allows (ts : List Tm) (r : Rl) (a : Ac) : Bool := teamsOk ts && (ruleOk r && allowsOf ts r a)

theorem hasVerb_snoc (vs : List Int) (v : Int) (k : Nat) (h : k < vs.length) : hasVerb (vs.take (k + 1)) v = (hasVerb (vs.take k) v || decide (vs[k] = v)) := by
  unfold hasVerb; rw [List.take_succ_eq_append_getElem h, List.any_append]; simp
theorem hasVerb_at (vs : List Int) (v : Int) (k : Nat) (h : k < vs.length) (e : vs[k] = v) : hasVerb vs v = true := by
  unfold hasVerb; rw [List.any_eq_true]; exact ⟨vs[k], List.getElem_mem h, by simpa using e⟩
theorem hasVerb_all (vs : List Int) (v : Int) (k : Nat) (h : vs.length ≤ k) : hasVerb (vs.take k) v = hasVerb vs v := by rw [List.take_of_length_le h]

theorem verbsOk_at {vs : List Int} (h : verbsOk vs = true) (i : Nat) (hi : i < vs.length) : 1 ≤ vs[i] ∧ vs[i] ≤ 5 := by
  unfold verbsOk at h
  rw [Bool.and_eq_true] at h
  have h1 := up_at hi h.2
  unfold verbAt at h1
  rw [getD_at vs i _ hi, Bool.and_eq_true] at h1
  have h2 := h1.1
  simpa [verbOk] using h2

theorem hasVerb_given {vs : List Int} (h : verbsOk vs = true) (v : Int) (hv : hasVerb vs v = true) : 1 ≤ v ∧ v ≤ 5 := by
  unfold hasVerb at hv
  rw [List.any_eq_true] at hv
  obtain ⟨x, hx, he⟩ := hv
  obtain ⟨i, hi, rfl⟩ := List.mem_iff_getElem.1 hx
  have := verbsOk_at h i hi
  have e : vs[i] = v := by simpa using he
  rw [e] at this; exact this

/-- A set of verbs, a bit each. -/
def bits5 (a b c d e : Bool) : Int := (cond a 2 0) + (cond b 4 0) + (cond c 8 0) + (cond d 16 0) + (cond e 32 0)
def bitsOf (f : Int → Bool) : Int := bits5 (f 1) (f 2) (f 3) (f 4) (f 5)
def orI (x y : Int) : Int := bits BinOp.or IntKind.u8 x y
def andI (x y : Int) : Int := bits BinOp.and IntKind.u8 x y
def clrI (x y : Int) : Int := bits BinOp.andNot IntKind.u8 x y
def oneAt (v : Int) : Int := 2 ^ v.toNat % 256

theorem five (P : Int → Prop) (h1 : P 1) (h2 : P 2) (h3 : P 3) (h4 : P 4) (h5 : P 5) (v : Int) (hv : 1 ≤ v ∧ v ≤ 5) : P v := by
  have hc : v = 1 ∨ v = 2 ∨ v = 3 ∨ v = 4 ∨ v = 5 := by omega
  rcases hc with rfl | rfl | rfl | rfl | rfl <;> assumption

theorem bits_congr {f g : Int → Bool} (h : ∀ v, 1 ≤ v ∧ v ≤ 5 → f v = g v) : bitsOf f = bitsOf g := by
  unfold bitsOf; rw [h 1 (by omega), h 2 (by omega), h 3 (by omega), h 4 (by omega), h 5 (by omega)]

theorem or_all : ∀ a b c d e : Bool, orI (bits5 a b c d e) (oneAt 1) = bits5 (a || true) (b || false) (c || false) (d || false) (e || false) ∧ orI (bits5 a b c d e) (oneAt 2) = bits5 (a || false) (b || true) (c || false) (d || false) (e || false) ∧
    orI (bits5 a b c d e) (oneAt 3) = bits5 (a || false) (b || false) (c || true) (d || false) (e || false) ∧ orI (bits5 a b c d e) (oneAt 4) = bits5 (a || false) (b || false) (c || false) (d || true) (e || false) ∧ orI (bits5 a b c d e) (oneAt 5) = bits5 (a || false) (b || false) (c || false) (d || false) (e || true) := by decide +kernel
theorem and_all : ∀ a b c d e : Bool, (andI (bits5 a b c d e) (oneAt 1) != 0) = a ∧ (andI (bits5 a b c d e) (oneAt 2) != 0) = b ∧ (andI (bits5 a b c d e) (oneAt 3) != 0) = c ∧ (andI (bits5 a b c d e) (oneAt 4) != 0) = d ∧ (andI (bits5 a b c d e) (oneAt 5) != 0) = e := by decide +kernel
theorem clr_all : ∀ a b c d e a' b' c' d' e' : Bool, clrI (bits5 a b c d e) (bits5 a' b' c' d' e') = bits5 (a && !a') (b && !b') (c && !c') (d && !d') (e && !e') := by decide +kernel
theorem zero_all : ∀ a b c d e : Bool, (bits5 a b c d e == 0) = !(a || b || c || d || e) := by decide +kernel
theorem range_all : ∀ a b c d e : Bool, 0 ≤ bits5 a b c d e ∧ bits5 a b c d e ≤ 62 := by decide +kernel

theorem bits_or (f : Int → Bool) (v : Int) (hv : 1 ≤ v ∧ v ≤ 5) : orI (bitsOf f) (oneAt v) = bitsOf (fun u => f u || decide (v = u)) := by
  obtain ⟨h1, h2, h3, h4, h5⟩ := or_all (f 1) (f 2) (f 3) (f 4) (f 5)
  exact five (fun v => orI (bitsOf f) (oneAt v) = bitsOf (fun u => f u || decide (v = u))) h1 h2 h3 h4 h5 v hv
theorem bits_and (f : Int → Bool) (v : Int) (hv : 1 ≤ v ∧ v ≤ 5) : (andI (bitsOf f) (oneAt v) != 0) = f v := by
  obtain ⟨h1, h2, h3, h4, h5⟩ := and_all (f 1) (f 2) (f 3) (f 4) (f 5)
  exact five (fun v => (andI (bitsOf f) (oneAt v) != 0) = f v) h1 h2 h3 h4 h5 v hv
theorem bits_clr (f g : Int → Bool) : clrI (bitsOf f) (bitsOf g) = bitsOf (fun v => f v && !g v) := clr_all _ _ _ _ _ _ _ _ _ _
theorem bits_zero (f : Int → Bool) : (bitsOf f == 0) = !(f 1 || f 2 || f 3 || f 4 || f 5) := zero_all _ _ _ _ _
theorem bits_range (f : Int → Bool) : 0 ≤ bitsOf f ∧ bitsOf f ≤ 62 := range_all _ _ _ _ _
theorem bits_none : bitsOf (fun _ => false) = 0 := rfl

end Gate
end Go.Proofs.YtimhinpekngceaaDoor
