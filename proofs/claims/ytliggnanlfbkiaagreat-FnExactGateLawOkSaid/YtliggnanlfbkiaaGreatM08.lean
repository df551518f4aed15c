import Derived.Test.YtliggnanlfbkiaaGreatM07
import Derived.Test.YtliggnanlfbkiaaGreatM04
import Derived.Test.YtliggnanlfbkiaaGreatM03
import Derived.Test.YtliggnanlfbkiaaGreatM05
import Derived.Test.YtliggnanlfbkiaaGreatM06
namespace Go.Proofs.YtliggnanlfbkiaaGreat

/-- A rule, and an act. -/
structure Rl where
  vs : List Int
  kd : ByteArray
  tm : ByteArray
  px : ByteArray
structure Ac where
  vb : Int
  kd : ByteArray
  tm : ByteArray
  nm : ByteArray

namespace Gate

def verbOk (v : Int) : Bool := decide (1 ≤ v) && decide (v ≤ 5)
def verbAt (vs : List Int) (i : Nat) : Bool := verbOk (vs.getD i 0) && (decide (i = 0) || decide (vs.getD (i - 1) 0 < vs.getD i 0))
def verbsOk (vs : List Int) : Bool := decide (0 < vs.length) && up (verbAt vs) vs.length
def kindsOk (r : Rl) : Bool := (r.kd.toList.isEmpty || nameOk r.kd) && (r.tm.toList.isEmpty || nameOk r.tm)
def ruleOk (r : Rl) : Bool := kindsOk r && (verbsOk r.vs && (decide (r.px.size ≤ 16) && allName r.px))
def rulesOk (rs : List Rl) : Bool := rs.all ruleOk

def begins (s p : ByteArray) : Bool := decide (p.size ≤ s.size) && ((s.extract 0 p.size).toList == p.toList)
/-- What a rule is held to besides its verbs. -/
def meets (ts : List Tm) (r : Rl) (kd tm nm : ByteArray) : Bool := (r.kd.toList.isEmpty || decide (r.kd = kd)) && ((r.tm.toList.isEmpty || under ts 4 tm r.tm) && begins nm r.px)
def hasVerb (vs : List Int) (v : Int) : Bool := vs.any fun x => decide (x = v)
def allowsOf (ts : List Tm) (r : Rl) (a : Ac) : Bool := hasVerb r.vs a.vb && meets ts r a.kd a.tm a.nm
def allows (ts : List Tm) (r : Rl) (a : Ac) : Bool := teamsOk ts && (ruleOk r && allowsOf ts r a)

theorem hasVerb_snoc (vs : List Int) (v : Int) (k : Nat) (h : k < vs.length) : hasVerb (vs.take (k + 1)) v = (hasVerb (vs.take k) v || decide (vs[k] = v)) := by
  unfold hasVerb; rw [List.take_succ_eq_append_getElem h, List.any_append]; simp
theorem hasVerb_at (vs : List Int) (v : Int) (k : Nat) (h : k < vs.length) (e : vs[k] = v) : hasVerb vs v = true := by
  unfold hasVerb; rw [List.any_eq_true]; exact ⟨vs[k], List.getElem_mem h, by simpa using e⟩
theorem hasVerb_all (vs : List Int) (v : Int) (k : Nat) (h : vs.length ≤ k) : hasVerb (vs.take k) v = hasVerb vs v := by rw [List.take_of_length_le h]

theorem verbsOk_at {vs : List Int} (h : verbsOk vs = true) (i : Nat) (hi : i < vs.length) : 1 ≤ vs[i] ∧ vs[i] ≤ 5 := by
  unfold verbsOk at h
  rw [Bool.and_eq_true] at h
  have h1 := up_at hi h.2
  unfold verbAt at h1
  rw [getD_at vs i _ hi, Bool.and_eq_true] at h1
  have h2 := h1.1
  simpa [verbOk] using h2

theorem hasVerb_given {vs : List Int} (h : verbsOk vs = true) (v : Int) (hv : hasVerb vs v = true) : 1 ≤ v ∧ v ≤ 5 := by
  unfold hasVerb at hv
  rw [List.any_eq_true] at hv
  obtain ⟨x, hx, he⟩ := hv
  obtain ⟨i, hi, rfl⟩ := List.mem_iff_getElem.1 hx
  have := verbsOk_at h i hi
  have e : vs[i] = v := by simpa using he
  rw [e] at this; exact this

/-- A set of verbs, a bit each. -/
def bits5 (a b c d e : Bool) : Int := (cond a 2 0) + (cond b 4 0) + (cond c 8 0) + (cond d 16 0) + (cond e 32 0)
def bitsOf (f : Int → Bool) : Int := bits5 (f 1) (f 2) (f 3) (f 4) (f 5)
def orI (x y : Int) : Int := bits BinOp.or IntKind.u8 x y
def andI (x y : Int) : Int := bits BinOp.and IntKind.u8 x y
def clrI (x y : Int) : Int := bits BinOp.andNot IntKind.u8 x y
def oneAt (v : Int) : Int := 2 ^ v.toNat % 256

theorem five (P : Int → Prop) (h1 : P 1) (h2 : P 2) (h3 : P 3) (h4 : P 4) (h5 : P 5) (v : Int) (hv : 1 ≤ v ∧ v ≤ 5) : P v := by
  have hc : v = 1 ∨ v = 2 ∨ v = 3 ∨ v = 4 ∨ v = 5 := by omega
  rcases hc with rfl | rfl | rfl | rfl | rfl <;> assumption

theorem bits_congr {f g : Int → Bool} (h : ∀ v, 1 ≤ v ∧ v ≤ 5 → f v = g v) : bitsOf f = bitsOf g := by
  unfold bitsOf; rw [h 1 (by omega), h 2 (by omega), h 3 (by omega), h 4 (by omega), h 5 (by omega)]

theorem or_all : ∀ a b c d e : Bool, orI (bits5 a b c d e) (oneAt 1) = bits5 (a || true) (b || false) (c || false) (d || false) (e || false) ∧ orI (bits5 a b c d e) (oneAt 2) = bits5 (a || false) (b || true) (c || false) (d || false) (e || false) ∧
    orI (bits5 a b c d e) (oneAt 3) = bits5 (a || false) (b || false) (c || true) (d || false) (e || false) ∧ orI (bits5 a b c d e) (oneAt 4) = bits5 (a || false) (b || false) (c || false) (d || true) (e || false) ∧ orI (bits5 a b c d e) (oneAt 5) = bits5 (a || false) (b || false) (c || false) (d || false) (e || true) := by decide +kernel
theorem and_all : ∀ a b c d e : Bool, (andI (bits5 a b c d e) (oneAt 1) != 0) = a ∧ (andI (bits5 a b c d e) (oneAt 2) != 0) = b ∧ (andI (bits5 a b c d e) (oneAt 3) != 0) = c ∧ (andI (bits5 a b c d e) (oneAt 4) != 0) = d ∧ (andI (bits5 a b c d e) (oneAt 5) != 0) = e := by decide +kernel
theorem clr_all : ∀ a b c d e a' b' c' d' e' : Bool, clrI (bits5 a b c d e) (bits5 a' b' c' d' e') = bits5 (a && !a') (b && !b') (c && !c') (d && !d') (e && !e') := by decide +kernel
theorem zero_all : ∀ a b c d e : Bool, (bits5 a b c d e == 0) = !(a || b || c || d || e) := by decide +kernel
theorem range_all : ∀ a b c d e : Bool, 0 ≤ bits5 a b c d e ∧ bits5 a b c d e ≤ 62 := by decide +kernel

theorem bits_or (f : Int → Bool) (v : Int) (hv : 1 ≤ v ∧ v ≤ 5) : orI (bitsOf f) (oneAt v) = bitsOf (fun u => f u || decide (v = u)) := by
  obtain ⟨h1, h2, h3, h4, h5⟩ := or_all (f 1) (f 2) (f 3) (f 4) (f 5)
  exact five (fun v => orI (bitsOf f) (oneAt v) = bitsOf (fun u => f u || decide (v = u))) h1 h2 h3 h4 h5 v hv
theorem bits_and (f : Int → Bool) (v : Int) (hv : 1 ≤ v ∧ v ≤ 5) : (andI (bitsOf f) (oneAt v) != 0) = f v := by
  obtain ⟨h1, h2, h3, h4, h5⟩ := and_all (f 1) (f 2) (f 3) (f 4) (f 5)
  exact five (fun v => (andI (bitsOf f) (oneAt v) != 0) = f v) h1 h2 h3 h4 h5 v hv
theorem bits_clr (f g : Int → Bool) : clrI (bitsOf f) (bitsOf g) = bitsOf (fun v => f v && !g v) := clr_all _ _ _ _ _ _ _ _ _ _
theorem bits_zero (f : Int → Bool) : (bitsOf f == 0) = !(f 1 || f 2 || f 3 || f 4 || f 5) := zero_all _ _ _ _ _
theorem bits_range (f : Int → Bool) : 0 ≤ bitsOf f ∧ bitsOf f ≤ 62 := range_all _ _ _ _ _
theorem bits_none : bitsOf (fun _ => false) = 0 := rfl

end Gate
end Go.Proofs.YtliggnanlfbkiaaGreat

namespace Go.Proofs.YtliggnanlfbkiaaGreat
open Go.RowKit

/-- A slice of ints that lies in memory. -/
structure IntsAt (w : World) (a : Option Addr) (vs : List Int) : Prop where
  len : vs.length ≤ maxLen
  cells : vs ≠ [] → ∃ b off, a = some ⟨b, off, none⟩ ∧ b < w.heap.size ∧ ∀ i (h : i < vs.length), w.cell? ⟨b, off + i, none⟩ = some (.int .i64 vs[i])

theorem IntsAt.mono {w w' : World} {a : Option Addr} {vs : List Int} (h : IntsAt w a vs) (hb : Below w.heap.size w w') : IntsAt w' a vs :=
  ⟨h.len, fun hne => by
    obtain ⟨b, off, ha, hbs, hc⟩ := h.cells hne
    exact ⟨b, off, ha, Nat.lt_of_lt_of_le hbs hb.size, fun i hi => (hb.cell (p := ⟨b, off + i, none⟩) hbs).trans (hc i hi)⟩⟩

theorem IntsAt.load {w w' : World} {a : Option Addr} {vs : List Int} (h : IntsAt w a vs) (hl : Below w.heap.size w w') (i : Nat) (hi : i < vs.length) : ∃ b off, a = some ⟨b, off, none⟩ ∧ b < w.heap.size ∧ w'.cell? ⟨b, off + i, none⟩ = some (.int .i64 vs[i]) := by
  obtain ⟨b, off, ha, hb, hc⟩ := h.cells (by rintro rfl; simp at hi)
  exact ⟨b, off, ha, hb, (hl.cell (p := ⟨b, off + i, none⟩) hb).trans (hc i hi)⟩

def intArr (vs : List Int) : Array Value := (vs.map (Value.int .i64)).toArray
def intCells (vs : List Int) (k : Nat) : Array Value := ((vs.take k).map (Value.int .i64) ++ List.replicate (vs.length - k) (Value.int .i64 0)).toArray

theorem intCells_at (vs : List Int) (k : Nat) (h : k < vs.length) : (intCells vs k)[k]? = some (.int .i64 0) := by
  unfold intCells
  have hl : ((vs.take k).map (Value.int .i64)).length = k := by simp; omega
  rw [List.getElem?_toArray, List.getElem?_append_right (by omega), hl, Nat.sub_self]
  obtain ⟨m, hm⟩ : ∃ m, vs.length - k = m + 1 := ⟨vs.length - k - 1, by omega⟩
  rw [hm, List.replicate_succ]; rfl

theorem intCells_set (vs : List Int) (k : Nat) (h : k < vs.length) : (intCells vs k).setIfInBounds k (.int .i64 vs[k]) = intCells vs (k + 1) := by
  unfold intCells
  rw [List.setIfInBounds_toArray, List.set_append_right _ _ (by simp; omega)]
  congr 1
  rw [List.take_succ_eq_append_getElem h, List.map_append, List.append_assoc]
  congr 1
  obtain ⟨m, hm⟩ : ∃ m, vs.length - k = m + 1 := ⟨vs.length - k - 1, by omega⟩
  rw [hm, show vs.length - (k + 1) = m by omega]
  have : k - ((vs.take k).map (Value.int .i64)).length = 0 := by simp; omega
  rw [this, List.replicate_succ]
  rfl

theorem intCells_all (vs : List Int) (k : Nat) (h : vs.length ≤ k) : intCells vs k = intArr vs := by
  unfold intCells intArr
  rw [List.take_of_length_le h, show vs.length - k = 0 by omega]; simp

theorem intCells_zero (vs : List Int) : madeCells #[Value.int .i64 0] vs.length = intCells vs 0 := by
  apply Array.toList_inj.1
  rw [toList_madeCells_one]
  simp [intCells]

theorem heap_ints {w : World} {bk : Nat} {vs : List Int} {t : TypeId} (h : w.heap[bk]? = some (.cells (intArr vs) t)) (hl : vs.length ≤ maxLen) : IntsAt w (some ⟨bk, 0, none⟩) vs :=
  ⟨hl, fun _ => ⟨bk, 0, rfl, (Array.getElem?_eq_some_iff.1 h).1, fun i hi => by
    simp [World.cell?, h, intArr, hi]⟩⟩

/-- The cells of a rule whose verbs lie at a. -/
def Rl.cells (r : Rl) (a : Option Addr) (cap : Nat) : Array Value := #[.slice a r.vs.length cap, .string r.kd, .string r.tm, .string r.px]
def Ac.cells (x : Ac) : Array Value := #[.int .i64 x.vb, .string x.kd, .string x.tm, .string x.nm]

structure Rl.Small (r : Rl) : Prop where
  kd : r.kd.size ≤ maxLen
  tm : r.tm.size ≤ maxLen
  px : r.px.size ≤ maxLen
structure Ac.Small (r : Ac) : Prop where
  kd : r.kd.size ≤ maxLen
  tm : r.tm.size ≤ maxLen
  nm : r.nm.size ≤ maxLen

structure RlIn (w : World) (b off : Nat) (r : Rl) (a : Option Addr) (cap : Nat) : Prop where
  small : r.Small
  ints : IntsAt w a r.vs
  cell : ∀ j, j < 4 → w.cell? ⟨b, off + j, none⟩ = (r.cells a cap)[j]?

structure RlsAt (w : World) (a : Option Addr) (rs : List Rl) : Prop where
  len : rs.length ≤ maxLen
  rows : rs ≠ [] → ∃ b off, a = some ⟨b, off, none⟩ ∧ b < w.heap.size ∧ ∀ i (h : i < rs.length), ∃ va vcap, RlIn w b (off + i * 4) rs[i] va vcap

theorem RlIn.mono {w w' : World} {b off : Nat} {r : Rl} {a : Option Addr} {cap : Nat} (h : RlIn w b off r a cap) (hb : b < w.heap.size) (hl : Below w.heap.size w w') : RlIn w' b off r a cap :=
  ⟨h.small, h.ints.mono hl, fun j hj => (hl.cell (p := ⟨b, off + j, none⟩) hb).trans (h.cell j hj)⟩

theorem RlsAt.mono {w w' : World} {a : Option Addr} {rs : List Rl} (h : RlsAt w a rs) (hl : Below w.heap.size w w') : RlsAt w' a rs :=
  ⟨h.len, fun hne => by
    obtain ⟨b, off, ha, hb, hr⟩ := h.rows hne
    refine ⟨b, off, ha, Nat.lt_of_lt_of_le hb hl.size, fun i hi => ?_⟩
    obtain ⟨va, vcap, hf⟩ := hr i hi
    exact ⟨va, vcap, hf.mono hb hl⟩⟩

theorem RlsAt.load {w w' : World} {a : Option Addr} {rs : List Rl} (h : RlsAt w a rs) (hl : Below w.heap.size w w') (i : Nat) (hi : i < rs.length) : ∃ b off va vcap, a = some ⟨b, off, none⟩ ∧ b < w.heap.size ∧ rs[i].Small ∧ IntsAt w' va rs[i].vs ∧
    w'.cell? ⟨b, off + i * 4, none⟩ = some (.slice va rs[i].vs.length vcap) ∧ w'.cell? ⟨b, off + i * 4 + 1, none⟩ = some (.string rs[i].kd) ∧ w'.cell? ⟨b, off + i * 4 + 2, none⟩ = some (.string rs[i].tm) ∧ w'.cell? ⟨b, off + i * 4 + 3, none⟩ = some (.string rs[i].px) := by
  obtain ⟨b, off, ha, hb, hr⟩ := h.rows (by rintro rfl; simp at hi)
  obtain ⟨va, vcap, hf0⟩ := hr i hi
  have hf := hf0.mono hb hl
  exact ⟨b, off, va, vcap, ha, hb, hf.small, hf.ints, hf.cell 0 (by omega), hf.cell 1 (by omega), hf.cell 2 (by omega), hf.cell 3 (by omega)⟩

def Rl.sz (r : Rl) : Nat := r.vs.length + r.kd.size + r.tm.size + r.px.size
def Ac.sz (r : Ac) : Nat := r.kd.size + r.tm.size + r.nm.size
def sumR (rs : List Rl) : Nat := (rs.map Rl.sz).sum
def rlsSz (rs : List Rl) : Nat := rs.length + sumR rs

def put4 (w : World) (b o : Nat) (v0 v1 v2 v3 : Value) : World := (((w.setCell ⟨b, o, none⟩ v0).setCell ⟨b, o + 1, none⟩ v1).setCell ⟨b, o + 2, none⟩ v2).setCell ⟨b, o + 3, none⟩ v3
def set4 (C : Array Value) (o : Nat) (v0 v1 v2 v3 : Value) : Array Value := (((C.setIfInBounds o v0).setIfInBounds (o + 1) v1).setIfInBounds (o + 2) v2).setIfInBounds (o + 3) v3
theorem put4_block {w : World} {b o : Nat} {C : Array Value} {t : TypeId} (h : w.heap[b]? = some (.cells C t)) (v0 v1 v2 v3 : Value) : (put4 w b o v0 v1 v2 v3).heap[b]? = some (.cells (set4 C o v0 v1 v2 v3) t) :=
  heap_setCell_at (heap_setCell_at (heap_setCell_at (heap_setCell_at h v0) v1) v2) v3
theorem put4_below {B : Nat} {a w : World} (h : Below B a w) {b : Nat} (hb : B ≤ b) (o : Nat) (v0 v1 v2 v3 : Value) : Below B a (put4 w b o v0 v1 v2 v3) :=
  (((h.setCell hb v0).setCell hb v1).setCell hb v2).setCell hb v3
theorem setCell_other {w : World} {b o : Nat} {v : Value} {b' : Nat} (h : b' ≠ b) : (w.setCell ⟨b, o, none⟩ v).heap[b']? = w.heap[b']? := by
  simp only [World.setCell, Array.getElem?_modify]
  rw [if_neg (fun e => h (Eq.symm e))]
theorem put4_other (w : World) (b o : Nat) (v0 v1 v2 v3 : Value) {b' : Nat} (h : b' ≠ b) : (put4 w b o v0 v1 v2 v3).heap[b']? = w.heap[b']? := by
  unfold put4; rw [setCell_other h, setCell_other h, setCell_other h, setCell_other h]
theorem set4_size (C : Array Value) (o : Nat) (v0 v1 v2 v3 : Value) : (set4 C o v0 v1 v2 v3).size = C.size := by simp [set4]
theorem set4_out (C : Array Value) (o i : Nat) (v0 v1 v2 v3 : Value) (h : i < o ∨ o + 4 ≤ i) : (set4 C o v0 v1 v2 v3)[i]? = C[i]? := by
  unfold set4
  iterate 4 rw [Array.getElem?_setIfInBounds, if_neg (by omega)]
theorem set4_in (C : Array Value) (o j : Nat) (v0 v1 v2 v3 : Value) (hj : j < 4) (ho : o + 4 ≤ C.size) : (set4 C o v0 v1 v2 v3)[o + j]? = (#[v0, v1, v2, v3] : Array Value)[j]? := by
  have hc : j = 0 ∨ j = 1 ∨ j = 2 ∨ j = 3 := by omega
  unfold set4
  rcases hc with h | h | h | h <;> subst h <;> simp [Array.getElem?_setIfInBounds] <;> omega

/-- A row of rules in memory of its own, the first k laid; the verbs of each in a block of their own. -/
structure RlsOwn (ty ti : TypeId) (lo : Nat) (w : World) (bo : Nat) (rs : List Rl) (k : Nat) : Prop where
  low : lo ≤ bo
  rows : ∃ C, w.heap[bo]? = some (.cells C ty) ∧ C.size = rs.length * 4 ∧
    ∀ i (h : i < rs.length), i < k → ∃ bk, lo ≤ bk ∧ bk ≠ bo ∧ w.heap[bk]? = some (.cells (intArr rs[i].vs) ti) ∧ ∀ j, j < 4 → C[i * 4 + j]? = (rs[i].cells (some ⟨bk, 0, none⟩) rs[i].vs.length)[j]?

structure RlsSmall (rs : List Rl) : Prop where
  small : ∀ i (h : i < rs.length), rs[i].Small ∧ rs[i].vs.length ≤ maxLen

theorem RlsAt.smalls {w : World} {a : Option Addr} {rs : List Rl} (h : RlsAt w a rs) : RlsSmall rs :=
  ⟨fun i hi => by
    obtain ⟨_, _, _, _, _, _, h1, h2, _⟩ := h.load (Below.refl _ _) i hi
    exact ⟨h1, h2.len⟩⟩

theorem RlsOwn.at {ty ti : TypeId} {lo : Nat} {w : World} {bo : Nat} {rs : List Rl} (h : RlsOwn ty ti lo w bo rs rs.length) (hs : RlsSmall rs) (hl : rs.length ≤ maxLen) : RlsAt w (some ⟨bo, 0, none⟩) rs := by
  obtain ⟨C, hC, hsz, hr⟩ := h.rows
  refine ⟨hl, fun _ => ⟨bo, 0, rfl, (Array.getElem?_eq_some_iff.1 hC).1, fun i hi => ?_⟩⟩
  obtain ⟨bk, _, _, hk, hc⟩ := hr i hi hi
  obtain ⟨s1, s2⟩ := hs.small i hi
  refine ⟨some ⟨bk, 0, none⟩, rs[i].vs.length, s1, heap_ints hk s2, fun j hj => ?_⟩
  rw [cell_of_block hC, Nat.zero_add]
  exact hc j hj

theorem RlsOwn.later {ty ti : TypeId} {lo : Nat} {w w' : World} {bo : Nat} {rs : List Rl} {k : Nat} (h : RlsOwn ty ti lo w bo rs k) (hb : Below w.heap.size w w') : RlsOwn ty ti lo w' bo rs k := by
  obtain ⟨C, hC, hsz, hr⟩ := h.rows
  refine ⟨h.low, C, (hb.block bo (Array.getElem?_eq_some_iff.1 hC).1).trans hC, hsz, fun i hi hk => ?_⟩
  obtain ⟨bk, h1, h2, h3, h4⟩ := hr i hi hk
  exact ⟨bk, h1, h2, (hb.block bk (Array.getElem?_eq_some_iff.1 h3).1).trans h3, h4⟩

theorem RlsOwn.put {ty ti : TypeId} {lo : Nat} {w : World} {bo : Nat} {rs : List Rl} {k : Nat} (h : RlsOwn ty ti lo w bo rs k) (hk : k < rs.length) (bk : Nat) (h1 : lo ≤ bk) (h2 : bk ≠ bo) (h3 : w.heap[bk]? = some (.cells (intArr rs[k].vs) ti)) :
    RlsOwn ty ti lo (put4 w bo (k * 4) (.slice (some ⟨bk, 0, none⟩) rs[k].vs.length rs[k].vs.length) (.string rs[k].kd) (.string rs[k].tm) (.string rs[k].px)) bo rs (k + 1) := by
  obtain ⟨C, hC, hsz, hr⟩ := h.rows
  refine ⟨h.low, _, put4_block hC _ _ _ _, by rw [set4_size]; exact hsz, fun i hi hik => ?_⟩
  rcases Nat.lt_or_ge i k with hlt | hge
  · obtain ⟨bi, g1, g2, g3, g4⟩ := hr i hi hlt
    refine ⟨bi, g1, g2, by rw [put4_other _ _ _ _ _ _ _ g2]; exact g3, fun j hj => ?_⟩
    rw [set4_out _ _ _ _ _ _ _ (by omega)]
    exact g4 j hj
  · have e : i = k := by omega
    subst e
    refine ⟨bk, h1, h2, by rw [put4_other _ _ _ _ _ _ _ h2]; exact h3, fun j hj => ?_⟩
    rw [set4_in _ _ _ _ _ _ _ hj (by omega)]
    rfl

def rlZero : Array Value := #[.slice none 0 0, .string ByteArray.empty, .string ByteArray.empty, .string ByteArray.empty]
def rlsZero (n : Nat) : Array Value := madeCells rlZero (n * 4)

theorem box_new2 (w : World) (o1 : Obj) (X : Array Value) (t : TypeId) : ∀ o, ((w.alloc o1).alloc (.cells X t)).cell? ⟨w.heap.size + 1, o, none⟩ = X[o]? := by
  intro o
  have h := box_new (w.alloc o1) X t o
  have e : (w.alloc o1).heap.size = w.heap.size + 1 := by simp
  rw [e] at h; exact h

end Go.Proofs.YtliggnanlfbkiaaGreat

namespace Go.Proofs.YtliggnanlfbkiaaGreat
open Go.RowKit

/-- A law. -/
structure Lw where
  ss : List Shp
  ms : List Mnd
  ts : List Tm

abbrev lC (l : Lw) (a b c : Option Addr) (ca cb cc : Nat) : Array Value := #[.slice a l.ss.length ca, .slice b l.ms.length cb, .slice c l.ts.length cc]
def Lw.cells (l : Lw) (a b c : Option Addr) (ca cb cc : Nat) : Array Value := #[.slice a l.ss.length ca, .slice b l.ms.length cb, .slice c l.ts.length cc]

structure LwAt (w : World) (l : Lw) (a b c : Option Addr) : Prop where
  ss : ShpsAt w a l.ss
  ms : MndsAt w b l.ms
  ts : TmsAt w c l.ts

theorem LwAt.mono {w w' : World} {l : Lw} {a b c : Option Addr} (h : LwAt w l a b c) (hb : Below w.heap.size w w') : LwAt w' l a b c := ⟨h.ss.mono hb, h.ms.mono hb, h.ts.mono hb⟩

def Lw.sz (l : Lw) : Nat := shpsSz l.ss + mndsSz l.ms + tmsSz l.ts

structure Lw.Few (l : Lw) : Prop where
  ss : l.ss.length ≤ 1048576 ∧ ∀ i (h : i < l.ss.length), l.ss[i].fs.length ≤ 1048576 ∧ ∀ j (h' : j < l.ss[i].fs.length), l.ss[i].fs[j].ws.length ≤ 1048576
  ms : l.ms.length ≤ 1048576
  ts : l.ts.length ≤ 1048576

theorem Lw.few {l : Lw} (h : (l.sz : Int) ≤ 1048576) : l.Few := by
  unfold Lw.sz at h
  refine ⟨shps_few (by omega), ?_, ?_⟩
  · unfold mndsSz at h; omega
  · unfold tmsSz at h; omega

set_option maxHeartbeats 2000000 in
theorem szGateLaw_any (l : Lw) (a b c : Option Addr) (ca cb cc : Nat) (left : Int) (w : World) (hl : LwAt w l a b c) (h0 : 0 ≤ left) (h1 : left ≤ 1048576) :
    Calls Tryz.prog 4 #[.agg (l.cells a b c ca cb cc), .int .i64 left] w fun e w' => e = .returned (.int .i64 (szRes l.sz left)) ∧ Below w.heap.size w w' := by
  have HL : Hid (LwAt w l a b c) := hl
  clear hl
  unfold Lw.cells
  go_enter Tryz.func4, Tryz.ntmps4
  go_wp2_with fail
  refine (szGateShapeS_any _ _ l.ss _ _ (HL.out.ss.mono ((Below.refl _ _).alloc (Nat.le_refl _) _)) h0 h1).mono ?_
  rintro e w1 ⟨rfl, hb⟩
  have hX1 := box_later (box_new w (lC l a b c ca cb cc) 26) (by simp) hb
  have hz1 : w.heap.size < w1.heap.size := by have := hb.size; simp at this; omega
  have hB1 : Below w.heap.size w w1 := ((Below.refl _ _).alloc (Nat.le_refl _) _).trans (hb.mono (by simp))
  clear hb
  by_cases c1 : (shpsSz l.ss : Int) ≤ left
  rotate_left
  · have HF : Hid (szRes l.sz left = -1) := szRes_no (by unfold Lw.sz; omega)
    rw [szRes_no c1]
    go_wp2_with fail
    go_ret
    exact ⟨ret_int HF.out.symm, hB1⟩
  rw [szRes_yes c1]
  go_wp2_with fail
  refine (szGateMendS_any _ _ l.ms _ _ (HL.out.ms.mono hB1) (by omega) (by omega)).mono ?_
  rintro e w2 ⟨rfl, hb⟩
  have hX2 := box_later hX1 hz1 hb
  have hz2 := Nat.lt_of_lt_of_le hz1 hb.size
  have hB2 := hB1.trans (hb.mono hB1.size)
  clear hb hX1 hz1 hB1
  by_cases c2 : (mndsSz l.ms : Int) ≤ left - shpsSz l.ss
  rotate_left
  · have HF : Hid (szRes l.sz left = -1) := szRes_no (by unfold Lw.sz; omega)
    rw [szRes_no c2]
    go_wp2_with fail
    go_ret
    exact ⟨ret_int HF.out.symm, hB2⟩
  rw [szRes_yes c2]
  go_wp2_with fail
  refine (szGateTeamS_any _ _ l.ts _ _ (HL.out.ts.mono hB2) (by omega) (by omega)).mono ?_
  rintro e w3 ⟨rfl, hb⟩
  have hB3 := hB2.trans (hb.mono hB2.size)
  clear hb hX2 hz2 hB2
  by_cases c3 : (tmsSz l.ts : Int) ≤ left - shpsSz l.ss - mndsSz l.ms
  rotate_left
  · have HF : Hid (szRes l.sz left = -1) := szRes_no (by unfold Lw.sz; omega)
    rw [szRes_no c3]
    go_wp2_with fail
    go_ret
    exact ⟨ret_int HF.out.symm, hB3⟩
  have HF : Hid (szRes l.sz left = left - shpsSz l.ss - mndsSz l.ms - tmsSz l.ts) := by
    unfold Hid; rw [szRes_yes (by unfold Lw.sz; omega)]; unfold Lw.sz; omega
  rw [szRes_yes c3]
  go_wp2_with fail
  go_ret
  exact ⟨ret_int HF.out.symm, hB3⟩

set_option maxHeartbeats 1000000 in
theorem eqGateLaw_yes (l : Lw) (a b c a' b' c' : Option Addr) (ca cb cc ca' cb' cc' : Nat) (w : World) (hl : LwAt w l a b c) (hl' : LwAt w l a' b' c') :
    Calls Tryz.prog 8 #[.agg (l.cells a b c ca cb cc), .agg (l.cells a' b' c' ca' cb' cc')] w fun e w' => e = .returned (.bool true) ∧ Below w.heap.size w w' := by
  unfold Lw.cells
  go_enter Tryz.func8, Tryz.ntmps8
  go_wp2_with fail
  refine (eqGateShapeS_yes _ _ _ _ l.ss _ (hl.ss.mono (below2' _ _ _)) (hl'.ss.mono (below2' _ _ _))).mono ?_
  rintro e w1 ⟨rfl, hb⟩
  have hX1 := box_later (box_later (box_new w _ _) (by simp) ((Below.refl _ _).alloc (Nat.le_refl _) _)) (by simp; omega) hb
  have hY1 := box_later (box_new (w.alloc (.cells (lC l a b c ca cb cc) 33)) (lC l a' b' c' ca' cb' cc') 33) (by simp) hb
  have hz1 : w.heap.size + 1 < w1.heap.size := by have := hb.size; simp at this; omega
  have hB1 := (below2' w _ _).trans (hb.mono (by simp; omega))
  rw [World.size_alloc] at hY1
  clear hb
  go_wp2_with fail
  refine (eqGateMendS_yes _ _ _ _ l.ms _ (hl.ms.mono hB1) (hl'.ms.mono hB1)).mono ?_
  rintro e w2 ⟨rfl, hb⟩
  have hX2 := box_later hX1 (Nat.lt_of_succ_lt hz1) hb
  have hY2 := box_later hY1 hz1 hb
  have hz2 := Nat.lt_of_lt_of_le hz1 hb.size
  have hB2 := hB1.trans (hb.mono hB1.size)
  clear hb hX1 hY1 hz1 hB1
  go_wp2_with fail
  refine (eqGateTeamS_yes _ _ _ _ l.ts _ (hl.ts.mono hB2) (hl'.ts.mono hB2)).mono ?_
  rintro e w3 ⟨rfl, hb⟩
  have hB3 := hB2.trans (hb.mono hB2.size)
  clear hb hX2 hY2 hz2 hB2
  go_wp2_with fail
  go_ret
  exact ⟨rfl, hB3⟩

theorem below3' (w : World) (o o' o'' : Obj) : Below w.heap.size w (((w.alloc o).alloc o').alloc o'') := (((Below.refl _ _).alloc (Nat.le_refl _) _).alloc (by simp) _).alloc (by simp; omega) _

theorem blk3 (w : World) (o1 o2 o3 : Obj) : (((w.alloc o1).alloc o2).alloc o3).heap[w.heap.size]? = some o1 ∧ (((w.alloc o1).alloc o2).alloc o3).heap[w.heap.size + 1]? = some o2 ∧ (((w.alloc o1).alloc o2).alloc o3).heap[w.heap.size + 1 + 1]? = some o3 := by
  have h1 := (MapKept.heap_alloc w o1).1
  have h2 := (MapKept.heap_alloc (w.alloc o1) o2).1
  have h3 := (MapKept.heap_alloc ((w.alloc o1).alloc o2) o3).1
  simp only [World.size_alloc] at h2 h3
  exact ⟨(Below.heap_alloc _ _ _ (by simp; omega)).trans ((Below.heap_alloc _ _ _ (by simp)).trans h1), (Below.heap_alloc _ _ _ (by simp)).trans h2, h3⟩

/-- From lo on nothing has changed. -/
structure Above (lo : Nat) (w w' : World) : Prop where
  size : w.heap.size ≤ w'.heap.size
  same : ∀ b, lo ≤ b → b < w.heap.size → w'.heap[b]? = w.heap[b]?

theorem Above.refl (lo : Nat) (w : World) : Above lo w w := ⟨Nat.le_refl _, fun _ _ _ => rfl⟩
theorem Above.trans {lo : Nat} {w w1 w2 : World} (h : Above lo w w1) (h' : Above lo w1 w2) : Above lo w w2 :=
  ⟨Nat.le_trans h.size h'.size, fun b h1 h2 => (h'.same b h1 (Nat.lt_of_lt_of_le h2 h.size)).trans (h.same b h1 h2)⟩
theorem Above.mono {lo lo' : Nat} {w w' : World} (h : Above lo w w') (hl : lo ≤ lo') : Above lo' w w' := ⟨h.size, fun b h1 h2 => h.same b (Nat.le_trans hl h1) h2⟩
theorem Above.below {lo : Nat} {w w' : World} (h : Below w.heap.size w w') : Above lo w w' := ⟨h.size, fun b _ h2 => h.block b h2⟩
theorem Above.setCell {lo : Nat} {w : World} {p : Addr} (hp : p.block < lo) (v : Value) : Above lo w (w.setCell p v) :=
  ⟨by rw [World.size_setCell]; exact Nat.le_refl _, fun b h1 _ => Below.heap_setCell _ _ _ _ (by omega)⟩

theorem FldsOwn.above {lo : Nat} {w w' : World} {bf : Nat} {fs : List Fld} {k : Nat} (h : FldsOwn lo w bf fs k) (ha : Above lo w w') : FldsOwn lo w' bf fs k := by
  obtain ⟨C, hC, hsz, hr⟩ := h.rows
  refine ⟨h.low, C, (ha.same _ h.low (Array.getElem?_eq_some_iff.1 hC).1).trans hC, hsz, fun i hi hk => ?_⟩
  obtain ⟨bk, h1, h2, h3, h4⟩ := hr i hi hk
  exact ⟨bk, h1, h2, (ha.same _ h1 (Array.getElem?_eq_some_iff.1 h3).1).trans h3, h4⟩

theorem ShpsOwn.above {lo : Nat} {w w' : World} {bo : Nat} {ss : List Shp} {k : Nat} (h : ShpsOwn lo w bo ss k) (ha : Above lo w w') : ShpsOwn lo w' bo ss k := by
  obtain ⟨C, hC, hsz, hr⟩ := h.rows
  refine ⟨h.low, C, (ha.same _ h.low (Array.getElem?_eq_some_iff.1 hC).1).trans hC, hsz, fun i hi hk => ?_⟩
  obtain ⟨bf, h1, h2, h3, h4⟩ := hr i hi hk
  exact ⟨bf, h1, h2, h3.above (ha.mono (Nat.le_succ_of_le h.low)), h4⟩

theorem MndsOwn.above {lo : Nat} {w w' : World} {bo : Nat} {ms : List Mnd} {k : Nat} (h : MndsOwn lo w bo ms k) (ha : Above lo w w') : MndsOwn lo w' bo ms k := by
  obtain ⟨C, hC, hr⟩ := h.rows
  exact ⟨h.low, C, (ha.same _ h.low (Array.getElem?_eq_some_iff.1 hC).1).trans hC, hr⟩

theorem TmsOwn.above {ty : TypeId} {lo : Nat} {w w' : World} {bo : Nat} {ts : List Tm} {k : Nat} (h : TmsOwn ty lo w bo ts k) (ha : Above lo w w') : TmsOwn ty lo w' bo ts k := by
  obtain ⟨C, hC, hr⟩ := h.rows
  exact ⟨h.low, C, (ha.same _ h.low (Array.getElem?_eq_some_iff.1 hC).1).trans hC, hr⟩

/-- A law in memory of its own, from lo on. -/
structure LwOwn (lo : Nat) (w : World) (l : Lw) (a b c : Nat) : Prop where
  ss : ShpsOwn lo w a l.ss l.ss.length
  ms : MndsOwn lo w b l.ms l.ms.length
  ts : TmsOwn 66 lo w c l.ts l.ts.length

theorem LwOwn.above {lo : Nat} {w w' : World} {l : Lw} {a b c : Nat} (h : LwOwn lo w l a b c) (ha : Above lo w w') : LwOwn lo w' l a b c := ⟨h.ss.above ha, h.ms.above ha, h.ts.above ha⟩

structure Lw.Small (l : Lw) : Prop where
  ss : ShpsSmall l.ss
  ls : l.ss.length ≤ maxLen
  ms : ∀ i (h : i < l.ms.length), l.ms[i].Small
  lm : l.ms.length ≤ maxLen
  ts : ∀ i (h : i < l.ts.length), l.ts[i].Small
  lt : l.ts.length ≤ maxLen

theorem LwAt.small {w : World} {l : Lw} {a b c : Option Addr} (h : LwAt w l a b c) : l.Small := ⟨h.ss.smalls, h.ss.len, h.ms.small, h.ms.len, h.ts.small, h.ts.len⟩
theorem LwOwn.at {lo : Nat} {w : World} {l : Lw} {a b c : Nat} (h : LwOwn lo w l a b c) (hs : l.Small) : LwAt w l (some ⟨a, 0, none⟩) (some ⟨b, 0, none⟩) (some ⟨c, 0, none⟩) := ⟨h.ss.at hs.ss hs.ls, h.ms.at hs.ms hs.lm, h.ts.at hs.ts hs.lt⟩

end Go.Proofs.YtliggnanlfbkiaaGreat
