import Derived.Test.YtimhinpekngceaaDoorM07
import Derived.Test.YtimhinpekngceaaDoorM02
import Derived.Test.YtimhinpekngceaaDoorM08
import Derived.Test.YtimhinpekngceaaDoorM09
namespace Go.Proofs.YtimhinpekngceaaDoor
open Go.RowKit

/-- A slice of ints that lies in memory. -/
structure IntsAt (w : World) (a : Option Addr) (vs : List Int) : Prop where
  len : vs.length ≤ maxLen
  cells : vs ≠ [] → ∃ b off, a = some ⟨b, off, none⟩ ∧ b < w.heap.size ∧ ∀ i (h : i < vs.length), w.cell? ⟨b, off + i, none⟩ = some (.int .i64 vs[i])

theorem IntsAt.mono {w w' : World} {a : Option Addr} {vs : List Int} (h : IntsAt w a vs) (hb : Below w.heap.size w w') : IntsAt w' a vs :=
  ⟨h.len, fun hne => by
    obtain ⟨b, off, ha, hbs, hc⟩ := h.cells hne
    exact ⟨b, off, ha, Nat.lt_of_lt_of_le hbs hb.size, fun i hi => (hb.cell (p := ⟨b, off + i, none⟩) hbs).trans (hc i hi)⟩⟩

theorem IntsAt.load {w w' : World} {a : Option Addr} {vs : List Int} (h : IntsAt w a vs) (hl : Below w.heap.size w w') (i : Nat) (hi : i < vs.length) : ∃ b off, a = some ⟨b, off, none⟩ ∧ b < w.heap.size ∧ w'.cell? ⟨b, off + i, none⟩ = some (.int .i64 vs[i]) := by
  obtain ⟨b, off, ha, hb, hc⟩ := h.cells (by rintro rfl; simp at hi)
  exact ⟨b, off, ha, hb, (hl.cell (p := ⟨b, off + i, none⟩) hb).trans (hc i hi)⟩

def intArr (vs : List Int) : Array Value := (vs.map (Value.int .i64)).toArray
def intCells (vs : List Int) (k : Nat) : Array Value := ((vs.take k).map (Value.int .i64) ++ List.replicate (vs.length - k) (Value.int .i64 0)).toArray

theorem intCells_at (vs : List Int) (k : Nat) (h : k < vs.length) : (intCells vs k)[k]? = some (.int .i64 0) := by
  unfold intCells
  have hl : ((vs.take k).map (Value.int .i64)).length = k := by simp; omega
  rw [List.getElem?_toArray, List.getElem?_append_right (by omega), hl, Nat.sub_self]
  obtain ⟨m, hm⟩ : ∃ m, vs.length - k = m + 1 := ⟨vs.length - k - 1, by omega⟩
  rw [hm, List.replicate_succ]; rfl

theorem intCells_set (vs : List Int) (k : Nat) (h : k < vs.length) : (intCells vs k).setIfInBounds k (.int .i64 vs[k]) = intCells vs (k + 1) := by
  unfold intCells
  rw [List.setIfInBounds_toArray, List.set_append_right _ _ (by simp; omega)]
  congr 1
  rw [List.take_succ_eq_append_getElem h, List.map_append, List.append_assoc]
  congr 1
  obtain ⟨m, hm⟩ : ∃ m, vs.length - k = m + 1 := ⟨vs.length - k - 1, by omega⟩
  rw [hm, show vs.length - (k + 1) = m by omega]
  have : k - ((vs.take k).map (Value.int .i64)).length = 0 := by simp; omega
  rw [this, List.replicate_succ]
  rfl

theorem intCells_all (vs : List Int) (k : Nat) (h : vs.length ≤ k) : intCells vs k = intArr vs := by
  unfold intCells intArr
  rw [List.take_of_length_le h, show vs.length - k = 0 by omega]; simp

theorem intCells_zero (vs : List Int) : madeCells #[Value.int .i64 0] vs.length = intCells vs 0 := by
  apply Array.toList_inj.1
  rw [toList_madeCells_one]
  simp [intCells]

theorem heap_ints {w : World} {bk : Nat} {vs : List Int} {t : TypeId} (h : w.heap[bk]? = some (.cells (intArr vs) t)) (hl : vs.length ≤ maxLen) : IntsAt w (some ⟨bk, 0, none⟩) vs :=
  ⟨hl, fun _ => ⟨bk, 0, rfl, (Array.getElem?_eq_some_iff.1 h).1, fun i hi => by
    simp [World.cell?, h, intArr, hi]⟩⟩

/-- The cells of a rule whose verbs lie at a. -/
def Rl.cells (r : Rl) (a : Option Addr) (cap : Nat) : Array Value := #[.slice a r.vs.length cap, .string r.kd, .string r.tm, .string r.px]
def Ac.cells (x : Ac) : Array Value := #[.int .i64 x.vb, .string x.kd, .string x.tm, .string x.nm]

structure Rl.Small (r : Rl) : Prop where
  kd : r.kd.size ≤ maxLen
  tm : r.tm.size ≤ maxLen
  px : r.px.size ≤ maxLen
structure Ac.Small (r : Ac) : Prop where
  kd : r.kd.size ≤ maxLen
  tm : r.tm.size ≤ maxLen
  nm : r.nm.size ≤ maxLen

structure RlIn (w : World) (b off : Nat) (r : Rl) (a : Option Addr) (cap : Nat) : Prop where
  small : r.Small
  ints : IntsAt w a r.vs
  cell : ∀ j, j < 4 → w.cell? ⟨b, off + j, none⟩ = (r.cells a cap)[j]?

structure RlsAt (w : World) (a : Option Addr) (rs : List Rl) : Prop where
  len : rs.length ≤ maxLen
  rows : rs ≠ [] → ∃ b off, a = some ⟨b, off, none⟩ ∧ b < w.heap.size ∧ ∀ i (h : i < rs.length), ∃ va vcap, RlIn w b (off + i * 4) rs[i] va vcap

theorem RlIn.mono {w w' : World} {b off : Nat} {r : Rl} {a : Option Addr} {cap : Nat} (h : RlIn w b off r a cap) (hb : b < w.heap.size) (hl : Below w.heap.size w w') : RlIn w' b off r a cap :=
  ⟨h.small, h.ints.mono hl, fun j hj => (hl.cell (p := ⟨b, off + j, none⟩) hb).trans (h.cell j hj)⟩

theorem RlsAt.mono {w w' : World} {a : Option Addr} {rs : List Rl} (h : RlsAt w a rs) (hl : Below w.heap.size w w') : RlsAt w' a rs :=
  ⟨h.len, fun hne => by
    obtain ⟨b, off, ha, hb, hr⟩ := h.rows hne
    refine ⟨b, off, ha, Nat.lt_of_lt_of_le hb hl.size, fun i hi => ?_⟩
    obtain ⟨va, vcap, hf⟩ := hr i hi
    exact ⟨va, vcap, hf.mono hb hl⟩⟩

theorem RlsAt.load {w w' : World} {a : Option Addr} {rs : List Rl} (h : RlsAt w a rs) (hl : Below w.heap.size w w') (i : Nat) (hi : i < rs.length) : ∃ b off va vcap, a = some ⟨b, off, none⟩ ∧ b < w.heap.size ∧ rs[i].Small ∧ IntsAt w' va rs[i].vs ∧
    w'.cell? ⟨b, off + i * 4, none⟩ = some (.slice va rs[i].vs.length vcap) ∧ w'.cell? ⟨b, off + i * 4 + 1, none⟩ = some (.string rs[i].kd) ∧ w'.cell? ⟨b, off + i * 4 + 2, none⟩ = some (.string rs[i].tm) ∧ w'.cell? ⟨b, off + i * 4 + 3, none⟩ = some (.string rs[i].px) := by
  obtain ⟨b, off, ha, hb, hr⟩ := h.rows (by rintro rfl; simp at hi)
  obtain ⟨va, vcap, hf0⟩ := hr i hi
  have hf := hf0.mono hb hl
  exact ⟨b, off, va, vcap, ha, hb, hf.small, hf.ints, hf.cell 0 (by omega), hf.cell 1 (by omega), hf.cell 2 (by omega), hf.cell 3 (by omega)⟩

def Rl.sz (r : Rl) : Nat := r.vs.length + r.kd.size + r.tm.size + r.px.size
def Ac.sz (r : Ac) : Nat := r.kd.size + r.tm.size + r.nm.size
def sumR (rs : List Rl) : Nat := (rs.map Rl.sz).sum
def rlsSz (rs : List Rl) : Nat := rs.length + sumR rs

def put4 (w : World) (b o : Nat) (v0 v1 v2 v3 : Value) : World := (((w.setCell ⟨b, o, none⟩ v0).setCell ⟨b, o + 1, none⟩ v1).setCell ⟨b, o + 2, none⟩ v2).setCell ⟨b, o + 3, none⟩ v3
def set4 (C : Array Value) (o : Nat) (v0 v1 v2 v3 : Value) : Array Value := (((C.setIfInBounds o v0).setIfInBounds (o + 1) v1).setIfInBounds (o + 2) v2).setIfInBounds (o + 3) v3
theorem put4_block {w : World} {b o : Nat} {C : Array Value} {t : TypeId} (h : w.heap[b]? = some (.cells C t)) (v0 v1 v2 v3 : Value) : (put4 w b o v0 v1 v2 v3).heap[b]? = some (.cells (set4 C o v0 v1 v2 v3) t) :=
  heap_setCell_at (heap_setCell_at (heap_setCell_at (heap_setCell_at h v0) v1) v2) v3
theorem put4_below {B : Nat} {a w : World} (h : Below B a w) {b : Nat} (hb : B ≤ b) (o : Nat) (v0 v1 v2 v3 : Value) : Below B a (put4 w b o v0 v1 v2 v3) :=
  (((h.setCell hb v0).setCell hb v1).setCell hb v2).setCell hb v3
theorem setCell_other {w : World} {b o : Nat} {v : Value} {b' : Nat} (h : b' ≠ b) : (w.setCell ⟨b, o, none⟩ v).heap[b']? = w.heap[b']? := by
  simp only [World.setCell, Array.getElem?_modify]
  rw [if_neg (fun e => h (Eq.symm e))]
theorem put4_other (w : World) (b o : Nat) (v0 v1 v2 v3 : Value) {b' : Nat} (h : b' ≠ b) : (put4 w b o v0 v1 v2 v3).heap[b']? = w.heap[b']? := by
  unfold put4; rw [setCell_other h, setCell_other h, setCell_other h, setCell_other h]
theorem set4_size (C : Array Value) (o : Nat) (v0 v1 v2 v3 : Value) : (set4 C o v0 v1 v2 v3).size = C.size := by simp [set4]
theorem set4_out (C : Array Value) (o i : Nat) (v0 v1 v2 v3 : Value) (h : i < o ∨ o + 4 ≤ i) : (set4 C o v0 v1 v2 v3)[i]? = C[i]? := by
  unfold set4
  iterate 4 rw [Array.getElem?_setIfInBounds, if_neg (by omega)]
theorem set4_in (C : Array Value) (o j : Nat) (v0 v1 v2 v3 : Value) (hj : j < 4) (ho : o + 4 ≤ C.size) : (set4 C o v0 v1 v2 v3)[o + j]? = (#[v0, v1, v2, v3] : Array Value)[j]? := by
  have hc : j = 0 ∨ j = 1 ∨ j = 2 ∨ j = 3 := by omega
  unfold set4
  rcases hc with h | h | h | h <;> subst h <;> simp [Array.getElem?_setIfInBounds] <;> omega

/-- A row of rules in memory of its own, the first k laid; the verbs of each in a block of their own. -/
structure RlsOwn (ty ti : TypeId) (lo : Nat) (w : World) (bo : Nat) (rs : List Rl) (k : Nat) : Prop where
  low : lo ≤ bo
  rows : ∃ C, w.heap[bo]? = some (.cells C ty) ∧ C.size = rs.length * 4 ∧
    ∀ i (h : i < rs.length), i < k → ∃ bk, lo ≤ bk ∧ bk ≠ bo ∧ w.heap[bk]? = some (.cells (intArr rs[i].vs) ti) ∧ ∀ j, j < 4 → C[i * 4 + j]? = (rs[i].cells (some ⟨bk, 0, none⟩) rs[i].vs.length)[j]?

structure RlsSmall (rs : List Rl) : Prop where
  small : ∀ i (h : i < rs.length), rs[i].Small ∧ rs[i].vs.length ≤ maxLen

theorem RlsAt.smalls {w : World} {a : Option Addr} {rs : List Rl} (h : RlsAt w a rs) : RlsSmall rs :=
  ⟨fun i hi => by
    obtain ⟨_, _, _, _, _, _, h1, h2, _⟩ := h.load (Below.refl _ _) i hi
    exact ⟨h1, h2.len⟩⟩

theorem RlsOwn.at {ty ti : TypeId} {lo : Nat} {w : World} {bo : Nat} {rs : List Rl} (h : RlsOwn ty ti lo w bo rs rs.length) (hs : RlsSmall rs) (hl : rs.length ≤ maxLen) : RlsAt w (some ⟨bo, 0, none⟩) rs := by
  obtain ⟨C, hC, hsz, hr⟩ := h.rows
  refine ⟨hl, fun _ => ⟨bo, 0, rfl, (Array.getElem?_eq_some_iff.1 hC).1, fun i hi => ?_⟩⟩
  obtain ⟨bk, _, _, hk, hc⟩ := hr i hi hi
  obtain ⟨s1, s2⟩ := hs.small i hi
  refine ⟨some ⟨bk, 0, none⟩, rs[i].vs.length, s1, heap_ints hk s2, fun j hj => ?_⟩
  rw [cell_of_block hC, Nat.zero_add]
  exact hc j hj

theorem RlsOwn.later {ty ti : TypeId} {lo : Nat} {w w' : World} {bo : Nat} {rs : List Rl} {k : Nat} (h : RlsOwn ty ti lo w bo rs k) (hb : Below w.heap.size w w') : RlsOwn ty ti lo w' bo rs k := by
  obtain ⟨C, hC, hsz, hr⟩ := h.rows
  refine ⟨h.low, C, (hb.block bo (Array.getElem?_eq_some_iff.1 hC).1).trans hC, hsz, fun i hi hk => ?_⟩
  obtain ⟨bk, h1, h2, h3, h4⟩ := hr i hi hk
  exact ⟨bk, h1, h2, (hb.block bk (Array.getElem?_eq_some_iff.1 h3).1).trans h3, h4⟩

theorem RlsOwn.put {ty ti : TypeId} {lo : Nat} {w : World} {bo : Nat} {rs : List Rl} {k : Nat} (h : RlsOwn ty ti lo w bo rs k) (hk : k < rs.length) (bk : Nat) (h1 : lo ≤ bk) (h2 : bk ≠ bo) (h3 : w.heap[bk]? = some (.cells (intArr rs[k].vs) ti)) :
    RlsOwn ty ti lo (put4 w bo (k * 4) (.slice (some ⟨bk, 0, none⟩) rs[k].vs.length rs[k].vs.length) (.string rs[k].kd) (.string rs[k].tm) (.string rs[k].px)) bo rs (k + 1) := by
  obtain ⟨C, hC, hsz, hr⟩ := h.rows
  refine ⟨h.low, _, put4_block hC _ _ _ _, by rw [set4_size]; exact hsz, fun i hi hik => ?_⟩
  rcases Nat.lt_or_ge i k with hlt | hge
  · obtain ⟨bi, g1, g2, g3, g4⟩ := hr i hi hlt
    refine ⟨bi, g1, g2, by rw [put4_other _ _ _ _ _ _ _ g2]; exact g3, fun j hj => ?_⟩
    rw [set4_out _ _ _ _ _ _ _ (by omega)]
    exact g4 j hj
  · have e : i = k := by omega
    subst e
    refine ⟨bk, h1, h2, by rw [put4_other _ _ _ _ _ _ _ h2]; exact h3, fun j hj => ?_⟩
    rw [set4_in _ _ _ _ _ _ _ hj (by omega)]
    rfl

def rlZero : Array Value := #[.slice none 0 0, .string ByteArray.empty, .string ByteArray.empty, .string ByteArray.empty]
def rlsZero (n : Nat) : Array Value := madeCells rlZero (n * 4)

end Go.Proofs.YtimhinpekngceaaDoor

namespace Go.Proofs.YtimhinpekngceaaDoor
open Go.RowKit

set_option maxHeartbeats 400000 in
theorem szIntS_any (a : Option Addr) (cap : Nat) (vs : List Int) (left : Int) (w : World) (hl : vs.length ≤ maxLen) (h0 : 0 ≤ left) (h1 : left ≤ 1048576) :
    Calls Tryd.prog 24 #[.slice a vs.length cap, .int .i64 left] w fun e w' => e = .returned (.int .i64 (szRes vs.length left)) ∧ w' = w := by
  unfold maxLen at hl
  by_cases hf : (vs.length : Int) ≤ left
  · have HF : Hid (szRes vs.length left = left - vs.length) := szRes_yes hf
    go_enter Tryd.func24, Tryd.ntmps24
    go_wp2_with fail
    go_ret
    exact ⟨ret_int HF.out.symm, rfl⟩
  · have HF : Hid (szRes vs.length left = -1) := szRes_no hf
    go_enter Tryd.func24, Tryd.ntmps24
    go_wp2_with fail
    go_ret
    exact ⟨ret_int HF.out.symm, rfl⟩

set_option maxHeartbeats 1000000 in
theorem szGateRule_any (r : Rl) (a : Option Addr) (cap : Nat) (left : Int) (w : World) (hm : r.Small) (hl : r.vs.length ≤ maxLen) (h0 : 0 ≤ left) (h1 : left ≤ 1048576) :
    Calls Tryd.prog 7 #[.agg (r.cells a cap), .int .i64 left] w fun e w' => e = .returned (.int .i64 (szRes r.sz left)) ∧ Below w.heap.size w w' := by
  have k1 := hm.kd
  have k2 := hm.tm
  have k3 := hm.px
  have k4 := hl
  unfold maxLen at k1 k2 k3 k4
  unfold Rl.cells
  have hB : ∀ ob, Below w.heap.size w (w.alloc ob) := fun ob => (Below.refl _ _).alloc (Nat.le_refl _) _
  by_cases hv : (r.vs.length : Int) ≤ left
  rotate_left
  · have HF : Hid (szRes r.sz left = -1) := szRes_no (by unfold Rl.sz; omega)
    go_enter Tryd.func7, Tryd.ntmps7
    go_wp2_with fail
    refine (szIntS_any _ _ _ _ _ hl h0 h1).mono ?_
    rintro e w1 ⟨rfl, rfl⟩
    rw [szRes_no (by omega)]
    go_wp2_with fail
    go_ret
    exact ⟨ret_int HF.out.symm, hB _⟩
  by_cases hf : (r.sz : Int) ≤ left
  · have HF : Hid (szRes r.sz left = left - r.vs.length - r.kd.size - r.tm.size - r.px.size) := by
      unfold Hid; rw [szRes_yes hf]; unfold Rl.sz; omega
    unfold Rl.sz at hf
    go_enter Tryd.func7, Tryd.ntmps7
    go_wp2_with fail
    refine (szIntS_any _ _ _ _ _ hl h0 h1).mono ?_
    rintro e w1 ⟨rfl, rfl⟩
    rw [szRes_yes hv]
    go_wp2_with fail
    go_ret
    exact ⟨ret_int HF.out.symm, hB _⟩
  · have HF : Hid (szRes r.sz left = -1) := szRes_no hf
    have HN : Hid (¬ ((r.vs.length + r.kd.size + r.tm.size + r.px.size : Nat) : Int) ≤ left) := hf
    clear hf
    go_enter Tryd.func7, Tryd.ntmps7
    go_wp2_with fail
    refine (szIntS_any _ _ _ _ _ hl h0 h1).mono ?_
    rintro e w1 ⟨rfl, rfl⟩
    rw [szRes_yes hv]
    go_wp2_with fail
    all_goals go_ret
    all_goals first | exact ⟨ret_int HF.out.symm, hB _⟩ | (exfalso; have := HN.out; simp at *; omega)

theorem szGateRule_yes (r : Rl) (a : Option Addr) (cap : Nat) (left : Int) (w : World) (hm : r.Small) (hl : r.vs.length ≤ maxLen) (h0 : 0 ≤ left) (h1 : left ≤ 1048576) (h : (r.sz : Int) ≤ left) :
    Calls Tryd.prog 7 #[.agg (r.cells a cap), .int .i64 left] w fun e w' => e = .returned (.int .i64 (left - r.sz)) ∧ Below w.heap.size w w' := by
  refine (szGateRule_any r a cap left w hm hl h0 h1).mono ?_
  rintro e w' ⟨rfl, hb⟩
  exact ⟨ret_int (szRes_yes h), hb⟩

theorem szGateRule_no (r : Rl) (a : Option Addr) (cap : Nat) (left : Int) (w : World) (hm : r.Small) (hl : r.vs.length ≤ maxLen) (h0 : 0 ≤ left) (h1 : left ≤ 1048576) (h : ¬ (r.sz : Int) ≤ left) :
    Calls Tryd.prog 7 #[.agg (r.cells a cap), .int .i64 left] w fun e w' => e = .returned (.int .i64 (-1)) ∧ Below w.heap.size w w' := by
  refine (szGateRule_any r a cap left w hm hl h0 h1).mono ?_
  rintro e w' ⟨rfl, hb⟩
  exact ⟨ret_int (szRes_no h), hb⟩

set_option maxHeartbeats 400000 in
theorem toIntS_any (a : Option Addr) (cap : Nat) (vs : List Int) (w : World) (hw : IntsAt w a vs) (hl : vs.length ≤ 1048576) :
    Calls Tryd.prog 29 #[.slice a vs.length cap] w fun e w' => e = .returned (.slice (some ⟨w.heap.size, 0, none⟩) vs.length vs.length) ∧ w' = w.alloc (.cells (intArr vs) 3) := by
  have hmk : ∀ w : World, (Instr.makeSlice 24 (.int .i64 vs.length) (.int .i64 vs.length)).run Tryd.prog w = .ok (.slice (some ⟨w.heap.size, 0, none⟩) vs.length vs.length) (w.alloc (.cells (intCells vs 0) 3)) := by
    intro w
    have h := run_make_row' (P := Tryd.prog) 24 3 (.int .i64 0) 8 Tryd.underlying24 (by kernel_rfl) rfl .i64 .i64 vs.length (by omega) (by omega) w
    rw [intCells_zero] at h
    exact h
  go_enter Tryd.func29, Tryd.ntmps29
  go_wp2_with fail
  clear hmk
  go_loopw [4] (fun i wr => ∃ k : Nat, k ≤ vs.length ∧ i = .int .i64 k ∧ wr = w.alloc (.cells (intCells vs k) 3)) (fun i _ => vs.length - (intOf i).toNat)
  case atStart => exact ⟨0, Nat.zero_le _, rfl, rfl⟩
  case round =>
    obtain ⟨k, hk, rfl, rfl⟩ := hrel
    by_cases hlt : k < vs.length
    · obtain ⟨b, off, rfl, hb, hck⟩ := hw.load (Below.refl _ _) k hlt
      clear hw
      have hold := intCells_at vs k hlt
      have HS : Hid ((intCells vs k).setIfInBounds k (.int .i64 vs[k]) = intCells vs (k + 1)) := intCells_set vs k hlt
      have hltI : (k : Int) < (vs.length : Int) := by omega
      go_wp2
      go_roundw
      case rel => exact ⟨k + 1, by omega, by go_num, by rw [HS.out]⟩
      case measure => simp [intOf]; omega
    · have HA : Hid (intCells vs k = intArr vs) := intCells_all vs k (by omega)
      clear hw
      go_wp2
      go_ret
      exact ⟨rfl, by rw [HA.out]⟩

set_option maxHeartbeats 800000 in
theorem eqIntS_yes (a a' : Option Addr) (cap cap' : Nat) (vs : List Int) (w : World) (hw : IntsAt w a vs) (hw' : IntsAt w a' vs) :
    Calls Tryd.prog 38 #[.slice a vs.length cap, .slice a' vs.length cap'] w fun e w' => e = .returned (.bool true) ∧ Below w.heap.size w w' := by
  have hl := hw.len
  unfold maxLen at hl
  have hnn : ((vs.length : Int) != vs.length) = false := by simp
  go_enter Tryd.func38, Tryd.ntmps38
  go_wp2_with fail
  go_loopw [5] (fun i wr => ∃ k : Nat, k ≤ vs.length ∧ i = .int .i64 k ∧ Below w.heap.size w wr) (fun i _ => vs.length - (intOf i).toNat)
  case atStart => exact ⟨0, Nat.zero_le _, rfl, Below.refl _ _⟩
  case round =>
    obtain ⟨k, hk, rfl, hB⟩ := hrel
    by_cases hlt : k < vs.length
    · obtain ⟨b, off, rfl, hb, c0⟩ := hw.load hB k hlt
      obtain ⟨b', off', rfl, hb', d0⟩ := hw'.load hB k hlt
      have hltI : (k : Int) < (vs.length : Int) := by omega
      have hne : (vs[k] != vs[k]) = false := by simp
      clear hw hw'
      go_wp2_with fail
      first
        | exact ⟨⟨k + 1, by omega, by go_num, hB⟩, by simp [intOf]; omega⟩
        | (go_quiet (fail); go_wp2_with fail; exact ⟨⟨k + 1, by omega, by go_num, below_drewN hB _⟩, by simp [intOf]; omega⟩)
    · clear hw hw'
      go_wp2_with fail
      go_ret
      exact ⟨rfl, hB⟩

theorem box_new2 (w : World) (o1 : Obj) (X : Array Value) (t : TypeId) : ∀ o, ((w.alloc o1).alloc (.cells X t)).cell? ⟨w.heap.size + 1, o, none⟩ = X[o]? := by
  intro o
  have h := box_new (w.alloc o1) X t o
  have e : (w.alloc o1).heap.size = w.heap.size + 1 := by simp
  rw [e] at h; exact h

theorem at4' (w : World) (o1 o2 o3 o4 : Obj) : ((((w.alloc o1).alloc o2).alloc o3).alloc o4).heap[w.heap.size + 1 + 1 + 1]? = some o4 := by
  have h := MapKept.heap_alloc (((w.alloc o1).alloc o2).alloc o3) o4
  simpa using h.1
theorem below4' (w : World) (o1 o2 o3 o4 : Obj) : Below w.heap.size w ((((w.alloc o1).alloc o2).alloc o3).alloc o4) :=
  ((((Below.refl _ _).alloc (Nat.le_refl _) _).alloc (by simp) _).alloc (by simp; omega) _).alloc (by simp; omega) _

set_option maxHeartbeats 1000000 in
theorem toGateRule_any (r : Rl) (a : Option Addr) (cap : Nat) (w : World) (hw : IntsAt w a r.vs) (hl : r.vs.length ≤ 1048576) :
    Calls Tryd.prog 11 #[.agg (r.cells a cap)] w
      fun e w' => ∃ bk, e = .returned (.agg (r.cells (some ⟨bk, 0, none⟩) r.vs.length)) ∧ w.heap.size ≤ bk ∧ bk < w'.heap.size ∧ w'.heap[bk]? = some (.cells (intArr r.vs) 3) ∧ Below w.heap.size w w' := by
  unfold Rl.cells
  go_enter Tryd.func11, Tryd.ntmps11
  go_wp2_with (go_at_call 29; refine (toIntS_any _ _ _ _ (by exact hw.mono ((((Below.refl _ _).alloc (Nat.le_refl _) _).alloc (by simp) _).alloc (by simp; omega) _)) hl).mono ?_; rintro e w' ⟨rfl, rfl⟩)
  refine bodyPost_ret (v := .agg #[.slice (some ⟨w.heap.size + 1 + 1 + 1, 0, none⟩) r.vs.length r.vs.length, .string r.kd, .string r.tm, .string r.px]) (by simp [results, Tryd.results11, go_sem]) rfl ⟨w.heap.size + 1 + 1 + 1, rfl, by omega, by simp, at4' _ _ _ _ _, below4' _ _ _ _ _⟩

set_option maxHeartbeats 1000000 in
theorem eqGateRule_yes (r : Rl) (a a' : Option Addr) (cap cap' : Nat) (w : World) (hw : IntsAt w a r.vs) (hw' : IntsAt w a' r.vs) :
    Calls Tryd.prog 16 #[.agg (r.cells a cap), .agg (r.cells a' cap')] w fun e w' => e = .returned (.bool true) ∧ Below w.heap.size w w' := by
  unfold Rl.cells
  go_enter Tryd.func16, Tryd.ntmps16
  go_wp2_with fail
  refine (eqIntS_yes _ _ _ _ _ _ (hw.mono (below2' _ _ _)) (hw'.mono (below2' _ _ _))).mono ?_
  rintro e w1 ⟨rfl, hb1⟩
  have hX1 := box_later (box_later (box_new w _ _) (by simp) ((Below.refl _ _).alloc (Nat.le_refl _) _)) (by simp; omega) hb1
  have hY1 := box_later (box_new2 w _ _ _) (by simp) hb1
  have hz : w.heap.size + 1 < w1.heap.size := by have := hb1.size; simp at this; omega
  have hB1 := (below2' w _ _).trans (hb1.mono (by simp; omega))
  clear hb1
  go_wp2_with fail
  go_ret
  exact ⟨rfl, hB1⟩

end Go.Proofs.YtimhinpekngceaaDoor
