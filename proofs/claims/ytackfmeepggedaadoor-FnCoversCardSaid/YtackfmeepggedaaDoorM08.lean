import Derived.Test.YtackfmeepggedaaDoorM06
import Derived.Test.YtackfmeepggedaaDoorM04
import Derived.Test.YtackfmeepggedaaDoorRows
import Derived.Test.YtackfmeepggedaaDoorM02
import Derived.WalkKit
import Derived.WalkSpells
import Derived.WalkLawsBesides
import Derived.Deep.QuietTactic
import Derived.BigQuiet
import Derived.Deep.RegionWith
namespace Go.Proofs.YtackfmeepggedaaDoor
open Go.RowKit

/-- A slice of ints that lies in memory. -/
structure IntsAt (w : World) (a : Option Addr) (vs : List Int) : Prop where
  len : vs.length ≤ maxLen
  cells : vs ≠ [] → ∃ b off, a = some ⟨b, off, none⟩ ∧ b < w.heap.size ∧ ∀ i (h : i < vs.length), w.cell? ⟨b, off + i, none⟩ = some (.int .i64 vs[i])

theorem IntsAt.mono {w w' : World} {a : Option Addr} {vs : List Int} (h : IntsAt w a vs) (hb : Below w.heap.size w w') : IntsAt w' a vs :=
  ⟨h.len, fun hne => by
    obtain ⟨b, off, ha, hbs, hc⟩ := h.cells hne
    exact ⟨b, off, ha, Nat.lt_of_lt_of_le hbs hb.size, fun i hi => (hb.cell (p := ⟨b, off + i, none⟩) hbs).trans (hc i hi)⟩⟩

theorem IntsAt.load {w w' : World} {a : Option Addr} {vs : List Int} (h : IntsAt w a vs) (hl : Below w.heap.size w w') (i : Nat) (hi : i < vs.length) : ∃ b off, a = some ⟨b, off, none⟩ ∧ b < w.heap.size ∧ w'.cell? ⟨b, off + i, none⟩ = some (.int .i64 vs[i]) := by
  obtain ⟨b, off, ha, hb, hc⟩ := h.cells (by rintro rfl; simp at hi)
  exact ⟨b, off, ha, hb, (hl.cell (p := ⟨b, off + i, none⟩) hb).trans (hc i hi)⟩

def intArr (vs : List Int) : Array Value := (vs.map (Value.int .i64)).toArray
def intCells (vs : List Int) (k : Nat) : Array Value := ((vs.take k).map (Value.int .i64) ++ List.replicate (vs.length - k) (Value.int .i64 0)).toArray

theorem intCells_at (vs : List Int) (k : Nat) (h : k < vs.length) : (intCells vs k)[k]? = some (.int .i64 0) := by
  unfold intCells
  have hl : ((vs.take k).map (Value.int .i64)).length = k := by simp; omega
  rw [List.getElem?_toArray, List.getElem?_append_right (by omega), hl, Nat.sub_self]
  obtain ⟨m, hm⟩ : ∃ m, vs.length - k = m + 1 := ⟨vs.length - k - 1, by omega⟩
  rw [hm, List.replicate_succ]; rfl

theorem intCells_set (vs : List Int) (k : Nat) (h : k < vs.length) : (intCells vs k).setIfInBounds k (.int .i64 vs[k]) = intCells vs (k + 1) := by
  unfold intCells
  rw [List.setIfInBounds_toArray, List.set_append_right _ _ (by simp; omega)]
  congr 1
  rw [List.take_succ_eq_append_getElem h, List.map_append, List.append_assoc]
  congr 1
  obtain ⟨m, hm⟩ : ∃ m, vs.length - k = m + 1 := ⟨vs.length - k - 1, by omega⟩
  rw [hm, show vs.length - (k + 1) = m by omega]
  have : k - ((vs.take k).map (Value.int .i64)).length = 0 := by simp; omega
  rw [this, List.replicate_succ]
  rfl

theorem intCells_all (vs : List Int) (k : Nat) (h : vs.length ≤ k) : intCells vs k = intArr vs := by
  unfold intCells intArr
  rw [List.take_of_length_le h, show vs.length - k = 0 by omega]; simp

theorem intCells_zero (vs : List Int) : madeCells #[Value.int .i64 0] vs.length = intCells vs 0 := by
  apply Array.toList_inj.1
  rw [toList_madeCells_one]
  simp [intCells]

theorem heap_ints {w : World} {bk : Nat} {vs : List Int} {t : TypeId} (h : w.heap[bk]? = some (.cells (intArr vs) t)) (hl : vs.length ≤ maxLen) : IntsAt w (some ⟨bk, 0, none⟩) vs :=
  ⟨hl, fun _ => ⟨bk, 0, rfl, (Array.getElem?_eq_some_iff.1 h).1, fun i hi => by
    simp [World.cell?, h, intArr, hi]⟩⟩

/-- The cells of a rule whose verbs lie at a. -/
def Rl.cells (r : Rl) (a : Option Addr) (cap : Nat) : Array Value := #[.slice a r.vs.length cap, .string r.kd, .string r.tm, .string r.px]
def Ac.cells (x : Ac) : Array Value := #[.int .i64 x.vb, .string x.kd, .string x.tm, .string x.nm]

structure Rl.Small (r : Rl) : Prop where
  kd : r.kd.size ≤ maxLen
  tm : r.tm.size ≤ maxLen
  px : r.px.size ≤ maxLen
structure Ac.Small (r : Ac) : Prop where
  kd : r.kd.size ≤ maxLen
  tm : r.tm.size ≤ maxLen
  nm : r.nm.size ≤ maxLen

structure RlIn (w : World) (b off : Nat) (r : Rl) (a : Option Addr) (cap : Nat) : Prop where
  small : r.Small
  ints : IntsAt w a r.vs
  cell : ∀ j, j < 4 → w.cell? ⟨b, off + j, none⟩ = (r.cells a cap)[j]?

structure RlsAt (w : World) (a : Option Addr) (rs : List Rl) : Prop where
  len : rs.length ≤ maxLen
  rows : rs ≠ [] → ∃ b off, a = some ⟨b, off, none⟩ ∧ b < w.heap.size ∧ ∀ i (h : i < rs.length), ∃ va vcap, RlIn w b (off + i * 4) rs[i] va vcap

theorem RlIn.mono {w w' : World} {b off : Nat} {r : Rl} {a : Option Addr} {cap : Nat} (h : RlIn w b off r a cap) (hb : b < w.heap.size) (hl : Below w.heap.size w w') : RlIn w' b off r a cap :=
  ⟨h.small, h.ints.mono hl, fun j hj => (hl.cell (p := ⟨b, off + j, none⟩) hb).trans (h.cell j hj)⟩

theorem RlsAt.mono {w w' : World} {a : Option Addr} {rs : List Rl} (h : RlsAt w a rs) (hl : Below w.heap.size w w') : RlsAt w' a rs :=
  ⟨h.len, fun hne => by
    obtain ⟨b, off, ha, hb, hr⟩ := h.rows hne
    refine ⟨b, off, ha, Nat.lt_of_lt_of_le hb hl.size, fun i hi => ?_⟩
    obtain ⟨va, vcap, hf⟩ := hr i hi
    exact ⟨va, vcap, hf.mono hb hl⟩⟩

theorem RlsAt.load {w w' : World} {a : Option Addr} {rs : List Rl} (h : RlsAt w a rs) (hl : Below w.heap.size w w') (i : Nat) (hi : i < rs.length) : ∃ b off va vcap, a = some ⟨b, off, none⟩ ∧ b < w.heap.size ∧ rs[i].Small ∧ IntsAt w' va rs[i].vs ∧
    w'.cell? ⟨b, off + i * 4, none⟩ = some (.slice va rs[i].vs.length vcap) ∧ w'.cell? ⟨b, off + i * 4 + 1, none⟩ = some (.string rs[i].kd) ∧ w'.cell? ⟨b, off + i * 4 + 2, none⟩ = some (.string rs[i].tm) ∧ w'.cell? ⟨b, off + i * 4 + 3, none⟩ = some (.string rs[i].px) := by
  obtain ⟨b, off, ha, hb, hr⟩ := h.rows (by rintro rfl; simp at hi)
  obtain ⟨va, vcap, hf0⟩ := hr i hi
  have hf := hf0.mono hb hl
  exact ⟨b, off, va, vcap, ha, hb, hf.small, hf.ints, hf.cell 0 (by omega), hf.cell 1 (by omega), hf.cell 2 (by omega), hf.cell 3 (by omega)⟩

def Rl.sz (r : Rl) : Nat := r.vs.length + r.kd.size + r.tm.size + r.px.size
def Ac.sz (r : Ac) : Nat := r.kd.size + r.tm.size + r.nm.size
def sumR (rs : List Rl) : Nat := (rs.map Rl.sz).sum
def rlsSz (rs : List Rl) : Nat := rs.length + sumR rs

def put4 (w : World) (b o : Nat) (v0 v1 v2 v3 : Value) : World := (((w.setCell ⟨b, o, none⟩ v0).setCell ⟨b, o + 1, none⟩ v1).setCell ⟨b, o + 2, none⟩ v2).setCell ⟨b, o + 3, none⟩ v3
def set4 (C : Array Value) (o : Nat) (v0 v1 v2 v3 : Value) : Array Value := (((C.setIfInBounds o v0).setIfInBounds (o + 1) v1).setIfInBounds (o + 2) v2).setIfInBounds (o + 3) v3
theorem put4_block {w : World} {b o : Nat} {C : Array Value} {t : TypeId} (h : w.heap[b]? = some (.cells C t)) (v0 v1 v2 v3 : Value) : (put4 w b o v0 v1 v2 v3).heap[b]? = some (.cells (set4 C o v0 v1 v2 v3) t) :=
  heap_setCell_at (heap_setCell_at (heap_setCell_at (heap_setCell_at h v0) v1) v2) v3
theorem put4_below {B : Nat} {a w : World} (h : Below B a w) {b : Nat} (hb : B ≤ b) (o : Nat) (v0 v1 v2 v3 : Value) : Below B a (put4 w b o v0 v1 v2 v3) :=
  (((h.setCell hb v0).setCell hb v1).setCell hb v2).setCell hb v3
theorem setCell_other {w : World} {b o : Nat} {v : Value} {b' : Nat} (h : b' ≠ b) : (w.setCell ⟨b, o, none⟩ v).heap[b']? = w.heap[b']? := by
  simp only [World.setCell, Array.getElem?_modify]
  rw [if_neg (fun e => h (Eq.symm e))]
theorem put4_other (w : World) (b o : Nat) (v0 v1 v2 v3 : Value) {b' : Nat} (h : b' ≠ b) : (put4 w b o v0 v1 v2 v3).heap[b']? = w.heap[b']? := by
  unfold put4; rw [setCell_other h, setCell_other h, setCell_other h, setCell_other h]
theorem set4_size (C : Array Value) (o : Nat) (v0 v1 v2 v3 : Value) : (set4 C o v0 v1 v2 v3).size = C.size := by simp [set4]
theorem set4_out (C : Array Value) (o i : Nat) (v0 v1 v2 v3 : Value) (h : i < o ∨ o + 4 ≤ i) : (set4 C o v0 v1 v2 v3)[i]? = C[i]? := by
  unfold set4
  iterate 4 rw [Array.getElem?_setIfInBounds, if_neg (by omega)]
theorem set4_in (C : Array Value) (o j : Nat) (v0 v1 v2 v3 : Value) (hj : j < 4) (ho : o + 4 ≤ C.size) : (set4 C o v0 v1 v2 v3)[o + j]? = (#[v0, v1, v2, v3] : Array Value)[j]? := by
  have hc : j = 0 ∨ j = 1 ∨ j = 2 ∨ j = 3 := by omega
  unfold set4
  rcases hc with h | h | h | h <;> subst h <;> simp [Array.getElem?_setIfInBounds] <;> omega

/-- A row of rules in memory of its own, the first k laid; the verbs of each in a block of their own. -/
structure RlsOwn (ty ti : TypeId) (lo : Nat) (w : World) (bo : Nat) (rs : List Rl) (k : Nat) : Prop where
  low : lo ≤ bo
  rows : ∃ C, w.heap[bo]? = some (.cells C ty) ∧ C.size = rs.length * 4 ∧
    ∀ i (h : i < rs.length), i < k → ∃ bk, lo ≤ bk ∧ bk ≠ bo ∧ w.heap[bk]? = some (.cells (intArr rs[i].vs) ti) ∧ ∀ j, j < 4 → C[i * 4 + j]? = (rs[i].cells (some ⟨bk, 0, none⟩) rs[i].vs.length)[j]?

structure RlsSmall (rs : List Rl) : Prop where
  small : ∀ i (h : i < rs.length), rs[i].Small ∧ rs[i].vs.length ≤ maxLen

theorem RlsAt.smalls {w : World} {a : Option Addr} {rs : List Rl} (h : RlsAt w a rs) : RlsSmall rs :=
  ⟨fun i hi => by
    obtain ⟨_, _, _, _, _, _, h1, h2, _⟩ := h.load (Below.refl _ _) i hi
    exact ⟨h1, h2.len⟩⟩

theorem RlsOwn.at {ty ti : TypeId} {lo : Nat} {w : World} {bo : Nat} {rs : List Rl} (h : RlsOwn ty ti lo w bo rs rs.length) (hs : RlsSmall rs) (hl : rs.length ≤ maxLen) : RlsAt w (some ⟨bo, 0, none⟩) rs := by
  obtain ⟨C, hC, hsz, hr⟩ := h.rows
  refine ⟨hl, fun _ => ⟨bo, 0, rfl, (Array.getElem?_eq_some_iff.1 hC).1, fun i hi => ?_⟩⟩
  obtain ⟨bk, _, _, hk, hc⟩ := hr i hi hi
  obtain ⟨s1, s2⟩ := hs.small i hi
  refine ⟨some ⟨bk, 0, none⟩, rs[i].vs.length, s1, heap_ints hk s2, fun j hj => ?_⟩
  rw [cell_of_block hC, Nat.zero_add]
  exact hc j hj

theorem RlsOwn.later {ty ti : TypeId} {lo : Nat} {w w' : World} {bo : Nat} {rs : List Rl} {k : Nat} (h : RlsOwn ty ti lo w bo rs k) (hb : Below w.heap.size w w') : RlsOwn ty ti lo w' bo rs k := by
  obtain ⟨C, hC, hsz, hr⟩ := h.rows
  refine ⟨h.low, C, (hb.block bo (Array.getElem?_eq_some_iff.1 hC).1).trans hC, hsz, fun i hi hk => ?_⟩
  obtain ⟨bk, h1, h2, h3, h4⟩ := hr i hi hk
  exact ⟨bk, h1, h2, (hb.block bk (Array.getElem?_eq_some_iff.1 h3).1).trans h3, h4⟩

theorem RlsOwn.put {ty ti : TypeId} {lo : Nat} {w : World} {bo : Nat} {rs : List Rl} {k : Nat} (h : RlsOwn ty ti lo w bo rs k) (hk : k < rs.length) (bk : Nat) (h1 : lo ≤ bk) (h2 : bk ≠ bo) (h3 : w.heap[bk]? = some (.cells (intArr rs[k].vs) ti)) :
    RlsOwn ty ti lo (put4 w bo (k * 4) (.slice (some ⟨bk, 0, none⟩) rs[k].vs.length rs[k].vs.length) (.string rs[k].kd) (.string rs[k].tm) (.string rs[k].px)) bo rs (k + 1) := by
  obtain ⟨C, hC, hsz, hr⟩ := h.rows
  refine ⟨h.low, _, put4_block hC _ _ _ _, by rw [set4_size]; exact hsz, fun i hi hik => ?_⟩
  rcases Nat.lt_or_ge i k with hlt | hge
  · obtain ⟨bi, g1, g2, g3, g4⟩ := hr i hi hlt
    refine ⟨bi, g1, g2, by rw [put4_other _ _ _ _ _ _ _ g2]; exact g3, fun j hj => ?_⟩
    rw [set4_out _ _ _ _ _ _ _ (by omega)]
    exact g4 j hj
  · have e : i = k := by omega
    subst e
    refine ⟨bk, h1, h2, by rw [put4_other _ _ _ _ _ _ _ h2]; exact h3, fun j hj => ?_⟩
    rw [set4_in _ _ _ _ _ _ _ hj (by omega)]
    rfl

def rlZero : Array Value := #[.slice none 0 0, .string ByteArray.empty, .string ByteArray.empty, .string ByteArray.empty]
def rlsZero (n : Nat) : Array Value := madeCells rlZero (n * 4)

theorem box_new2 (w : World) (o1 : Obj) (X : Array Value) (t : TypeId) : ∀ o, ((w.alloc o1).alloc (.cells X t)).cell? ⟨w.heap.size + 1, o, none⟩ = X[o]? := by
  intro o
  have h := box_new (w.alloc o1) X t o
  have e : (w.alloc o1).heap.size = w.heap.size + 1 := by simp
  rw [e] at h; exact h

end Go.Proofs.YtackfmeepggedaaDoor

namespace Go.Proofs.YtackfmeepggedaaDoor
open Go.RowKit

theorem ret_str {a b : ByteArray} (h : a = b) : Ending.returned (.string a) = .returned (.string b) := by rw [h]

theorem over_small (ts : List Tm) (v : ByteArray) (hs : ∀ i (h : i < ts.length), ts[i].Small) : (Gate.over ts v).size ≤ maxLen := by
  unfold Gate.over
  cases hf : ts.find? (fun t => decide (t.nm = v)) with
  | none => simp [Gate.noTeam, maxLen]
  | some t =>
    obtain ⟨k, hk, rfl⟩ := List.mem_iff_getElem.1 (List.mem_of_find?_eq_some hf)
    exact (hs k hk).ov

set_option maxHeartbeats 400000 in
theorem l4Over_any (a : Option Addr) (cap : Nat) (ts : List Tm) (v : ByteArray) (w : World) (hw : TmsAt w a ts) :
    Calls Tryd.prog 64 #[.slice a ts.length cap, .string v] w fun e w' => e = .returned (.string (Gate.over ts v)) ∧ w' = w := by
  have hl := hw.len
  unfold maxLen at hl
  go_enter Tryd.func64, Tryd.ntmps64
  go_wp2_with fail
  go_loop [5] (fun i => ∃ k : Nat, k ≤ ts.length ∧ i = .int .i64 k ∧ Gate.hasTeam (ts.take k) v = false) (fun i => ts.length - (intOf i).toNat)
  case atStart => exact ⟨0, Nat.zero_le _, rfl, rfl⟩
  case round =>
    obtain ⟨k, hk, rfl, hall⟩ := hrel
    by_cases hlt : k < ts.length
    · obtain ⟨b, off, rfl, hb, c0, c1⟩ := hw.load (Below.refl _ _) k hlt
      clear hw
      have HS : Hid (Gate.hasTeam (ts.take (k + 1)) v = (false || decide (ts[k].nm = v))) := by rw [Gate.hasTeam_snoc ts v k hlt, hall]; rfl
      have hltI : (k : Int) < (ts.length : Int) := by omega
      by_cases he : ts[k].nm = v
      · have hbe : (ts[k].nm.toList == v.toList) = true := by rw [Gate.beq_toList]; simpa using he
        have HR : Hid (Gate.over ts v = ts[k].ov) := Gate.over_at ts v k hlt hall he
        clear he hall
        go_wp2_with fail
        go_ret
        exact ⟨ret_str HR.out.symm, rfl⟩
      · have hbe : (ts[k].nm.toList == v.toList) = false := by rw [Gate.beq_toList]; simpa using he
        have HE : Hid (¬ ts[k].nm = v) := he
        clear he hall
        go_wp2_with fail
        go_round
        case rel => exact ⟨k + 1, by omega, by go_num, by rw [HS.out, decide_eq_false HE.out]; rfl⟩
        case measure => simp [intOf]; omega
    · have HR : Hid (Gate.over ts v = ByteArray.empty) := Gate.over_none ts v (by rw [← Gate.hasTeam_all ts v k (by omega)]; exact hall)
      clear hall hw
      go_wp2_with fail
      go_ret
      exact ⟨ret_str HR.out.symm, rfl⟩

set_option maxHeartbeats 800000 in
theorem overOf_any (a : Option Addr) (cap : Nat) (ts : List Tm) (v : ByteArray) (w : World) (hw : TmsAt w a ts) :
    Calls Tryd.prog 58 #[.slice a ts.length cap, .string v] w fun e w' => e = .returned (.string (Gate.over ts v)) ∧ Below w.heap.size w w' := by
  have hl := hw.len
  unfold maxLen at hl
  go_enter Tryd.func58, Tryd.ntmps58
  go_wp2_with fail
  go_loopw [9] (fun i wr => ∃ k : Nat, k ≤ ts.length ∧ i = .int .i64 k ∧ Gate.hasTeam (ts.take k) v = false ∧ Below w.heap.size w wr) (fun i _ => ts.length - (intOf i).toNat)
  case atStart => exact ⟨0, Nat.zero_le _, rfl, rfl, Below.refl _ _⟩
  case round =>
    obtain ⟨k, hk, rfl, hall, hB⟩ := hrel
    have hsz := hB.size
    by_cases hlt : k < ts.length
    · obtain ⟨b, off, rfl, hb, c0, c1⟩ := hw.load hB k hlt
      clear hw
      have HS : Hid (Gate.hasTeam (ts.take (k + 1)) v = (false || decide (ts[k].nm = v))) := by rw [Gate.hasTeam_snoc ts v k hlt, hall]; rfl
      have hltI : (k : Int) < (ts.length : Int) := by omega
      have hbr : b < wr.heap.size := by omega
      by_cases he : ts[k].nm = v
      · have hbe : (ts[k].nm.toList == v.toList) = true := by rw [Gate.beq_toList]; simpa using he
        have HR : Hid (Gate.over ts v = ts[k].ov) := Gate.over_at ts v k hlt hall he
        clear he hall
        go_wp2_with fail
        go_ret
        exact ⟨ret_str HR.out.symm, hB.alloc hsz _⟩
      · have hbe : (ts[k].nm.toList == v.toList) = false := by rw [Gate.beq_toList]; simpa using he
        have HE : Hid (¬ ts[k].nm = v) := he
        clear he hall
        go_wp2_with fail
        exact ⟨⟨k + 1, by omega, by go_num, by rw [HS.out, decide_eq_false HE.out]; rfl, hB.alloc hsz _⟩, by simp [intOf]; omega⟩
    · have HR : Hid (Gate.over ts v = ByteArray.empty) := Gate.over_none ts v (by rw [← Gate.hasTeam_all ts v k (by omega)]; exact hall)
      clear hall hw
      go_wp2_with fail
      go_ret
      exact ⟨ret_str HR.out.symm, hB⟩

end Go.Proofs.YtackfmeepggedaaDoor

namespace Go.Proofs.YtackfmeepggedaaDoor
namespace Gate

/-- A rule covers a verb of another one. -/
def covs (ts : List Tm) (r q : Rl) (v : Int) : Bool := hasVerb q.vs v && meets ts q r.kd r.tm r.px
def lacksAt (ts : List Tm) (rs : List Rl) (r : Rl) (v : Int) : Bool := hasVerb r.vs v && !(rs.any fun q => covs ts r q v)
def leftBits (ts : List Tm) (rs : List Rl) (r : Rl) : Int := bitsOf (lacksAt ts rs r)
def allOk (ts : List Tm) (rs : List Rl) (r : Rl) : Bool := teamsOk ts && (ruleOk r && rulesOk rs)
def covers (ts : List Tm) (rs : List Rl) (r : Rl) : Bool := allOk ts rs r && (leftBits ts rs r == 0)

/-- The same as the specification says it: the empty team apart. -/
def meetsS (ts : List Tm) (r q : Rl) : Bool := (q.kd.toList.isEmpty || decide (q.kd = r.kd)) && ((q.tm.toList.isEmpty || (!r.tm.toList.isEmpty && under ts 4 r.tm q.tm)) && begins r.px q.px)
def covsS (ts : List Tm) (r q : Rl) (v : Int) : Bool := hasVerb q.vs v && meetsS ts r q
def lacksS (ts : List Tm) (rs : List Rl) (r : Rl) : Int := (r.vs.find? fun v => !(rs.any fun q => covsS ts r q v)).getD 0
def coversS (ts : List Tm) (rs : List Rl) (r : Rl) : Bool := allOk ts rs r && (lacksS ts rs r == 0)

theorem left_zero (ts : List Tm) (r : Rl) : leftBits ts [] r = bitsOf (hasVerb r.vs) := by
  unfold leftBits; apply bits_congr; intro v _; simp [lacksAt]

theorem left_snoc (ts : List Tm) (rs : List Rl) (r : Rl) (k : Nat) (h : k < rs.length) :
    leftBits ts (rs.take (k + 1)) r = clrI (leftBits ts (rs.take k) r) (bitsOf fun v => meets ts rs[k] r.kd r.tm r.px && hasVerb rs[k].vs v) := by
  unfold leftBits
  rw [bits_clr]
  apply bits_congr
  intro v _
  unfold lacksAt
  rw [List.take_succ_eq_append_getElem h, List.any_append]
  simp only [List.any_cons, List.any_nil, Bool.or_false, covs]
  cases hasVerb r.vs v <;> cases (List.take k rs).any (fun q => hasVerb q.vs v && meets ts q r.kd r.tm r.px) <;> cases meets ts rs[k] r.kd r.tm r.px <;> cases hasVerb rs[k].vs v <;> rfl

theorem meets_same {ts : List Tm} (hok : teamsOk ts = true) (r q : Rl) : meetsS ts r q = meets ts q r.kd r.tm r.px := by
  have hup : up (teamAt ts) ts.length = true := by
    unfold teamsOk at hok; simp only [Bool.and_eq_true] at hok; exact hok.2.1
  unfold meetsS meets
  congr 2
  cases hq : q.tm.toList.isEmpty
  · cases hr : r.tm.toList.isEmpty
    · rfl
    · have h0 : r.tm = ByteArray.empty := empty_of_size _ (by rw [isEmpty_of_size] at hr; simpa using hr)
      rw [h0, under_empty hup 4 q.tm (by rw [isEmpty_of_size] at hq; simpa using hq)]
      rfl
  · rfl

theorem covs_same {ts : List Tm} (hok : teamsOk ts = true) (r q : Rl) (v : Int) : covsS ts r q v = covs ts r q v := by
  unfold covsS covs; rw [meets_same hok]

theorem lacks_find {ts : List Tm} (hok : teamsOk ts = true) (rs : List Rl) (r : Rl) : lacksS ts rs r = (r.vs.find? fun v => !(rs.any fun q => covs ts r q v)).getD 0 := by
  unfold lacksS
  have : (fun v => !(rs.any fun q => covsS ts r q v)) = fun v => !(rs.any fun q => covs ts r q v) := by
    funext v; congr 2; funext q; exact covs_same hok r q v
  rw [this]

theorem left_zero_iff {ts : List Tm} (rs : List Rl) {r : Rl} (hv : verbsOk r.vs = true) : (leftBits ts rs r == 0) = true ↔ ∀ v ∈ r.vs, (rs.any fun q => covs ts r q v) = true := by
  unfold leftBits
  rw [bits_zero]
  constructor
  · intro h v hm
    simp only [Bool.not_eq_true', Bool.or_eq_false_iff] at h
    have h5 : 1 ≤ v ∧ v ≤ 5 := by
      obtain ⟨i, hi, rfl⟩ := List.mem_iff_getElem.1 hm
      exact verbsOk_at hv i hi
    have hl : lacksAt ts rs r v = false := by
      obtain ⟨⟨⟨⟨h1, h2⟩, h3⟩, h4⟩, h6⟩ := h
      exact five (fun v => lacksAt ts rs r v = false) h1 h2 h3 h4 h6 v h5
    unfold lacksAt at hl
    have hh : hasVerb r.vs v = true := by unfold hasVerb; rw [List.any_eq_true]; exact ⟨v, hm, by simp⟩
    rw [hh] at hl
    simpa using hl
  · intro h
    have hl : ∀ v, lacksAt ts rs r v = false := by
      intro v
      unfold lacksAt
      cases hh : hasVerb r.vs v
      · rfl
      · unfold hasVerb at hh
        rw [List.any_eq_true] at hh
        obtain ⟨x, hx, he⟩ := hh
        have e : x = v := by simpa using he
        subst e
        rw [h x hx]; rfl
    simp [hl]

theorem lacks_zero_iff {ts : List Tm} (hok : teamsOk ts = true) (rs : List Rl) {r : Rl} (hv : verbsOk r.vs = true) : (lacksS ts rs r == 0) = true ↔ ∀ v ∈ r.vs, (rs.any fun q => covs ts r q v) = true := by
  rw [lacks_find hok]
  constructor
  · intro h v hm
    cases hf : r.vs.find? (fun v => !(rs.any fun q => covs ts r q v)) with
    | none =>
      rw [List.find?_eq_none] at hf
      simpa using hf v hm
    | some x =>
      rw [hf] at h
      have hx := List.mem_of_find?_eq_some hf
      obtain ⟨i, hi, rfl⟩ := List.mem_iff_getElem.1 hx
      have h5 := verbsOk_at hv i hi
      simp at h
      omega
  · intro h
    have hf : r.vs.find? (fun v => !(rs.any fun q => covs ts r q v)) = none := by
      rw [List.find?_eq_none]; intro v hm; rw [h v hm]; simp
    rw [hf]; rfl

theorem covers_same (ts : List Tm) (rs : List Rl) (r : Rl) : covers ts rs r = coversS ts rs r := by
  unfold covers coversS
  cases ha : allOk ts rs r
  · rfl
  · unfold allOk at ha
    simp only [Bool.and_eq_true] at ha
    have hv : verbsOk r.vs = true := by
      have := ha.2.1; unfold ruleOk at this; simp only [Bool.and_eq_true] at this; exact this.2.1
    simp only [Bool.true_and]
    rw [Bool.eq_iff_iff, left_zero_iff rs hv, lacks_zero_iff ha.1 rs hv]

theorem all_take_snoc {α : Type} (p : α → Bool) (l : List α) (k : Nat) (h : k < l.length) : (l.take (k + 1)).all p = ((l.take k).all p && p l[k]) := by
  rw [List.take_succ_eq_append_getElem h, List.all_append]; simp
theorem all_at_no {α : Type} (p : α → Bool) (l : List α) (k : Nat) (h : k < l.length) (hp : p l[k] = false) : l.all p = false := by
  rw [List.all_eq_false]; exact ⟨l[k], List.getElem_mem h, by simp [hp]⟩
theorem not_any_not {α : Type} (p : α → Bool) (l : List α) : (!(l.any fun x => !p x)) = l.all p := by
  rw [Bool.eq_iff_iff]; simp

end Gate
end Go.Proofs.YtackfmeepggedaaDoor
