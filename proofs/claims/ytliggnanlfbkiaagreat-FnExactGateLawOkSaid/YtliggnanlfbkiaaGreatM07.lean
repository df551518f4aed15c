import Derived.Test.YtliggnanlfbkiaaGreatM03
import Derived.Test.YtliggnanlfbkiaaGreatM04
import Derived.Test.YtliggnanlfbkiaaGreatRows
import Derived.Test.YtliggnanlfbkiaaGreatM01
import Derived.WalkKit
import Derived.WalkSpells
import Derived.WalkLawsBesides
import Derived.Deep.QuietTactic
import Derived.BigQuiet
import Derived.Deep.RegionWith
namespace Go.Proofs.YtliggnanlfbkiaaGreat

/-- A team: its name, the one over it. -/
structure Tm where
  nm : ByteArray
  ov : ByteArray

namespace Gate

def noTeam : Tm := ⟨ByteArray.empty, ByteArray.empty⟩
def hasTeam (ts : List Tm) (v : ByteArray) : Bool := ts.any fun t => decide (t.nm = v)
/-- What stands over the first team of a name. -/
def over (ts : List Tm) (v : ByteArray) : ByteArray := ((ts.find? fun t => decide (t.nm = v)).getD noTeam).ov

theorem hasTeam_snoc (ts : List Tm) (v : ByteArray) (k : Nat) (h : k < ts.length) : hasTeam (ts.take (k + 1)) v = (hasTeam (ts.take k) v || decide (ts[k].nm = v)) := by
  unfold hasTeam; rw [List.take_succ_eq_append_getElem h, List.any_append]; simp
theorem hasTeam_at (ts : List Tm) (v : ByteArray) (k : Nat) (h : k < ts.length) (e : ts[k].nm = v) : hasTeam ts v = true := by
  unfold hasTeam; rw [List.any_eq_true]; exact ⟨ts[k], List.getElem_mem h, by simpa using e⟩
theorem hasTeam_all (ts : List Tm) (v : ByteArray) (k : Nat) (h : ts.length ≤ k) : hasTeam (ts.take k) v = hasTeam ts v := by rw [List.take_of_length_le h]
theorem over_at (ts : List Tm) (v : ByteArray) (k : Nat) (h : k < ts.length) (hb : hasTeam (ts.take k) v = false) (e : ts[k].nm = v) : over ts v = ts[k].ov := by
  unfold over
  have hn : (ts.take k).find? (fun s => decide (s.nm = v)) = none := by
    rw [List.find?_eq_none]; intro x hx; unfold hasTeam at hb; rw [List.any_eq_false] at hb; exact hb x hx
  have hf : ts.find? (fun s => decide (s.nm = v)) = some ts[k] := by
    conv => lhs; rw [← List.take_append_drop k ts]
    rw [List.find?_append, hn, List.drop_eq_getElem_cons h, List.find?_cons_of_pos (by simpa using e)]; rfl
  rw [hf]; rfl
theorem over_none (ts : List Tm) (v : ByteArray) (hb : hasTeam ts v = false) : over ts v = ByteArray.empty := by
  unfold over
  have hn : ts.find? (fun s => decide (s.nm = v)) = none := by
    rw [List.find?_eq_none]; intro x hx; unfold hasTeam at hb; rw [List.any_eq_false] at hb; exact hb x hx
  rw [hn]; rfl

/-- A stands under b, in at most n steps. -/
def under (ts : List Tm) : Nat → ByteArray → ByteArray → Bool
  | 0, a, b => decide (a = b)
  | n + 1, a, b => decide (a = b) || (decide (¬ (over ts a).size = 0) && under ts n (over ts a) b)

theorem under_same (ts : List Tm) (n : Nat) (a b : ByteArray) (h : a = b) : under ts n a b = true := by
  cases n <;> simp [under, h]
theorem under_end (ts : List Tm) {a b : ByteArray} (h : ¬ a = b) : under ts 0 a b = false := by simp [under, h]
theorem under_stop (ts : List Tm) (n : Nat) {a b : ByteArray} (h : ¬ a = b) (h0 : (over ts a).size = 0) : under ts (n + 1) a b = false := by simp [under, h, h0]
theorem under_on (ts : List Tm) (n : Nat) {a b : ByteArray} (h : ¬ a = b) (h0 : ¬ (over ts a).size = 0) : under ts (n + 1) a b = under ts n (over ts a) b := by simp [under, h, h0]

/-- A team by itself and beside the others. -/
def teamAt (ts : List Tm) (i : Nat) : Bool :=
  nameOk (ts.getD i noTeam).nm && (decide (i = 0) || less (ts.getD (i - 1) noTeam).nm (ts.getD i noTeam).nm) && ((ts.getD i noTeam).ov.toList.isEmpty || hasTeam ts (ts.getD i noTeam).ov)

def climb (ts : List Tm) : Nat → ByteArray → ByteArray
  | 0, a => a
  | n + 1, a => climb ts n (over ts a)
/-- The same, that stands still at the empty name. -/
def climbS (ts : List Tm) : Nat → ByteArray → ByteArray
  | 0, a => a
  | n + 1, a => if a.size = 0 then a else climbS ts n (over ts a)

def deepOk (ts : List Tm) (t : Tm) : Bool := decide ((climb ts 4 t.ov).size = 0)
def deepAt (ts : List Tm) (i : Nat) : Bool := deepOk ts (ts.getD i noTeam)
def deepS (ts : List Tm) (i : Nat) : Bool := decide ((climbS ts 5 (ts.getD i noTeam).nm).size = 0)
def teamsOk (ts : List Tm) : Bool := decide (ts.length ≤ 12) && (up (teamAt ts) ts.length && up (deepAt ts) ts.length)
def teamAtS (ts : List Tm) (i : Nat) : Bool := teamAt ts i && deepS ts i
def teamsOkS (ts : List Tm) : Bool := decide (ts.length ≤ 12) && up (teamAtS ts) ts.length

theorem up_eq_true {P : Nat → Bool} {n : Nat} : up P n = true ↔ ∀ i, i < n → P i = true := by
  unfold up; rw [List.all_eq_true]; simp

theorem team_name {ts : List Tm} {i : Nat} (hi : i < ts.length) (h : teamAt ts i = true) : nameOk ts[i].nm = true := by
  unfold teamAt at h; rw [getD_at ts i _ hi] at h; simp only [Bool.and_eq_true] at h; exact h.1.1
theorem team_less {ts : List Tm} {i : Nat} (hi : i + 1 < ts.length) (h : teamAt ts (i + 1) = true) : less ts[i].nm ts[i + 1].nm = true := by
  unfold teamAt at h; rw [getD_at ts (i + 1) _ hi, Nat.add_sub_cancel, getD_at ts i _ (by omega)] at h; simp only [Bool.and_eq_true] at h
  simpa using h.1.2

theorem teams_less {ts : List Tm} (h : up (teamAt ts) ts.length = true) : ∀ (j : Nat) (hj : j < ts.length) (i : Nat) (hi : i < j), less (ts[i]'(by omega)).nm ts[j].nm = true := by
  intro j
  induction j with
  | zero => intro _ i hi; omega
  | succ j ih =>
    intro hj i hi
    have h2 := team_less hj (up_at hj h)
    rcases Nat.lt_or_ge i j with hlt | hge
    · exact bytesLess_trans _ _ _ (ih (by omega) i hlt) h2
    · have e : i = j := by omega
      subst e; exact h2

theorem over_self {ts : List Tm} (h : up (teamAt ts) ts.length = true) (i : Nat) (hi : i < ts.length) : over ts ts[i].nm = ts[i].ov := by
  refine over_at ts _ i hi ?_ rfl
  unfold hasTeam
  rw [List.any_eq_false]
  intro x hx
  obtain ⟨k, hk, rfl⟩ := List.mem_iff_getElem.1 hx
  have hk' : k < i := by simp at hk; omega
  have h1 := teams_less h i hi k hk'
  simp only [List.getElem_take, decide_eq_true_eq]
  intro e
  unfold less at h1
  rw [e, bytesLess_irrefl] at h1
  cases h1

theorem over_empty {ts : List Tm} (h : up (teamAt ts) ts.length = true) : over ts ByteArray.empty = ByteArray.empty := by
  apply over_none
  unfold hasTeam
  rw [List.any_eq_false]
  intro x hx
  obtain ⟨k, hk, rfl⟩ := List.mem_iff_getElem.1 hx
  have h1 := team_name hk (up_at hk h)
  simp only [decide_eq_true_eq]
  intro e
  rw [e, nameOk_empty _ rfl] at h1
  cases h1

theorem climb_empty {ts : List Tm} (h : over ts ByteArray.empty = ByteArray.empty) : ∀ n, climb ts n ByteArray.empty = ByteArray.empty
  | 0 => rfl
  | n + 1 => by unfold climb; rw [h]; exact climb_empty h n

theorem climb_same {ts : List Tm} (h : over ts ByteArray.empty = ByteArray.empty) : ∀ n a, climbS ts n a = climb ts n a
  | 0, _ => rfl
  | n + 1, a => by
    unfold climbS
    by_cases h0 : a.size = 0
    · rw [if_pos h0, empty_of_size a h0, climb_empty h]
    · rw [if_neg h0, climb_same h n]; rfl

theorem deep_same {ts : List Tm} (h : up (teamAt ts) ts.length = true) (i : Nat) (hi : i < ts.length) : deepS ts i = deepAt ts i := by
  unfold deepS deepAt deepOk
  rw [getD_at ts i _ hi, climb_same (over_empty h), show climb ts 5 ts[i].nm = climb ts 4 (over ts ts[i].nm) from rfl, over_self h i hi]

theorem teamsOk_same (ts : List Tm) : teamsOk ts = teamsOkS ts := by
  unfold teamsOk teamsOkS
  congr 1
  rw [Bool.eq_iff_iff, Bool.and_eq_true]
  constructor
  · rintro ⟨h1, h2⟩
    rw [up_eq_true]
    intro i hi
    unfold teamAtS
    rw [up_at hi h1, deep_same h1 i hi, up_at hi h2]; rfl
  · intro h
    rw [up_eq_true] at h
    have h1 : up (teamAt ts) ts.length = true := by
      rw [up_eq_true]; intro i hi; have := h i hi; unfold teamAtS at this; rw [Bool.and_eq_true] at this; exact this.1
    refine ⟨h1, ?_⟩
    rw [up_eq_true]; intro i hi; have := h i hi; unfold teamAtS at this; rw [Bool.and_eq_true, deep_same h1 i hi] at this; exact this.2

/-- Among teams that are ok nothing stands under a name but the empty one. -/
theorem under_empty {ts : List Tm} (h : up (teamAt ts) ts.length = true) (n : Nat) (b : ByteArray) (hb : ¬ b.size = 0) : under ts n ByteArray.empty b = false := by
  have hne : ¬ ByteArray.empty = b := by rintro rfl; exact hb rfl
  cases n with
  | zero => exact under_end ts hne
  | succ n => exact under_stop ts n hne (by rw [over_empty h]; rfl)

end Gate
end Go.Proofs.YtliggnanlfbkiaaGreat

namespace Go.Proofs.YtliggnanlfbkiaaGreat
open Go.RowKit

def Tm.cells (m : Tm) : Array Value := #[.string m.nm, .string m.ov]

structure Tm.Small (m : Tm) : Prop where
  nm : m.nm.size ≤ maxLen
  ov : m.ov.size ≤ maxLen

/-- A slice of teams that lies in memory. -/
structure TmsAt (w : World) (a : Option Addr) (ts : List Tm) : Prop where
  len : ts.length ≤ maxLen
  small : ∀ i (h : i < ts.length), ts[i].Small
  rows : ts ≠ [] → ∃ b off, a = some ⟨b, off, none⟩ ∧ b < w.heap.size ∧ ∀ i (h : i < ts.length), ∀ j, j < 2 → w.cell? ⟨b, off + i * 2 + j, none⟩ = ts[i].cells[j]?

theorem TmsAt.mono {w w' : World} {a : Option Addr} {ts : List Tm} (h : TmsAt w a ts) (hl : Below w.heap.size w w') : TmsAt w' a ts :=
  ⟨h.len, h.small, fun hne => by
    obtain ⟨b, off, ha, hb, hr⟩ := h.rows hne
    exact ⟨b, off, ha, Nat.lt_of_lt_of_le hb hl.size, fun i hi j hj => (hl.cell (p := ⟨b, off + i * 2 + j, none⟩) hb).trans (hr i hi j hj)⟩⟩

/-- The two cells of a team, in a later world. -/
theorem TmsAt.load {w w' : World} {a : Option Addr} {ts : List Tm} (h : TmsAt w a ts) (hl : Below w.heap.size w w') (i : Nat) (hi : i < ts.length) : ∃ b off, a = some ⟨b, off, none⟩ ∧ b < w.heap.size ∧
    w'.cell? ⟨b, off + i * 2, none⟩ = some (.string ts[i].nm) ∧ w'.cell? ⟨b, off + i * 2 + 1, none⟩ = some (.string ts[i].ov) := by
  obtain ⟨b, off, ha, hb, hr⟩ := h.rows (by rintro rfl; simp at hi)
  have hc : ∀ j, j < 2 → w'.cell? ⟨b, off + i * 2 + j, none⟩ = ts[i].cells[j]? := fun j hj => (hl.cell (p := ⟨b, off + i * 2 + j, none⟩) hb).trans (hr i hi j hj)
  exact ⟨b, off, ha, hb, hc 0 (by omega), hc 1 (by omega)⟩

def Tm.sz (m : Tm) : Nat := m.nm.size + m.ov.size
def sumT (ts : List Tm) : Nat := (ts.map Tm.sz).sum
def tmsSz (ts : List Tm) : Nat := ts.length + sumT ts

def put2 (w : World) (b o : Nat) (v0 v1 : Value) : World := (w.setCell ⟨b, o, none⟩ v0).setCell ⟨b, o + 1, none⟩ v1
def set2 (C : Array Value) (o : Nat) (v0 v1 : Value) : Array Value := (C.setIfInBounds o v0).setIfInBounds (o + 1) v1
theorem put2_block {w : World} {b o : Nat} {C : Array Value} {t : TypeId} (h : w.heap[b]? = some (.cells C t)) (v0 v1 : Value) : (put2 w b o v0 v1).heap[b]? = some (.cells (set2 C o v0 v1) t) :=
  heap_setCell_at (heap_setCell_at h v0) v1
theorem put2_below {B : Nat} {a w : World} (h : Below B a w) {b : Nat} (hb : B ≤ b) (o : Nat) (v0 v1 : Value) : Below B a (put2 w b o v0 v1) :=
  (h.setCell hb v0).setCell hb v1
theorem set2_size (C : Array Value) (o : Nat) (v0 v1 : Value) : (set2 C o v0 v1).size = C.size := by simp [set2]
theorem set2_out (C : Array Value) (o i : Nat) (v0 v1 : Value) (h : i < o ∨ o + 2 ≤ i) : (set2 C o v0 v1)[i]? = C[i]? := by
  unfold set2
  iterate 2 rw [Array.getElem?_setIfInBounds, if_neg (by omega)]
theorem set2_in (C : Array Value) (o j : Nat) (v0 v1 : Value) (hj : j < 2) (ho : o + 2 ≤ C.size) : (set2 C o v0 v1)[o + j]? = (#[v0, v1] : Array Value)[j]? := by
  have hc : j = 0 ∨ j = 1 := by omega
  unfold set2
  rcases hc with h | h <;> subst h <;> simp [Array.getElem?_setIfInBounds] <;> omega

/-- A row of teams in memory of its own, the first k laid. -/
structure TmsOwn (ty : TypeId) (lo : Nat) (w : World) (bo : Nat) (ts : List Tm) (k : Nat) : Prop where
  low : lo ≤ bo
  rows : ∃ C, w.heap[bo]? = some (.cells C ty) ∧ C.size = ts.length * 2 ∧ ∀ i (h : i < ts.length), i < k → ∀ j, j < 2 → C[i * 2 + j]? = ts[i].cells[j]?

theorem TmsOwn.at {ty : TypeId} {lo : Nat} {w : World} {bo : Nat} {ts : List Tm} (h : TmsOwn ty lo w bo ts ts.length) (hs : ∀ i (h : i < ts.length), ts[i].Small) (hl : ts.length ≤ maxLen) : TmsAt w (some ⟨bo, 0, none⟩) ts := by
  obtain ⟨C, hC, hsz, hr⟩ := h.rows
  refine ⟨hl, hs, fun _ => ⟨bo, 0, rfl, (Array.getElem?_eq_some_iff.1 hC).1, fun i hi j hj => ?_⟩⟩
  rw [cell_of_block hC, Nat.zero_add]
  exact hr i hi hi j hj

theorem TmsOwn.later {ty : TypeId} {lo : Nat} {w w' : World} {bo : Nat} {ts : List Tm} {k : Nat} (h : TmsOwn ty lo w bo ts k) (hb : Below w.heap.size w w') : TmsOwn ty lo w' bo ts k := by
  obtain ⟨C, hC, hsz, hr⟩ := h.rows
  exact ⟨h.low, C, (hb.block bo (Array.getElem?_eq_some_iff.1 hC).1).trans hC, hsz, hr⟩

theorem TmsOwn.put {ty : TypeId} {lo : Nat} {w : World} {bo : Nat} {ts : List Tm} {k : Nat} (h : TmsOwn ty lo w bo ts k) (hk : k < ts.length) :
    TmsOwn ty lo (put2 w bo (k * 2) (.string ts[k].nm) (.string ts[k].ov)) bo ts (k + 1) := by
  obtain ⟨C, hC, hsz, hr⟩ := h.rows
  refine ⟨h.low, _, put2_block hC _ _, by rw [set2_size]; exact hsz, fun i hi hik j hj => ?_⟩
  rcases Nat.lt_or_ge i k with hlt | hge
  · rw [set2_out _ _ _ _ _ (by omega)]
    exact hr i hi hlt j hj
  · have e : i = k := by omega
    subst e
    rw [set2_in _ _ _ _ _ hj (by omega)]
    rfl

def tmZero : Array Value := #[.string ByteArray.empty, .string ByteArray.empty]
def tmsZero (n : Nat) : Array Value := madeCells tmZero (n * 2)

end Go.Proofs.YtliggnanlfbkiaaGreat

namespace Go.Proofs.YtliggnanlfbkiaaGreat
open Go.RowKit

set_option maxHeartbeats 1000000 in
theorem szGateTeam_any (m : Tm) (left : Int) (w : World) (hm : m.Small) (h0 : 0 ≤ left) (h1 : left ≤ 1048576) :
    Calls Tryz.prog 24 #[.agg m.cells, .int .i64 left] w fun e w' => e = .returned (.int .i64 (szRes m.sz left)) ∧ Below w.heap.size w w' := by
  have k1 := hm.nm
  have k2 := hm.ov
  unfold maxLen at k1 k2
  unfold Tm.cells
  have hB : ∀ ob, Below w.heap.size w (w.alloc ob) := fun ob => (Below.refl _ _).alloc (Nat.le_refl _) _
  by_cases hf : (m.sz : Int) ≤ left
  · have HF : Hid (szRes m.sz left = left - m.nm.size - m.ov.size) := by
      unfold Hid; rw [szRes_yes hf]; unfold Tm.sz; omega
    unfold Tm.sz at hf
    go_enter Tryz.func24, Tryz.ntmps24
    go_wp2_with fail
    go_ret
    exact ⟨ret_int HF.out.symm, hB _⟩
  · have HF : Hid (szRes m.sz left = -1) := szRes_no hf
    have HN : Hid (¬ ((m.nm.size + m.ov.size : Nat) : Int) ≤ left) := hf
    clear hf
    go_enter Tryz.func24, Tryz.ntmps24
    go_wp2_with fail
    all_goals go_ret
    all_goals first | exact ⟨ret_int HF.out.symm, hB _⟩ | (exfalso; have := HN.out; simp at *; omega)

theorem szGateTeam_yes (m : Tm) (left : Int) (w : World) (hm : m.Small) (h0 : 0 ≤ left) (h1 : left ≤ 1048576) (h : (m.sz : Int) ≤ left) :
    Calls Tryz.prog 24 #[.agg m.cells, .int .i64 left] w fun e w' => e = .returned (.int .i64 (left - m.sz)) ∧ Below w.heap.size w w' := by
  refine (szGateTeam_any m left w hm h0 h1).mono ?_
  rintro e w' ⟨rfl, hb⟩
  exact ⟨ret_int (szRes_yes h), hb⟩

theorem szGateTeam_no (m : Tm) (left : Int) (w : World) (hm : m.Small) (h0 : 0 ≤ left) (h1 : left ≤ 1048576) (h : ¬ (m.sz : Int) ≤ left) :
    Calls Tryz.prog 24 #[.agg m.cells, .int .i64 left] w fun e w' => e = .returned (.int .i64 (-1)) ∧ Below w.heap.size w w' := by
  refine (szGateTeam_any m left w hm h0 h1).mono ?_
  rintro e w' ⟨rfl, hb⟩
  exact ⟨ret_int (szRes_no h), hb⟩

set_option maxHeartbeats 1000000 in
theorem szGateTeamS_any (a : Option Addr) (cap : Nat) (ts : List Tm) (left : Int) (w : World) (hw : TmsAt w a ts) (h0 : 0 ≤ left) (h1 : left ≤ 1048576) :
    Calls Tryz.prog 11 #[.slice a ts.length cap, .int .i64 left] w fun e w' => e = .returned (.int .i64 (szRes (tmsSz ts) left)) ∧ Below w.heap.size w w' := by
  have hl := hw.len
  unfold maxLen at hl
  by_cases hfit : (ts.length : Int) ≤ left
  · go_enter Tryz.func11, Tryz.ntmps11
    go_wp2_with fail
    go_loopw [1, 5] (fun l i wr => ∃ k : Nat, k ≤ ts.length ∧ i = .int .i64 k ∧ 0 ≤ left - ts.length - sumT (ts.take k) ∧ l = .int .i64 (left - ts.length - sumT (ts.take k)) ∧ Below w.heap.size w wr) (fun _ i _ => ts.length - (intOf i).toNat)
    case atStart => exact ⟨0, Nat.zero_le _, rfl, by simp [sumT]; omega, by simp [sumT], Below.refl _ _⟩
    case round =>
      obtain ⟨k, hk, rfl, hpos, rfl, hB⟩ := hrel
      by_cases hlt : k < ts.length
      · obtain ⟨b, off, rfl, hb, c0, c1⟩ := hw.load hB k hlt
        have hsm := hw.small k hlt
        have HS : Hid (sumT (ts.take (k + 1)) = sumT (ts.take k) + ts[k].sz) := sum_snoc Tm.sz ts k hlt
        have hle : sumT (ts.take (k + 1)) ≤ sumT ts := sum_le Tm.sz ts (k + 1)
        clear hw
        by_cases hneg : (ts[k].sz : Int) ≤ left - ts.length - sumT (ts.take k)
        · have HNG : Hid ((ts[k].sz : Int) ≤ left - ts.length - sumT (ts.take k)) := hneg
          clear hle
          go_wp2_with fail
          refine (szGateTeam_yes _ _ _ hsm hpos (by omega) HNG.out).mono ?_
          rintro e w1 ⟨rfl, hb1⟩
          have hB1 := hB.trans (hb1.mono hB.size)
          clear hb1
          go_wp2_with fail
          exact ⟨⟨k + 1, by omega, by go_num, by rw [HS.out]; omega, by rw [HS.out]; congr 1; omega, hB1⟩, by simp [intOf]; omega⟩
        · have HF : Hid (szRes (tmsSz ts) left = -1) := szRes_no (by have := HS.out; unfold tmsSz; omega)
          have HNG := hid hneg
          clear hneg hle
          go_wp2_with fail
          refine (szGateTeam_no _ _ _ hsm hpos (by omega) (by have := HNG.out; omega)).mono ?_
          rintro e w1 ⟨rfl, hb1⟩
          have hB1 := hB.trans (hb1.mono hB.size)
          clear hb1
          go_wp2_with fail
          go_ret
          exact ⟨ret_int HF.out.symm, hB1⟩
      · have HF : Hid (szRes (tmsSz ts) left = left - ts.length - sumT (ts.take k)) := by
          rw [List.take_of_length_le (by omega)] at hpos ⊢
          have e : szRes (tmsSz ts) left = left - tmsSz ts := szRes_yes (by unfold tmsSz; omega)
          unfold Hid; rw [e]; unfold tmsSz; omega
        clear hw
        go_wp2
        go_ret
        exact ⟨ret_int HF.out.symm, hB⟩
  · have HF : Hid (szRes (tmsSz ts) left = -1) := szRes_no (by unfold tmsSz; omega)
    clear hw
    go_enter Tryz.func11, Tryz.ntmps11
    go_wp2
    go_ret
    exact ⟨ret_int HF.out.symm, Below.refl _ _⟩

theorem eqGateTeam_yes (m : Tm) (w : World) : Calls Tryz.prog 46 #[.agg m.cells, .agg m.cells] w fun e w' => e = .returned (.bool true) ∧ Below w.heap.size w w' := by
  unfold Tm.cells
  go_enter Tryz.func46, Tryz.ntmps46
  go_wp2_with fail
  go_ret
  exact ⟨rfl, below2' _ _ _⟩

set_option maxHeartbeats 2000000 in
theorem eqGateTeamS_yes (a a' : Option Addr) (cap cap' : Nat) (ts : List Tm) (w : World) (hw : TmsAt w a ts) (hw' : TmsAt w a' ts) :
    Calls Tryz.prog 21 #[.slice a ts.length cap, .slice a' ts.length cap'] w fun e w' => e = .returned (.bool true) ∧ Below w.heap.size w w' := by
  have hl := hw.len
  unfold maxLen at hl
  have hnn : ((ts.length : Int) != ts.length) = false := by simp
  go_enter Tryz.func21, Tryz.ntmps21
  go_wp2_with fail
  go_loopw [5] (fun i wr => ∃ k : Nat, k ≤ ts.length ∧ i = .int .i64 k ∧ Below w.heap.size w wr) (fun i _ => ts.length - (intOf i).toNat)
  case atStart => exact ⟨0, Nat.zero_le _, rfl, Below.refl _ _⟩
  case round =>
    obtain ⟨k, hk, rfl, hB⟩ := hrel
    by_cases hlt : k < ts.length
    · obtain ⟨b, off, rfl, hb, c0, c1⟩ := hw.load hB k hlt
      obtain ⟨b', off', rfl, hb', d0, d1⟩ := hw'.load hB k hlt
      have hltI : (k : Int) < (ts.length : Int) := by omega
      clear hw hw'
      go_wp2_with fail
      go_region_with (go_at_call 46; refine (eqGateTeam_yes ts[k] _).mono ?_; rintro e w1 ⟨rfl, hb1'⟩; have hb1 := (Below.refl wr.heap.size wr).drew.trans hb1'; clear hb1')
      all_goals go_wp2_with fail
      all_goals exact ⟨⟨k + 1, by omega, by go_num, hB.trans (hb1.mono hB.size)⟩, by simp [intOf]; omega⟩
    · clear hw hw'
      go_wp2_with fail
      go_ret
      exact ⟨rfl, hB⟩

set_option maxHeartbeats 1000000 in
theorem toGateTeam_any (m : Tm) (w : World) :
    Calls Tryz.prog 33 #[.agg m.cells] w fun e w' => e = .returned (.agg m.cells) ∧ Below w.heap.size w w' := by
  unfold Tm.cells
  go_enter Tryz.func33, Tryz.ntmps33
  go_wp2_with fail
  refine bodyPost_ret (v := .agg #[.string m.nm, .string m.ov]) (by simp [results, Tryz.results33, go_sem]) rfl ⟨rfl, ?_⟩
  exact ((((Below.refl _ _).alloc (Nat.le_refl _) _).alloc (by simp) _).alloc (by simp; omega) _)

set_option maxHeartbeats 2000000 in
theorem toGateTeamS_any (a : Option Addr) (cap : Nat) (ts : List Tm) (w : World) (hw : TmsAt w a ts) (hl : ts.length ≤ 1048576) :
    Calls Tryz.prog 16 #[.slice a ts.length cap] w fun e w' => e = .returned (.slice (some ⟨w.heap.size, 0, none⟩) ts.length ts.length) ∧ TmsOwn 66 w.heap.size w' w.heap.size ts ts.length ∧ Below w.heap.size w w' := by
  have hmk : ∀ w : World, (Instr.makeSlice 31 (.int .i64 ts.length) (.int .i64 ts.length)).run Tryz.prog w = .ok (.slice (some ⟨w.heap.size, 0, none⟩) ts.length ts.length) (w.alloc (.cells (tmsZero ts.length) 66)) :=
    fun w => run_make_rows (P := Tryz.prog) 31 66 (.agg tmZero) 2 32 Tryz.underlying31 (by kernel_rfl) ts.length (by omega) (by omega) w
  go_enter Tryz.func16, Tryz.ntmps16
  go_wp2_with fail
  clear hmk
  go_loopw [4] (fun i wr => ∃ k : Nat, k ≤ ts.length ∧ i = .int .i64 k ∧ TmsOwn 66 w.heap.size wr w.heap.size ts k ∧ Below w.heap.size w wr) (fun i _ => ts.length - (intOf i).toNat)
  case atStart => exact ⟨0, Nat.zero_le _, rfl, ⟨Nat.le_refl _, tmsZero ts.length, (MapKept.heap_alloc w _).1, size_madeCells _ _, fun i _ h => absurd h (by omega)⟩, (Below.refl _ _).alloc (Nat.le_refl _) _⟩
  case round =>
    obtain ⟨k, hk, rfl, hown, hB⟩ := hrel
    by_cases hlt : k < ts.length
    · obtain ⟨b, off, rfl, hb, c0, c1⟩ := hw.load hB k hlt
      have hltI : (k : Int) < (ts.length : Int) := by omega
      clear hw
      go_wp2_with fail
      refine (toGateTeam_any ts[k] _).mono ?_
      rintro e w1 ⟨rfl, hb1⟩
      have hB1 := hB.trans (hb1.mono hB.size)
      have hown1 := hown.later hb1
      have hbo : w.heap.size < wr.heap.size := by
        obtain ⟨C', hC', _⟩ := hown.rows
        exact (Array.getElem?_eq_some_iff.1 hC').1
      obtain ⟨C, hC, hsz, _⟩ := hown1.rows
      have hfz : ∀ o, w1.frozen? ⟨w.heap.size, o, none⟩ = false := fun o => frozen_of_block hC
      have hex : ∀ o, o < ts.length * 2 → ∃ v, w1.cell? ⟨w.heap.size, o, none⟩ = some v := fun o ho => ⟨C[o]'(by omega), by rw [cell_of_block hC]; exact Array.getElem?_eq_getElem (by omega)⟩
      obtain ⟨v0, hv0⟩ := hex (k * 2) (by omega)
      obtain ⟨v1, hv1⟩ := hex (k * 2 + 1) (by omega)
      have HP := hid hown1
      clear hex hC hsz c0 c1 hown hown1
      unfold Tm.cells
      go_wp2_with fail
      exact ⟨⟨k + 1, by omega, by go_num, HP.out.put hlt, put2_below hB1 (Nat.le_refl _) _ _ _⟩, by simp [intOf]; omega⟩
    · have HF : Hid (TmsOwn 66 w.heap.size wr w.heap.size ts ts.length) := by
        have e : k = ts.length := by omega
        subst e; exact hown
      clear hw hown
      go_wp2_with fail
      go_ret
      exact ⟨rfl, HF.out, hB⟩

end Go.Proofs.YtliggnanlfbkiaaGreat
