import Derived.WalkKit
import Derived.Laws.NewBlocks
import Derived.Laws.MakeOwn
import Derived.Laws.OwnMore
import Derived.Deep.Draws
import Derived.Deep.OwnRows
import Derived.MapKept
import Derived.Test.YtlonpcaniibehaaRows
import Derived.Test.YtlonpcaniibehaaM03
import Derived.WalkSpells
import Derived.WalkLawsBesides
import Derived.Deep.QuietTactic
import Derived.BigQuiet
import Derived.Deep.RegionWith
import Derived.Test.YtlonpcaniibehaaM02
namespace Go.Proofs.Ytlonpcaniibehaa
open Go.RowKit

theorem ret_bool {a b : Bool} (h : a = b) : Ending.returned (.bool a) = .returned (.bool b) := by rw [h]
theorem ret_int {k : IntKind} {a b : Int} (h : a = b) : Ending.returned (.int k a) = .returned (.int k b) := by rw [h]

def szRes (t : Nat) (left : Int) : Int := if (t : Int) ≤ left then left - t else -1

theorem szRes_yes {t : Nat} {left : Int} (h : (t : Int) ≤ left) : szRes t left = left - t := by simp [szRes, h]
theorem szRes_no {t : Nat} {left : Int} (h : ¬ (t : Int) ≤ left) : szRes t left = -1 := by simp [szRes, h]

theorem sum_snoc {α : Type} (g : α → Nat) (l : List α) (k : Nat) (h : k < l.length) : ((l.take (k + 1)).map g).sum = ((l.take k).map g).sum + g l[k] := by
  rw [List.take_succ_eq_append_getElem h, List.map_append, List.sum_append]; simp
theorem sum_le {α : Type} (g : α → Nat) (l : List α) (k : Nat) : ((l.take k).map g).sum ≤ (l.map g).sum := by
  conv => rhs; rw [← List.take_append_drop k l]
  rw [List.map_append, List.sum_append]; omega
theorem sum_mem {α : Type} (g : α → Nat) (l : List α) (k : Nat) (h : k < l.length) : g l[k] ≤ (l.map g).sum := by
  have h1 := sum_snoc g l k h
  have h2 := sum_le g l (k + 1)
  omega

theorem run_make_rows {P : Program} (t e : TypeId) (z : Value) (size bytes : Nat) (ht : P.underlying t = some (.slice e)) (hinfo : (P.info? e).map (fun i => (i.zero, i.size, i.bytes)) = some (some z, size, bytes))
    (n : Nat) (hbytes : bytes * n ≤ 281474976710656) (h63 : n ≤ 9223372036854775807) (w : World) :
    (Instr.makeSlice t (.int .i64 (n : Int)) (.int .i64 (n : Int))).run P w = .ok (.slice (some ⟨w.heap.size, 0, none⟩) n n) (w.alloc (.cells (madeCells z.cells (n * size)) e)) := by
  obtain ⟨i, hi, hzz⟩ := Option.map_eq_some_iff.1 hinfo
  simp only [Prod.mk.injEq] at hzz
  obtain ⟨hz, hs, hb⟩ := hzz
  have hb' : (i.bytes : Int) * (n : Int) ≤ 281474976710656 := by
    have h : ((i.bytes * n : Nat) : Int) ≤ 281474976710656 := by rw [hb]; omega
    rwa [Int.natCast_mul] at h
  have hr := run_make (P := P) w t e i z ht hi hz .i64 .i64 n n (by omega) (Int.le_refl _) hb' (by omega)
  simp only [Int.toNat_natCast, hs] at hr
  exact hr

end Go.Proofs.Ytlonpcaniibehaa

namespace Go.Proofs.Ytlonpcaniibehaa
open Go.RowKit

set_option maxHeartbeats 1000000 in
theorem szGateTeam_any (m : Tm) (left : Int) (w : World) (hm : m.Small) (h0 : 0 ≤ left) (h1 : left ≤ 1048576) :
    Calls Try.prog 26 #[.agg m.cells, .int .i64 left] w fun e w' => e = .returned (.int .i64 (szRes m.sz left)) ∧ Below w.heap.size w w' := by
  have k1 := hm.nm
  have k2 := hm.ov
  unfold maxLen at k1 k2
  unfold Tm.cells
  have hB : ∀ ob, Below w.heap.size w (w.alloc ob) := fun ob => (Below.refl _ _).alloc (Nat.le_refl _) _
  by_cases hf : (m.sz : Int) ≤ left
  · have HF : Hid (szRes m.sz left = left - m.nm.size - m.ov.size) := by
      unfold Hid; rw [szRes_yes hf]; unfold Tm.sz; omega
    unfold Tm.sz at hf
    go_enter Try.func26, Try.ntmps26
    go_wp2_with fail
    go_ret
    exact ⟨ret_int HF.out.symm, hB _⟩
  · have HF : Hid (szRes m.sz left = -1) := szRes_no hf
    have HN : Hid (¬ ((m.nm.size + m.ov.size : Nat) : Int) ≤ left) := hf
    clear hf
    go_enter Try.func26, Try.ntmps26
    go_wp2_with fail
    all_goals go_ret
    all_goals first | exact ⟨ret_int HF.out.symm, hB _⟩ | (exfalso; have := HN.out; simp at *; omega)

theorem szGateTeam_yes (m : Tm) (left : Int) (w : World) (hm : m.Small) (h0 : 0 ≤ left) (h1 : left ≤ 1048576) (h : (m.sz : Int) ≤ left) :
    Calls Try.prog 26 #[.agg m.cells, .int .i64 left] w fun e w' => e = .returned (.int .i64 (left - m.sz)) ∧ Below w.heap.size w w' := by
  refine (szGateTeam_any m left w hm h0 h1).mono ?_
  rintro e w' ⟨rfl, hb⟩
  exact ⟨ret_int (szRes_yes h), hb⟩

theorem szGateTeam_no (m : Tm) (left : Int) (w : World) (hm : m.Small) (h0 : 0 ≤ left) (h1 : left ≤ 1048576) (h : ¬ (m.sz : Int) ≤ left) :
    Calls Try.prog 26 #[.agg m.cells, .int .i64 left] w fun e w' => e = .returned (.int .i64 (-1)) ∧ Below w.heap.size w w' := by
  refine (szGateTeam_any m left w hm h0 h1).mono ?_
  rintro e w' ⟨rfl, hb⟩
  exact ⟨ret_int (szRes_no h), hb⟩

set_option maxHeartbeats 1000000 in
theorem szGateTeamS_any (a : Option Addr) (cap : Nat) (ts : List Tm) (left : Int) (w : World) (hw : TmsAt w a ts) (h0 : 0 ≤ left) (h1 : left ≤ 1048576) :
    Calls Try.prog 7 #[.slice a ts.length cap, .int .i64 left] w fun e w' => e = .returned (.int .i64 (szRes (tmsSz ts) left)) ∧ Below w.heap.size w w' := by
  have hl := hw.len
  unfold maxLen at hl
  by_cases hfit : (ts.length : Int) ≤ left
  · go_enter Try.func7, Try.ntmps7
    go_wp2_with fail
    go_loopw [1, 5] (fun l i wr => ∃ k : Nat, k ≤ ts.length ∧ i = .int .i64 k ∧ 0 ≤ left - ts.length - sumT (ts.take k) ∧ l = .int .i64 (left - ts.length - sumT (ts.take k)) ∧ Below w.heap.size w wr) (fun _ i _ => ts.length - (intOf i).toNat)
    case atStart => exact ⟨0, Nat.zero_le _, rfl, by simp [sumT]; omega, by simp [sumT], Below.refl _ _⟩
    case round =>
      obtain ⟨k, hk, rfl, hpos, rfl, hB⟩ := hrel
      by_cases hlt : k < ts.length
      · obtain ⟨b, off, rfl, hb, c0, c1⟩ := hw.load hB k hlt
        have hsm := hw.small k hlt
        have HS : Hid (sumT (ts.take (k + 1)) = sumT (ts.take k) + ts[k].sz) := sum_snoc Tm.sz ts k hlt
        have hle : sumT (ts.take (k + 1)) ≤ sumT ts := sum_le Tm.sz ts (k + 1)
        clear hw
        by_cases hneg : (ts[k].sz : Int) ≤ left - ts.length - sumT (ts.take k)
        · have HNG : Hid ((ts[k].sz : Int) ≤ left - ts.length - sumT (ts.take k)) := hneg
          clear hle
          go_wp2_with fail
          refine (szGateTeam_yes _ _ _ hsm hpos (by omega) HNG.out).mono ?_
          rintro e w1 ⟨rfl, hb1⟩
          have hB1 := hB.trans (hb1.mono hB.size)
          clear hb1
          go_wp2_with fail
          exact ⟨⟨k + 1, by omega, by go_num, by rw [HS.out]; omega, by rw [HS.out]; congr 1; omega, hB1⟩, by simp [intOf]; omega⟩
        · have HF : Hid (szRes (tmsSz ts) left = -1) := szRes_no (by have := HS.out; unfold tmsSz; omega)
          have HNG : Hid (¬ (ts[k].sz : Int) ≤ left - ts.length - sumT (ts.take k)) := hneg
          clear hneg hle
          go_wp2_with fail
          refine (szGateTeam_no _ _ _ hsm hpos (by omega) (by have := HNG.out; omega)).mono ?_
          rintro e w1 ⟨rfl, hb1⟩
          have hB1 := hB.trans (hb1.mono hB.size)
          clear hb1
          go_wp2_with fail
          go_ret
          exact ⟨ret_int HF.out.symm, hB1⟩
      · have HF : Hid (szRes (tmsSz ts) left = left - ts.length - sumT (ts.take k)) := by
          rw [List.take_of_length_le (by omega)] at hpos ⊢
          have e : szRes (tmsSz ts) left = left - tmsSz ts := szRes_yes (by unfold tmsSz; omega)
          unfold Hid; rw [e]; unfold tmsSz; omega
        clear hw
        go_wp2
        go_ret
        exact ⟨ret_int HF.out.symm, hB⟩
  · have HF : Hid (szRes (tmsSz ts) left = -1) := szRes_no (by unfold tmsSz; omega)
    clear hw
    go_enter Try.func7, Try.ntmps7
    go_wp2
    go_ret
    exact ⟨ret_int HF.out.symm, Below.refl _ _⟩

theorem eqGateTeam_yes (m : Tm) (w : World) : Calls Try.prog 30 #[.agg m.cells, .agg m.cells] w fun e w' => e = .returned (.bool true) ∧ Below w.heap.size w w' := by
  unfold Tm.cells
  go_enter Try.func30, Try.ntmps30
  go_wp2_with fail
  go_ret
  exact ⟨rfl, below2' _ _ _⟩

set_option maxHeartbeats 2000000 in
theorem eqGateTeamS_yes (a a' : Option Addr) (cap cap' : Nat) (ts : List Tm) (w : World) (hw : TmsAt w a ts) (hw' : TmsAt w a' ts) :
    Calls Try.prog 11 #[.slice a ts.length cap, .slice a' ts.length cap'] w fun e w' => e = .returned (.bool true) ∧ Below w.heap.size w w' := by
  have hl := hw.len
  unfold maxLen at hl
  have hnn : ((ts.length : Int) != ts.length) = false := by simp
  go_enter Try.func11, Try.ntmps11
  go_wp2_with fail
  go_loopw [5] (fun i wr => ∃ k : Nat, k ≤ ts.length ∧ i = .int .i64 k ∧ Below w.heap.size w wr) (fun i _ => ts.length - (intOf i).toNat)
  case atStart => exact ⟨0, Nat.zero_le _, rfl, Below.refl _ _⟩
  case round =>
    obtain ⟨k, hk, rfl, hB⟩ := hrel
    by_cases hlt : k < ts.length
    · obtain ⟨b, off, rfl, hb, c0, c1⟩ := hw.load hB k hlt
      obtain ⟨b', off', rfl, hb', d0, d1⟩ := hw'.load hB k hlt
      have hltI : (k : Int) < (ts.length : Int) := by omega
      clear hw hw'
      go_wp2_with fail
      go_region_with (go_at_call 30; refine (eqGateTeam_yes ts[k] _).mono ?_; rintro e w1 ⟨rfl, hb1'⟩; have hb1 := (Below.refl wr.heap.size wr).drew.trans hb1'; clear hb1')
      all_goals go_wp2_with fail
      all_goals exact ⟨⟨k + 1, by omega, by go_num, hB.trans (hb1.mono hB.size)⟩, by simp [intOf]; omega⟩
    · clear hw hw'
      go_wp2_with fail
      go_ret
      exact ⟨rfl, hB⟩

set_option maxHeartbeats 1000000 in
theorem toGateTeam_any (m : Tm) (w : World) :
    Calls Try.prog 28 #[.agg m.cells] w fun e w' => e = .returned (.agg m.cells) ∧ Below w.heap.size w w' := by
  unfold Tm.cells
  go_enter Try.func28, Try.ntmps28
  go_wp2_with fail
  refine bodyPost_ret (v := .agg #[.string m.nm, .string m.ov]) (by simp [results, Try.results28, go_sem]) rfl ⟨rfl, ?_⟩
  exact ((((Below.refl _ _).alloc (Nat.le_refl _) _).alloc (by simp) _).alloc (by simp; omega) _)

set_option maxHeartbeats 2000000 in
theorem toGateTeamS_any (a : Option Addr) (cap : Nat) (ts : List Tm) (w : World) (hw : TmsAt w a ts) (hl : ts.length ≤ 1048576) :
    Calls Try.prog 9 #[.slice a ts.length cap] w fun e w' => e = .returned (.slice (some ⟨w.heap.size, 0, none⟩) ts.length ts.length) ∧ TmsOwn 56 w.heap.size w' w.heap.size ts ts.length ∧ Below w.heap.size w w' := by
  have hmk : ∀ w : World, (Instr.makeSlice 25 (.int .i64 ts.length) (.int .i64 ts.length)).run Try.prog w = .ok (.slice (some ⟨w.heap.size, 0, none⟩) ts.length ts.length) (w.alloc (.cells (tmsZero ts.length) 56)) :=
    fun w => run_make_rows (P := Try.prog) 25 56 (.agg tmZero) 2 32 Try.underlying25 (by kernel_rfl) ts.length (by omega) (by omega) w
  go_enter Try.func9, Try.ntmps9
  go_wp2_with fail
  clear hmk
  go_loopw [4] (fun i wr => ∃ k : Nat, k ≤ ts.length ∧ i = .int .i64 k ∧ TmsOwn 56 w.heap.size wr w.heap.size ts k ∧ Below w.heap.size w wr) (fun i _ => ts.length - (intOf i).toNat)
  case atStart => exact ⟨0, Nat.zero_le _, rfl, ⟨Nat.le_refl _, tmsZero ts.length, (MapKept.heap_alloc w _).1, size_madeCells _ _, fun i _ h => absurd h (by omega)⟩, (Below.refl _ _).alloc (Nat.le_refl _) _⟩
  case round =>
    obtain ⟨k, hk, rfl, hown, hB⟩ := hrel
    by_cases hlt : k < ts.length
    · obtain ⟨b, off, rfl, hb, c0, c1⟩ := hw.load hB k hlt
      have hltI : (k : Int) < (ts.length : Int) := by omega
      clear hw
      go_wp2_with fail
      refine (toGateTeam_any ts[k] _).mono ?_
      rintro e w1 ⟨rfl, hb1⟩
      have hB1 := hB.trans (hb1.mono hB.size)
      have hown1 := hown.later hb1
      have hbo : w.heap.size < wr.heap.size := by
        obtain ⟨C', hC', _⟩ := hown.rows
        exact (Array.getElem?_eq_some_iff.1 hC').1
      obtain ⟨C, hC, hsz, _⟩ := hown1.rows
      have hfz : ∀ o, w1.frozen? ⟨w.heap.size, o, none⟩ = false := fun o => frozen_of_block hC
      have hex : ∀ o, o < ts.length * 2 → ∃ v, w1.cell? ⟨w.heap.size, o, none⟩ = some v := fun o ho => ⟨C[o]'(by omega), by rw [cell_of_block hC]; exact Array.getElem?_eq_getElem (by omega)⟩
      obtain ⟨v0, hv0⟩ := hex (k * 2) (by omega)
      obtain ⟨v1, hv1⟩ := hex (k * 2 + 1) (by omega)
      have HP : Hid (TmsOwn 56 w.heap.size w1 w.heap.size ts k) := hown1
      clear hex hC hsz c0 c1 hown hown1
      unfold Tm.cells
      go_wp2_with fail
      exact ⟨⟨k + 1, by omega, by go_num, HP.out.put hlt, put2_below hB1 (Nat.le_refl _) _ _ _⟩, by simp [intOf]; omega⟩
    · have HF : Hid (TmsOwn 56 w.heap.size wr w.heap.size ts ts.length) := by
        have e : k = ts.length := by omega
        subst e; exact hown
      clear hw hown
      go_wp2_with fail
      go_ret
      exact ⟨rfl, HF.out, hB⟩

end Go.Proofs.Ytlonpcaniibehaa

namespace Go.Proofs.Ytlonpcaniibehaa
open Go.RowKit

/-- A slice of ints that lies in memory. -/
structure IntsAt (w : World) (a : Option Addr) (vs : List Int) : Prop where
  len : vs.length ≤ maxLen
  cells : vs ≠ [] → ∃ b off, a = some ⟨b, off, none⟩ ∧ b < w.heap.size ∧ ∀ i (h : i < vs.length), w.cell? ⟨b, off + i, none⟩ = some (.int .i64 vs[i])

theorem IntsAt.mono {w w' : World} {a : Option Addr} {vs : List Int} (h : IntsAt w a vs) (hb : Below w.heap.size w w') : IntsAt w' a vs :=
  ⟨h.len, fun hne => by
    obtain ⟨b, off, ha, hbs, hc⟩ := h.cells hne
    exact ⟨b, off, ha, Nat.lt_of_lt_of_le hbs hb.size, fun i hi => (hb.cell (p := ⟨b, off + i, none⟩) hbs).trans (hc i hi)⟩⟩

theorem IntsAt.load {w w' : World} {a : Option Addr} {vs : List Int} (h : IntsAt w a vs) (hl : Below w.heap.size w w') (i : Nat) (hi : i < vs.length) : ∃ b off, a = some ⟨b, off, none⟩ ∧ b < w.heap.size ∧ w'.cell? ⟨b, off + i, none⟩ = some (.int .i64 vs[i]) := by
  obtain ⟨b, off, ha, hb, hc⟩ := h.cells (by rintro rfl; simp at hi)
  exact ⟨b, off, ha, hb, (hl.cell (p := ⟨b, off + i, none⟩) hb).trans (hc i hi)⟩

def intArr (vs : List Int) : Array Value := (vs.map (Value.int .i64)).toArray
def intCells (vs : List Int) (k : Nat) : Array Value := ((vs.take k).map (Value.int .i64) ++ List.replicate (vs.length - k) (Value.int .i64 0)).toArray

theorem intCells_at (vs : List Int) (k : Nat) (h : k < vs.length) : (intCells vs k)[k]? = some (.int .i64 0) := by
  unfold intCells
  have hl : ((vs.take k).map (Value.int .i64)).length = k := by simp; omega
  rw [List.getElem?_toArray, List.getElem?_append_right (by omega), hl, Nat.sub_self]
  obtain ⟨m, hm⟩ : ∃ m, vs.length - k = m + 1 := ⟨vs.length - k - 1, by omega⟩
  rw [hm, List.replicate_succ]; rfl

theorem intCells_set (vs : List Int) (k : Nat) (h : k < vs.length) : (intCells vs k).setIfInBounds k (.int .i64 vs[k]) = intCells vs (k + 1) := by
  unfold intCells
  rw [List.setIfInBounds_toArray, List.set_append_right _ _ (by simp; omega)]
  congr 1
  rw [List.take_succ_eq_append_getElem h, List.map_append, List.append_assoc]
  congr 1
  obtain ⟨m, hm⟩ : ∃ m, vs.length - k = m + 1 := ⟨vs.length - k - 1, by omega⟩
  rw [hm, show vs.length - (k + 1) = m by omega]
  have : k - ((vs.take k).map (Value.int .i64)).length = 0 := by simp; omega
  rw [this, List.replicate_succ]
  rfl

theorem intCells_all (vs : List Int) (k : Nat) (h : vs.length ≤ k) : intCells vs k = intArr vs := by
  unfold intCells intArr
  rw [List.take_of_length_le h, show vs.length - k = 0 by omega]; simp

theorem intCells_zero (vs : List Int) : madeCells #[Value.int .i64 0] vs.length = intCells vs 0 := by
  apply Array.toList_inj.1
  rw [toList_madeCells_one]
  simp [intCells]

theorem heap_ints {w : World} {bk : Nat} {vs : List Int} {t : TypeId} (h : w.heap[bk]? = some (.cells (intArr vs) t)) (hl : vs.length ≤ maxLen) : IntsAt w (some ⟨bk, 0, none⟩) vs :=
  ⟨hl, fun _ => ⟨bk, 0, rfl, (Array.getElem?_eq_some_iff.1 h).1, fun i hi => by
    simp [World.cell?, h, intArr, hi]⟩⟩

/-- The cells of a rule whose verbs lie at a. -/
def Rl.cells (r : Rl) (a : Option Addr) (cap : Nat) : Array Value := #[.slice a r.vs.length cap, .string r.kd, .string r.tm, .string r.px]
def Ac.cells (x : Ac) : Array Value := #[.int .i64 x.vb, .string x.kd, .string x.tm, .string x.nm]

structure Rl.Small (r : Rl) : Prop where
  kd : r.kd.size ≤ maxLen
  tm : r.tm.size ≤ maxLen
  px : r.px.size ≤ maxLen
structure Ac.Small (r : Ac) : Prop where
  kd : r.kd.size ≤ maxLen
  tm : r.tm.size ≤ maxLen
  nm : r.nm.size ≤ maxLen

structure RlIn (w : World) (b off : Nat) (r : Rl) (a : Option Addr) (cap : Nat) : Prop where
  small : r.Small
  ints : IntsAt w a r.vs
  cell : ∀ j, j < 4 → w.cell? ⟨b, off + j, none⟩ = (r.cells a cap)[j]?

structure RlsAt (w : World) (a : Option Addr) (rs : List Rl) : Prop where
  len : rs.length ≤ maxLen
  rows : rs ≠ [] → ∃ b off, a = some ⟨b, off, none⟩ ∧ b < w.heap.size ∧ ∀ i (h : i < rs.length), ∃ va vcap, RlIn w b (off + i * 4) rs[i] va vcap

theorem RlIn.mono {w w' : World} {b off : Nat} {r : Rl} {a : Option Addr} {cap : Nat} (h : RlIn w b off r a cap) (hb : b < w.heap.size) (hl : Below w.heap.size w w') : RlIn w' b off r a cap :=
  ⟨h.small, h.ints.mono hl, fun j hj => (hl.cell (p := ⟨b, off + j, none⟩) hb).trans (h.cell j hj)⟩

theorem RlsAt.mono {w w' : World} {a : Option Addr} {rs : List Rl} (h : RlsAt w a rs) (hl : Below w.heap.size w w') : RlsAt w' a rs :=
  ⟨h.len, fun hne => by
    obtain ⟨b, off, ha, hb, hr⟩ := h.rows hne
    refine ⟨b, off, ha, Nat.lt_of_lt_of_le hb hl.size, fun i hi => ?_⟩
    obtain ⟨va, vcap, hf⟩ := hr i hi
    exact ⟨va, vcap, hf.mono hb hl⟩⟩

theorem RlsAt.load {w w' : World} {a : Option Addr} {rs : List Rl} (h : RlsAt w a rs) (hl : Below w.heap.size w w') (i : Nat) (hi : i < rs.length) : ∃ b off va vcap, a = some ⟨b, off, none⟩ ∧ b < w.heap.size ∧ rs[i].Small ∧ IntsAt w' va rs[i].vs ∧
    w'.cell? ⟨b, off + i * 4, none⟩ = some (.slice va rs[i].vs.length vcap) ∧ w'.cell? ⟨b, off + i * 4 + 1, none⟩ = some (.string rs[i].kd) ∧ w'.cell? ⟨b, off + i * 4 + 2, none⟩ = some (.string rs[i].tm) ∧ w'.cell? ⟨b, off + i * 4 + 3, none⟩ = some (.string rs[i].px) := by
  obtain ⟨b, off, ha, hb, hr⟩ := h.rows (by rintro rfl; simp at hi)
  obtain ⟨va, vcap, hf0⟩ := hr i hi
  have hf := hf0.mono hb hl
  exact ⟨b, off, va, vcap, ha, hb, hf.small, hf.ints, hf.cell 0 (by omega), hf.cell 1 (by omega), hf.cell 2 (by omega), hf.cell 3 (by omega)⟩

def Rl.sz (r : Rl) : Nat := r.vs.length + r.kd.size + r.tm.size + r.px.size
def Ac.sz (r : Ac) : Nat := r.kd.size + r.tm.size + r.nm.size
def sumR (rs : List Rl) : Nat := (rs.map Rl.sz).sum
def rlsSz (rs : List Rl) : Nat := rs.length + sumR rs

def put4 (w : World) (b o : Nat) (v0 v1 v2 v3 : Value) : World := (((w.setCell ⟨b, o, none⟩ v0).setCell ⟨b, o + 1, none⟩ v1).setCell ⟨b, o + 2, none⟩ v2).setCell ⟨b, o + 3, none⟩ v3
def set4 (C : Array Value) (o : Nat) (v0 v1 v2 v3 : Value) : Array Value := (((C.setIfInBounds o v0).setIfInBounds (o + 1) v1).setIfInBounds (o + 2) v2).setIfInBounds (o + 3) v3
theorem put4_block {w : World} {b o : Nat} {C : Array Value} {t : TypeId} (h : w.heap[b]? = some (.cells C t)) (v0 v1 v2 v3 : Value) : (put4 w b o v0 v1 v2 v3).heap[b]? = some (.cells (set4 C o v0 v1 v2 v3) t) :=
  heap_setCell_at (heap_setCell_at (heap_setCell_at (heap_setCell_at h v0) v1) v2) v3
theorem put4_below {B : Nat} {a w : World} (h : Below B a w) {b : Nat} (hb : B ≤ b) (o : Nat) (v0 v1 v2 v3 : Value) : Below B a (put4 w b o v0 v1 v2 v3) :=
  (((h.setCell hb v0).setCell hb v1).setCell hb v2).setCell hb v3
theorem setCell_other {w : World} {b o : Nat} {v : Value} {b' : Nat} (h : b' ≠ b) : (w.setCell ⟨b, o, none⟩ v).heap[b']? = w.heap[b']? := by
  simp only [World.setCell, Array.getElem?_modify]
  rw [if_neg (fun e => h (Eq.symm e))]
theorem put4_other (w : World) (b o : Nat) (v0 v1 v2 v3 : Value) {b' : Nat} (h : b' ≠ b) : (put4 w b o v0 v1 v2 v3).heap[b']? = w.heap[b']? := by
  unfold put4; rw [setCell_other h, setCell_other h, setCell_other h, setCell_other h]
theorem set4_size (C : Array Value) (o : Nat) (v0 v1 v2 v3 : Value) : (set4 C o v0 v1 v2 v3).size = C.size := by simp [set4]
theorem set4_out (C : Array Value) (o i : Nat) (v0 v1 v2 v3 : Value) (h : i < o ∨ o + 4 ≤ i) : (set4 C o v0 v1 v2 v3)[i]? = C[i]? := by
  unfold set4
  iterate 4 rw [Array.getElem?_setIfInBounds, if_neg (by omega)]
theorem set4_in (C : Array Value) (o j : Nat) (v0 v1 v2 v3 : Value) (hj : j < 4) (ho : o + 4 ≤ C.size) : (set4 C o v0 v1 v2 v3)[o + j]? = (#[v0, v1, v2, v3] : Array Value)[j]? := by
  have hc : j = 0 ∨ j = 1 ∨ j = 2 ∨ j = 3 := by omega
  unfold set4
  rcases hc with h | h | h | h <;> subst h <;> simp [Array.getElem?_setIfInBounds] <;> omega

/-- A row of rules in memory of its own, the first k laid; the verbs of each in a block of their own. -/
structure RlsOwn (ty ti : TypeId) (lo : Nat) (w : World) (bo : Nat) (rs : List Rl) (k : Nat) : Prop where
  low : lo ≤ bo
  rows : ∃ C, w.heap[bo]? = some (.cells C ty) ∧ C.size = rs.length * 4 ∧
    ∀ i (h : i < rs.length), i < k → ∃ bk, lo ≤ bk ∧ bk ≠ bo ∧ w.heap[bk]? = some (.cells (intArr rs[i].vs) ti) ∧ ∀ j, j < 4 → C[i * 4 + j]? = (rs[i].cells (some ⟨bk, 0, none⟩) rs[i].vs.length)[j]?

structure RlsSmall (rs : List Rl) : Prop where
  small : ∀ i (h : i < rs.length), rs[i].Small ∧ rs[i].vs.length ≤ maxLen

theorem RlsAt.smalls {w : World} {a : Option Addr} {rs : List Rl} (h : RlsAt w a rs) : RlsSmall rs :=
  ⟨fun i hi => by
    obtain ⟨_, _, _, _, _, _, h1, h2, _⟩ := h.load (Below.refl _ _) i hi
    exact ⟨h1, h2.len⟩⟩

theorem RlsOwn.at {ty ti : TypeId} {lo : Nat} {w : World} {bo : Nat} {rs : List Rl} (h : RlsOwn ty ti lo w bo rs rs.length) (hs : RlsSmall rs) (hl : rs.length ≤ maxLen) : RlsAt w (some ⟨bo, 0, none⟩) rs := by
  obtain ⟨C, hC, hsz, hr⟩ := h.rows
  refine ⟨hl, fun _ => ⟨bo, 0, rfl, (Array.getElem?_eq_some_iff.1 hC).1, fun i hi => ?_⟩⟩
  obtain ⟨bk, _, _, hk, hc⟩ := hr i hi hi
  obtain ⟨s1, s2⟩ := hs.small i hi
  refine ⟨some ⟨bk, 0, none⟩, rs[i].vs.length, s1, heap_ints hk s2, fun j hj => ?_⟩
  rw [cell_of_block hC, Nat.zero_add]
  exact hc j hj

theorem RlsOwn.later {ty ti : TypeId} {lo : Nat} {w w' : World} {bo : Nat} {rs : List Rl} {k : Nat} (h : RlsOwn ty ti lo w bo rs k) (hb : Below w.heap.size w w') : RlsOwn ty ti lo w' bo rs k := by
  obtain ⟨C, hC, hsz, hr⟩ := h.rows
  refine ⟨h.low, C, (hb.block bo (Array.getElem?_eq_some_iff.1 hC).1).trans hC, hsz, fun i hi hk => ?_⟩
  obtain ⟨bk, h1, h2, h3, h4⟩ := hr i hi hk
  exact ⟨bk, h1, h2, (hb.block bk (Array.getElem?_eq_some_iff.1 h3).1).trans h3, h4⟩

theorem RlsOwn.put {ty ti : TypeId} {lo : Nat} {w : World} {bo : Nat} {rs : List Rl} {k : Nat} (h : RlsOwn ty ti lo w bo rs k) (hk : k < rs.length) (bk : Nat) (h1 : lo ≤ bk) (h2 : bk ≠ bo) (h3 : w.heap[bk]? = some (.cells (intArr rs[k].vs) ti)) :
    RlsOwn ty ti lo (put4 w bo (k * 4) (.slice (some ⟨bk, 0, none⟩) rs[k].vs.length rs[k].vs.length) (.string rs[k].kd) (.string rs[k].tm) (.string rs[k].px)) bo rs (k + 1) := by
  obtain ⟨C, hC, hsz, hr⟩ := h.rows
  refine ⟨h.low, _, put4_block hC _ _ _ _, by rw [set4_size]; exact hsz, fun i hi hik => ?_⟩
  rcases Nat.lt_or_ge i k with hlt | hge
  · obtain ⟨bi, g1, g2, g3, g4⟩ := hr i hi hlt
    refine ⟨bi, g1, g2, by rw [put4_other _ _ _ _ _ _ _ g2]; exact g3, fun j hj => ?_⟩
    rw [set4_out _ _ _ _ _ _ _ (by omega)]
    exact g4 j hj
  · have e : i = k := by omega
    subst e
    refine ⟨bk, h1, h2, by rw [put4_other _ _ _ _ _ _ _ h2]; exact h3, fun j hj => ?_⟩
    rw [set4_in _ _ _ _ _ _ _ hj (by omega)]
    rfl

def rlZero : Array Value := #[.slice none 0 0, .string ByteArray.empty, .string ByteArray.empty, .string ByteArray.empty]
def rlsZero (n : Nat) : Array Value := madeCells rlZero (n * 4)

end Go.Proofs.Ytlonpcaniibehaa
