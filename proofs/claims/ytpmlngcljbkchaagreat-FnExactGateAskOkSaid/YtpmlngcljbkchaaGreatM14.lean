import Derived.Test.YtpmlngcljbkchaaGreatM08
import Derived.Test.YtpmlngcljbkchaaGreatM10
import Derived.Test.YtpmlngcljbkchaaGreatM12
import Derived.Test.YtpmlngcljbkchaaGreatM01
import Derived.WalkKit
import Derived.WalkSpells
import Derived.WalkLawsBesides
import Derived.Deep.QuietTactic
import Derived.BigQuiet
import Derived.Deep.RegionWith
namespace Go.Proofs.YtpmlngcljbkchaaGreat
open Go.RowKit

/-- A law. -/
structure Lw where
  ss : List Shp
  ms : List Mnd
  ts : List Tm

def Lw.cells (l : Lw) (a b c : Option Addr) (ca cb cc : Nat) : Array Value := #[.slice a l.ss.length ca, .slice b l.ms.length cb, .slice c l.ts.length cc]

structure LwAt (w : World) (l : Lw) (a b c : Option Addr) : Prop where
  ss : ShpsAt w a l.ss
  ms : MndsAt w b l.ms
  ts : TmsAt w c l.ts

theorem LwAt.mono {w w' : World} {l : Lw} {a b c : Option Addr} (h : LwAt w l a b c) (hb : Below w.heap.size w w') : LwAt w' l a b c := ⟨h.ss.mono hb, h.ms.mono hb, h.ts.mono hb⟩

def Lw.sz (l : Lw) : Nat := shpsSz l.ss + mndsSz l.ms + tmsSz l.ts

structure Lw.Few (l : Lw) : Prop where
  ss : l.ss.length ≤ 1048576 ∧ ∀ i (h : i < l.ss.length), l.ss[i].fs.length ≤ 1048576 ∧ ∀ j (h' : j < l.ss[i].fs.length), l.ss[i].fs[j].ws.length ≤ 1048576
  ms : l.ms.length ≤ 1048576
  ts : l.ts.length ≤ 1048576

theorem Lw.few {l : Lw} (h : (l.sz : Int) ≤ 1048576) : l.Few := by
  unfold Lw.sz at h
  refine ⟨shps_few (by omega), ?_, ?_⟩
  · unfold mndsSz at h; omega
  · unfold tmsSz at h; omega

set_option maxHeartbeats 2000000 in
theorem szGateLaw_any (l : Lw) (a b c : Option Addr) (ca cb cc : Nat) (left : Int) (w : World) (hl : LwAt w l a b c) (h0 : 0 ≤ left) (h1 : left ≤ 1048576) :
    Calls Tryz.prog 4 #[.agg (l.cells a b c ca cb cc), .int .i64 left] w fun e w' => e = .returned (.int .i64 (szRes l.sz left)) ∧ Below w.heap.size w w' := by
  have HL : Hid (LwAt w l a b c) := hl
  clear hl
  unfold Lw.cells
  go_enter Tryz.func4, Tryz.ntmps4
  go_wp2_with fail
  refine (szGateShapeS_any _ _ l.ss _ _ (HL.out.ss.mono ((Below.refl _ _).alloc (Nat.le_refl _) _)) h0 h1).mono ?_
  rintro e w1 ⟨rfl, hb⟩
  have hX1 := box_later (box_new w #[.slice a l.ss.length ca, .slice b l.ms.length cb, .slice c l.ts.length cc] 26) (by simp) hb
  have hz1 : w.heap.size < w1.heap.size := by have := hb.size; simp at this; omega
  have hB1 : Below w.heap.size w w1 := ((Below.refl _ _).alloc (Nat.le_refl _) _).trans (hb.mono (by simp))
  clear hb
  by_cases c1 : (shpsSz l.ss : Int) ≤ left
  rotate_left
  · have HF : Hid (szRes l.sz left = -1) := szRes_no (by unfold Lw.sz; omega)
    rw [szRes_no c1]
    go_wp2_with fail
    go_ret
    exact ⟨ret_int HF.out.symm, hB1⟩
  rw [szRes_yes c1]
  go_wp2_with fail
  refine (szGateMendS_any _ _ l.ms _ _ (HL.out.ms.mono hB1) (by omega) (by omega)).mono ?_
  rintro e w2 ⟨rfl, hb⟩
  have hX2 := box_later hX1 hz1 hb
  have hz2 := Nat.lt_of_lt_of_le hz1 hb.size
  have hB2 := hB1.trans (hb.mono hB1.size)
  clear hb hX1 hz1 hB1
  by_cases c2 : (mndsSz l.ms : Int) ≤ left - shpsSz l.ss
  rotate_left
  · have HF : Hid (szRes l.sz left = -1) := szRes_no (by unfold Lw.sz; omega)
    rw [szRes_no c2]
    go_wp2_with fail
    go_ret
    exact ⟨ret_int HF.out.symm, hB2⟩
  rw [szRes_yes c2]
  go_wp2_with fail
  refine (szGateTeamS_any _ _ l.ts _ _ (HL.out.ts.mono hB2) (by omega) (by omega)).mono ?_
  rintro e w3 ⟨rfl, hb⟩
  have hB3 := hB2.trans (hb.mono hB2.size)
  clear hb hX2 hz2 hB2
  by_cases c3 : (tmsSz l.ts : Int) ≤ left - shpsSz l.ss - mndsSz l.ms
  rotate_left
  · have HF : Hid (szRes l.sz left = -1) := szRes_no (by unfold Lw.sz; omega)
    rw [szRes_no c3]
    go_wp2_with fail
    go_ret
    exact ⟨ret_int HF.out.symm, hB3⟩
  have HF : Hid (szRes l.sz left = left - shpsSz l.ss - mndsSz l.ms - tmsSz l.ts) := by
    unfold Hid; rw [szRes_yes (by unfold Lw.sz; omega)]; unfold Lw.sz; omega
  rw [szRes_yes c3]
  go_wp2_with fail
  go_ret
  exact ⟨ret_int HF.out.symm, hB3⟩

set_option maxHeartbeats 1000000 in
theorem eqGateLaw_yes (l : Lw) (a b c a' b' c' : Option Addr) (ca cb cc ca' cb' cc' : Nat) (w : World) (hl : LwAt w l a b c) (hl' : LwAt w l a' b' c') :
    Calls Tryz.prog 10 #[.agg (l.cells a b c ca cb cc), .agg (l.cells a' b' c' ca' cb' cc')] w fun e w' => e = .returned (.bool true) ∧ Below w.heap.size w w' := by
  unfold Lw.cells
  go_enter Tryz.func10, Tryz.ntmps10
  go_wp2_with fail
  refine (eqGateShapeS_yes _ _ _ _ l.ss _ (hl.ss.mono (below2' _ _ _)) (hl'.ss.mono (below2' _ _ _))).mono ?_
  rintro e w1 ⟨rfl, hb⟩
  have hX1 := box_later (box_later (box_new w _ _) (by simp) ((Below.refl _ _).alloc (Nat.le_refl _) _)) (by simp; omega) hb
  have hY1 := box_later (box_new (w.alloc (.cells #[.slice a l.ss.length ca, .slice b l.ms.length cb, .slice c l.ts.length cc] 40)) #[.slice a' l.ss.length ca', .slice b' l.ms.length cb', .slice c' l.ts.length cc'] 40) (by simp) hb
  have hz1 : w.heap.size + 1 < w1.heap.size := by have := hb.size; simp at this; omega
  have hB1 := (below2' w _ _).trans (hb.mono (by simp; omega))
  rw [World.size_alloc] at hY1
  clear hb
  go_wp2_with fail
  refine (eqGateMendS_yes _ _ _ _ l.ms _ (hl.ms.mono hB1) (hl'.ms.mono hB1)).mono ?_
  rintro e w2 ⟨rfl, hb⟩
  have hX2 := box_later hX1 (Nat.lt_of_succ_lt hz1) hb
  have hY2 := box_later hY1 hz1 hb
  have hz2 := Nat.lt_of_lt_of_le hz1 hb.size
  have hB2 := hB1.trans (hb.mono hB1.size)
  clear hb hX1 hY1 hz1 hB1
  go_wp2_with fail
  refine (eqGateTeamS_yes _ _ _ _ l.ts _ (hl.ts.mono hB2) (hl'.ts.mono hB2)).mono ?_
  rintro e w3 ⟨rfl, hb⟩
  have hB3 := hB2.trans (hb.mono hB2.size)
  clear hb hX2 hY2 hz2 hB2
  go_wp2_with fail
  go_ret
  exact ⟨rfl, hB3⟩

theorem below3' (w : World) (o o' o'' : Obj) : Below w.heap.size w (((w.alloc o).alloc o').alloc o'') := (((Below.refl _ _).alloc (Nat.le_refl _) _).alloc (by simp) _).alloc (by simp; omega) _

theorem blk3 (w : World) (o1 o2 o3 : Obj) : (((w.alloc o1).alloc o2).alloc o3).heap[w.heap.size]? = some o1 ∧ (((w.alloc o1).alloc o2).alloc o3).heap[w.heap.size + 1]? = some o2 ∧ (((w.alloc o1).alloc o2).alloc o3).heap[w.heap.size + 1 + 1]? = some o3 := by
  have h1 := (MapKept.heap_alloc w o1).1
  have h2 := (MapKept.heap_alloc (w.alloc o1) o2).1
  have h3 := (MapKept.heap_alloc ((w.alloc o1).alloc o2) o3).1
  simp only [World.size_alloc] at h2 h3
  exact ⟨(Below.heap_alloc _ _ _ (by simp; omega)).trans ((Below.heap_alloc _ _ _ (by simp)).trans h1), (Below.heap_alloc _ _ _ (by simp)).trans h2, h3⟩

/-- From lo on nothing has changed. -/
structure Above (lo : Nat) (w w' : World) : Prop where
  size : w.heap.size ≤ w'.heap.size
  same : ∀ b, lo ≤ b → b < w.heap.size → w'.heap[b]? = w.heap[b]?

theorem Above.refl (lo : Nat) (w : World) : Above lo w w := ⟨Nat.le_refl _, fun _ _ _ => rfl⟩
theorem Above.trans {lo : Nat} {w w1 w2 : World} (h : Above lo w w1) (h' : Above lo w1 w2) : Above lo w w2 :=
  ⟨Nat.le_trans h.size h'.size, fun b h1 h2 => (h'.same b h1 (Nat.lt_of_lt_of_le h2 h.size)).trans (h.same b h1 h2)⟩
theorem Above.mono {lo lo' : Nat} {w w' : World} (h : Above lo w w') (hl : lo ≤ lo') : Above lo' w w' := ⟨h.size, fun b h1 h2 => h.same b (Nat.le_trans hl h1) h2⟩
theorem Above.below {lo : Nat} {w w' : World} (h : Below w.heap.size w w') : Above lo w w' := ⟨h.size, fun b _ h2 => h.block b h2⟩
theorem Above.setCell {lo : Nat} {w : World} {p : Addr} (hp : p.block < lo) (v : Value) : Above lo w (w.setCell p v) :=
  ⟨by rw [World.size_setCell]; exact Nat.le_refl _, fun b h1 _ => Below.heap_setCell _ _ _ _ (by omega)⟩

theorem FldsOwn.above {lo : Nat} {w w' : World} {bf : Nat} {fs : List Fld} {k : Nat} (h : FldsOwn lo w bf fs k) (ha : Above lo w w') : FldsOwn lo w' bf fs k := by
  obtain ⟨C, hC, hsz, hr⟩ := h.rows
  refine ⟨h.low, C, (ha.same _ h.low (Array.getElem?_eq_some_iff.1 hC).1).trans hC, hsz, fun i hi hk => ?_⟩
  obtain ⟨bk, h1, h2, h3, h4⟩ := hr i hi hk
  exact ⟨bk, h1, h2, (ha.same _ h1 (Array.getElem?_eq_some_iff.1 h3).1).trans h3, h4⟩

theorem ShpsOwn.above {lo : Nat} {w w' : World} {bo : Nat} {ss : List Shp} {k : Nat} (h : ShpsOwn lo w bo ss k) (ha : Above lo w w') : ShpsOwn lo w' bo ss k := by
  obtain ⟨C, hC, hsz, hr⟩ := h.rows
  refine ⟨h.low, C, (ha.same _ h.low (Array.getElem?_eq_some_iff.1 hC).1).trans hC, hsz, fun i hi hk => ?_⟩
  obtain ⟨bf, h1, h2, h3, h4⟩ := hr i hi hk
  exact ⟨bf, h1, h2, h3.above (ha.mono (Nat.le_succ_of_le h.low)), h4⟩

theorem MndsOwn.above {lo : Nat} {w w' : World} {bo : Nat} {ms : List Mnd} {k : Nat} (h : MndsOwn lo w bo ms k) (ha : Above lo w w') : MndsOwn lo w' bo ms k := by
  obtain ⟨C, hC, hr⟩ := h.rows
  exact ⟨h.low, C, (ha.same _ h.low (Array.getElem?_eq_some_iff.1 hC).1).trans hC, hr⟩

theorem TmsOwn.above {ty : TypeId} {lo : Nat} {w w' : World} {bo : Nat} {ts : List Tm} {k : Nat} (h : TmsOwn ty lo w bo ts k) (ha : Above lo w w') : TmsOwn ty lo w' bo ts k := by
  obtain ⟨C, hC, hr⟩ := h.rows
  exact ⟨h.low, C, (ha.same _ h.low (Array.getElem?_eq_some_iff.1 hC).1).trans hC, hr⟩

/-- A law in memory of its own, from lo on. -/
structure LwOwn (lo : Nat) (w : World) (l : Lw) (a b c : Nat) : Prop where
  ss : ShpsOwn lo w a l.ss l.ss.length
  ms : MndsOwn lo w b l.ms l.ms.length
  ts : TmsOwn 92 lo w c l.ts l.ts.length

theorem LwOwn.above {lo : Nat} {w w' : World} {l : Lw} {a b c : Nat} (h : LwOwn lo w l a b c) (ha : Above lo w w') : LwOwn lo w' l a b c := ⟨h.ss.above ha, h.ms.above ha, h.ts.above ha⟩

structure Lw.Small (l : Lw) : Prop where
  ss : ShpsSmall l.ss
  ls : l.ss.length ≤ maxLen
  ms : ∀ i (h : i < l.ms.length), l.ms[i].Small
  lm : l.ms.length ≤ maxLen
  ts : ∀ i (h : i < l.ts.length), l.ts[i].Small
  lt : l.ts.length ≤ maxLen

theorem LwAt.small {w : World} {l : Lw} {a b c : Option Addr} (h : LwAt w l a b c) : l.Small := ⟨h.ss.smalls, h.ss.len, h.ms.small, h.ms.len, h.ts.small, h.ts.len⟩
theorem LwOwn.at {lo : Nat} {w : World} {l : Lw} {a b c : Nat} (h : LwOwn lo w l a b c) (hs : l.Small) : LwAt w l (some ⟨a, 0, none⟩) (some ⟨b, 0, none⟩) (some ⟨c, 0, none⟩) := ⟨h.ss.at hs.ss hs.ls, h.ms.at hs.ms hs.lm, h.ts.at hs.ts hs.lt⟩

end Go.Proofs.YtpmlngcljbkchaaGreat

namespace Go.Proofs.YtpmlngcljbkchaaGreat
open Go.RowKit

set_option maxHeartbeats 400000 in
theorem szIntS_any (a : Option Addr) (cap : Nat) (vs : List Int) (left : Int) (w : World) (hl : vs.length ≤ maxLen) (h0 : 0 ≤ left) (h1 : left ≤ 1048576) :
    Calls Tryz.prog 34 #[.slice a vs.length cap, .int .i64 left] w fun e w' => e = .returned (.int .i64 (szRes vs.length left)) ∧ w' = w := by
  unfold maxLen at hl
  by_cases hf : (vs.length : Int) ≤ left
  · have HF : Hid (szRes vs.length left = left - vs.length) := szRes_yes hf
    go_enter Tryz.func34, Tryz.ntmps34
    go_wp2_with fail
    go_ret
    exact ⟨ret_int HF.out.symm, rfl⟩
  · have HF : Hid (szRes vs.length left = -1) := szRes_no hf
    go_enter Tryz.func34, Tryz.ntmps34
    go_wp2_with fail
    go_ret
    exact ⟨ret_int HF.out.symm, rfl⟩

set_option maxHeartbeats 1000000 in
theorem szGateRule_any (r : Rl) (a : Option Addr) (cap : Nat) (left : Int) (w : World) (hm : r.Small) (hl : r.vs.length ≤ maxLen) (h0 : 0 ≤ left) (h1 : left ≤ 1048576) :
    Calls Tryz.prog 16 #[.agg (r.cells a cap), .int .i64 left] w fun e w' => e = .returned (.int .i64 (szRes r.sz left)) ∧ Below w.heap.size w w' := by
  have k1 := hm.kd
  have k2 := hm.tm
  have k3 := hm.px
  have k4 := hl
  unfold maxLen at k1 k2 k3 k4
  unfold Rl.cells
  have hB : ∀ ob, Below w.heap.size w (w.alloc ob) := fun ob => (Below.refl _ _).alloc (Nat.le_refl _) _
  by_cases hv : (r.vs.length : Int) ≤ left
  rotate_left
  · have HF : Hid (szRes r.sz left = -1) := szRes_no (by unfold Rl.sz; omega)
    go_enter Tryz.func16, Tryz.ntmps16
    go_wp2_with fail
    refine (szIntS_any _ _ _ _ _ hl h0 h1).mono ?_
    rintro e w1 ⟨rfl, rfl⟩
    rw [szRes_no (by omega)]
    go_wp2_with fail
    go_ret
    exact ⟨ret_int HF.out.symm, hB _⟩
  by_cases hf : (r.sz : Int) ≤ left
  · have HF : Hid (szRes r.sz left = left - r.vs.length - r.kd.size - r.tm.size - r.px.size) := by
      unfold Hid; rw [szRes_yes hf]; unfold Rl.sz; omega
    unfold Rl.sz at hf
    go_enter Tryz.func16, Tryz.ntmps16
    go_wp2_with fail
    refine (szIntS_any _ _ _ _ _ hl h0 h1).mono ?_
    rintro e w1 ⟨rfl, rfl⟩
    rw [szRes_yes hv]
    go_wp2_with fail
    go_ret
    exact ⟨ret_int HF.out.symm, hB _⟩
  · have HF : Hid (szRes r.sz left = -1) := szRes_no hf
    have HN : Hid (¬ ((r.vs.length + r.kd.size + r.tm.size + r.px.size : Nat) : Int) ≤ left) := hf
    clear hf
    go_enter Tryz.func16, Tryz.ntmps16
    go_wp2_with fail
    refine (szIntS_any _ _ _ _ _ hl h0 h1).mono ?_
    rintro e w1 ⟨rfl, rfl⟩
    rw [szRes_yes hv]
    go_wp2_with fail
    all_goals go_ret
    all_goals first | exact ⟨ret_int HF.out.symm, hB _⟩ | (exfalso; have := HN.out; simp at *; omega)

theorem szGateRule_yes (r : Rl) (a : Option Addr) (cap : Nat) (left : Int) (w : World) (hm : r.Small) (hl : r.vs.length ≤ maxLen) (h0 : 0 ≤ left) (h1 : left ≤ 1048576) (h : (r.sz : Int) ≤ left) :
    Calls Tryz.prog 16 #[.agg (r.cells a cap), .int .i64 left] w fun e w' => e = .returned (.int .i64 (left - r.sz)) ∧ Below w.heap.size w w' := by
  refine (szGateRule_any r a cap left w hm hl h0 h1).mono ?_
  rintro e w' ⟨rfl, hb⟩
  exact ⟨ret_int (szRes_yes h), hb⟩

theorem szGateRule_no (r : Rl) (a : Option Addr) (cap : Nat) (left : Int) (w : World) (hm : r.Small) (hl : r.vs.length ≤ maxLen) (h0 : 0 ≤ left) (h1 : left ≤ 1048576) (h : ¬ (r.sz : Int) ≤ left) :
    Calls Tryz.prog 16 #[.agg (r.cells a cap), .int .i64 left] w fun e w' => e = .returned (.int .i64 (-1)) ∧ Below w.heap.size w w' := by
  refine (szGateRule_any r a cap left w hm hl h0 h1).mono ?_
  rintro e w' ⟨rfl, hb⟩
  exact ⟨ret_int (szRes_no h), hb⟩

set_option maxHeartbeats 400000 in
theorem toIntS_any (a : Option Addr) (cap : Nat) (vs : List Int) (w : World) (hw : IntsAt w a vs) (hl : vs.length ≤ 1048576) :
    Calls Tryz.prog 48 #[.slice a vs.length cap] w fun e w' => e = .returned (.slice (some ⟨w.heap.size, 0, none⟩) vs.length vs.length) ∧ w' = w.alloc (.cells (intArr vs) 3) := by
  have hmk : ∀ w : World, (Instr.makeSlice 28 (.int .i64 vs.length) (.int .i64 vs.length)).run Tryz.prog w = .ok (.slice (some ⟨w.heap.size, 0, none⟩) vs.length vs.length) (w.alloc (.cells (intCells vs 0) 3)) := by
    intro w
    have h := run_make_row' (P := Tryz.prog) 28 3 (.int .i64 0) 8 Tryz.underlying28 (by kernel_rfl) rfl .i64 .i64 vs.length (by omega) (by omega) w
    rw [intCells_zero] at h
    exact h
  go_enter Tryz.func48, Tryz.ntmps48
  go_wp2_with fail
  clear hmk
  go_loopw [4] (fun i wr => ∃ k : Nat, k ≤ vs.length ∧ i = .int .i64 k ∧ wr = w.alloc (.cells (intCells vs k) 3)) (fun i _ => vs.length - (intOf i).toNat)
  case atStart => exact ⟨0, Nat.zero_le _, rfl, rfl⟩
  case round =>
    obtain ⟨k, hk, rfl, rfl⟩ := hrel
    by_cases hlt : k < vs.length
    · obtain ⟨b, off, rfl, hb, hck⟩ := hw.load (Below.refl _ _) k hlt
      clear hw
      have hold := intCells_at vs k hlt
      have HS : Hid ((intCells vs k).setIfInBounds k (.int .i64 vs[k]) = intCells vs (k + 1)) := intCells_set vs k hlt
      have hltI : (k : Int) < (vs.length : Int) := by omega
      go_wp2
      go_roundw
      case rel => exact ⟨k + 1, by omega, by go_num, by rw [HS.out]⟩
      case measure => simp [intOf]; omega
    · have HA : Hid (intCells vs k = intArr vs) := intCells_all vs k (by omega)
      clear hw
      go_wp2
      go_ret
      exact ⟨rfl, by rw [HA.out]⟩

set_option maxHeartbeats 800000 in
theorem eqIntS_yes (a a' : Option Addr) (cap cap' : Nat) (vs : List Int) (w : World) (hw : IntsAt w a vs) (hw' : IntsAt w a' vs) :
    Calls Tryz.prog 58 #[.slice a vs.length cap, .slice a' vs.length cap'] w fun e w' => e = .returned (.bool true) ∧ Below w.heap.size w w' := by
  have hl := hw.len
  unfold maxLen at hl
  have hnn : ((vs.length : Int) != vs.length) = false := by simp
  go_enter Tryz.func58, Tryz.ntmps58
  go_wp2_with fail
  go_loopw [5] (fun i wr => ∃ k : Nat, k ≤ vs.length ∧ i = .int .i64 k ∧ Below w.heap.size w wr) (fun i _ => vs.length - (intOf i).toNat)
  case atStart => exact ⟨0, Nat.zero_le _, rfl, Below.refl _ _⟩
  case round =>
    obtain ⟨k, hk, rfl, hB⟩ := hrel
    by_cases hlt : k < vs.length
    · obtain ⟨b, off, rfl, hb, c0⟩ := hw.load hB k hlt
      obtain ⟨b', off', rfl, hb', d0⟩ := hw'.load hB k hlt
      have hltI : (k : Int) < (vs.length : Int) := by omega
      have hne : (vs[k] != vs[k]) = false := by simp
      clear hw hw'
      go_wp2_with fail
      first
        | exact ⟨⟨k + 1, by omega, by go_num, hB⟩, by simp [intOf]; omega⟩
        | (go_quiet (fail); go_wp2_with fail; exact ⟨⟨k + 1, by omega, by go_num, below_drewN hB _⟩, by simp [intOf]; omega⟩)
    · clear hw hw'
      go_wp2_with fail
      go_ret
      exact ⟨rfl, hB⟩

theorem at4' (w : World) (o1 o2 o3 o4 : Obj) : ((((w.alloc o1).alloc o2).alloc o3).alloc o4).heap[w.heap.size + 1 + 1 + 1]? = some o4 := by
  have h := MapKept.heap_alloc (((w.alloc o1).alloc o2).alloc o3) o4
  simpa using h.1
theorem below4' (w : World) (o1 o2 o3 o4 : Obj) : Below w.heap.size w ((((w.alloc o1).alloc o2).alloc o3).alloc o4) :=
  ((((Below.refl _ _).alloc (Nat.le_refl _) _).alloc (by simp) _).alloc (by simp; omega) _).alloc (by simp; omega) _

set_option maxHeartbeats 1000000 in
theorem toGateRule_any (r : Rl) (a : Option Addr) (cap : Nat) (w : World) (hw : IntsAt w a r.vs) (hl : r.vs.length ≤ 1048576) :
    Calls Tryz.prog 23 #[.agg (r.cells a cap)] w
      fun e w' => ∃ bk, e = .returned (.agg (r.cells (some ⟨bk, 0, none⟩) r.vs.length)) ∧ w.heap.size ≤ bk ∧ bk < w'.heap.size ∧ w'.heap[bk]? = some (.cells (intArr r.vs) 3) ∧ Below w.heap.size w w' := by
  unfold Rl.cells
  go_enter Tryz.func23, Tryz.ntmps23
  go_wp2_with (go_at_call 48; refine (toIntS_any _ _ _ _ (by exact hw.mono ((((Below.refl _ _).alloc (Nat.le_refl _) _).alloc (by simp) _).alloc (by simp; omega) _)) hl).mono ?_; rintro e w' ⟨rfl, rfl⟩)
  refine bodyPost_ret (v := .agg #[.slice (some ⟨w.heap.size + 1 + 1 + 1, 0, none⟩) r.vs.length r.vs.length, .string r.kd, .string r.tm, .string r.px]) (by simp [results, Tryz.results23, go_sem]) rfl ⟨w.heap.size + 1 + 1 + 1, rfl, by omega, by simp, at4' _ _ _ _ _, below4' _ _ _ _ _⟩

set_option maxHeartbeats 1000000 in
theorem eqGateRule_yes (r : Rl) (a a' : Option Addr) (cap cap' : Nat) (w : World) (hw : IntsAt w a r.vs) (hw' : IntsAt w a' r.vs) :
    Calls Tryz.prog 30 #[.agg (r.cells a cap), .agg (r.cells a' cap')] w fun e w' => e = .returned (.bool true) ∧ Below w.heap.size w w' := by
  unfold Rl.cells
  go_enter Tryz.func30, Tryz.ntmps30
  go_wp2_with fail
  refine (eqIntS_yes _ _ _ _ _ _ (hw.mono (below2' _ _ _)) (hw'.mono (below2' _ _ _))).mono ?_
  rintro e w1 ⟨rfl, hb1⟩
  have hX1 := box_later (box_later (box_new w _ _) (by simp) ((Below.refl _ _).alloc (Nat.le_refl _) _)) (by simp; omega) hb1
  have hY1 := box_later (box_new2 w _ _ _) (by simp) hb1
  have hz : w.heap.size + 1 < w1.heap.size := by have := hb1.size; simp at this; omega
  have hB1 := (below2' w _ _).trans (hb1.mono (by simp; omega))
  clear hb1
  go_wp2_with fail
  go_ret
  exact ⟨rfl, hB1⟩

end Go.Proofs.YtpmlngcljbkchaaGreat

namespace Go.Proofs.YtpmlngcljbkchaaGreat
open Go.RowKit

set_option maxHeartbeats 400000 in
theorem isGiven_any (v : Int) (w : World) :
    Calls Tryz.prog 149 #[.int .i64 v] w fun e w' => e = .returned (.bool (Gate.verbOk v)) ∧ w' = w := by
  go_enter Tryz.func149, Tryz.ntmps149
  go_wp2
  all_goals
    go_ret
    refine ⟨ret_bool ?_, rfl⟩
    rw [Bool.eq_iff_iff]; simp [Gate.verbOk]; try omega

theorem Gate.verbAt_no {vs : List Int} {k : Nat} (h : k < vs.length) (hn : Gate.verbOk vs[k] = false) : Gate.verbAt vs k = false := by
  unfold Gate.verbAt; rw [Gate.getD_at vs k _ h, hn]; rfl
theorem Gate.verbAt_first {vs : List Int} (h : 0 < vs.length) (hn : Gate.verbOk vs[0] = true) : Gate.verbAt vs 0 = true := by
  unfold Gate.verbAt; rw [Gate.getD_at vs 0 _ h, hn]; rfl
theorem Gate.verbAt_more {vs : List Int} {k : Nat} (h : k + 1 < vs.length) (hn : Gate.verbOk vs[k + 1] = true) : Gate.verbAt vs (k + 1) = decide (vs[k] < vs[k + 1]) := by
  unfold Gate.verbAt; rw [Gate.getD_at vs (k + 1) _ h, Nat.add_sub_cancel, Gate.getD_at vs k _ (by omega), hn]; simp

set_option maxHeartbeats 1000000 in
theorem areVerbs_any (a : Option Addr) (cap : Nat) (vs : List Int) (w : World) (hw : IntsAt w a vs) :
    Calls Tryz.prog 148 #[.slice a vs.length cap] w fun e w' => e = .returned (.bool (Gate.verbsOk vs)) ∧ w' = w := by
  have hl := hw.len
  unfold maxLen at hl
  have HG : Hid (Gate.up (Gate.verbAt vs) vs.length = false → Gate.verbsOk vs = false) := fun h => by unfold Gate.verbsOk; rw [h, Bool.and_false]
  go_enter Tryz.func148, Tryz.ntmps148
  go_wp2_with fail
  go_loop [7] (fun i => ∃ k : Nat, k ≤ vs.length ∧ i = .int .i64 k ∧ Gate.up (Gate.verbAt vs) k = true) (fun i => vs.length - (intOf i).toNat)
  case atStart => exact ⟨0, Nat.zero_le _, rfl, rfl⟩
  case round =>
    obtain ⟨k, hk, rfl, hup⟩ := hrel
    by_cases hlt : k < vs.length
    · obtain ⟨b, off, rfl, hb, hck⟩ := hw.load (Below.refl _ _) k hlt
      have hltI : (k : Int) < (vs.length : Int) := by omega
      by_cases hn : Gate.verbOk vs[k] = true
      · by_cases hk0 : k = 0
        · have HF : Hid (Gate.up (Gate.verbAt vs) (k + 1) = true) := by subst hk0; unfold Hid; rw [Gate.up_succ, Gate.verbAt_first hlt hn]; rfl
          have hg : decide (0 < k) = false := by simp; omega
          have HN : Hid (Gate.verbOk vs[k] = true) := hn
          clear hn hup hk0 hw
          go_wp2_with (go_at_call 149; refine (as_bool HN.out (isGiven_any _ _)).mono ?_; rintro e w' ⟨rfl, rfl⟩)
          go_round
          case rel => exact ⟨k + 1, by omega, by go_num, HF.out⟩
          case measure => simp [intOf]; omega
        · obtain ⟨m, rfl⟩ : ∃ m, k = m + 1 := ⟨k - 1, by omega⟩
          obtain ⟨b', off', e', hb', hcm⟩ := hw.load (Below.refl _ _) m (by omega)
          simp only [Option.some.injEq, Addr.mk.injEq] at e'
          obtain ⟨rfl, rfl, _⟩ := e'
          have HU : Hid (Gate.up (Gate.verbAt vs) (m + 1 + 1) = decide (vs[m] < vs[m + 1])) := by unfold Hid; rw [Gate.up_succ, hup, Gate.verbAt_more hlt hn]; rfl
          have HNN : Hid (¬ vs[m] < vs[m + 1] → Gate.verbsOk vs = false) := fun h => HG.out (Gate.up_not hlt (by rw [Gate.verbAt_more hlt hn]; simpa using h))
          have HN : Hid (Gate.verbOk vs[m + 1] = true) := hn
          clear hn hup hk0 hw
          by_cases hls : vs[m] < vs[m + 1]
          · have hls' : decide (vs[m + 1] ≤ vs[m]) = false := by simp; omega
            have HLS : Hid (vs[m] < vs[m + 1]) := hls
            clear hls
            go_wp2_with (go_at_call 149; refine (as_bool HN.out (isGiven_any _ _)).mono ?_; rintro e w' ⟨rfl, rfl⟩)
            go_round
            case rel => exact ⟨m + 1 + 1, by omega, by go_num, by rw [HU.out]; simpa using HLS.out⟩
            case measure => simp [intOf]; omega
          · have hls' : vs[m + 1] ≤ vs[m] := by omega
            have HLS : Hid (¬ vs[m] < vs[m + 1]) := hls
            clear hls
            go_wp2_with (go_at_call 149; refine (as_bool HN.out (isGiven_any _ _)).mono ?_; rintro e w' ⟨rfl, rfl⟩)
            go_ret
            exact ⟨ret_bool (HNN.out HLS.out).symm, rfl⟩
      · have hn' : Gate.verbOk vs[k] = false := by simpa using hn
        have HF : Hid (Gate.verbsOk vs = false) := HG.out (Gate.up_not hlt (Gate.verbAt_no hlt hn'))
        have HN : Hid (Gate.verbOk vs[k] = false) := hn'
        clear hn hn' hup hw
        go_wp2_with (go_at_call 149; refine (as_bool HN.out (isGiven_any _ _)).mono ?_; rintro e w' ⟨rfl, rfl⟩)
        go_ret
        exact ⟨ret_bool HF.out.symm, rfl⟩
    · have HF : Hid (Gate.verbsOk vs = decide (0 < vs.length)) := by
        have e : k = vs.length := by omega
        subst e; unfold Hid Gate.verbsOk; rw [hup, Bool.and_true]
      clear hw hup
      go_wp2_with fail
      go_ret
      exact ⟨ret_bool (by rw [HF.out]), rfl⟩

end Go.Proofs.YtpmlngcljbkchaaGreat

namespace Go.Proofs.YtpmlngcljbkchaaGreat
open Go.RowKit

theorem any_take_snoc {α : Type} (p : α → Bool) (l : List α) (k : Nat) (h : k < l.length) : (l.take (k + 1)).any p = ((l.take k).any p || p l[k]) := by
  rw [List.take_succ_eq_append_getElem h, List.any_append]; simp
theorem any_at {α : Type} (p : α → Bool) (l : List α) (k : Nat) (h : k < l.length) (hp : p l[k] = true) : l.any p = true := by
  rw [List.any_eq_true]; exact ⟨l[k], List.getElem_mem h, hp⟩

/-- A function value of one captured box, called at each team: what it answers. -/
def TeamFn (P : Program) (fid : Nat) (q : Value) (ts : List Tm) (w : World) (p : Tm → Bool) : Prop :=
  ∀ w1, Below w.heap.size w w1 → ∀ i (h : i < ts.length), Calls P fid #[.agg ts[i].cells, q] w1 fun e w' => e = .returned (.bool (p ts[i])) ∧ Below w1.heap.size w1 w'

set_option maxHeartbeats 1000000 in
theorem IndexFuncT_any (a : Option Addr) (cap : Nat) (ts : List Tm) (q : Value) (p : Tm → Bool) (w : World) (hw : TmsAt w a ts) (hf : TeamFn Tryz.prog 97 q ts w p) :
    Calls Tryz.prog 98 #[.slice a ts.length cap, .func (.func 97) #[] #[q]] w fun e w' => ∃ r : Int, e = .returned (.int .i64 r) ∧ decide (0 ≤ r) = ts.any p ∧ Below w.heap.size w w' := by
  have hl := hw.len
  unfold maxLen at hl
  go_enter Tryz.func98, Tryz.ntmps98
  go_wp2_with fail
  go_loopw [8] (fun i wr => ∃ k : Nat, k ≤ ts.length ∧ i = .int .i64 k ∧ (ts.take k).any p = false ∧ Below w.heap.size w wr) (fun i _ => ts.length - (intOf i).toNat)
  case atStart => exact ⟨0, Nat.zero_le _, rfl, rfl, Below.refl _ _⟩
  case round =>
    obtain ⟨k, hk, rfl, hno, hB⟩ := hrel
    by_cases hlt : k < ts.length
    · obtain ⟨b, off, rfl, hb, c0, c1⟩ := hw.load hB k hlt
      have hltI : (k : Int) < (ts.length : Int) := by omega
      have hc := hf wr hB k hlt
      clear hw hf
      by_cases he : p ts[k] = true
      · have HA : Hid (ts.any p = true) := any_at p ts k hlt he
        have HE : Hid (p ts[k] = true) := he
        clear he hno
        go_wp2_with fail
        refine (as_bool HE.out hc).mono ?_
        rintro e w2 ⟨rfl, hb2⟩
        go_wp2_with fail
        go_ret
        exact ⟨_, rfl, by rw [HA.out]; simp, hB.trans (hb2.mono hB.size)⟩
      · have he' : p ts[k] = false := by simpa using he
        have HS : Hid ((ts.take (k + 1)).any p = false) := by unfold Hid; rw [any_take_snoc p ts k hlt, hno, he']; rfl
        have HE : Hid (p ts[k] = false) := he'
        clear he he' hno
        go_wp2_with fail
        refine (as_bool HE.out hc).mono ?_
        rintro e w2 ⟨rfl, hb2⟩
        go_wp2_with fail
        exact ⟨⟨k + 1, by omega, by go_num, HS.out, hB.trans (hb2.mono hB.size)⟩, by simp [intOf]; omega⟩
    · have HA : Hid (ts.any p = false) := by unfold Hid; rw [← hno, List.take_of_length_le (by omega)]
      clear hno hw hf
      go_wp2_with fail
      go_ret
      exact ⟨_, rfl, by rw [HA.out]; rfl, hB⟩

set_option maxHeartbeats 400000 in
theorem ContainsFuncT_any (a : Option Addr) (cap : Nat) (ts : List Tm) (q : Value) (p : Tm → Bool) (w : World) (hw : TmsAt w a ts) (hf : TeamFn Tryz.prog 97 q ts w p) :
    Calls Tryz.prog 72 #[.slice a ts.length cap, .func (.func 97) #[] #[q]] w fun e w' => e = .returned (.bool (ts.any p)) ∧ Below w.heap.size w w' := by
  go_enter Tryz.func72, Tryz.ntmps72
  go_wp2_with fail
  refine (IndexFuncT_any _ _ _ _ _ _ hw hf).mono ?_
  rintro e w2 ⟨r, rfl, hr, hb2⟩
  go_wp2_with fail
  go_ret
  exact ⟨rfl, hb2⟩

set_option maxHeartbeats 1000000 in
theorem IndexFuncU_any (a : Option Addr) (cap : Nat) (ts : List Tm) (q : Value) (p : Tm → Bool) (w : World) (hw : TmsAt w a ts) (hf : TeamFn Tryz.prog 73 q ts w p) :
    Calls Tryz.prog 98 #[.slice a ts.length cap, .func (.func 73) #[] #[q]] w fun e w' => ∃ r : Int, e = .returned (.int .i64 r) ∧ decide (0 ≤ r) = ts.any p ∧ Below w.heap.size w w' := by
  have hl := hw.len
  unfold maxLen at hl
  go_enter Tryz.func98, Tryz.ntmps98
  go_wp2_with fail
  go_loopw [8] (fun i wr => ∃ k : Nat, k ≤ ts.length ∧ i = .int .i64 k ∧ (ts.take k).any p = false ∧ Below w.heap.size w wr) (fun i _ => ts.length - (intOf i).toNat)
  case atStart => exact ⟨0, Nat.zero_le _, rfl, rfl, Below.refl _ _⟩
  case round =>
    obtain ⟨k, hk, rfl, hno, hB⟩ := hrel
    by_cases hlt : k < ts.length
    · obtain ⟨b, off, rfl, hb, c0, c1⟩ := hw.load hB k hlt
      have hltI : (k : Int) < (ts.length : Int) := by omega
      have hc := hf wr hB k hlt
      clear hw hf
      by_cases he : p ts[k] = true
      · have HA : Hid (ts.any p = true) := any_at p ts k hlt he
        have HE : Hid (p ts[k] = true) := he
        clear he hno
        go_wp2_with fail
        refine (as_bool HE.out hc).mono ?_
        rintro e w2 ⟨rfl, hb2⟩
        go_wp2_with fail
        go_ret
        exact ⟨_, rfl, by rw [HA.out]; simp, hB.trans (hb2.mono hB.size)⟩
      · have he' : p ts[k] = false := by simpa using he
        have HS : Hid ((ts.take (k + 1)).any p = false) := by unfold Hid; rw [any_take_snoc p ts k hlt, hno, he']; rfl
        have HE : Hid (p ts[k] = false) := he'
        clear he he' hno
        go_wp2_with fail
        refine (as_bool HE.out hc).mono ?_
        rintro e w2 ⟨rfl, hb2⟩
        go_wp2_with fail
        exact ⟨⟨k + 1, by omega, by go_num, HS.out, hB.trans (hb2.mono hB.size)⟩, by simp [intOf]; omega⟩
    · have HA : Hid (ts.any p = false) := by unfold Hid; rw [← hno, List.take_of_length_le (by omega)]
      clear hno hw hf
      go_wp2_with fail
      go_ret
      exact ⟨_, rfl, by rw [HA.out]; rfl, hB⟩

set_option maxHeartbeats 400000 in
theorem ContainsFuncU_any (a : Option Addr) (cap : Nat) (ts : List Tm) (q : Value) (p : Tm → Bool) (w : World) (hw : TmsAt w a ts) (hf : TeamFn Tryz.prog 73 q ts w p) :
    Calls Tryz.prog 72 #[.slice a ts.length cap, .func (.func 73) #[] #[q]] w fun e w' => e = .returned (.bool (ts.any p)) ∧ Below w.heap.size w w' := by
  go_enter Tryz.func72, Tryz.ntmps72
  go_wp2_with fail
  refine (IndexFuncU_any _ _ _ _ _ _ hw hf).mono ?_
  rintro e w2 ⟨r, rfl, hr, hb2⟩
  go_wp2_with fail
  go_ret
  exact ⟨rfl, hb2⟩

set_option maxHeartbeats 400000 in
theorem isTeamFn_any (t : Tm) (v : ByteArray) (bn : Nat) (w : World) (hb : bn < w.heap.size) (hn : w.cell? ⟨bn, 0, none⟩ = some (.string v)) :
    Calls Tryz.prog 97 #[.agg t.cells, .pointer (some ⟨bn, 0, none⟩)] w fun e w' => e = .returned (.bool (t.nm.toList == v.toList)) ∧ Below w.heap.size w w' := by
  unfold Tm.cells
  go_enter Tryz.func97, Tryz.ntmps97
  go_wp2_with fail
  go_ret
  exact ⟨rfl, (Below.refl _ _).alloc (Nat.le_refl _) _⟩

theorem isTeamFn_fn (ts : List Tm) (v : ByteArray) (bn : Nat) (w : World) (hb : bn < w.heap.size) (hn : w.cell? ⟨bn, 0, none⟩ = some (.string v)) :
    TeamFn Tryz.prog 97 (.pointer (some ⟨bn, 0, none⟩)) ts w (fun t => decide (t.nm = v)) := fun w1 hB i hi => by
  refine (isTeamFn_any ts[i] v bn w1 (Nat.lt_of_lt_of_le hb hB.size) ((hB.cell (p := ⟨bn, 0, none⟩) hb).trans hn)).mono ?_
  rintro e w' ⟨rfl, hb'⟩
  exact ⟨ret_bool (Gate.beq_toList _ _), hb'⟩

set_option maxHeartbeats 400000 in
theorem isTeam_any (a : Option Addr) (cap : Nat) (ts : List Tm) (v : ByteArray) (w : World) (hw : TmsAt w a ts) :
    Calls Tryz.prog 71 #[.slice a ts.length cap, .string v] w fun e w' => e = .returned (.bool (Gate.hasTeam ts v)) ∧ Below w.heap.size w w' := by
  go_enter Tryz.func71, Tryz.ntmps71
  go_wp2_with fail
  refine (ContainsFuncT_any _ _ _ _ _ _ (hw.mono ((Below.refl _ _).alloc (Nat.le_refl _) _)) (isTeamFn_fn ts v _ _ (by simp) (by rw [World.cell?_alloc_at _ _ _ _ rfl]; rfl))).mono ?_
  rintro e w2 ⟨rfl, hb2⟩
  go_wp2_with fail
  go_ret
  exact ⟨rfl, ((Below.refl _ _).alloc (Nat.le_refl _) _).trans (hb2.mono (by simp))⟩

set_option maxHeartbeats 800000 in
theorem isTooDeep_any (a : Option Addr) (cap : Nat) (ts : List Tm) (t : Tm) (w : World) (hw : TmsAt w a ts) :
    Calls Tryz.prog 74 #[.slice a ts.length cap, .agg t.cells] w fun e w' => e = .returned (.bool (!Gate.deepOk ts t)) ∧ Below w.heap.size w w' := by
  unfold Tm.cells
  go_enter Tryz.func74, Tryz.ntmps74
  go_wp2_with fail
  go_loopw [5, 8] (fun p i wr => ∃ (k : Nat) (z : ByteArray), k ≤ 4 ∧ p = .string z ∧ i = .int .i64 k ∧ Gate.climb ts 4 t.ov = Gate.climb ts (4 - k) z ∧ Below w.heap.size w wr) (fun _ i _ => 4 - (intOf i).toNat)
  case atStart => exact ⟨0, t.ov, Nat.zero_le _, rfl, rfl, rfl, (Below.refl _ _).alloc (Nat.le_refl _) _⟩
  case round =>
    obtain ⟨k, z, hk, rfl, rfl, hz, hB⟩ := hrel
    by_cases hlt : k < 4
    · have hltI : (k : Int) < 4 := by omega
      have HZ : Hid (Gate.climb ts 4 t.ov = Gate.climb ts (4 - (k + 1)) (Gate.over ts z)) := by
        obtain ⟨m, hm⟩ : ∃ m, 4 - k = m + 1 := ⟨3 - k, by omega⟩
        rw [Hid, hz, hm, show 4 - (k + 1) = m by omega]; rfl
      clear hz
      go_wp2_with fail
      refine (overOf_any _ _ _ _ _ (hw.mono hB)).mono ?_
      rintro e w1 ⟨rfl, hb1⟩
      have hB1 := hB.trans (hb1.mono hB.size)
      clear hb1
      go_wp2_with fail
      exact ⟨⟨k + 1, Gate.over ts z, by omega, rfl, by go_num, HZ.out, hB1⟩, by simp [intOf]; omega⟩
    · have HF : Hid (Gate.deepOk ts t = z.toList.isEmpty) := by
        have e : 4 - k = 0 := by omega
        rw [e] at hz
        unfold Hid Gate.deepOk
        rw [hz, Gate.isEmpty_of_size]; rfl
      clear hz
      go_wp2_with fail
      go_ret
      exact ⟨ret_bool (by rw [HF.out]), hB⟩

set_option maxHeartbeats 400000 in
theorem deepFn_any (a : Option Addr) (cap : Nat) (ts : List Tm) (t : Tm) (bn : Nat) (w : World) (hw : TmsAt w a ts) (hb : bn < w.heap.size) (hn : w.cell? ⟨bn, 0, none⟩ = some (.slice a ts.length cap)) :
    Calls Tryz.prog 73 #[.agg t.cells, .pointer (some ⟨bn, 0, none⟩)] w fun e w' => e = .returned (.bool (!Gate.deepOk ts t)) ∧ Below w.heap.size w w' := by
  unfold Tm.cells
  go_enter Tryz.func73, Tryz.ntmps73
  go_wp2_with fail
  refine (isTooDeep_any _ _ _ t _ (hw.mono ((Below.refl _ _).alloc (Nat.le_refl _) _))).mono ?_
  rintro e w2 ⟨rfl, hb2⟩
  go_wp2_with fail
  go_ret
  exact ⟨rfl, ((Below.refl _ _).alloc (Nat.le_refl _) _).trans (hb2.mono (by simp))⟩

theorem deepFn_fn (a : Option Addr) (cap : Nat) (ts : List Tm) (bn : Nat) (w : World) (hw : TmsAt w a ts) (hb : bn < w.heap.size) (hn : w.cell? ⟨bn, 0, none⟩ = some (.slice a ts.length cap)) :
    TeamFn Tryz.prog 73 (.pointer (some ⟨bn, 0, none⟩)) ts w (fun t => !Gate.deepOk ts t) := fun w1 hB i _ =>
  deepFn_any a cap ts ts[i] bn w1 (hw.mono hB) (Nat.lt_of_lt_of_le hb hB.size) ((hB.cell (p := ⟨bn, 0, none⟩) hb).trans hn)

end Go.Proofs.YtpmlngcljbkchaaGreat

namespace Go.Proofs.YtpmlngcljbkchaaGreat
open Go.RowKit

set_option maxHeartbeats 400000 in
theorem isRange_any (ls ms lo hi : Int) (w : World) :
    Calls Tryz.prog 158 #[.int .i64 ls, .int .i64 ms, .int .i64 lo, .int .i64 hi] w fun e w' => e = .returned (.bool (Gate.rangeOk ls ms lo hi)) ∧ w' = w := by
  go_enter Tryz.func158, Tryz.ntmps158
  go_wp2
  all_goals
    go_ret
    refine ⟨ret_bool ?_, rfl⟩
    rw [Bool.eq_iff_iff]; simp [Gate.rangeOk]; try omega

set_option maxHeartbeats 400000 in
theorem numberBare_any (nm : ByteArray) (kd ls ms : Int) (a : Option Addr) (n cap : Nat) (to : ByteArray) (rl : Int) (mu fx : Bool) (df wg : ByteArray) (w : World) :
    Calls Tryz.prog 154 #[.agg #[.string nm, .int .i64 kd, .int .i64 ls, .int .i64 ms, .slice a n cap, .string to, .int .i64 rl, .bool mu, .bool fx, .string df, .string wg]] w fun e w' => e = .returned (.bool (Gate.bareOf 1 ls ms n to rl wg)) ∧ Below w.heap.size w w' := by
  go_enter Tryz.func154, Tryz.ntmps154
  go_wp2
  all_goals
    go_ret
    refine ⟨ret_bool ?_, (Below.refl _ _).alloc (Nat.le_refl _) _⟩
    simp_all [Gate.bareOf]
    try (rw [Bool.eq_iff_iff]; simp)

set_option maxHeartbeats 400000 in
theorem wordBare_any (nm : ByteArray) (kd ls ms : Int) (a : Option Addr) (n cap : Nat) (to : ByteArray) (rl : Int) (mu fx : Bool) (df wg : ByteArray) (w : World) :
    Calls Tryz.prog 159 #[.agg #[.string nm, .int .i64 kd, .int .i64 ls, .int .i64 ms, .slice a n cap, .string to, .int .i64 rl, .bool mu, .bool fx, .string df, .string wg]] w fun e w' => e = .returned (.bool (Gate.bareOf 2 ls ms n to rl wg)) ∧ Below w.heap.size w w' := by
  go_enter Tryz.func159, Tryz.ntmps159
  go_wp2
  all_goals
    go_ret
    refine ⟨ret_bool ?_, (Below.refl _ _).alloc (Nat.le_refl _) _⟩
    simp_all [Gate.bareOf]
    try (rw [Bool.eq_iff_iff]; simp)

set_option maxHeartbeats 400000 in
theorem textBare_any (nm : ByteArray) (kd ls ms : Int) (a : Option Addr) (n cap : Nat) (to : ByteArray) (rl : Int) (mu fx : Bool) (df wg : ByteArray) (w : World) :
    Calls Tryz.prog 164 #[.agg #[.string nm, .int .i64 kd, .int .i64 ls, .int .i64 ms, .slice a n cap, .string to, .int .i64 rl, .bool mu, .bool fx, .string df, .string wg]] w fun e w' => e = .returned (.bool (Gate.bareOf 3 ls ms n to rl wg)) ∧ Below w.heap.size w w' := by
  go_enter Tryz.func164, Tryz.ntmps164
  go_wp2
  all_goals
    go_ret
    refine ⟨ret_bool ?_, (Below.refl _ _).alloc (Nat.le_refl _) _⟩
    simp_all [Gate.bareOf]
    try (rw [Bool.eq_iff_iff]; simp)

set_option maxHeartbeats 400000 in
theorem linkBare_any (nm : ByteArray) (kd ls ms : Int) (a : Option Addr) (n cap : Nat) (to : ByteArray) (rl : Int) (mu fx : Bool) (df wg : ByteArray) (w : World) :
    Calls Tryz.prog 167 #[.agg #[.string nm, .int .i64 kd, .int .i64 ls, .int .i64 ms, .slice a n cap, .string to, .int .i64 rl, .bool mu, .bool fx, .string df, .string wg]] w fun e w' => e = .returned (.bool (Gate.bareOf 4 ls ms n to rl wg)) ∧ Below w.heap.size w w' := by
  go_enter Tryz.func167, Tryz.ntmps167
  go_wp2
  all_goals
    go_ret
    refine ⟨ret_bool ?_, (Below.refl _ _).alloc (Nat.le_refl _) _⟩
    simp_all [Gate.bareOf]
    try (rw [Bool.eq_iff_iff]; simp)

set_option maxHeartbeats 400000 in
theorem numberSound_any (nm : ByteArray) (ls ms : Int) (a : Option Addr) (cap : Nat) (ws : List ByteArray) (to : ByteArray) (rl : Int) (mu fx : Bool) (df wg : ByteArray) (a0 : Option Addr) (cap0 : Nat) (ss : List Shp) (w : World) (hwg : wg.size ≤ maxLen) :
    Calls Tryz.prog 156 #[.agg #[.string nm, .int .i64 1, .int .i64 ls, .int .i64 ms, .slice a ws.length cap, .string to, .int .i64 rl, .bool mu, .bool fx, .string df, .string wg], .slice a0 ss.length cap0] w fun e w' => e = .returned (.bool (Gate.soundOf ss ⟨nm, 1, ls, ms, ws, to, rl, mu, fx, df, wg⟩)) ∧ Below w.heap.size w w' := by
  have HF : Hid (Gate.soundOf ss ⟨nm, 1, ls, ms, ws, to, rl, mu, fx, df, wg⟩ = (Gate.rangeOk ls ms 0 1000000 && (wg.toList.isEmpty || Gate.nameOk wg))) := by simp [Gate.soundOf, Hid]
  by_cases hr : Gate.rangeOk ls ms 0 1000000 = true
  · by_cases he : wg.toList.isEmpty = true
    · go_enter Tryz.func156, Tryz.ntmps156
      go_wp2_with (go_at_call 158; refine (isRange_any _ _ _ _ _).mono ?_; rintro e w' ⟨rfl, rfl⟩)
      go_ret
      exact ⟨ret_bool (by rw [HF.out, hr, he]; rfl), (Below.refl _ _).alloc (Nat.le_refl _) _⟩
    · have he' : wg.toList.isEmpty = false := by simpa using he
      clear he
      go_enter Tryz.func156, Tryz.ntmps156
      go_wp2_with (first | (go_at_call 158; refine (isRange_any _ _ _ _ _).mono ?_; rintro e w' ⟨rfl, rfl⟩) | (go_at_call 51; refine (isName_any _ _ hwg).mono ?_; rintro e w' ⟨rfl, rfl⟩))
      go_ret
      exact ⟨ret_bool (by rw [HF.out, hr, he']; rfl), (Below.refl _ _).alloc (Nat.le_refl _) _⟩
  · have hr' : Gate.rangeOk ls ms 0 1000000 = false := by simpa using hr
    clear hr
    go_enter Tryz.func156, Tryz.ntmps156
    go_wp2_with (go_at_call 158; refine (isRange_any _ _ _ _ _).mono ?_; rintro e w' ⟨rfl, rfl⟩)
    go_ret
    exact ⟨ret_bool (by rw [HF.out, hr']; rfl), (Below.refl _ _).alloc (Nat.le_refl _) _⟩

set_option maxHeartbeats 400000 in
theorem textSound_any (nm : ByteArray) (ls ms : Int) (a : Option Addr) (cap : Nat) (ws : List ByteArray) (to : ByteArray) (rl : Int) (mu fx : Bool) (df wg : ByteArray) (a0 : Option Addr) (cap0 : Nat) (ss : List Shp) (w : World) :
    Calls Tryz.prog 166 #[.agg #[.string nm, .int .i64 3, .int .i64 ls, .int .i64 ms, .slice a ws.length cap, .string to, .int .i64 rl, .bool mu, .bool fx, .string df, .string wg], .slice a0 ss.length cap0] w fun e w' => e = .returned (.bool (Gate.soundOf ss ⟨nm, 3, ls, ms, ws, to, rl, mu, fx, df, wg⟩)) ∧ Below w.heap.size w w' := by
  have HF : Hid (Gate.soundOf ss ⟨nm, 3, ls, ms, ws, to, rl, mu, fx, df, wg⟩ = Gate.rangeOk ls ms 1 40) := by simp [Gate.soundOf, Hid]
  go_enter Tryz.func166, Tryz.ntmps166
  go_wp2_with (go_at_call 158; refine (isRange_any _ _ _ _ _).mono ?_; rintro e w' ⟨rfl, rfl⟩)
  go_ret
  exact ⟨ret_bool HF.out.symm, (Below.refl _ _).alloc (Nat.le_refl _) _⟩

set_option maxHeartbeats 400000 in
theorem wordSound_any (nm : ByteArray) (ls ms : Int) (a : Option Addr) (cap : Nat) (ws : List ByteArray) (to : ByteArray) (rl : Int) (mu fx : Bool) (df wg : ByteArray) (a0 : Option Addr) (cap0 : Nat) (ss : List Shp) (w : World) (hw : StrsAt w a ws) :
    Calls Tryz.prog 161 #[.agg #[.string nm, .int .i64 2, .int .i64 ls, .int .i64 ms, .slice a ws.length cap, .string to, .int .i64 rl, .bool mu, .bool fx, .string df, .string wg], .slice a0 ss.length cap0] w fun e w' => e = .returned (.bool (Gate.soundOf ss ⟨nm, 2, ls, ms, ws, to, rl, mu, fx, df, wg⟩)) ∧ Below w.heap.size w w' := by
  have HF : Hid (Gate.soundOf ss ⟨nm, 2, ls, ms, ws, to, rl, mu, fx, df, wg⟩ = (decide (1 ≤ ws.length) && decide (ws.length ≤ 6) && Gate.asc ws)) := by simp [Gate.soundOf, Hid]
  have hl := hw.len
  unfold maxLen at hl
  by_cases h1 : 0 < ws.length
  · by_cases h6 : ws.length ≤ 6
    · go_enter Tryz.func161, Tryz.ntmps161
      go_wp2_with (go_at_call 130; refine (areAsc_any _ _ _ _ (by exact hw.mono ((Below.refl _ _).alloc (Nat.le_refl _) _))).mono ?_; rintro e w' ⟨rfl, rfl⟩)
      go_ret
      exact ⟨ret_bool (by rw [HF.out, decide_eq_true (show 1 ≤ ws.length by omega), decide_eq_true h6]; rfl), (Below.refl _ _).alloc (Nat.le_refl _) _⟩
    · go_enter Tryz.func161, Tryz.ntmps161
      go_wp2_with fail
      go_ret
      exact ⟨ret_bool (by rw [HF.out, decide_eq_true (show 1 ≤ ws.length by omega), decide_eq_false (show ¬ ws.length ≤ 6 by omega)]; rfl), (Below.refl _ _).alloc (Nat.le_refl _) _⟩
  · go_enter Tryz.func161, Tryz.ntmps161
    go_wp2_with fail
    go_ret
    exact ⟨ret_bool (by rw [HF.out, decide_eq_false (show ¬ 1 ≤ ws.length by omega)]; rfl), (Below.refl _ _).alloc (Nat.le_refl _) _⟩

end Go.Proofs.YtpmlngcljbkchaaGreat
