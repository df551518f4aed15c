import Derived.Test.YtbefjngbilakjaaM17
import Derived.Test.YtbefjngbilakjaaM16
import Derived.Test.YtbefjngbilakjaaRows
import Derived.Test.YtbefjngbilakjaaM01
import Derived.ProofKit
import Derived.SliceStrings
namespace Go.Proofs.Ytbefjngbilakjaa
open Go.RowKit

theorem shps_few {ss : List Shp} (h : (shpsSz ss : Int) ≤ 1048576) : ss.length ≤ 1048576 ∧ ∀ i (h : i < ss.length), ss[i].fs.length ≤ 1048576 ∧ ∀ j (h' : j < ss[i].fs.length), ss[i].fs[j].ws.length ≤ 1048576 := by
  unfold shpsSz at h
  refine ⟨by omega, fun i hi => ?_⟩
  have h1 : Shp.sz ss[i] ≤ sumS ss := sum_mem Shp.sz ss i hi
  unfold Shp.sz fldsSz at h1
  refine ⟨by omega, fun j hj => ?_⟩
  have h2 : Fld.sz ss[i].fs[j] ≤ sumF ss[i].fs := sum_mem Fld.sz ss[i].fs j hj
  unfold Fld.sz fldSz strsSz at h2
  omega

theorem ob_few {o : Ob} {l : Int} (h : (obSz o : Int) ≤ l) (hl : l ≤ 1048576) : o.vs.length ≤ 1048576 ∧ o.hs.length ≤ 1048576 := by
  unfold obSz strsSz at h
  omega

theorem ob_own {w w' : World} {o : Ob} {a a' : Option Addr} {bv bh : Nat} (ho : ObAt w o a a') (h1 : w'.heap[bv]? = some (.cells (strArr o.vs) 9)) (h2 : w'.heap[bh]? = some (.cells (strArr o.hs) 9)) : ObAt w' o (some ⟨bv, 0, none⟩) (some ⟨bh, 0, none⟩) :=
  ⟨ho.small, heap_strs h1 ho.vals.len ho.vals.small, heap_strs h2 ho.holds.len ho.holds.small⟩

end Go.Proofs.Ytbefjngbilakjaa

namespace Go.Proofs.Ytbefjngbilakjaa
open Go.RowKit

theorem mem_df {fs : List Fld} (h : FldsSmall fs) : ∀ f ∈ fs, f.df.size ≤ maxLen := by
  intro f hf
  obtain ⟨i, hi, rfl⟩ := List.mem_iff_getElem.1 hf
  exact (h.small i hi).1.df

theorem fill_small {ss : List Shp} {o : Ob} (hs : ShpsSmall ss) (ho : ∀ s ∈ o.vs, s.size ≤ maxLen) : ∀ s ∈ Gate.fillRes ss o, s.size ≤ maxLen := by
  unfold Gate.fillRes
  split
  · rename_i h
    have hf : FldsSmall (Gate.shapeOf ss o.kd).fs := by
      obtain ⟨hk, _, _⟩ := h
      unfold Gate.hasKind at hk
      rw [List.any_eq_true] at hk
      obtain ⟨x, hx, he⟩ := hk
      unfold Gate.shapeOf
      cases hfi : ss.find? (fun s => decide (s.kd = o.kd)) with
      | none => rw [List.find?_eq_none] at hfi; exact absurd he (hfi x hx)
      | some y =>
        obtain ⟨i, hi, rfl⟩ := List.mem_iff_getElem.1 (List.mem_of_find?_eq_some hfi)
        exact (hs.small i hi).2.2
    intro s hm
    obtain ⟨i, hi, rfl⟩ := List.mem_iff_getElem.1 hm
    have hl := Gate.fillVs_length h.2.2
    have e : (Gate.fillVs (Gate.shapeOf ss o.kd).fs o.vs)[i] = Gate.fillVal ((Gate.shapeOf ss o.kd).fs[i]'(by have := h.2.2; omega)) (o.vs[i]'(by omega)) := by simp [Gate.fillVs]
    rw [e]
    unfold Gate.fillVal
    split
    · exact mem_df hf _ (List.getElem_mem _)
    · exact ho _ (List.getElem_mem _)
  · exact ho

/-- A cut behind a region: what holds behind each way is told once. -/
theorem region_cut {P : Program} {id : Nat} {ops : Array Oper} {b : Bool} {Q : Exit → Act → World → Prop} {a : Act} {w : World} (R : Act → Act → World → Prop) (h1 : (Code.region id ops b).wp P (fun e a' w' => e = .normal ∧ R a a' w') a w) (h2 : ∀ a' w', R a a' w' → Q .normal a' w') : (Code.region id ops b).wp P Q a w :=
  Code.wp_mono (fun e a' w' ⟨he, hr⟩ => by subst he; exact h2 a' w' hr) h1

theorem put7_at {w : World} {b : Nat} {x0 x1 x2 x3 x4 x5 x6 : Value} {t : TypeId} (h : w.heap[b]? = some (.cells #[x0, x1, x2, x3, x4, x5, x6] t)) (v0 v1 v2 v3 v4 v5 v6 : Value) : (put7 w b v0 v1 v2 v3 v4 v5 v6).heap[b]? = some (.cells #[v0, v1, v2, v3, v4, v5, v6] t) := by
  unfold put7
  rw [heap_setCell_at (heap_setCell_at (heap_setCell_at (heap_setCell_at (heap_setCell_at (heap_setCell_at (heap_setCell_at h v0) v1) v2) v3) v4) v5) v6]
  rfl

theorem put7_other {w : World} {b c : Nat} (h : c ≠ b) (v0 v1 v2 v3 v4 v5 v6 : Value) : (put7 w b v0 v1 v2 v3 v4 v5 v6).heap[c]? = w.heap[c]? := by
  unfold put7
  rw [Below.heap_setCell _ _ _ _ h, Below.heap_setCell _ _ _ _ h, Below.heap_setCell _ _ _ _ h, Below.heap_setCell _ _ _ _ h, Below.heap_setCell _ _ _ _ h, Below.heap_setCell _ _ _ _ h, Below.heap_setCell _ _ _ _ h]

theorem block_cells {w : World} {b : Nat} {X : Array Value} {t : TypeId} (h : w.heap[b]? = some (.cells X t)) : ∀ j, w.cell? ⟨b, j, none⟩ = X[j]? := fun _ => cell_of_block h
theorem block_frozen {w : World} {b : Nat} {X : Array Value} {t : TypeId} (h : w.heap[b]? = some (.cells X t)) : ∀ j, w.frozen? ⟨b, j, none⟩ = false := fun _ => frozen_of_block h

theorem zero_next {w w3 : World} {b : Nat} {X : Array Value} {t : TypeId} (HZ : Hid (w.heap[b]? = some (.cells X t))) (hb : Below w.heap.size w w3) : Hid (w3.heap[b]? = some (.cells X t)) := (hb.block b (Array.getElem?_eq_some_iff.1 HZ.out).1).trans HZ.out
theorem zero_new {w w3 : World} {X : Array Value} {t : TypeId} (hb : Below (w.alloc (.cells X t)).heap.size (w.alloc (.cells X t)) w3) : Hid (w3.heap[w.heap.size]? = some (.cells X t)) := (hb.block _ (by simp)).trans (alloc_at _ _)

theorem cell_alloc_old {w : World} {ob : Obj} {b j : Nat} (h : b < w.heap.size) : (w.alloc ob).cell? ⟨b, j, none⟩ = w.cell? ⟨b, j, none⟩ := World.cell?_alloc_lt _ _ _ h
theorem cell_set7 {w : World} {b g o : Nat} (h : b ≠ g) {v0 v1 v2 v3 v4 v5 v6 : Value} : (((((((w.setCell ⟨g, 0, none⟩ v0).setCell ⟨g, 1, none⟩ v1).setCell ⟨g, 2, none⟩ v2).setCell ⟨g, 3, none⟩ v3).setCell ⟨g, 4, none⟩ v4).setCell ⟨g, 5, none⟩ v5).setCell ⟨g, 6, none⟩ v6).cell? ⟨b, o, none⟩ = w.cell? ⟨b, o, none⟩ := by
  unfold World.cell?
  have e := put7_other (w := w) h v0 v1 v2 v3 v4 v5 v6
  unfold put7 at e
  rw [e]

theorem cell_alloc_drew {w : World} {ob : Obj} {b j : Nat} (h : b < w.heap.size) : (w.alloc ob).drew.cell? ⟨b, j, none⟩ = w.cell? ⟨b, j, none⟩ := World.cell?_alloc_lt _ _ _ h
theorem zero_new' {w w3 : World} {X : Array Value} {t : TypeId} (hb : Below (w.alloc (.cells X t)).drew.heap.size (w.alloc (.cells X t)).drew w3) : Hid (w3.heap[w.heap.size]? = some (.cells X t)) := (hb.block _ (by show w.heap.size < (w.alloc (.cells X t)).heap.size; simp)).trans (alloc_at _ _)

theorem size_of {w w3 : World} (_hb : Below w.heap.size w w3) : w.heap.size = w.heap.size := rfl
theorem size_alloc_lt {w w3 : World} {ob : Obj} (_hb : Below (w.alloc ob).heap.size (w.alloc ob) w3) : w.heap.size < (w.alloc ob).heap.size := by simp

theorem TxtsOwn.ge {lo : Nat} {w : World} {a : Option Addr} {ws : List ByteArray} (h : TxtsOwn lo w a ws) : ∀ g, a = some g → lo ≤ g.block := by
  intro g hg
  subst hg
  obtain ⟨b, C, rfl, hlo, _⟩ := h.form
  exact hlo
theorem strs_form {lo : Nat} {w : World} {b : Nat} {ws : List ByteArray} (h : w.heap[b]? = some (.cells (strArr ws) 9)) (hl : lo ≤ b) : TxtsForm lo w.heap.size w b ws.length :=
  ⟨hl, (Array.getElem?_eq_some_iff.1 h).1, strArr ws, h, by simp [strArr], fun j _ => strArr_noSlice _ _⟩

theorem TxtsForm.wide {lo lo' hi : Nat} {w : World} {b n : Nat} (h : TxtsForm lo hi w b n) (hl : lo' ≤ lo) : TxtsForm lo' hi w b n := ⟨Nat.le_trans hl h.low, h.high, h.rows⟩

/-- An answer is marked. -/
theorem markFill_own (o : Ob) (vs : List ByteArray) (hvl : vs.length = o.vs.length) (lo m hi : Nat) (a a' : Option Addr) (cap cap' : Nat) (w : World) (h : TxtsOwn lo w a vs) (hm : ∀ g, a = some g → g.block < m) (hlm : lo ≤ m) (h' : TxtsOwn m w a' o.hs) (hl : o.vs.length ≤ 1048576) (hl' : o.hs.length ≤ 1048576) (hu : ∀ g, a = some g → g.block < hi) (hu' : ∀ g, a' = some g → g.block < hi) (hhi : hi ≤ w.heap.size) :
    Calls Try.prog 23 #[.agg #[.string o.kd, .string o.nm, .string o.tm, .slice a o.vs.length cap, .bool o.en, .slice a' o.hs.length cap', .int .i64 o.vr], .int .i64 1] w
      fun e w' => e = .returned (.int .i64 ((1 + o.vs.length + o.hs.length : Nat) : Int)) ∧ TxtsOwn lo w' a (markTxts 1 o.vs.length) ∧ TxtsOwn m w' a' (markTxts (1 + o.vs.length) o.hs.length) ∧ Marked lo hi w w' := by
  have h := markGateObject_own lo m hi ⟨o.kd, o.nm, o.tm, vs, o.en, o.hs, o.vr⟩ a a' cap cap' w h hm hlm h' (by rw [hvl]; exact hl) hl' hu hu' hhi
  simp only [hvl] at h
  exact h

theorem digits_size : ∀ (n : Nat) (acc : ByteArray), (Gate.digits n acc).size ≤ acc.size + n := by
  intro n
  induction n using Nat.strongRecOn with
  | ind n ih =>
    intro acc
    rcases Nat.eq_zero_or_pos n with rfl | h
    · rw [Gate.digits_zero]; omega
    · rw [Gate.digits_pos h]
      have h1 := ih (n / 10) (by omega) (Gate.digitTxt (n % 10) ++ acc)
      rw [ByteArray.size_append] at h1
      have h2 : (Gate.digitTxt (n % 10)).size = 1 := rfl
      omega

theorem markTxts_small (k n : Nat) (h : k + n < 100000000) : ∀ s ∈ markTxts k n, s.size ≤ maxLen := by
  intro s hs
  simp only [markTxts, List.mem_map, List.mem_range] at hs
  obtain ⟨i, hi, rfl⟩ := hs
  unfold Gate.markTxt
  rw [ByteArray.size_append]
  have h1 := digits_size (k + i) ByteArray.empty
  have h2 : (ByteArray.mk #[109]).size = 1 := rfl
  have h3 : ByteArray.empty.size = 0 := rfl
  unfold maxLen
  omega

/-- Two answers with the same values are equal. -/
theorem eqFill_yes (o : Ob) (vs : List ByteArray) (hvl : vs.length = o.vs.length) (a a' b b' : Option Addr) (cap cap' dap dap' : Nat) (w : World) (hsm : o.Small) (h1 : StrsAt w a vs) (h2 : StrsAt w a' o.hs) (h3 : StrsAt w b vs) (h4 : StrsAt w b' o.hs) :
    Calls Try.prog 21 #[.agg #[.string o.kd, .string o.nm, .string o.tm, .slice a o.vs.length cap, .bool o.en, .slice a' o.hs.length cap', .int .i64 o.vr], .agg #[.string o.kd, .string o.nm, .string o.tm, .slice b o.vs.length dap, .bool o.en, .slice b' o.hs.length dap', .int .i64 o.vr]] w fun e w' => e = .returned (.bool true) ∧ Below w.heap.size w w' := by
  have h := eqGateObject_yes ⟨o.kd, o.nm, o.tm, vs, o.en, o.hs, o.vr⟩ a a' b b' cap cap' dap dap' w ⟨⟨hsm.kd, hsm.nm, hsm.tm⟩, h1, h2⟩ ⟨⟨hsm.kd, hsm.nm, hsm.tm⟩, h3, h4⟩
  simp only [hvl] at h
  exact h

set_option maxHeartbeats 4000000 in
theorem lawFill_any (a0 : Option Addr) (cap0 : Nat) (ss : List Shp) (o : Ob) (a a' : Option Addr) (cap cap' : Nat) (w : World) (hw : ShpsAt w a0 ss) (ho : ObAt w o a a') :
    Calls Try.prog 5 #[.slice a0 ss.length cap0, .agg #[.string o.kd, .string o.nm, .string o.tm, .slice a o.vs.length cap, .bool o.en, .slice a' o.hs.length cap', .int .i64 o.vr]] w fun e w' => e = .returned (.bool true) ∧ Below w.heap.size w w' := by
  have hb0 : Below w.heap.size w (w.alloc (.cells #[.string o.kd, .string o.nm, .string o.tm, .slice a o.vs.length cap, .bool o.en, .slice a' o.hs.length cap', .int .i64 o.vr] 39)) := (Below.refl _ _).alloc (Nat.le_refl _) _
  by_cases hsz : (shpsSz ss : Int) ≤ 1048576
  rotate_left
  · go_enter Try.func5, Try.ntmps5
    go_wp2_with fail
    refine (szGateShapeS_any _ _ _ _ _ (hw.mono hb0) (by omega) (by omega)).mono ?_
    rintro e w1 ⟨rfl, hb1⟩
    rw [szRes_no (by omega)]
    go_wp2_with fail
    go_ret
    exact ⟨rfl, hb0.trans (hb1.mono (by simp))⟩
  have HLS : Hid (ss.length ≤ 1048576 ∧ ∀ i (h : i < ss.length), ss[i].fs.length ≤ 1048576 ∧ ∀ j (h' : j < ss[i].fs.length), ss[i].fs[j].ws.length ≤ 1048576) := shps_few hsz
  have hneg : decide (1048576 - (shpsSz ss : Int) < 0) = false := by simp; omega
  by_cases hoz : (obSz o : Int) ≤ 1048576 - (shpsSz ss : Int)
  rotate_left
  · go_enter Try.func5, Try.ntmps5
    go_wp2_with fail
    refine (szGateShapeS_any _ _ _ _ _ (hw.mono hb0) (by omega) (by omega)).mono ?_
    rintro e w1 ⟨rfl, hb1⟩
    rw [szRes_yes hsz]
    have hX1 := box_later (box_new w _ _) (by simp) hb1
    have hB1 := hb0.trans (hb1.mono (by simp))
    clear hb1 hb0
    go_wp2_with fail
    refine (szGateObject_any _ _ _ _ _ _ _ (ho.mono hB1) (by omega) (by omega)).mono ?_
    rintro e w2 ⟨rfl, hb2⟩
    rw [szRes_no (by omega)]
    go_wp2_with fail
    go_ret
    exact ⟨rfl, hB1.trans (hb2.mono hB1.size)⟩
  have HLO : Hid (o.vs.length ≤ 1048576 ∧ o.hs.length ≤ 1048576) := ob_few hoz (by omega)
  have hneg' : decide (1048576 - (shpsSz ss : Int) - (obSz o : Int) < 0) = false := by simp; omega
  have HML : Hid (ss.length ≤ maxLen) := hw.len
  have HSM : Hid (ShpsSmall ss) := hw.smalls
  have HFS : Hid ((Gate.fillRes ss o).length = o.vs.length ∧ (Gate.fillRes ss o).length ≤ maxLen ∧ (∀ s ∈ Gate.fillRes ss o, s.size ≤ maxLen)) := ⟨Gate.fillRes_length ss o, by rw [Gate.fillRes_length]; exact ho.vals.len, fill_small hw.smalls ho.vals.small⟩
  have HHS : Hid (o.hs.length ≤ maxLen ∧ ∀ s ∈ o.hs, s.size ≤ maxLen) := ⟨ho.holds.len, ho.holds.small⟩
  have HWW : Hid (ShpsAt w a0 ss) := hw
  have HOO : Hid (ObAt w o a a') := ho
  generalize hvs : Gate.fillRes ss o = vs at HFS
  clear hw ho
  go_enter Try.func5, Try.ntmps5
  go_wp2_with fail
  refine (szGateShapeS_any _ _ _ _ _ (HWW.out.mono hb0) (by omega) (by omega)).mono ?_
  rintro e w1 ⟨rfl, hb1⟩
  rw [szRes_yes hsz]
  have hX1 := box_later (box_new w _ _) (by simp) hb1
  have hz1 : w.heap.size < w1.heap.size := by have := hb1.size; simp at this; omega
  have hB1 := hb0.trans (hb1.mono (by simp))
  clear hb1 hb0
  go_wp2_with fail
  refine (szGateObject_any _ _ _ _ _ _ _ (HOO.out.mono hB1) (by omega) (by omega)).mono ?_
  rintro e w2 ⟨rfl, hb2⟩
  rw [szRes_yes hoz]
  have hX2 := box_later hX1 hz1 hb2
  have hz2 : w.heap.size < w2.heap.size := by have := hb2.size; omega
  have hB2 := hB1.trans (hb2.mono hB1.size)
  clear hX1 hz1 hB1 hb2
  go_wp2_with fail
  have hB := hB2
  have hX := hX2
  have hz := hz2
  have HBB : Hid (Below w.heap.size w w2) := hB2
  clear hB2 hX2 hz2 hB
  have hS3 : Below w2.heap.size w2 w2.drew := (Below.refl _ _).drew
  have hXc := box_later hX hz hS3
  have hzc : w.heap.size < w2.drew.heap.size := hz
  refine region_cut (fun A A' w' => ∃ u24 u25 u26 u27 u28 bP aP dP aP' dP' mP, A' = ((((((A.put (some 24) u24).put (some 25) u25).put (some 26) u26).put (some 27) u27).put (some 28) u28).put (some 6) (.pointer (some ⟨bP, 0, none⟩))) ∧ w2.heap.size ≤ bP ∧ w'.heap[bP]? = some (.cells #[.string o.kd, .string o.nm, .string o.tm, .slice aP o.vs.length dP, .bool o.en, .slice aP' o.hs.length dP', .int .i64 o.vr] 41) ∧ TxtsOwn w2.heap.size w' aP vs ∧ (∀ g, aP = some g → g.block < mP) ∧ w2.heap.size ≤ mP ∧ TxtsOwn mP w' aP' o.hs ∧ Below w2.heap.size w2 w') ?_ ?_
  · go_region_held3 (fun w' => ∀ j, w'.cell? ⟨w.heap.size, j, none⟩ = (#[.string o.kd, .string o.nm, .string o.tm, .slice a o.vs.length cap, .bool o.en, .slice a' o.hs.length cap', .int .i64 o.vr] : Array Value)[j]?) (first | (intro j; rw [hXc]) | (intro j; rw [cell_alloc_old hzc, hXc]) | (intro j; rw [cell_set7 hnZ, hXc]) | (intro j; rw [cell_alloc_drew hz, hX])) (first
      | (go_at_call 14; refine (toGateShapeS_any _ _ _ _ (HWW.out.mono (by first | exact HBB.out.trans (hS3.mono HBB.out.size) | exact HBB.out.trans ((hS3.alloc hS3.size _).mono HBB.out.size) | exact HBB.out.trans ((((Below.refl w2.heap.size w2).alloc (Nat.le_refl _) (.cells #[.string ByteArray.empty, .string ByteArray.empty, .string ByteArray.empty, .slice none 0 0, .bool false, .slice none 0 0, .int .i64 0] 41)).drew).mono HBB.out.size))) HLS.out.1 HLS.out.2).mono ?_; rintro e w3 ⟨rfl, hown, hb⟩; have hsN := hown.at HSM.out HML.out; clear hown; (try simp at hsN); (first | (have hN := hS3.trans (hb.mono hS3.size); (try have HZ := zero_next HZ hb)) | (have hA := hS3.alloc hS3.size (.cells #[.string ByteArray.empty, .string ByteArray.empty, .string ByteArray.empty, .slice none 0 0, .bool false, .slice none 0 0, .int .i64 0] 41); have hN := hA.trans (hb.mono hA.size); have hlZ := hS3.size; have HZ := zero_new hb; clear hA) | (have hA := ((Below.refl w2.heap.size w2).alloc (Nat.le_refl _) (.cells #[.string ByteArray.empty, .string ByteArray.empty, .string ByteArray.empty, .slice none 0 0, .bool false, .slice none 0 0, .int .i64 0] 41)).drew; have hN := hA.trans (hb.mono hA.size); have hlZ := Nat.le_refl w2.heap.size; have HZ := zero_new' hb; clear hA)); (try have hZc := block_cells HZ.out); (try have hZf := block_frozen HZ.out);  have hS3 := hN; have hXc := box_later hX hz hS3; have hzc := Nat.lt_of_lt_of_le hz hS3.size; (try have hnZ := Nat.ne_of_lt (Nat.lt_of_lt_of_le hz hlZ)); clear hN hb; have hs := hsN; clear hsN)
      | (go_at_call 19; refine (toGateObject_any _ _ _ _ _ _ (HOO.out.mono (by first | exact HBB.out.trans (hS3.mono HBB.out.size) | exact HBB.out.trans ((hS3.alloc hS3.size _).mono HBB.out.size) | exact HBB.out.trans ((((Below.refl w2.heap.size w2).alloc (Nat.le_refl _) (.cells #[.string ByteArray.empty, .string ByteArray.empty, .string ByteArray.empty, .slice none 0 0, .bool false, .slice none 0 0, .int .i64 0] 41)).drew).mono HBB.out.size))) HLO.out.1 HLO.out.2).mono ?_; rintro e w3 ⟨bv3, bh3, rfl, hlo, hhi, hne, hv3, hh3, hb⟩; have hoN := ob_own HOO.out hv3 hh3; clear hlo hhi hne hv3 hh3; have hs := (by first | exact hs.mono hb | exact (hs.mono ((Below.refl _ _).alloc (Nat.le_refl _) _)).mono hb : ShpsAt w3 _ ss); (first | (have hN := hS3.trans (hb.mono hS3.size); (try have HZ := zero_next HZ hb)) | (have hA := hS3.alloc hS3.size (.cells #[.string ByteArray.empty, .string ByteArray.empty, .string ByteArray.empty, .slice none 0 0, .bool false, .slice none 0 0, .int .i64 0] 41); have hN := hA.trans (hb.mono hA.size); have hlZ := hS3.size; have HZ := zero_new hb; clear hA) | (have hA := ((Below.refl w2.heap.size w2).alloc (Nat.le_refl _) (.cells #[.string ByteArray.empty, .string ByteArray.empty, .string ByteArray.empty, .slice none 0 0, .bool false, .slice none 0 0, .int .i64 0] 41)).drew; have hN := hA.trans (hb.mono hA.size); have hlZ := Nat.le_refl w2.heap.size; have HZ := zero_new' hb; clear hA)); (try have hZc := block_cells HZ.out); (try have hZf := block_frozen HZ.out);  have hS3 := hN; have hXc := box_later hX hz hS3; have hzc := Nat.lt_of_lt_of_le hz hS3.size; (try have hnZ := Nat.ne_of_lt (Nat.lt_of_lt_of_le hz hlZ)); clear hN hb; have hoo := hoN; clear hoN)
      | (go_at_call 18; refine (specFill_any _ _ _ _ _ _ _ _ _ _ _ (by first | exact hs | exact hs.mono ((Below.refl _ _).alloc (Nat.le_refl _) _)) (by first | exact hoo | exact hoo.mono ((Below.refl _ _).alloc (Nat.le_refl _) _)) HLO.out.1 HLO.out.2).mono ?_; rintro e w3 ⟨aP, dP, aP', dP', mP, rfl, hT, hm, hl, hT', hb⟩; rw [hvs] at hT; (first | (have hloW : w2.heap.size ≤ _ := Nat.le_trans hS3.size (Nat.le_of_eq (size_of hb))) | (have hloW : w2.heap.size ≤ _ := Nat.le_trans (hS3.alloc hS3.size (.cells #[.string ByteArray.empty, .string ByteArray.empty, .string ByteArray.empty, .slice none 0 0, .bool false, .slice none 0 0, .int .i64 0] 41)).size (Nat.le_of_eq (size_of hb)))); (try have hbW := (Array.getElem?_eq_some_iff.1 HZ.out).1); (try have hbW := size_alloc_lt hb); clear hs hoo; (first | (have hN := hS3.trans (hb.mono hS3.size); (try have HZ := zero_next HZ hb)) | (have hA := hS3.alloc hS3.size (.cells #[.string ByteArray.empty, .string ByteArray.empty, .string ByteArray.empty, .slice none 0 0, .bool false, .slice none 0 0, .int .i64 0] 41); have hN := hA.trans (hb.mono hA.size); have hlZ := hS3.size; have HZ := zero_new hb; clear hA) | (have hA := ((Below.refl w2.heap.size w2).alloc (Nat.le_refl _) (.cells #[.string ByteArray.empty, .string ByteArray.empty, .string ByteArray.empty, .slice none 0 0, .bool false, .slice none 0 0, .int .i64 0] 41)).drew; have hN := hA.trans (hb.mono hA.size); have hlZ := Nat.le_refl w2.heap.size; have HZ := zero_new' hb; clear hA)); (try have hZc := block_cells HZ.out); (try have hZf := block_frozen HZ.out);  have hS3 := hN; have hXc := box_later hX hz hS3; have hzc := Nat.lt_of_lt_of_le hz hS3.size; (try have hnZ := Nat.ne_of_lt (Nat.lt_of_lt_of_le hz hlZ)); clear hN hb))
    · exact ⟨rfl, _, _, _, _, _, _, _, _, _, _, _, rfl, hS3.size, alloc_at _ _, (hT.low hloW).mono ((Below.refl _ _).alloc (Nat.le_refl _) _), hm, Nat.le_trans hloW hl, hT'.mono ((Below.refl _ _).alloc (Nat.le_refl _) _), hS3.alloc hS3.size _⟩
    all_goals exact ⟨rfl, _, _, _, _, _, _, _, _, _, _, _, rfl, hlZ, put7_at HZ.out _ _ _ _ _ _ _, (put7_own hT _ hbW _ _ _ _ _ _ _).low hloW, hm, Nat.le_trans hloW hl, put7_own hT' _ (Nat.lt_of_lt_of_le hbW hl) _ _ _ _ _ _ _, put7_below hS3 _ hlZ _ _ _ _ _ _ _⟩
  rintro A' w3 ⟨u24, u25, u26, u27, u28, bP, aP, dP, aP', dP', mP, rfl, hbP, hKP, hTP, hmP, hlP, hTP', hBelowP⟩
  simp only [Act.put, List.setIfInBounds_toArray, List.set_cons_zero, List.set_cons_succ]
  have hX3 := box_later hX hz hBelowP
  have HB3 : Hid (Below w.heap.size w w3) := HBB.out.trans (hBelowP.mono HBB.out.size)
  have hz3 : w.heap.size < w3.heap.size := Nat.lt_of_lt_of_le hz hBelowP.size
  have HTP : Hid (TxtsOwn w2.heap.size w3 aP vs ∧ TxtsOwn mP w3 aP' o.hs) := ⟨hTP, hTP'⟩
  have HKP : Hid (w3.heap[bP]? = some (.cells #[.string o.kd, .string o.nm, .string o.tm, .slice aP o.vs.length dP, .bool o.en, .slice aP' o.hs.length dP', .int .i64 o.vr] 41)) := hKP
  have hzP : bP < w3.heap.size := (Array.getElem?_eq_some_iff.1 hKP).1
  clear hS3 hXc hzc hX hz hBelowP hTP hTP' hKP hmP hlP hbP
  go_wp2_with fail
  refine (toGateShapeS_any _ _ _ _ (HWW.out.mono HB3.out) HLS.out.1 HLS.out.2).mono ?_
  rintro e w4 ⟨rfl, hown, hb4⟩
  have HS4 : Hid (ShpsOwn w3.heap.size w4 w3.heap.size ss ss.length) := hown
  have hX4 := box_later hX3 hz3 hb4
  have HB4 : Hid (Below w.heap.size w w4) := HB3.out.trans (hb4.mono HB3.out.size)
  have HB34 : Hid (Below w3.heap.size w3 w4) := hb4
  clear hown hX3 hb4
  go_wp2_with fail
  refine (toGateObject_any _ _ _ _ _ _ (HOO.out.mono HB4.out) HLO.out.1 HLO.out.2).mono ?_
  rintro e w5 ⟨bv1, bh1, rfl, hlv, hlh, hne1, hv1, hh1, hb5⟩
  have HU5 : Hid (w5.heap[bv1]? = some (.cells (strArr o.vs) 9) ∧ w5.heap[bh1]? = some (.cells (strArr o.hs) 9) ∧ w4.heap.size ≤ bv1 ∧ w4.heap.size ≤ bh1) := ⟨hv1, hh1, hlv, hlh⟩
  have HB45 : Hid (Below w4.heap.size w4 w5) := hb5
  have HA5 : Hid (Below w5.heap.size w5 (w5.alloc (.cells #[.string o.kd, .string o.nm, .string o.tm, .slice (some ⟨bv1, 0, none⟩) o.vs.length o.vs.length, .bool o.en, .slice (some ⟨bh1, 0, none⟩) o.hs.length o.hs.length, .int .i64 o.vr] 41))) := (Below.refl _ _).alloc (Nat.le_refl _) _
  clear hlv hlh hne1 hv1 hh1 hb5
  go_wp2_with fail
  refine (implFill_any _ _ ss o bv1 0 bh1 0 _ _ _ (by exact ((HS4.out.at HSM.out HML.out).mono HB45.out).mono HA5.out) (by exact (ob_own HOO.out HU5.out.1 HU5.out.2.1).mono HA5.out) HLO.out.1 HLO.out.2).mono ?_
  rintro e w6 ⟨aG, dG, aG', dG', mG, rfl, hTG, hmG, hlG, hTG', hb6⟩
  rw [hvs] at hTG
  have HTG : Hid (TxtsOwn (w5.heap.size + 1) w6 aG vs ∧ (∀ g, aG = some g → g.block < mG) ∧ w5.heap.size + 1 ≤ mG ∧ TxtsOwn mG w6 aG' o.hs) := by
    simp only [World.size_alloc] at hTG hlG
    exact ⟨hTG, hmG, hlG, hTG'⟩
  have HB56 : Hid (Below (w5.heap.size + 1) (w5.alloc (.cells #[.string o.kd, .string o.nm, .string o.tm, .slice (some ⟨bv1, 0, none⟩) o.vs.length o.vs.length, .bool o.en, .slice (some ⟨bh1, 0, none⟩) o.hs.length o.hs.length, .int .i64 o.vr] 41)) w6) := by simpa [Hid] using hb6
  clear hTG hmG hlG hTG' hb6
  have hsz56 : w5.heap.size < w6.heap.size := by have := HB56.out.size; simp at this; omega
  have hsz45 : w4.heap.size ≤ w5.heap.size := HB45.out.size
  have hsz34 : w3.heap.size ≤ w4.heap.size := HB34.out.size
  have HAG : Hid (Below w6.heap.size w6 (w6.alloc (.cells #[.string o.kd, .string o.nm, .string o.tm, .slice aG o.vs.length dG, .bool o.en, .slice aG' o.hs.length dG', .int .i64 o.vr] 41))) := (Below.refl _ _).alloc (Nat.le_refl _) _
  have HB5g : Hid (Below w5.heap.size w5 (w6.alloc (.cells #[.string o.kd, .string o.nm, .string o.tm, .slice aG o.vs.length dG, .bool o.en, .slice aG' o.hs.length dG', .int .i64 o.vr] 41))) := (HA5.out.trans (HB56.out.mono (by omega))).trans (HAG.out.mono (by omega))
  have HB4g : Hid (Below w4.heap.size w4 (w6.alloc (.cells #[.string o.kd, .string o.nm, .string o.tm, .slice aG o.vs.length dG, .bool o.en, .slice aG' o.hs.length dG', .int .i64 o.vr] 41))) := HB45.out.trans (HB5g.out.mono hsz45)
  have HB3g : Hid (Below w3.heap.size w3 (w6.alloc (.cells #[.string o.kd, .string o.nm, .string o.tm, .slice aG o.vs.length dG, .bool o.en, .slice aG' o.hs.length dG', .int .i64 o.vr] 41))) := HB34.out.trans (HB4g.out.mono hsz34)
  have HBg : Hid (Below w.heap.size w (w6.alloc (.cells #[.string o.kd, .string o.nm, .string o.tm, .slice aG o.vs.length dG, .bool o.en, .slice aG' o.hs.length dG', .int .i64 o.vr] 41))) := HB3.out.trans (HB3g.out.mono HB3.out.size)
  have HKU : Hid ((w6.alloc (.cells #[.string o.kd, .string o.nm, .string o.tm, .slice aG o.vs.length dG, .bool o.en, .slice aG' o.hs.length dG', .int .i64 o.vr] 41)).heap[w5.heap.size]? = some (.cells #[.string o.kd, .string o.nm, .string o.tm, .slice (some ⟨bv1, 0, none⟩) o.vs.length o.vs.length, .bool o.en, .slice (some ⟨bh1, 0, none⟩) o.hs.length o.hs.length, .int .i64 o.vr] 41)) := (HAG.out.block _ hsz56).trans ((HB56.out.block w5.heap.size (Nat.lt_succ_self _)).trans (alloc_at _ _))
  have HKG : Hid ((w6.alloc (.cells #[.string o.kd, .string o.nm, .string o.tm, .slice aG o.vs.length dG, .bool o.en, .slice aG' o.hs.length dG', .int .i64 o.vr] 41)).heap[w6.heap.size]? = some (.cells #[.string o.kd, .string o.nm, .string o.tm, .slice aG o.vs.length dG, .bool o.en, .slice aG' o.hs.length dG', .int .i64 o.vr] 41)) := alloc_at _ _
  have HKPg : Hid ((w6.alloc (.cells #[.string o.kd, .string o.nm, .string o.tm, .slice aG o.vs.length dG, .bool o.en, .slice aG' o.hs.length dG', .int .i64 o.vr] 41)).heap[bP]? = some (.cells #[.string o.kd, .string o.nm, .string o.tm, .slice aP o.vs.length dP, .bool o.en, .slice aP' o.hs.length dP', .int .i64 o.vr] 41)) := (HB3g.out.block bP hzP).trans HKP.out
  have HTPg : Hid (TxtsOwn w2.heap.size (w6.alloc (.cells #[.string o.kd, .string o.nm, .string o.tm, .slice aG o.vs.length dG, .bool o.en, .slice aG' o.hs.length dG', .int .i64 o.vr] 41)) aP vs ∧ TxtsOwn mP (w6.alloc (.cells #[.string o.kd, .string o.nm, .string o.tm, .slice aG o.vs.length dG, .bool o.en, .slice aG' o.hs.length dG', .int .i64 o.vr] 41)) aP' o.hs ∧ (∀ g, aP = some g → g.block < w3.heap.size) ∧ ∀ g, aP' = some g → g.block < w3.heap.size) := ⟨HTP.out.1.mono HB3g.out, HTP.out.2.mono HB3g.out, HTP.out.1.lt, HTP.out.2.lt⟩
  have HTGg : Hid (TxtsOwn (w5.heap.size + 1) (w6.alloc (.cells #[.string o.kd, .string o.nm, .string o.tm, .slice aG o.vs.length dG, .bool o.en, .slice aG' o.hs.length dG', .int .i64 o.vr] 41)) aG vs ∧ TxtsOwn mG (w6.alloc (.cells #[.string o.kd, .string o.nm, .string o.tm, .slice aG o.vs.length dG, .bool o.en, .slice aG' o.hs.length dG', .int .i64 o.vr] 41)) aG' o.hs ∧ (∀ g, aG = some g → w5.heap.size + 1 ≤ g.block ∧ g.block < w6.heap.size) ∧ ∀ g, aG' = some g → w5.heap.size + 1 ≤ g.block ∧ g.block < w6.heap.size) := ⟨HTG.out.1.mono HAG.out, HTG.out.2.2.2.mono HAG.out, fun g hg => ⟨HTG.out.1.ge g hg, HTG.out.1.lt g hg⟩, fun g hg => ⟨Nat.le_trans HTG.out.2.2.1 (HTG.out.2.2.2.ge g hg), HTG.out.2.2.2.lt g hg⟩⟩
  have HGM : Hid ((∀ g, aG = some g → g.block < mG) ∧ w5.heap.size + 1 ≤ mG) := ⟨HTG.out.2.1, HTG.out.2.2.1⟩
  have HX0 : Hid (ShpsAt (w6.alloc (.cells #[.string o.kd, .string o.nm, .string o.tm, .slice aG o.vs.length dG, .bool o.en, .slice aG' o.hs.length dG', .int .i64 o.vr] 41)) (some ⟨w3.heap.size, 0, none⟩) ss ∧ ShpsForm w3.heap.size w4.heap.size (w6.alloc (.cells #[.string o.kd, .string o.nm, .string o.tm, .slice aG o.vs.length dG, .bool o.en, .slice aG' o.hs.length dG', .int .i64 o.vr] 41)) w3.heap.size ss) := ⟨(HS4.out.at HSM.out HML.out).mono HB4g.out, HS4.out.form.mono (Marked.of_below HB4g.out)⟩
  have HX1 : Hid (ObAt (w6.alloc (.cells #[.string o.kd, .string o.nm, .string o.tm, .slice aG o.vs.length dG, .bool o.en, .slice aG' o.hs.length dG', .int .i64 o.vr] 41)) o (some ⟨bv1, 0, none⟩) (some ⟨bh1, 0, none⟩) ∧ TxtsForm w4.heap.size w5.heap.size (w6.alloc (.cells #[.string o.kd, .string o.nm, .string o.tm, .slice aG o.vs.length dG, .bool o.en, .slice aG' o.hs.length dG', .int .i64 o.vr] 41)) bv1 o.vs.length ∧ TxtsForm w4.heap.size w5.heap.size (w6.alloc (.cells #[.string o.kd, .string o.nm, .string o.tm, .slice aG o.vs.length dG, .bool o.en, .slice aG' o.hs.length dG', .int .i64 o.vr] 41)) bh1 o.hs.length) :=
    ⟨(ob_own HOO.out HU5.out.1 HU5.out.2.1).mono HB5g.out, (strs_form HU5.out.1 HU5.out.2.2.1).mono (Marked.of_below HB5g.out), (strs_form HU5.out.2.1 HU5.out.2.2.2).mono (Marked.of_below HB5g.out)⟩
  have hXg : ∀ j, (w6.alloc (.cells #[.string o.kd, .string o.nm, .string o.tm, .slice aG o.vs.length dG, .bool o.en, .slice aG' o.hs.length dG', .int .i64 o.vr] 41)).cell? ⟨w.heap.size, j, none⟩ = (#[.string o.kd, .string o.nm, .string o.tm, .slice a o.vs.length cap, .bool o.en, .slice a' o.hs.length cap', .int .i64 o.vr] : Array Value)[j]? := box_later hX4 (by omega) HB4g.out
  have HXX : Hid (∀ j, (w6.alloc (.cells #[.string o.kd, .string o.nm, .string o.tm, .slice aG o.vs.length dG, .bool o.en, .slice aG' o.hs.length dG', .int .i64 o.vr] 41)).cell? ⟨w.heap.size, j, none⟩ = (#[.string o.kd, .string o.nm, .string o.tm, .slice a o.vs.length cap, .bool o.en, .slice a' o.hs.length cap', .int .i64 o.vr] : Array Value)[j]?) := hXg
  have hPg := block_cells HKPg.out
  have hGg := block_cells HKG.out
  clear hX4
  clear HTP HKP HS4 HB4 HU5 HA5 HTG HB56 HAG HB34 HB45
  generalize hWg : w6.alloc (.cells #[.string o.kd, .string o.nm, .string o.tm, .slice aG o.vs.length dG, .bool o.en, .slice aG' o.hs.length dG', .int .i64 o.vr] 41) = Wg at *
  have hzG : w6.heap.size < Wg.heap.size := (Array.getElem?_eq_some_iff.1 HKG.out).1
  have HVS : Hid (∀ W, TxtsOwn w2.heap.size W aP vs ∧ TxtsOwn mP W aP' o.hs → StrsAt W aP vs ∧ StrsAt W aP' o.hs) := fun W h => ⟨h.1.at HFS.out.2.1 HFS.out.2.2, h.2.at HHS.out.1 HHS.out.2⟩
  have HGS : Hid (∀ W, TxtsOwn (w5.heap.size + 1) W aG vs ∧ TxtsOwn mG W aG' o.hs → StrsAt W aG vs ∧ StrsAt W aG' o.hs) := fun W h => ⟨h.1.at HFS.out.2.1 HFS.out.2.2, h.2.at HHS.out.1 HHS.out.2⟩
  go_wp2_with fail
  have hvP := HVS.out Wg ⟨HTPg.out.1, HTPg.out.2.1⟩
  have hvG := HGS.out Wg ⟨HTGg.out.1, HTGg.out.2.1⟩
  refine (eqFill_yes o vs HFS.out.1 _ _ _ _ _ _ _ _ _ HOO.out.small hvG.1 hvG.2 hvP.1 hvP.2).mono ?_
  rintro e w7 ⟨rfl, hb7⟩
  have HB7 : Hid (Below Wg.heap.size Wg w7) := hb7
  have hX7 := box_later hXg (by omega) hb7
  clear hb7 hvP hvG hXg hPg hGg hWg
  go_wp2_with fail
  refine (toGateShapeS_any _ _ _ _ (HWW.out.mono (HBg.out.trans (HB7.out.mono HBg.out.size))) HLS.out.1 HLS.out.2).mono ?_
  rintro e w8 ⟨rfl, hown, hb8⟩
  have HB8 : Hid (Below Wg.heap.size Wg w8) := HB7.out.trans (hb8.mono HB7.out.size)
  have HQ8 : Hid (ShpsAt w8 (some ⟨w7.heap.size, 0, none⟩) ss) := hown.at HSM.out HML.out
  clear hb8 hown hX7
  go_wp2_with fail
  refine (eqGateShapeS_yes _ _ _ _ _ _ (HX0.out.1.mono HB8.out) HQ8.out).mono ?_
  rintro e w9 ⟨rfl, hb9⟩
  have HB9 : Hid (Below Wg.heap.size Wg w9) := HB8.out.trans (hb9.mono HB8.out.size)
  have hSW : Below Wg.heap.size Wg w9.drew := HB9.out.drew
  have hXw : ∀ j, w9.drew.cell? ⟨w.heap.size, j, none⟩ = (#[.string o.kd, .string o.nm, .string o.tm, .slice a o.vs.length cap, .bool o.en, .slice a' o.hs.length cap', .int .i64 o.vr] : Array Value)[j]? := box_later HXX.out (by omega) hSW
  have hUw := box_later (block_cells HKU.out) (by omega) hSW
  clear hb9 HB7 HB8 HQ8
  go_wp2_with fail
  go_region_held3 (fun w' => (∀ j, w'.cell? ⟨w.heap.size, j, none⟩ = (#[.string o.kd, .string o.nm, .string o.tm, .slice a o.vs.length cap, .bool o.en, .slice a' o.hs.length cap', .int .i64 o.vr] : Array Value)[j]?) ∧ ∀ j, w'.cell? ⟨w5.heap.size, j, none⟩ = (#[.string o.kd, .string o.nm, .string o.tm, .slice (some ⟨bv1, 0, none⟩) o.vs.length o.vs.length, .bool o.en, .slice (some ⟨bh1, 0, none⟩) o.hs.length o.hs.length, .int .i64 o.vr] : Array Value)[j]?) (exact ⟨hXw, hUw⟩) (first
    | (go_at_call 19; refine (toGateObject_any o _ _ _ _ _ (by exact HOO.out.mono (HBg.out.trans (hSW.mono HBg.out.size))) HLO.out.1 HLO.out.2).mono ?_; rintro e w10 ⟨bv, bh, rfl, hlo, hhi, hne, hv', hh, hb⟩; have hq := ob_own HOO.out hv' hh; clear hlo hhi hne hv' hh; have hSW := hSW.trans (hb.mono hSW.size); have hXw : ∀ j, w10.cell? ⟨w.heap.size, j, none⟩ = (#[.string o.kd, .string o.nm, .string o.tm, .slice a o.vs.length cap, .bool o.en, .slice a' o.hs.length cap', .int .i64 o.vr] : Array Value)[j]? := box_later HXX.out (by omega) hSW; have hUw := box_later (block_cells HKU.out) (by omega) hSW; clear hb)
    | (go_at_call 21; refine (eqGateObject_yes _ _ _ _ _ _ _ _ _ _ (by exact HX1.out.1.mono hSW) (by exact hq)).mono ?_; rintro e w11 ⟨rfl, hb⟩; clear hq; have hSW := hSW.trans (hb.mono hSW.size); have hXw : ∀ j, w11.cell? ⟨w.heap.size, j, none⟩ = (#[.string o.kd, .string o.nm, .string o.tm, .slice a o.vs.length cap, .bool o.en, .slice a' o.hs.length cap', .int .i64 o.vr] : Array Value)[j]? := box_later HXX.out (by omega) hSW; have hUw := box_later (block_cells HKU.out) (by omega) hSW; clear hb))
  go_wp2_with fail
  have HB11 : Hid (Below Wg.heap.size Wg w11) := hSW
  clear hSW hXw hUw
  refine (markGateShapeS_any w3.heap.size w4.heap.size w3.heap.size _ ss 1 w11 (HX0.out.2.mono (Marked.of_below HB11.out)) HLS.out.1 HLS.out.2 (by omega) (by omega)).mono ?_
  rintro e w12 ⟨k1, rfl, hk1, hk1', hM12⟩
  have HM12 : Hid (Marked w3.heap.size w5.heap.size Wg w12) := (Marked.of_below HB11.out).trans (hM12.wide (Nat.le_refl _) hsz45)
  have HK1 : Hid (0 < k1 ∧ k1 < 7000000000000000000) := by have := HLS.out.1; exact ⟨by omega, by omega⟩
  have hU12 := HM12.out.box (block_cells HKU.out) (by omega) (Or.inr (Nat.le_refl _))
  clear hk1 hk1' hM12 HB11 HX0
  go_wp2_with fail
  refine (markGateObject_form w3.heap.size w5.heap.size o bv1 bh1 _ _ k1 w12 (TxtsForm.mono (HX1.out.2.1.wide hsz34) HM12.out) (TxtsForm.mono (HX1.out.2.2.wide hsz34) HM12.out) HLO.out.1 HLO.out.2 (by have := HM12.out.size; omega) HK1.out.1 HK1.out.2).mono ?_
  rintro e w13 ⟨k2, rfl, hk2, hM13⟩
  have HM13 : Hid (Marked w3.heap.size w5.heap.size Wg w13) := HM12.out.trans hM13
  have hk2n : decide (k2 < 0) = false := by simp; omega
  have hP13 := HM13.out.box (block_cells HKPg.out) (by omega) (Or.inl hzP)
  have hG13 := HM13.out.box (block_cells HKG.out) (by omega) (Or.inr (by omega))
  clear hk2 hM13 hU12 HM12 HX1 HK1
  go_wp2_with fail
  have hvP := HVS.out w13 ⟨HM13.out.txts HTPg.out.1 (fun g hg => Or.inl (HTPg.out.2.2.1 g hg)), HM13.out.txts HTPg.out.2.1 (fun g hg => Or.inl (HTPg.out.2.2.2 g hg))⟩
  have hvG := HGS.out w13 ⟨HM13.out.txts HTGg.out.1 (fun g hg => Or.inr (by have := (HTGg.out.2.2.1 g hg).1; omega)), HM13.out.txts HTGg.out.2.1 (fun g hg => Or.inr (by have := (HTGg.out.2.2.2 g hg).1; omega))⟩
  refine (eqFill_yes o vs HFS.out.1 _ _ _ _ _ _ _ _ _ HOO.out.small hvG.1 hvG.2 hvP.1 hvP.2).mono ?_
  rintro e w14 ⟨rfl, hb14⟩
  have HM14 : Hid (Marked w3.heap.size w5.heap.size Wg w14) := HM13.out.trans (Marked.of_below hb14)
  have hG14 := HM14.out.box (block_cells HKG.out) (by omega) (Or.inr (by omega))
  clear hb14 hvP hvG hP13 hG13 HM13
  go_wp2_with fail
  refine (markFill_own o vs HFS.out.1 (w5.heap.size + 1) mG w6.heap.size aG aG' _ _ w14 (HM14.out.txts HTGg.out.1 (fun g hg => Or.inr (by have := (HTGg.out.2.2.1 g hg).1; omega))) HGM.out.1 HGM.out.2 (HM14.out.txts HTGg.out.2.1 (fun g hg => Or.inr (by have := (HTGg.out.2.2.2 g hg).1; omega))) HLO.out.1 HLO.out.2 (fun g hg => (HTGg.out.2.2.1 g hg).2) (fun g hg => (HTGg.out.2.2.2 g hg).2) (by have := HM14.out.size; omega)).mono ?_
  rintro e w15 ⟨rfl, ht15, ht15', hM15⟩
  have HM15 : Hid (Marked w3.heap.size w6.heap.size Wg w15) := (HM14.out.wide (Nat.le_refl _) (by omega)).trans (hM15.wide (by omega) (Nat.le_refl _))
  have HQ : Hid (TxtsOwn (w5.heap.size + 1) w15 aG (markTxts 1 o.vs.length) ∧ TxtsOwn mG w15 aG' (markTxts (1 + o.vs.length) o.hs.length)) := ⟨ht15, ht15'⟩
  have hG15 := HM15.out.box (block_cells HKG.out) (by omega) (Or.inr (Nat.le_refl _))
  clear ht15 ht15' hM15 hG14 HM14
  go_wp2_with fail
  have HQS : Hid (∀ W, TxtsOwn (w5.heap.size + 1) W aG (markTxts 1 o.vs.length) ∧ TxtsOwn mG W aG' (markTxts (1 + o.vs.length) o.hs.length) → StrsAt W aG (markTxts 1 o.vs.length) ∧ StrsAt W aG' (markTxts (1 + o.vs.length) o.hs.length)) := fun W h => by
    have h1 := HLO.out.1
    have h2 := HLO.out.2
    exact ⟨h.1.at (by rw [markTxts_length]; unfold maxLen; omega) (markTxts_small _ _ (by omega)), h.2.at (by rw [markTxts_length]; unfold maxLen; omega) (markTxts_small _ _ (by omega))⟩
  have hvG := HQS.out w15 HQ.out
  refine (heldGateObject_any o _ _ aG aG' _ _ w15 hvG.1 hvG.2 HLO.out.1 HLO.out.2).mono ?_
  rintro e w16 ⟨rfl, hb16⟩
  have hq1 : decide ((1 : Int) + (o.vs.length : Int) + (o.hs.length : Int) < 0) = false := by simp; omega
  have HM16 : Hid (Marked w3.heap.size w6.heap.size Wg w16) := HM15.out.trans (Marked.of_below hb16)
  have HQ16 : Hid (TxtsOwn (w5.heap.size + 1) w16 aG (markTxts 1 o.vs.length) ∧ TxtsOwn mG w16 aG' (markTxts (1 + o.vs.length) o.hs.length)) := ⟨HQ.out.1.mono hb16, HQ.out.2.mono hb16⟩
  have hX := HM16.out.box HXX.out (by omega) (Or.inl hz3)
  have hz : w.heap.size < w16.heap.size := by have := HM16.out.size; omega
  have hzF : w.heap.size ≤ w3.heap.size := by omega
  have HB1 : Hid (Below w.heap.size w w2) := HBB.out
  clear HBB
  have HBB : Hid (Below w.heap.size w w16) := HBg.out.trans (HM16.out.below hzF (by omega))
  have HP16 : Hid (w16.heap[bP]? = some (.cells #[.string o.kd, .string o.nm, .string o.tm, .slice aP o.vs.length dP, .bool o.en, .slice aP' o.hs.length dP', .int .i64 o.vr] 41) ∧ bP < w16.heap.size ∧ TxtsOwn w2.heap.size w16 aP vs ∧ TxtsOwn mP w16 aP' o.hs) := by
    refine ⟨(HM16.out.out bP (by omega) (Or.inl hzP)).trans HKPg.out, by have := HM16.out.size; omega, HM16.out.txts HTPg.out.1 (fun g hg => Or.inl (HTPg.out.2.2.1 g hg)), HM16.out.txts HTPg.out.2.1 (fun g hg => Or.inl (HTPg.out.2.2.2 g hg))⟩
  have HG16 : Hid (w16.heap[w6.heap.size]? = some (.cells #[.string o.kd, .string o.nm, .string o.tm, .slice aG o.vs.length dG, .bool o.en, .slice aG' o.hs.length dG', .int .i64 o.vr] 41) ∧ w6.heap.size < w16.heap.size) := ⟨(HM16.out.out _ hzG (Or.inr (Nat.le_refl _))).trans HKG.out, by have := HM16.out.size; omega⟩
  clear hb16 hvG hG15 HM15 HQ HTGg HTPg HKPg HKG HKU HGM HBg HB3g HB4g HB5g HXX HB9
  go_wp2_with fail
  have hS3 : Below w16.heap.size w16 w16.drew := (Below.refl _ _).drew
  have hXc := box_later hX hz hS3
  have hzc : w.heap.size < w16.drew.heap.size := hz
  refine region_cut (fun A A' w' => ∃ u75 u76 u77 u78 u79 bH aH dH aH' dH' mH, A' = ((((((A.put (some 75) u75).put (some 76) u76).put (some 77) u77).put (some 78) u78).put (some 79) u79).put (some 13) (.pointer (some ⟨bH, 0, none⟩))) ∧ w16.heap.size ≤ bH ∧ w'.heap[bH]? = some (.cells #[.string o.kd, .string o.nm, .string o.tm, .slice aH o.vs.length dH, .bool o.en, .slice aH' o.hs.length dH', .int .i64 o.vr] 41) ∧ TxtsOwn w16.heap.size w' aH vs ∧ (∀ g, aH = some g → g.block < mH) ∧ w16.heap.size ≤ mH ∧ TxtsOwn mH w' aH' o.hs ∧ Below w16.heap.size w16 w') ?_ ?_
  · go_region_held3 (fun w' => ∀ j, w'.cell? ⟨w.heap.size, j, none⟩ = (#[.string o.kd, .string o.nm, .string o.tm, .slice a o.vs.length cap, .bool o.en, .slice a' o.hs.length cap', .int .i64 o.vr] : Array Value)[j]?) (first | (intro j; rw [hXc]) | (intro j; rw [cell_alloc_old hzc, hXc]) | (intro j; rw [cell_set7 hnZ, hXc]) | (intro j; rw [cell_alloc_drew hz, hX])) (first
      | (go_at_call 14; refine (toGateShapeS_any _ _ _ _ (HWW.out.mono (by first | exact HBB.out.trans (hS3.mono HBB.out.size) | exact HBB.out.trans ((hS3.alloc hS3.size _).mono HBB.out.size) | exact HBB.out.trans ((((Below.refl w16.heap.size w16).alloc (Nat.le_refl _) (.cells #[.string ByteArray.empty, .string ByteArray.empty, .string ByteArray.empty, .slice none 0 0, .bool false, .slice none 0 0, .int .i64 0] 41)).drew).mono HBB.out.size))) HLS.out.1 HLS.out.2).mono ?_; rintro e w17 ⟨rfl, hown, hb⟩; have hsN := hown.at HSM.out HML.out; clear hown; (try simp at hsN); (first | (have hN := hS3.trans (hb.mono hS3.size); (try have HZ := zero_next HZ hb)) | (have hA := hS3.alloc hS3.size (.cells #[.string ByteArray.empty, .string ByteArray.empty, .string ByteArray.empty, .slice none 0 0, .bool false, .slice none 0 0, .int .i64 0] 41); have hN := hA.trans (hb.mono hA.size); have hlZ := hS3.size; have HZ := zero_new hb; clear hA) | (have hA := ((Below.refl w16.heap.size w16).alloc (Nat.le_refl _) (.cells #[.string ByteArray.empty, .string ByteArray.empty, .string ByteArray.empty, .slice none 0 0, .bool false, .slice none 0 0, .int .i64 0] 41)).drew; have hN := hA.trans (hb.mono hA.size); have hlZ := Nat.le_refl w16.heap.size; have HZ := zero_new' hb; clear hA)); (try have hZc := block_cells HZ.out); (try have hZf := block_frozen HZ.out);  have hS3 := hN; have hXc := box_later hX hz hS3; have hzc := Nat.lt_of_lt_of_le hz hS3.size; (try have hnZ := Nat.ne_of_lt (Nat.lt_of_lt_of_le hz hlZ)); clear hN hb; have hs := hsN; clear hsN)
      | (go_at_call 19; refine (toGateObject_any _ _ _ _ _ _ (HOO.out.mono (by first | exact HBB.out.trans (hS3.mono HBB.out.size) | exact HBB.out.trans ((hS3.alloc hS3.size _).mono HBB.out.size) | exact HBB.out.trans ((((Below.refl w16.heap.size w16).alloc (Nat.le_refl _) (.cells #[.string ByteArray.empty, .string ByteArray.empty, .string ByteArray.empty, .slice none 0 0, .bool false, .slice none 0 0, .int .i64 0] 41)).drew).mono HBB.out.size))) HLO.out.1 HLO.out.2).mono ?_; rintro e w17 ⟨bv3, bh3, rfl, hlo, hhi, hne, hv3, hh3, hb⟩; have hoN := ob_own HOO.out hv3 hh3; clear hlo hhi hne hv3 hh3; have hs := (by first | exact hs.mono hb | exact (hs.mono ((Below.refl _ _).alloc (Nat.le_refl _) _)).mono hb : ShpsAt w17 _ ss); (first | (have hN := hS3.trans (hb.mono hS3.size); (try have HZ := zero_next HZ hb)) | (have hA := hS3.alloc hS3.size (.cells #[.string ByteArray.empty, .string ByteArray.empty, .string ByteArray.empty, .slice none 0 0, .bool false, .slice none 0 0, .int .i64 0] 41); have hN := hA.trans (hb.mono hA.size); have hlZ := hS3.size; have HZ := zero_new hb; clear hA) | (have hA := ((Below.refl w16.heap.size w16).alloc (Nat.le_refl _) (.cells #[.string ByteArray.empty, .string ByteArray.empty, .string ByteArray.empty, .slice none 0 0, .bool false, .slice none 0 0, .int .i64 0] 41)).drew; have hN := hA.trans (hb.mono hA.size); have hlZ := Nat.le_refl w16.heap.size; have HZ := zero_new' hb; clear hA)); (try have hZc := block_cells HZ.out); (try have hZf := block_frozen HZ.out);  have hS3 := hN; have hXc := box_later hX hz hS3; have hzc := Nat.lt_of_lt_of_le hz hS3.size; (try have hnZ := Nat.ne_of_lt (Nat.lt_of_lt_of_le hz hlZ)); clear hN hb; have hoo := hoN; clear hoN)
      | (go_at_call 20; refine (implFill_any _ _ _ _ _ _ _ _ _ _ _ (by first | exact hs | exact hs.mono ((Below.refl _ _).alloc (Nat.le_refl _) _)) (by first | exact hoo | exact hoo.mono ((Below.refl _ _).alloc (Nat.le_refl _) _)) HLO.out.1 HLO.out.2).mono ?_; rintro e w17 ⟨aH, dH, aH', dH', mH, rfl, hT, hm, hl, hT', hb⟩; rw [hvs] at hT; (first | (have hloW : w16.heap.size ≤ _ := Nat.le_trans hS3.size (Nat.le_of_eq (size_of hb))) | (have hloW : w16.heap.size ≤ _ := Nat.le_trans (hS3.alloc hS3.size (.cells #[.string ByteArray.empty, .string ByteArray.empty, .string ByteArray.empty, .slice none 0 0, .bool false, .slice none 0 0, .int .i64 0] 41)).size (Nat.le_of_eq (size_of hb)))); (try have hbW := (Array.getElem?_eq_some_iff.1 HZ.out).1); (try have hbW := size_alloc_lt hb); clear hs hoo; (first | (have hN := hS3.trans (hb.mono hS3.size); (try have HZ := zero_next HZ hb)) | (have hA := hS3.alloc hS3.size (.cells #[.string ByteArray.empty, .string ByteArray.empty, .string ByteArray.empty, .slice none 0 0, .bool false, .slice none 0 0, .int .i64 0] 41); have hN := hA.trans (hb.mono hA.size); have hlZ := hS3.size; have HZ := zero_new hb; clear hA) | (have hA := ((Below.refl w16.heap.size w16).alloc (Nat.le_refl _) (.cells #[.string ByteArray.empty, .string ByteArray.empty, .string ByteArray.empty, .slice none 0 0, .bool false, .slice none 0 0, .int .i64 0] 41)).drew; have hN := hA.trans (hb.mono hA.size); have hlZ := Nat.le_refl w16.heap.size; have HZ := zero_new' hb; clear hA)); (try have hZc := block_cells HZ.out); (try have hZf := block_frozen HZ.out);  have hS3 := hN; have hXc := box_later hX hz hS3; have hzc := Nat.lt_of_lt_of_le hz hS3.size; (try have hnZ := Nat.ne_of_lt (Nat.lt_of_lt_of_le hz hlZ)); clear hN hb))
    · exact ⟨rfl, _, _, _, _, _, _, _, _, _, _, _, rfl, hS3.size, alloc_at _ _, (hT.low hloW).mono ((Below.refl _ _).alloc (Nat.le_refl _) _), hm, Nat.le_trans hloW hl, hT'.mono ((Below.refl _ _).alloc (Nat.le_refl _) _), hS3.alloc hS3.size _⟩
    all_goals exact ⟨rfl, _, _, _, _, _, _, _, _, _, _, _, rfl, hlZ, put7_at HZ.out _ _ _ _ _ _ _, (put7_own hT _ hbW _ _ _ _ _ _ _).low hloW, hm, Nat.le_trans hloW hl, put7_own hT' _ (Nat.lt_of_lt_of_le hbW hl) _ _ _ _ _ _ _, put7_below hS3 _ hlZ _ _ _ _ _ _ _⟩
  rintro A' w17 ⟨u75, u76, u77, u78, u79, bH, aH, dH, aH', dH', mH, rfl, hbH, hKH, hTH, hmH, hlH, hTH', hBelowH⟩
  simp only [Act.put, List.setIfInBounds_toArray, List.set_cons_zero, List.set_cons_succ]
  have HB17 : Hid (Below w16.heap.size w16 w17) := hBelowH
  have hP17 := block_cells ((hBelowH.block bP HP16.out.2.1).trans HP16.out.1)
  have hH17 := block_cells hKH
  have hvP := HVS.out w17 ⟨HP16.out.2.2.1.mono hBelowH, HP16.out.2.2.2.mono hBelowH⟩
  have HVH : Hid (StrsAt w17 aH vs ∧ StrsAt w17 aH' o.hs) := ⟨hTH.at HFS.out.2.1 HFS.out.2.2, hTH'.at HHS.out.1 HHS.out.2⟩
  have HVP : Hid (StrsAt w17 aP vs ∧ StrsAt w17 aP' o.hs) := hvP
  clear hvP hS3 hXc hzc hBelowH hKH hTH hTH' hmH hlH hX
  go_wp2_with fail
  refine (eqFill_yes o vs HFS.out.1 _ _ _ _ _ _ _ _ _ HOO.out.small HVH.out.1 HVH.out.2 HVP.out.1 HVP.out.2).mono ?_
  rintro e w18 ⟨rfl, hb18⟩
  have HB18 : Hid (Below w16.heap.size w16 w18) := HB17.out.trans (hb18.mono HB17.out.size)
  have hG18 := block_cells ((HB18.out.block _ HG16.out.2).trans HG16.out.1)
  clear hb18 hP17 hH17
  go_wp2_with fail
  have hvG := HQS.out w18 ⟨HQ16.out.1.mono HB18.out, HQ16.out.2.mono HB18.out⟩
  refine (heldGateObject_any o _ _ aG aG' _ _ w18 hvG.1 hvG.2 HLO.out.1 HLO.out.2).mono ?_
  rintro e w19 ⟨rfl, hb19⟩
  have HB19 : Hid (Below w.heap.size w w19) := HBB.out.trans ((HB18.out.trans (hb19.mono HB18.out.size)).mono HBB.out.size)
  clear hb19 hvG hG18
  go_wp2_with fail
  go_ret
  exact ⟨rfl, HB19.out⟩

end Go.Proofs.Ytbefjngbilakjaa

namespace Go.Proofs.Ytbefjngbilakjaa
open Go.ChangeShapes Go.WideShapes Go.ChangeAt Go.RowKit

section
variable {H : Type} {enc : TypeId × Value → H} {P : Program} {w : World} {base : Nat} {spare : Nat → Bool} {held : Bool}

theorem addr_of_cell {a : Addr} {v : Value} (h : w.cell? a = some v) : a = ⟨a.block, a.off, none⟩ ∧ a.block < w.heap.size := by
  obtain ⟨b, o, s⟩ := a
  unfold World.cell? at h
  cases hb : w.heap[b]? with
  | none => simp [hb] at h
  | some x =>
    have hlt := (Array.getElem?_eq_some_iff.1 hb).1
    cases s with
    | none => exact ⟨rfl, hlt⟩
    | some k => cases x <;> simp [hb] at h

theorem read_strs {t e : TypeId} {fuel : Nat} {cs : List Value} {x : DataW H × List MemPlace} (ht : P.underlying t = some (.slice e)) (he : P.underlying e = some .string) (hc : P.cellsOf e = 1)
    (h : DataW.trod enc P w base spare held fuel t cs = some x) : ∃ a cap ws, cs = [.slice a ws.length cap] ∧ StrsAt w a ws := by
  rcases open_strings ht he hc h with ⟨rfl, _⟩ | ⟨a, len, cap, ss, rfl, _, hl, hm, hz, _, hcell, hws⟩
  · exact ⟨none, 0, [], rfl, ⟨by simp [maxLen], by simp, fun h => absurd rfl h⟩⟩
  · have hle : len ≤ ss.length := by rw [hz]; split <;> omega
    have hlen : (ss.take len).length = len := by rw [List.length_take]; omega
    refine ⟨some a, cap, ss.take len, by rw [hlen], ⟨by rw [hlen]; omega, fun s hs => hws s (List.mem_of_mem_take hs), fun hne => ?_⟩⟩
    have hpos : 0 < len := by
      rcases Nat.eq_zero_or_pos len with h0 | h0
      · rw [h0] at hne; simp at hne
      · exact h0
    have h0 := hcell 0 (by omega)
    obtain ⟨ha, hb⟩ := addr_of_cell h0
    simp only [Addr.add, if_true] at ha hb
    refine ⟨a.block, a.off, by rw [← ha], hb, fun i hi => ?_⟩
    have hi' : i < len := by omega
    have h1 := hcell i (by omega)
    have e1 : a.add i = ⟨a.block, a.off + i, none⟩ := by
      unfold Addr.add; split
      · rename_i h; subst h; simpa using ha
      · rfl
    rw [e1] at h1
    rw [h1, List.getElem_take, List.getD_eq_getElem?_getD, List.getElem?_eq_getElem (by omega)]
    rfl

theorem field_read {t : TypeId} {fs : Array Field} {fuel : Nat} {cs : List Value} {x : DataW H × List MemPlace} (ht : P.underlying t = some (.struct fs)) (h : DataW.trod enc P w base spare held fuel t cs = some x)
    (i : Nat) (f : Field) (hf : fs[i]? = some f) : ∃ n y, DataW.trod enc P w base spare held n f.type ((cs.drop f.offset).take (P.cellsOf f.type)) = some y := by
  obtain ⟨xs, n, _, _, _, hxl, hall⟩ := DataW.trod_struct ht h
  have hi : i < fs.size := (Array.getElem?_eq_some_iff.1 hf).1
  exact ⟨n, xs[i]'(by omega), by rw [hall i f hf, List.getElem?_eq_getElem (by omega)]⟩

/-- A field of one cell, read. -/
theorem field_one {t : TypeId} {fs : Array Field} {fuel : Nat} {cs : List Value} {x : DataW H × List MemPlace} (ht : P.underlying t = some (.struct fs)) (h : DataW.trod enc P w base spare held fuel t cs = some x)
    (i tf off : Nat) (c : Value) (hf : (fs[i]?).map (fun f => (f.type, f.offset)) = some (tf, off)) (hone : P.cellsOf tf = 1) (hc : cs[off]? = some c) : ∃ n y, DataW.trod enc P w base spare held n tf [c] = some y := by
  obtain ⟨f, hf1, hf2⟩ := Option.map_eq_some_iff.1 hf
  simp only [Prod.mk.injEq] at hf2
  obtain ⟨rfl, rfl⟩ := hf2
  obtain ⟨n, y, hy⟩ := field_read ht h i f hf1
  rw [hone] at hy
  obtain ⟨hlt, hget⟩ := List.getElem?_eq_some_iff.1 hc
  rw [List.drop_eq_getElem_cons hlt, hget] at hy
  exact ⟨n, y, hy⟩

end

theorem Try.cellsString : Try.prog.cellsOf 9 = 1 := by kernel_rfl
theorem Try.cellsInt : Try.prog.cellsOf 3 = 1 := by kernel_rfl
theorem Try.cellsBool : Try.prog.cellsOf 4 = 1 := by kernel_rfl
theorem Try.cellsStrings : Try.prog.cellsOf 22 = 1 := by kernel_rfl
theorem Try.cellsField : Try.prog.cellsOf 24 = 11 := by kernel_rfl

/-- A field of a shape, read. -/
theorem read_field {H : Type} {enc : TypeId × Value → H} {w : World} {base : Nat} {spare : Nat → Bool} {held : Bool} {fuel : Nat} {cs : List Value} {x : DataW H × List MemPlace}
    (h : DataW.trod enc Try.prog w base spare held fuel 24 cs = some x) :
    ∃ nm kd ls ms a cap ws to rl mu fx df wg, cs = [.string nm, .int .i64 kd, .int .i64 ls, .int .i64 ms, .slice a (List.length ws) cap, .string to, .int .i64 rl, .bool mu, .bool fx, .string df, .string wg] ∧ StrsAt w a ws ∧
      nm.size ≤ maxLen ∧ to.size ≤ maxLen ∧ df.size ≤ maxLen ∧ wg.size ≤ maxLen := by
  have hlen : cs.length = 11 := by
    obtain ⟨_, _, _, _, hl, _, _⟩ := DataW.trod_struct Try.underlying24 h
    rw [hl]; exact Try.cellsField
  match cs, hlen with
  | [c0, c1, c2, c3, c4, c5, c6, c7, c8, c9, c10], _ =>
    have hf := field_one Try.underlying24 h
    obtain ⟨_, _, f0⟩ := hf 0 9 0 c0 rfl Try.cellsString rfl
    obtain ⟨_, _, f1⟩ := hf 1 3 1 c1 rfl Try.cellsInt rfl
    obtain ⟨_, _, f2⟩ := hf 2 3 2 c2 rfl Try.cellsInt rfl
    obtain ⟨_, _, f3⟩ := hf 3 3 3 c3 rfl Try.cellsInt rfl
    obtain ⟨_, _, f4⟩ := hf 4 22 4 c4 rfl Try.cellsStrings rfl
    obtain ⟨_, _, f5⟩ := hf 5 9 5 c5 rfl Try.cellsString rfl
    obtain ⟨_, _, f6⟩ := hf 6 3 6 c6 rfl Try.cellsInt rfl
    obtain ⟨_, _, f7⟩ := hf 7 4 7 c7 rfl Try.cellsBool rfl
    obtain ⟨_, _, f8⟩ := hf 8 4 8 c8 rfl Try.cellsBool rfl
    obtain ⟨_, _, f9⟩ := hf 9 9 9 c9 rfl Try.cellsString rfl
    obtain ⟨_, _, f10⟩ := hf 10 9 10 c10 rfl Try.cellsString rfl
    obtain ⟨nm, e0, _, s0⟩ := DataW.trod_string Try.underlying9 f0
    obtain ⟨kd, e1, _, _⟩ := DataW.trod_int Try.underlying3 f1
    obtain ⟨ls, e2, _, _⟩ := DataW.trod_int Try.underlying3 f2
    obtain ⟨ms, e3, _, _⟩ := DataW.trod_int Try.underlying3 f3
    obtain ⟨a, cap, ws, e4, hS⟩ := read_strs Try.underlying22 Try.underlying9 Try.cellsString f4
    obtain ⟨to, e5, _, s5⟩ := DataW.trod_string Try.underlying9 f5
    obtain ⟨rl, e6, _, _⟩ := DataW.trod_int Try.underlying3 f6
    obtain ⟨mu, e7, _⟩ := DataW.trod_bool Try.underlying4 f7
    obtain ⟨fx, e8, _⟩ := DataW.trod_bool Try.underlying4 f8
    obtain ⟨df, e9, _, s9⟩ := DataW.trod_string Try.underlying9 f9
    obtain ⟨wg, e10, _, s10⟩ := DataW.trod_string Try.underlying9 f10
    simp only [List.cons.injEq, and_true] at e0 e1 e2 e3 e4 e5 e6 e7 e8 e9 e10
    subst e0 e1 e2 e3 e4 e5 e6 e7 e8 e9 e10
    exact ⟨nm, kd, ls, ms, a, cap, ws, to, rl, mu, fx, df, wg, rfl, hS, s0, s5, s9, s10⟩

end Go.Proofs.Ytbefjngbilakjaa
