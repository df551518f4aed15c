import Derived.Test.YtponiggfclcbgaaGreatM17
import Derived.Deep.RegionWith
import Derived.Test.YtponiggfclcbgaaGreatM03
import Derived.Test.YtponiggfclcbgaaGreatM13
import Derived.Test.YtponiggfclcbgaaGreatM06
namespace Go.Proofs.YtponiggfclcbgaaGreat
open Go.RowKit

set_option maxHeartbeats 2000000 in
theorem eqGateFieldS_yes (a a' : Option Addr) (cap cap' : Nat) (fs : List Fld) (w : World) (hw : FldsAt w a fs) (hw' : FldsAt w a' fs) :
    Calls Tryz.prog 71 #[.slice a fs.length cap, .slice a' fs.length cap'] w fun e w' => e = .returned (.bool true) ∧ Below w.heap.size w w' := by
  have hl := hw.len
  unfold maxLen at hl
  have hnn : ((fs.length : Int) != fs.length) = false := by simp
  go_enter Tryz.func71, Tryz.ntmps71
  go_wp2_with fail
  go_loopw [5] (fun i wr => ∃ k : Nat, k ≤ fs.length ∧ i = .int .i64 k ∧ Below w.heap.size w wr) (fun i _ => fs.length - (intOf i).toNat)
  case atStart => exact ⟨0, Nat.zero_le _, rfl, Below.refl _ _⟩
  case round =>
    obtain ⟨k, hk, rfl, hB⟩ := hrel
    by_cases hlt : k < fs.length
    · obtain ⟨b, off, rfl, hb, hr⟩ := hw.rows (by rintro rfl; simp at hlt)
      obtain ⟨b', off', rfl, hb', hr'⟩ := hw'.rows (by rintro rfl; simp at hlt)
      obtain ⟨wa, wcap, hf0⟩ := hr k hlt
      obtain ⟨wa', wcap', hf0'⟩ := hr' k hlt
      have hf := hf0.mono hb hB
      have hf' := hf0'.mono hb' hB
      obtain ⟨c0, c1, c2, c3, c4, c5, c6, c7, c8, c9, c10⟩ := hf.load
      obtain ⟨d0, d1, d2, d3, d4, d5, d6, d7, d8, d9, d10⟩ := hf'.load
      have hst := hf.strs
      have hst' := hf'.strs
      have hltI : (k : Int) < (fs.length : Int) := by omega
      clear hw hw' hr hr' hf0 hf0' hf hf'
      go_wp2_with fail
      go_region_with (go_at_call 98; refine (eqGateField_yes _ _ _ _ _ _ _ _ _ _ _ _ _ _ _ _ (by exact hst.mono ((Below.refl _ _).drew)) (by exact hst'.mono ((Below.refl _ _).drew))).mono ?_; rintro e w1 ⟨rfl, hb1'⟩; have hb1 := (Below.refl wr.heap.size wr).drew.trans hb1'; clear hb1')
      all_goals go_wp2_with fail
      all_goals exact ⟨⟨k + 1, by omega, by go_num, hB.trans (hb1.mono hB.size)⟩, by simp [intOf]; omega⟩
    · clear hw hw'
      go_wp2_with fail
      go_ret
      exact ⟨rfl, hB⟩

set_option maxHeartbeats 1000000 in
theorem eqGateShape_yes (kd : ByteArray) (a a' : Option Addr) (cap cap' : Nat) (fs : List Fld) (w : World) (hw : FldsAt w a fs) (hw' : FldsAt w a' fs) :
    Calls Tryz.prog 45 #[.agg #[.string kd, .slice a fs.length cap], .agg #[.string kd, .slice a' fs.length cap']] w fun e w' => e = .returned (.bool true) ∧ Below w.heap.size w w' := by
  go_enter Tryz.func45, Tryz.ntmps45
  go_wp2_with fail
  refine (eqGateFieldS_yes _ _ _ _ _ _ (hw.mono (below2' _ _ _)) (hw'.mono (below2' _ _ _))).mono ?_
  rintro e w1 ⟨rfl, hb1⟩
  go_wp2_with fail
  go_ret
  exact ⟨rfl, (below2' _ _ _).trans (hb1.mono (by simp; omega))⟩

set_option maxHeartbeats 2000000 in
theorem eqGateShapeS_yes (a a' : Option Addr) (cap cap' : Nat) (ss : List Shp) (w : World) (hw : ShpsAt w a ss) (hw' : ShpsAt w a' ss) :
    Calls Tryz.prog 15 #[.slice a ss.length cap, .slice a' ss.length cap'] w fun e w' => e = .returned (.bool true) ∧ Below w.heap.size w w' := by
  have hl := hw.len
  unfold maxLen at hl
  have hnn : ((ss.length : Int) != ss.length) = false := by simp
  go_enter Tryz.func15, Tryz.ntmps15
  go_wp2_with fail
  go_loopw [5] (fun i wr => ∃ k : Nat, k ≤ ss.length ∧ i = .int .i64 k ∧ Below w.heap.size w wr) (fun i _ => ss.length - (intOf i).toNat)
  case atStart => exact ⟨0, Nat.zero_le _, rfl, Below.refl _ _⟩
  case round =>
    obtain ⟨k, hk, rfl, hB⟩ := hrel
    by_cases hlt : k < ss.length
    · obtain ⟨b, off, rfl, hb, hr⟩ := hw.rows (by rintro rfl; simp at hlt)
      obtain ⟨b', off', rfl, hb', hr'⟩ := hw'.rows (by rintro rfl; simp at hlt)
      obtain ⟨wa, wcap, hf0⟩ := hr k hlt
      obtain ⟨wa', wcap', hf0'⟩ := hr' k hlt
      have hf := hf0.mono hb hB
      have hf' := hf0'.mono hb' hB
      have c0 := hf.kind
      have c1 := hf.list
      have d0 := hf'.kind
      have d1 := hf'.list
      have hst := hf.flds
      have hst' := hf'.flds
      have hltI : (k : Int) < (ss.length : Int) := by omega
      clear hw hw' hr hr' hf0 hf0' hf hf'
      go_wp2_with fail
      go_region_with (go_at_call 45; refine (eqGateShape_yes _ _ _ _ _ _ _ (by exact hst.mono ((Below.refl _ _).drew)) (by exact hst'.mono ((Below.refl _ _).drew))).mono ?_; rintro e w1 ⟨rfl, hb1'⟩; have hb1 := (Below.refl wr.heap.size wr).drew.trans hb1'; clear hb1')
      all_goals go_wp2_with fail
      all_goals exact ⟨⟨k + 1, by omega, by go_num, hB.trans (hb1.mono hB.size)⟩, by simp [intOf]; omega⟩
    · clear hw hw'
      go_wp2_with fail
      go_ret
      exact ⟨rfl, hB⟩

end Go.Proofs.YtponiggfclcbgaaGreat

namespace Go.Proofs.YtponiggfclcbgaaGreat
open Go.RowKit

def obSz (o : Ob) : Nat := o.kd.size + o.nm.size + o.tm.size + strsSz o.vs + strsSz o.hs

set_option maxHeartbeats 2000000 in
theorem szGateObject_any (o : Ob) (a a' : Option Addr) (cap cap' : Nat) (left : Int) (w : World) (ho : ObAt w o a a') (h0 : 0 ≤ left) (h1 : left ≤ 1048576) :
    Calls Tryz.prog 8 #[.agg #[.string o.kd, .string o.nm, .string o.tm, .slice a o.vs.length cap, .bool o.en, .slice a' o.hs.length cap', .int .i64 o.vr], .int .i64 left] w fun e w' => e = .returned (.int .i64 (szRes (obSz o) left)) ∧ Below w.heap.size w w' := by
  have hkd := ho.small.kd
  have hnm := ho.small.nm
  have htm := ho.small.tm
  have hv := ho.vals
  have hh := ho.holds
  clear ho
  unfold maxLen at hkd hnm htm
  by_cases c1 : (o.kd.size : Int) ≤ left
  rotate_left
  · have HF : Hid (szRes (obSz o) left = -1) := szRes_no (by unfold obSz; omega)
    go_enter Tryz.func8, Tryz.ntmps8
    go_wp2_with fail
    go_ret
    exact ⟨ret_int HF.out.symm, (Below.refl _ _).alloc (Nat.le_refl _) _⟩
  by_cases c2 : (o.nm.size : Int) ≤ left - o.kd.size
  rotate_left
  · have HF : Hid (szRes (obSz o) left = -1) := szRes_no (by unfold obSz; omega)
    go_enter Tryz.func8, Tryz.ntmps8
    go_wp2_with fail
    go_ret
    exact ⟨ret_int HF.out.symm, (Below.refl _ _).alloc (Nat.le_refl _) _⟩
  by_cases c3 : (o.tm.size : Int) ≤ left - o.kd.size - o.nm.size
  rotate_left
  · have HF : Hid (szRes (obSz o) left = -1) := szRes_no (by unfold obSz; omega)
    go_enter Tryz.func8, Tryz.ntmps8
    go_wp2_with fail
    go_ret
    exact ⟨ret_int HF.out.symm, (Below.refl _ _).alloc (Nat.le_refl _) _⟩
  by_cases c4 : (strsSz o.vs : Int) ≤ left - o.kd.size - o.nm.size - o.tm.size
  rotate_left
  · have HF : Hid (szRes (obSz o) left = -1) := szRes_no (by unfold obSz; omega)
    go_enter Tryz.func8, Tryz.ntmps8
    go_wp2_with fail
    refine (szStringS_no _ _ _ _ _ (hv.mono ((Below.refl _ _).alloc (Nat.le_refl _) _)) (by omega) (by omega) (by omega)).mono ?_
    rintro e w1 ⟨rfl, rfl⟩
    go_wp2_with fail
    go_ret
    exact ⟨ret_int HF.out.symm, (Below.refl _ _).alloc (Nat.le_refl _) _⟩
  by_cases c5 : (strsSz o.hs : Int) ≤ left - o.kd.size - o.nm.size - o.tm.size - strsSz o.vs
  rotate_left
  · have HF : Hid (szRes (obSz o) left = -1) := szRes_no (by unfold obSz; omega)
    go_enter Tryz.func8, Tryz.ntmps8
    go_wp2_with fail
    refine (szStringS_yes _ _ _ _ _ (hv.mono ((Below.refl _ _).alloc (Nat.le_refl _) _)) (by omega) (by omega) (by omega)).mono ?_
    rintro e w1 ⟨rfl, rfl⟩
    go_wp2_with fail
    refine (szStringS_no _ _ _ _ _ (hh.mono ((Below.refl _ _).alloc (Nat.le_refl _) _)) (by omega) (by omega) (by omega)).mono ?_
    rintro e w1 ⟨rfl, rfl⟩
    go_wp2_with fail
    go_ret
    exact ⟨ret_int HF.out.symm, (Below.refl _ _).alloc (Nat.le_refl _) _⟩
  · have HF : Hid (szRes (obSz o) left = left - o.kd.size - o.nm.size - o.tm.size - strsSz o.vs - strsSz o.hs) := by
      have e : szRes (obSz o) left = left - obSz o := szRes_yes (by unfold obSz; omega)
      unfold Hid; rw [e]; unfold obSz; omega
    go_enter Tryz.func8, Tryz.ntmps8
    go_wp2_with fail
    refine (szStringS_yes _ _ _ _ _ (hv.mono ((Below.refl _ _).alloc (Nat.le_refl _) _)) (by omega) (by omega) (by omega)).mono ?_
    rintro e w1 ⟨rfl, rfl⟩
    go_wp2_with fail
    refine (szStringS_yes _ _ _ _ _ (hh.mono ((Below.refl _ _).alloc (Nat.le_refl _) _)) (by omega) (by omega) (by omega)).mono ?_
    rintro e w1 ⟨rfl, rfl⟩
    go_wp2_with fail
    go_ret
    exact ⟨ret_int HF.out.symm, (Below.refl _ _).alloc (Nat.le_refl _) _⟩

set_option maxHeartbeats 1000000 in
theorem eqGateObject_yes (o : Ob) (a a' b b' : Option Addr) (cap cap' dap dap' : Nat) (w : World) (ho : ObAt w o a a') (ho' : ObAt w o b b') :
    Calls Tryz.prog 14 #[.agg #[.string o.kd, .string o.nm, .string o.tm, .slice a o.vs.length cap, .bool o.en, .slice a' o.hs.length cap', .int .i64 o.vr], .agg #[.string o.kd, .string o.nm, .string o.tm, .slice b o.vs.length dap, .bool o.en, .slice b' o.hs.length dap', .int .i64 o.vr]] w fun e w' => e = .returned (.bool true) ∧ Below w.heap.size w w' := by
  go_enter Tryz.func14, Tryz.ntmps14
  go_wp2_with fail
  refine (eqStringS_yes _ _ _ _ _ _ (ho.vals.mono (below2' _ _ _)) (ho'.vals.mono (below2' _ _ _))).mono ?_
  rintro e w1 ⟨rfl, hb1⟩
  have hX1 := box_later (wk := (w.alloc (.cells #[.string o.kd, .string o.nm, .string o.tm, .slice a o.vs.length cap, .bool o.en, .slice a' o.hs.length cap', .int .i64 o.vr] 30)).alloc (.cells #[.string o.kd, .string o.nm, .string o.tm, .slice b o.vs.length dap, .bool o.en, .slice b' o.hs.length dap', .int .i64 o.vr] 30)) (b := w.heap.size) (X := #[.string o.kd, .string o.nm, .string o.tm, .slice a o.vs.length cap, .bool o.en, .slice a' o.hs.length cap', .int .i64 o.vr]) (fun j => by rw [World.cell?_alloc_lt _ _ ⟨w.heap.size, j, none⟩ (by simp)]; exact box_new w _ _ j) (by simp; omega) hb1
  have hY1 := box_later (wk := (w.alloc (.cells #[.string o.kd, .string o.nm, .string o.tm, .slice a o.vs.length cap, .bool o.en, .slice a' o.hs.length cap', .int .i64 o.vr] 30)).alloc (.cells #[.string o.kd, .string o.nm, .string o.tm, .slice b o.vs.length dap, .bool o.en, .slice b' o.hs.length dap', .int .i64 o.vr] 30)) (b := w.heap.size + 1) (X := #[.string o.kd, .string o.nm, .string o.tm, .slice b o.vs.length dap, .bool o.en, .slice b' o.hs.length dap', .int .i64 o.vr]) (fun j => by rw [World.cell?_alloc_at _ _ _ _ (by simp)]) (by simp) hb1
  have hz1 : w.heap.size + 1 < w1.heap.size := by have := hb1.size; simp at this; omega
  have hB1 : Below w.heap.size w w1 := (below2' _ _ _).trans (hb1.mono (by simp; omega))
  clear hb1
  go_wp2_with fail
  refine (eqStringS_yes _ _ _ _ _ _ (ho.holds.mono hB1) (ho'.holds.mono hB1)).mono ?_
  rintro e w2 ⟨rfl, hb2⟩
  have hX2 := box_later hX1 (by omega) hb2
  have hY2 := box_later hY1 (by omega) hb2
  have hB2 := hB1.trans (hb2.mono (by omega))
  clear hb2 hX1 hY1
  go_wp2_with fail
  go_ret
  exact ⟨rfl, hB2⟩

theorem at5a (w : World) (o1 o2 o3 o4 o5 : Obj) : (((((w.alloc o1).alloc o2).alloc o3).alloc o4).alloc o5).heap[w.heap.size + 1 + 1 + 1]? = some o4 :=
  (Below.heap_alloc _ _ _ (by simp)).trans (at4 _ _ _ _ _)
theorem at5b (w : World) (o1 o2 o3 o4 o5 : Obj) : (((((w.alloc o1).alloc o2).alloc o3).alloc o4).alloc o5).heap[w.heap.size + 1 + 1 + 1 + 1]? = some o5 := by
  have h := (MapKept.heap_alloc ((((w.alloc o1).alloc o2).alloc o3).alloc o4) o5).1
  simpa using h

set_option maxHeartbeats 2000000 in
theorem toGateObject_any (o : Ob) (a a' : Option Addr) (cap cap' : Nat) (w : World) (ho : ObAt w o a a') (hl : o.vs.length ≤ 1048576) (hl' : o.hs.length ≤ 1048576) :
    Calls Tryz.prog 12 #[.agg #[.string o.kd, .string o.nm, .string o.tm, .slice a o.vs.length cap, .bool o.en, .slice a' o.hs.length cap', .int .i64 o.vr]] w fun e w' => ∃ bv bh, e = .returned (.agg #[.string o.kd, .string o.nm, .string o.tm, .slice (some ⟨bv, 0, none⟩) o.vs.length o.vs.length, .bool o.en, .slice (some ⟨bh, 0, none⟩) o.hs.length o.hs.length, .int .i64 o.vr]) ∧
      w.heap.size ≤ bv ∧ w.heap.size ≤ bh ∧ bv ≠ bh ∧ w'.heap[bv]? = some (.cells (strArr o.vs) 9) ∧ w'.heap[bh]? = some (.cells (strArr o.hs) 9) ∧ Below w.heap.size w w' := by
  go_enter Tryz.func12, Tryz.ntmps12
  go_wp2_with fail
  refine (toStringS_any _ _ _ _ (ho.vals.mono ((((Below.refl _ _).alloc (Nat.le_refl _) _).alloc (by simp) _).alloc (by simp; omega) _)) hl).mono ?_
  rintro e w1 ⟨rfl, rfl⟩
  go_wp2_with fail
  refine (toStringS_any _ _ _ _ (ho.holds.mono (below4 _ _ _ _ _)) hl').mono ?_
  rintro e w2 ⟨rfl, rfl⟩
  go_wp2_with fail
  refine bodyPost_ret (v := .agg #[.string o.kd, .string o.nm, .string o.tm, .slice (some ⟨w.heap.size + 1 + 1 + 1, 0, none⟩) o.vs.length o.vs.length, .bool o.en, .slice (some ⟨w.heap.size + 1 + 1 + 1 + 1, 0, none⟩) o.hs.length o.hs.length, .int .i64 o.vr]) (by simp [results, Tryz.results12, go_sem]) rfl ⟨w.heap.size + 1 + 1 + 1, w.heap.size + 1 + 1 + 1 + 1, rfl, by omega, by omega, by omega, at5a _ _ _ _ _ _, at5b _ _ _ _ _ _, (below4 _ _ _ _ _).alloc (by simp; omega) _⟩

end Go.Proofs.YtponiggfclcbgaaGreat

namespace Go.Proofs.YtponiggfclcbgaaGreat
open Go.RowKit

theorem shps_few {ss : List Shp} (h : (shpsSz ss : Int) ≤ 1048576) : ss.length ≤ 1048576 ∧ ∀ i (h : i < ss.length), ss[i].fs.length ≤ 1048576 ∧ ∀ j (h' : j < ss[i].fs.length), ss[i].fs[j].ws.length ≤ 1048576 := by
  unfold shpsSz at h
  refine ⟨by omega, fun i hi => ?_⟩
  have h1 : Shp.sz ss[i] ≤ sumS ss := sum_mem Shp.sz ss i hi
  unfold Shp.sz fldsSz at h1
  refine ⟨by omega, fun j hj => ?_⟩
  have h2 : Fld.sz ss[i].fs[j] ≤ sumF ss[i].fs := sum_mem Fld.sz ss[i].fs j hj
  unfold Fld.sz fldSz strsSz at h2
  omega

theorem ob_few {o : Ob} {l : Int} (h : (obSz o : Int) ≤ l) (hl : l ≤ 1048576) : o.vs.length ≤ 1048576 ∧ o.hs.length ≤ 1048576 := by
  unfold obSz strsSz at h
  omega

theorem ob_own {w w' : World} {o : Ob} {a a' : Option Addr} {bv bh : Nat} (ho : ObAt w o a a') (h1 : w'.heap[bv]? = some (.cells (strArr o.vs) 9)) (h2 : w'.heap[bh]? = some (.cells (strArr o.hs) 9)) : ObAt w' o (some ⟨bv, 0, none⟩) (some ⟨bh, 0, none⟩) :=
  ⟨ho.small, heap_strs h1 ho.vals.len ho.vals.small, heap_strs h2 ho.holds.len ho.holds.small⟩

end Go.Proofs.YtponiggfclcbgaaGreat
