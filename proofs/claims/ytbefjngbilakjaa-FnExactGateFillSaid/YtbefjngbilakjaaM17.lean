import Derived.Test.YtbefjngbilakjaaM13
import Derived.Test.YtbefjngbilakjaaM05
import Derived.Deep.RegionWith
import Derived.Test.YtbefjngbilakjaaM03
import Derived.Test.YtbefjngbilakjaaM06
namespace Go.Proofs.Ytbefjngbilakjaa
open Go.RowKit

def Fld.sz (f : Fld) : Nat := fldSz f.nm f.ws f.to f.df f.wg
def sumF (fs : List Fld) : Nat := (fs.map Fld.sz).sum
def fldsSz (fs : List Fld) : Nat := fs.length + sumF fs
def Shp.sz (s : Shp) : Nat := s.kd.size + fldsSz s.fs
def sumS (ss : List Shp) : Nat := (ss.map Shp.sz).sum
def shpsSz (ss : List Shp) : Nat := ss.length + sumS ss

theorem sum_snoc {α : Type} (g : α → Nat) (l : List α) (k : Nat) (h : k < l.length) : ((l.take (k + 1)).map g).sum = ((l.take k).map g).sum + g l[k] := by
  rw [List.take_succ_eq_append_getElem h, List.map_append, List.sum_append]; simp
theorem sum_le {α : Type} (g : α → Nat) (l : List α) (k : Nat) : ((l.take k).map g).sum ≤ (l.map g).sum := by
  conv => rhs; rw [← List.take_append_drop k l]
  rw [List.map_append, List.sum_append]; omega
theorem sum_mem {α : Type} (g : α → Nat) (l : List α) (k : Nat) (h : k < l.length) : g l[k] ≤ (l.map g).sum := by
  have h1 := sum_snoc g l k h
  have h2 := sum_le g l (k + 1)
  omega

theorem szGateField_yes (nm : ByteArray) (kd ls ms : Int) (a : Option Addr) (cap : Nat) (ws : List ByteArray) (to : ByteArray) (rl : Int) (mu fx : Bool) (df wg : ByteArray) (left : Int) (w : World) (hw : StrsAt w a ws) (h0 : 0 ≤ left) (h1 : left ≤ 1048576)
    (hnm : nm.size ≤ maxLen) (hto : to.size ≤ maxLen) (hdf : df.size ≤ maxLen) (hwg : wg.size ≤ maxLen) (h : (fldSz nm ws to df wg : Int) ≤ left) :
    Calls Try.prog 7 #[.agg #[.string nm, .int .i64 kd, .int .i64 ls, .int .i64 ms, .slice a ws.length cap, .string to, .int .i64 rl, .bool mu, .bool fx, .string df, .string wg], .int .i64 left] w fun e w' => e = .returned (.int .i64 (left - fldSz nm ws to df wg)) ∧ Below w.heap.size w w' := by
  refine (szGateField_any nm kd ls ms a cap ws to rl mu fx df wg left w hw h0 h1 hnm hto hdf hwg).mono ?_
  rintro e w' ⟨rfl, hb⟩
  exact ⟨ret_int (szRes_yes h), hb⟩

theorem szGateField_no (nm : ByteArray) (kd ls ms : Int) (a : Option Addr) (cap : Nat) (ws : List ByteArray) (to : ByteArray) (rl : Int) (mu fx : Bool) (df wg : ByteArray) (left : Int) (w : World) (hw : StrsAt w a ws) (h0 : 0 ≤ left) (h1 : left ≤ 1048576)
    (hnm : nm.size ≤ maxLen) (hto : to.size ≤ maxLen) (hdf : df.size ≤ maxLen) (hwg : wg.size ≤ maxLen) (h : ¬ (fldSz nm ws to df wg : Int) ≤ left) :
    Calls Try.prog 7 #[.agg #[.string nm, .int .i64 kd, .int .i64 ls, .int .i64 ms, .slice a ws.length cap, .string to, .int .i64 rl, .bool mu, .bool fx, .string df, .string wg], .int .i64 left] w fun e w' => e = .returned (.int .i64 (-1)) ∧ Below w.heap.size w w' := by
  refine (szGateField_any nm kd ls ms a cap ws to rl mu fx df wg left w hw h0 h1 hnm hto hdf hwg).mono ?_
  rintro e w' ⟨rfl, hb⟩
  exact ⟨ret_int (szRes_no h), hb⟩

set_option maxHeartbeats 1000000 in
theorem szGateFieldS_any (a : Option Addr) (cap : Nat) (fs : List Fld) (left : Int) (w : World) (hw : FldsAt w a fs) (h0 : 0 ≤ left) (h1 : left ≤ 1048576) :
    Calls Try.prog 66 #[.slice a fs.length cap, .int .i64 left] w fun e w' => e = .returned (.int .i64 (szRes (fldsSz fs) left)) ∧ Below w.heap.size w w' := by
  have hl := hw.len
  unfold maxLen at hl
  by_cases hfit : (fs.length : Int) ≤ left
  · go_enter Try.func66, Try.ntmps66
    go_wp2_with fail
    go_loopw [1, 5] (fun l i wr => ∃ k : Nat, k ≤ fs.length ∧ i = .int .i64 k ∧ 0 ≤ left - fs.length - sumF (fs.take k) ∧ l = .int .i64 (left - fs.length - sumF (fs.take k)) ∧ Below w.heap.size w wr) (fun _ i _ => fs.length - (intOf i).toNat)
    case atStart => exact ⟨0, Nat.zero_le _, rfl, by simp [sumF]; omega, by simp [sumF], Below.refl _ _⟩
    case round =>
      obtain ⟨k, hk, rfl, hpos, rfl, hB⟩ := hrel
      by_cases hlt : k < fs.length
      · obtain ⟨b, off, rfl, hb, hr⟩ := hw.rows (by rintro rfl; simp at hlt)
        obtain ⟨wa, wcap, hf0⟩ := hr k hlt
        have hf := hf0.mono hb hB
        obtain ⟨c0, c1, c2, c3, c4, c5, c6, c7, c8, c9, c10⟩ := hf.load
        have hsm := hf.small
        have hst := hf.strs
        have HS : Hid (sumF (fs.take (k + 1)) = sumF (fs.take k) + fs[k].sz) := sum_snoc Fld.sz fs k hlt
        have hle : sumF (fs.take (k + 1)) ≤ sumF fs := sum_le Fld.sz fs (k + 1)
        clear hw hr hf0 hf
        by_cases hneg : (fldSz fs[k].nm fs[k].ws fs[k].to fs[k].df fs[k].wg : Int) ≤ left - fs.length - sumF (fs.take k)
        · have HNG : Hid ((fldSz fs[k].nm fs[k].ws fs[k].to fs[k].df fs[k].wg : Int) ≤ left - fs.length - sumF (fs.take k)) := hneg
          clear hle
          go_wp2_with fail
          refine (szGateField_yes _ _ _ _ _ _ _ _ _ _ _ _ _ _ _ hst hpos (by omega) hsm.nm hsm.to hsm.df hsm.wg HNG.out).mono ?_
          rintro e w1 ⟨rfl, hb1⟩
          have hB1 := hB.trans (hb1.mono hB.size)
          clear hb1
          go_wp2_with fail
          exact ⟨⟨k + 1, by omega, by go_num, by rw [HS.out]; show 0 ≤ _ - ((_ + fldSz _ _ _ _ _ : Nat) : Int); omega, by rw [HS.out]; show Value.int _ _ = Value.int _ (_ - ((_ + fldSz _ _ _ _ _ : Nat) : Int)); congr 1; omega, hB1⟩, by simp [intOf]; omega⟩
        · have HF : Hid (szRes (fldsSz fs) left = -1) := szRes_no (by have := HS.out; unfold fldsSz; unfold Fld.sz at this; omega)
          have HNG : Hid (¬ (fldSz fs[k].nm fs[k].ws fs[k].to fs[k].df fs[k].wg : Int) ≤ left - fs.length - sumF (fs.take k)) := hneg
          clear hneg hle
          go_wp2_with fail
          refine (szGateField_no _ _ _ _ _ _ _ _ _ _ _ _ _ _ _ hst hpos (by omega) hsm.nm hsm.to hsm.df hsm.wg (by have := HNG.out; omega)).mono ?_
          rintro e w1 ⟨rfl, hb1⟩
          have hB1 := hB.trans (hb1.mono hB.size)
          clear hb1
          go_wp2_with fail
          go_ret
          exact ⟨ret_int HF.out.symm, hB1⟩
      · have HF : Hid (szRes (fldsSz fs) left = left - fs.length - sumF (fs.take k)) := by
          rw [List.take_of_length_le (by omega)] at hpos ⊢
          have e : szRes (fldsSz fs) left = left - fldsSz fs := szRes_yes (by unfold fldsSz; omega)
          unfold Hid; rw [e]; unfold fldsSz; omega
        clear hw
        go_wp2
        go_ret
        exact ⟨ret_int HF.out.symm, hB⟩
  · have HF : Hid (szRes (fldsSz fs) left = -1) := szRes_no (by unfold fldsSz; omega)
    clear hw
    go_enter Try.func66, Try.ntmps66
    go_wp2
    go_ret
    exact ⟨ret_int HF.out.symm, Below.refl _ _⟩

theorem szGateFieldS_yes (a : Option Addr) (cap : Nat) (fs : List Fld) (left : Int) (w : World) (hw : FldsAt w a fs) (h0 : 0 ≤ left) (h1 : left ≤ 1048576) (h : (fldsSz fs : Int) ≤ left) :
    Calls Try.prog 66 #[.slice a fs.length cap, .int .i64 left] w fun e w' => e = .returned (.int .i64 (left - fldsSz fs)) ∧ Below w.heap.size w w' := by
  refine (szGateFieldS_any a cap fs left w hw h0 h1).mono ?_
  rintro e w' ⟨rfl, hb⟩
  exact ⟨ret_int (szRes_yes h), hb⟩

theorem szGateFieldS_no (a : Option Addr) (cap : Nat) (fs : List Fld) (left : Int) (w : World) (hw : FldsAt w a fs) (h0 : 0 ≤ left) (h1 : left ≤ 1048576) (h : ¬ (fldsSz fs : Int) ≤ left) :
    Calls Try.prog 66 #[.slice a fs.length cap, .int .i64 left] w fun e w' => e = .returned (.int .i64 (-1)) ∧ Below w.heap.size w w' := by
  refine (szGateFieldS_any a cap fs left w hw h0 h1).mono ?_
  rintro e w' ⟨rfl, hb⟩
  exact ⟨ret_int (szRes_no h), hb⟩

set_option maxHeartbeats 1000000 in
theorem szGateShape_any (kd : ByteArray) (a : Option Addr) (cap : Nat) (fs : List Fld) (left : Int) (w : World) (hkd : kd.size ≤ maxLen) (hw : FldsAt w a fs) (h0 : 0 ≤ left) (h1 : left ≤ 1048576) :
    Calls Try.prog 39 #[.agg #[.string kd, .slice a fs.length cap], .int .i64 left] w fun e w' => e = .returned (.int .i64 (szRes (Shp.sz ⟨kd, fs⟩) left)) ∧ Below w.heap.size w w' := by
  unfold maxLen at hkd
  by_cases c1 : (kd.size : Int) ≤ left
  rotate_left
  · have HF : Hid (szRes (Shp.sz ⟨kd, fs⟩) left = -1) := szRes_no (by unfold Shp.sz; simp only; omega)
    go_enter Try.func39, Try.ntmps39
    go_wp2_with fail
    go_ret
    exact ⟨ret_int HF.out.symm, (Below.refl _ _).alloc (Nat.le_refl _) _⟩
  by_cases c2 : (fldsSz fs : Int) ≤ left - kd.size
  · have HF : Hid (szRes (Shp.sz ⟨kd, fs⟩) left = left - kd.size - fldsSz fs) := by
      have e : szRes (Shp.sz ⟨kd, fs⟩) left = left - Shp.sz ⟨kd, fs⟩ := szRes_yes (by unfold Shp.sz; simp only; omega)
      unfold Hid; rw [e]; unfold Shp.sz; simp only; omega
    go_enter Try.func39, Try.ntmps39
    go_wp2_with fail
    refine (szGateFieldS_yes _ _ _ _ _ (hw.mono ((Below.refl _ _).alloc (Nat.le_refl _) _)) (by omega) (by omega) (by omega)).mono ?_
    rintro e w1 ⟨rfl, hb1⟩
    go_wp2_with fail
    go_ret
    exact ⟨ret_int HF.out.symm, ((Below.refl _ _).alloc (Nat.le_refl _) _).trans (hb1.mono (by simp))⟩
  · have HF : Hid (szRes (Shp.sz ⟨kd, fs⟩) left = -1) := szRes_no (by unfold Shp.sz; simp only; omega)
    go_enter Try.func39, Try.ntmps39
    go_wp2_with fail
    refine (szGateFieldS_no _ _ _ _ _ (hw.mono ((Below.refl _ _).alloc (Nat.le_refl _) _)) (by omega) (by omega) (by omega)).mono ?_
    rintro e w1 ⟨rfl, hb1⟩
    go_wp2_with fail
    go_ret
    exact ⟨ret_int HF.out.symm, ((Below.refl _ _).alloc (Nat.le_refl _) _).trans (hb1.mono (by simp))⟩

theorem szGateShape_yes (kd : ByteArray) (a : Option Addr) (cap : Nat) (fs : List Fld) (left : Int) (w : World) (hkd : kd.size ≤ maxLen) (hw : FldsAt w a fs) (h0 : 0 ≤ left) (h1 : left ≤ 1048576) (h : (Shp.sz ⟨kd, fs⟩ : Int) ≤ left) :
    Calls Try.prog 39 #[.agg #[.string kd, .slice a fs.length cap], .int .i64 left] w fun e w' => e = .returned (.int .i64 (left - Shp.sz ⟨kd, fs⟩)) ∧ Below w.heap.size w w' := by
  refine (szGateShape_any kd a cap fs left w hkd hw h0 h1).mono ?_
  rintro e w' ⟨rfl, hb⟩
  exact ⟨ret_int (szRes_yes h), hb⟩

theorem szGateShape_no (kd : ByteArray) (a : Option Addr) (cap : Nat) (fs : List Fld) (left : Int) (w : World) (hkd : kd.size ≤ maxLen) (hw : FldsAt w a fs) (h0 : 0 ≤ left) (h1 : left ≤ 1048576) (h : ¬ (Shp.sz ⟨kd, fs⟩ : Int) ≤ left) :
    Calls Try.prog 39 #[.agg #[.string kd, .slice a fs.length cap], .int .i64 left] w fun e w' => e = .returned (.int .i64 (-1)) ∧ Below w.heap.size w w' := by
  refine (szGateShape_any kd a cap fs left w hkd hw h0 h1).mono ?_
  rintro e w' ⟨rfl, hb⟩
  exact ⟨ret_int (szRes_no h), hb⟩

set_option maxHeartbeats 1000000 in
theorem szGateShapeS_any (a : Option Addr) (cap : Nat) (ss : List Shp) (left : Int) (w : World) (hw : ShpsAt w a ss) (h0 : 0 ≤ left) (h1 : left ≤ 1048576) :
    Calls Try.prog 12 #[.slice a ss.length cap, .int .i64 left] w fun e w' => e = .returned (.int .i64 (szRes (shpsSz ss) left)) ∧ Below w.heap.size w w' := by
  have hl := hw.len
  unfold maxLen at hl
  by_cases hfit : (ss.length : Int) ≤ left
  · go_enter Try.func12, Try.ntmps12
    go_wp2_with fail
    go_loopw [1, 5] (fun l i wr => ∃ k : Nat, k ≤ ss.length ∧ i = .int .i64 k ∧ 0 ≤ left - ss.length - sumS (ss.take k) ∧ l = .int .i64 (left - ss.length - sumS (ss.take k)) ∧ Below w.heap.size w wr) (fun _ i _ => ss.length - (intOf i).toNat)
    case atStart => exact ⟨0, Nat.zero_le _, rfl, by simp [sumS]; omega, by simp [sumS], Below.refl _ _⟩
    case round =>
      obtain ⟨k, hk, rfl, hpos, rfl, hB⟩ := hrel
      by_cases hlt : k < ss.length
      · obtain ⟨b, off, rfl, hb, hr⟩ := hw.rows (by rintro rfl; simp at hlt)
        obtain ⟨fa, fcap, hs0⟩ := hr k hlt
        have hs := hs0.mono hb hB
        have hck := hs.kind
        have hcl := hs.list
        have hfl := hs.flds
        have hsm := hs.small
        have HS : Hid (sumS (ss.take (k + 1)) = sumS (ss.take k) + Shp.sz ⟨ss[k].kd, ss[k].fs⟩) := sum_snoc Shp.sz ss k hlt
        have hle : sumS (ss.take (k + 1)) ≤ sumS ss := sum_le Shp.sz ss (k + 1)
        clear hw hr hs0 hs
        by_cases hneg : (Shp.sz ⟨ss[k].kd, ss[k].fs⟩ : Int) ≤ left - ss.length - sumS (ss.take k)
        · have HNG : Hid ((Shp.sz ⟨ss[k].kd, ss[k].fs⟩ : Int) ≤ left - ss.length - sumS (ss.take k)) := hneg
          clear hle
          go_wp2_with fail
          refine (szGateShape_yes _ _ _ _ _ _ hsm hfl hpos (by omega) HNG.out).mono ?_
          rintro e w1 ⟨rfl, hb1⟩
          have hB1 := hB.trans (hb1.mono hB.size)
          clear hb1
          go_wp2_with fail
          exact ⟨⟨k + 1, by omega, by go_num, by rw [HS.out]; omega, by rw [HS.out]; congr 1; omega, hB1⟩, by simp [intOf]; omega⟩
        · have HF : Hid (szRes (shpsSz ss) left = -1) := szRes_no (by have := HS.out; unfold shpsSz; omega)
          have HNG : Hid (¬ (Shp.sz ⟨ss[k].kd, ss[k].fs⟩ : Int) ≤ left - ss.length - sumS (ss.take k)) := hneg
          clear hneg hle
          go_wp2_with fail
          refine (szGateShape_no _ _ _ _ _ _ hsm hfl hpos (by omega) (by have := HNG.out; omega)).mono ?_
          rintro e w1 ⟨rfl, hb1⟩
          have hB1 := hB.trans (hb1.mono hB.size)
          clear hb1
          go_wp2_with fail
          go_ret
          exact ⟨ret_int HF.out.symm, hB1⟩
      · have HF : Hid (szRes (shpsSz ss) left = left - ss.length - sumS (ss.take k)) := by
          rw [List.take_of_length_le (by omega)] at hpos ⊢
          have e : szRes (shpsSz ss) left = left - shpsSz ss := szRes_yes (by unfold shpsSz; omega)
          unfold Hid; rw [e]; unfold shpsSz; omega
        clear hw
        go_wp2
        go_ret
        exact ⟨ret_int HF.out.symm, hB⟩
  · have HF : Hid (szRes (shpsSz ss) left = -1) := szRes_no (by unfold shpsSz; omega)
    clear hw
    go_enter Try.func12, Try.ntmps12
    go_wp2
    go_ret
    exact ⟨ret_int HF.out.symm, Below.refl _ _⟩

end Go.Proofs.Ytbefjngbilakjaa

namespace Go.Proofs.Ytbefjngbilakjaa
open Go.RowKit

set_option maxHeartbeats 2000000 in
theorem eqGateFieldS_yes (a a' : Option Addr) (cap cap' : Nat) (fs : List Fld) (w : World) (hw : FldsAt w a fs) (hw' : FldsAt w a' fs) :
    Calls Try.prog 74 #[.slice a fs.length cap, .slice a' fs.length cap'] w fun e w' => e = .returned (.bool true) ∧ Below w.heap.size w w' := by
  have hl := hw.len
  unfold maxLen at hl
  have hnn : ((fs.length : Int) != fs.length) = false := by simp
  go_enter Try.func74, Try.ntmps74
  go_wp2_with fail
  go_loopw [5] (fun i wr => ∃ k : Nat, k ≤ fs.length ∧ i = .int .i64 k ∧ Below w.heap.size w wr) (fun i _ => fs.length - (intOf i).toNat)
  case atStart => exact ⟨0, Nat.zero_le _, rfl, Below.refl _ _⟩
  case round =>
    obtain ⟨k, hk, rfl, hB⟩ := hrel
    by_cases hlt : k < fs.length
    · obtain ⟨b, off, rfl, hb, hr⟩ := hw.rows (by rintro rfl; simp at hlt)
      obtain ⟨b', off', rfl, hb', hr'⟩ := hw'.rows (by rintro rfl; simp at hlt)
      obtain ⟨wa, wcap, hf0⟩ := hr k hlt
      obtain ⟨wa', wcap', hf0'⟩ := hr' k hlt
      have hf := hf0.mono hb hB
      have hf' := hf0'.mono hb' hB
      obtain ⟨c0, c1, c2, c3, c4, c5, c6, c7, c8, c9, c10⟩ := hf.load
      obtain ⟨d0, d1, d2, d3, d4, d5, d6, d7, d8, d9, d10⟩ := hf'.load
      have hst := hf.strs
      have hst' := hf'.strs
      have hltI : (k : Int) < (fs.length : Int) := by omega
      clear hw hw' hr hr' hf0 hf0' hf hf'
      go_wp2_with fail
      go_region_with (go_at_call 11; refine (eqGateField_yes _ _ _ _ _ _ _ _ _ _ _ _ _ _ _ _ (by exact hst.mono ((Below.refl _ _).drew)) (by exact hst'.mono ((Below.refl _ _).drew))).mono ?_; rintro e w1 ⟨rfl, hb1'⟩; have hb1 := (Below.refl wr.heap.size wr).drew.trans hb1'; clear hb1')
      all_goals go_wp2_with fail
      all_goals exact ⟨⟨k + 1, by omega, by go_num, hB.trans (hb1.mono hB.size)⟩, by simp [intOf]; omega⟩
    · clear hw hw'
      go_wp2_with fail
      go_ret
      exact ⟨rfl, hB⟩

set_option maxHeartbeats 1000000 in
theorem eqGateShape_yes (kd : ByteArray) (a a' : Option Addr) (cap cap' : Nat) (fs : List Fld) (w : World) (hw : FldsAt w a fs) (hw' : FldsAt w a' fs) :
    Calls Try.prog 44 #[.agg #[.string kd, .slice a fs.length cap], .agg #[.string kd, .slice a' fs.length cap']] w fun e w' => e = .returned (.bool true) ∧ Below w.heap.size w w' := by
  go_enter Try.func44, Try.ntmps44
  go_wp2_with fail
  refine (eqGateFieldS_yes _ _ _ _ _ _ (hw.mono (below2' _ _ _)) (hw'.mono (below2' _ _ _))).mono ?_
  rintro e w1 ⟨rfl, hb1⟩
  go_wp2_with fail
  go_ret
  exact ⟨rfl, (below2' _ _ _).trans (hb1.mono (by simp; omega))⟩

set_option maxHeartbeats 2000000 in
theorem eqGateShapeS_yes (a a' : Option Addr) (cap cap' : Nat) (ss : List Shp) (w : World) (hw : ShpsAt w a ss) (hw' : ShpsAt w a' ss) :
    Calls Try.prog 16 #[.slice a ss.length cap, .slice a' ss.length cap'] w fun e w' => e = .returned (.bool true) ∧ Below w.heap.size w w' := by
  have hl := hw.len
  unfold maxLen at hl
  have hnn : ((ss.length : Int) != ss.length) = false := by simp
  go_enter Try.func16, Try.ntmps16
  go_wp2_with fail
  go_loopw [5] (fun i wr => ∃ k : Nat, k ≤ ss.length ∧ i = .int .i64 k ∧ Below w.heap.size w wr) (fun i _ => ss.length - (intOf i).toNat)
  case atStart => exact ⟨0, Nat.zero_le _, rfl, Below.refl _ _⟩
  case round =>
    obtain ⟨k, hk, rfl, hB⟩ := hrel
    by_cases hlt : k < ss.length
    · obtain ⟨b, off, rfl, hb, hr⟩ := hw.rows (by rintro rfl; simp at hlt)
      obtain ⟨b', off', rfl, hb', hr'⟩ := hw'.rows (by rintro rfl; simp at hlt)
      obtain ⟨wa, wcap, hf0⟩ := hr k hlt
      obtain ⟨wa', wcap', hf0'⟩ := hr' k hlt
      have hf := hf0.mono hb hB
      have hf' := hf0'.mono hb' hB
      have c0 := hf.kind
      have c1 := hf.list
      have d0 := hf'.kind
      have d1 := hf'.list
      have hst := hf.flds
      have hst' := hf'.flds
      have hltI : (k : Int) < (ss.length : Int) := by omega
      clear hw hw' hr hr' hf0 hf0' hf hf'
      go_wp2_with fail
      go_region_with (go_at_call 44; refine (eqGateShape_yes _ _ _ _ _ _ _ (by exact hst.mono ((Below.refl _ _).drew)) (by exact hst'.mono ((Below.refl _ _).drew))).mono ?_; rintro e w1 ⟨rfl, hb1'⟩; have hb1 := (Below.refl wr.heap.size wr).drew.trans hb1'; clear hb1')
      all_goals go_wp2_with fail
      all_goals exact ⟨⟨k + 1, by omega, by go_num, hB.trans (hb1.mono hB.size)⟩, by simp [intOf]; omega⟩
    · clear hw hw'
      go_wp2_with fail
      go_ret
      exact ⟨rfl, hB⟩

end Go.Proofs.Ytbefjngbilakjaa

namespace Go.Proofs.Ytbefjngbilakjaa
open Go.RowKit

def obSz (o : Ob) : Nat := o.kd.size + o.nm.size + o.tm.size + strsSz o.vs + strsSz o.hs

set_option maxHeartbeats 2000000 in
theorem szGateObject_any (o : Ob) (a a' : Option Addr) (cap cap' : Nat) (left : Int) (w : World) (ho : ObAt w o a a') (h0 : 0 ≤ left) (h1 : left ≤ 1048576) :
    Calls Try.prog 17 #[.agg #[.string o.kd, .string o.nm, .string o.tm, .slice a o.vs.length cap, .bool o.en, .slice a' o.hs.length cap', .int .i64 o.vr], .int .i64 left] w fun e w' => e = .returned (.int .i64 (szRes (obSz o) left)) ∧ Below w.heap.size w w' := by
  have hkd := ho.small.kd
  have hnm := ho.small.nm
  have htm := ho.small.tm
  have hv := ho.vals
  have hh := ho.holds
  clear ho
  unfold maxLen at hkd hnm htm
  by_cases c1 : (o.kd.size : Int) ≤ left
  rotate_left
  · have HF : Hid (szRes (obSz o) left = -1) := szRes_no (by unfold obSz; omega)
    go_enter Try.func17, Try.ntmps17
    go_wp2_with fail
    go_ret
    exact ⟨ret_int HF.out.symm, (Below.refl _ _).alloc (Nat.le_refl _) _⟩
  by_cases c2 : (o.nm.size : Int) ≤ left - o.kd.size
  rotate_left
  · have HF : Hid (szRes (obSz o) left = -1) := szRes_no (by unfold obSz; omega)
    go_enter Try.func17, Try.ntmps17
    go_wp2_with fail
    go_ret
    exact ⟨ret_int HF.out.symm, (Below.refl _ _).alloc (Nat.le_refl _) _⟩
  by_cases c3 : (o.tm.size : Int) ≤ left - o.kd.size - o.nm.size
  rotate_left
  · have HF : Hid (szRes (obSz o) left = -1) := szRes_no (by unfold obSz; omega)
    go_enter Try.func17, Try.ntmps17
    go_wp2_with fail
    go_ret
    exact ⟨ret_int HF.out.symm, (Below.refl _ _).alloc (Nat.le_refl _) _⟩
  by_cases c4 : (strsSz o.vs : Int) ≤ left - o.kd.size - o.nm.size - o.tm.size
  rotate_left
  · have HF : Hid (szRes (obSz o) left = -1) := szRes_no (by unfold obSz; omega)
    go_enter Try.func17, Try.ntmps17
    go_wp2_with fail
    refine (szStringS_no _ _ _ _ _ (hv.mono ((Below.refl _ _).alloc (Nat.le_refl _) _)) (by omega) (by omega) (by omega)).mono ?_
    rintro e w1 ⟨rfl, rfl⟩
    go_wp2_with fail
    go_ret
    exact ⟨ret_int HF.out.symm, (Below.refl _ _).alloc (Nat.le_refl _) _⟩
  by_cases c5 : (strsSz o.hs : Int) ≤ left - o.kd.size - o.nm.size - o.tm.size - strsSz o.vs
  rotate_left
  · have HF : Hid (szRes (obSz o) left = -1) := szRes_no (by unfold obSz; omega)
    go_enter Try.func17, Try.ntmps17
    go_wp2_with fail
    refine (szStringS_yes _ _ _ _ _ (hv.mono ((Below.refl _ _).alloc (Nat.le_refl _) _)) (by omega) (by omega) (by omega)).mono ?_
    rintro e w1 ⟨rfl, rfl⟩
    go_wp2_with fail
    refine (szStringS_no _ _ _ _ _ (hh.mono ((Below.refl _ _).alloc (Nat.le_refl _) _)) (by omega) (by omega) (by omega)).mono ?_
    rintro e w1 ⟨rfl, rfl⟩
    go_wp2_with fail
    go_ret
    exact ⟨ret_int HF.out.symm, (Below.refl _ _).alloc (Nat.le_refl _) _⟩
  · have HF : Hid (szRes (obSz o) left = left - o.kd.size - o.nm.size - o.tm.size - strsSz o.vs - strsSz o.hs) := by
      have e : szRes (obSz o) left = left - obSz o := szRes_yes (by unfold obSz; omega)
      unfold Hid; rw [e]; unfold obSz; omega
    go_enter Try.func17, Try.ntmps17
    go_wp2_with fail
    refine (szStringS_yes _ _ _ _ _ (hv.mono ((Below.refl _ _).alloc (Nat.le_refl _) _)) (by omega) (by omega) (by omega)).mono ?_
    rintro e w1 ⟨rfl, rfl⟩
    go_wp2_with fail
    refine (szStringS_yes _ _ _ _ _ (hh.mono ((Below.refl _ _).alloc (Nat.le_refl _) _)) (by omega) (by omega) (by omega)).mono ?_
    rintro e w1 ⟨rfl, rfl⟩
    go_wp2_with fail
    go_ret
    exact ⟨ret_int HF.out.symm, (Below.refl _ _).alloc (Nat.le_refl _) _⟩

set_option maxHeartbeats 1000000 in
theorem eqGateObject_yes (o : Ob) (a a' b b' : Option Addr) (cap cap' dap dap' : Nat) (w : World) (ho : ObAt w o a a') (ho' : ObAt w o b b') :
    Calls Try.prog 21 #[.agg #[.string o.kd, .string o.nm, .string o.tm, .slice a o.vs.length cap, .bool o.en, .slice a' o.hs.length cap', .int .i64 o.vr], .agg #[.string o.kd, .string o.nm, .string o.tm, .slice b o.vs.length dap, .bool o.en, .slice b' o.hs.length dap', .int .i64 o.vr]] w fun e w' => e = .returned (.bool true) ∧ Below w.heap.size w w' := by
  go_enter Try.func21, Try.ntmps21
  go_wp2_with fail
  refine (eqStringS_yes _ _ _ _ _ _ (ho.vals.mono (below2' _ _ _)) (ho'.vals.mono (below2' _ _ _))).mono ?_
  rintro e w1 ⟨rfl, hb1⟩
  have hX1 := box_later (wk := (w.alloc (.cells #[.string o.kd, .string o.nm, .string o.tm, .slice a o.vs.length cap, .bool o.en, .slice a' o.hs.length cap', .int .i64 o.vr] 41)).alloc (.cells #[.string o.kd, .string o.nm, .string o.tm, .slice b o.vs.length dap, .bool o.en, .slice b' o.hs.length dap', .int .i64 o.vr] 41)) (b := w.heap.size) (X := #[.string o.kd, .string o.nm, .string o.tm, .slice a o.vs.length cap, .bool o.en, .slice a' o.hs.length cap', .int .i64 o.vr]) (fun j => by rw [World.cell?_alloc_lt _ _ ⟨w.heap.size, j, none⟩ (by simp)]; exact box_new w _ _ j) (by simp; omega) hb1
  have hY1 := box_later (wk := (w.alloc (.cells #[.string o.kd, .string o.nm, .string o.tm, .slice a o.vs.length cap, .bool o.en, .slice a' o.hs.length cap', .int .i64 o.vr] 41)).alloc (.cells #[.string o.kd, .string o.nm, .string o.tm, .slice b o.vs.length dap, .bool o.en, .slice b' o.hs.length dap', .int .i64 o.vr] 41)) (b := w.heap.size + 1) (X := #[.string o.kd, .string o.nm, .string o.tm, .slice b o.vs.length dap, .bool o.en, .slice b' o.hs.length dap', .int .i64 o.vr]) (fun j => by rw [World.cell?_alloc_at _ _ _ _ (by simp)]) (by simp) hb1
  have hz1 : w.heap.size + 1 < w1.heap.size := by have := hb1.size; simp at this; omega
  have hB1 : Below w.heap.size w w1 := (below2' _ _ _).trans (hb1.mono (by simp; omega))
  clear hb1
  go_wp2_with fail
  refine (eqStringS_yes _ _ _ _ _ _ (ho.holds.mono hB1) (ho'.holds.mono hB1)).mono ?_
  rintro e w2 ⟨rfl, hb2⟩
  have hX2 := box_later hX1 (by omega) hb2
  have hY2 := box_later hY1 (by omega) hb2
  have hB2 := hB1.trans (hb2.mono (by omega))
  clear hb2 hX1 hY1
  go_wp2_with fail
  go_ret
  exact ⟨rfl, hB2⟩

theorem at5a (w : World) (o1 o2 o3 o4 o5 : Obj) : (((((w.alloc o1).alloc o2).alloc o3).alloc o4).alloc o5).heap[w.heap.size + 1 + 1 + 1]? = some o4 :=
  (Below.heap_alloc _ _ _ (by simp)).trans (at4 _ _ _ _ _)
theorem at5b (w : World) (o1 o2 o3 o4 o5 : Obj) : (((((w.alloc o1).alloc o2).alloc o3).alloc o4).alloc o5).heap[w.heap.size + 1 + 1 + 1 + 1]? = some o5 := by
  have h := (MapKept.heap_alloc ((((w.alloc o1).alloc o2).alloc o3).alloc o4) o5).1
  simpa using h

set_option maxHeartbeats 2000000 in
theorem toGateObject_any (o : Ob) (a a' : Option Addr) (cap cap' : Nat) (w : World) (ho : ObAt w o a a') (hl : o.vs.length ≤ 1048576) (hl' : o.hs.length ≤ 1048576) :
    Calls Try.prog 19 #[.agg #[.string o.kd, .string o.nm, .string o.tm, .slice a o.vs.length cap, .bool o.en, .slice a' o.hs.length cap', .int .i64 o.vr]] w fun e w' => ∃ bv bh, e = .returned (.agg #[.string o.kd, .string o.nm, .string o.tm, .slice (some ⟨bv, 0, none⟩) o.vs.length o.vs.length, .bool o.en, .slice (some ⟨bh, 0, none⟩) o.hs.length o.hs.length, .int .i64 o.vr]) ∧
      w.heap.size ≤ bv ∧ w.heap.size ≤ bh ∧ bv ≠ bh ∧ w'.heap[bv]? = some (.cells (strArr o.vs) 9) ∧ w'.heap[bh]? = some (.cells (strArr o.hs) 9) ∧ Below w.heap.size w w' := by
  go_enter Try.func19, Try.ntmps19
  go_wp2_with fail
  refine (toStringS_any _ _ _ _ (ho.vals.mono ((((Below.refl _ _).alloc (Nat.le_refl _) _).alloc (by simp) _).alloc (by simp; omega) _)) hl).mono ?_
  rintro e w1 ⟨rfl, rfl⟩
  go_wp2_with fail
  refine (toStringS_any _ _ _ _ (ho.holds.mono (below4 _ _ _ _ _)) hl').mono ?_
  rintro e w2 ⟨rfl, rfl⟩
  go_wp2_with fail
  refine bodyPost_ret (v := .agg #[.string o.kd, .string o.nm, .string o.tm, .slice (some ⟨w.heap.size + 1 + 1 + 1, 0, none⟩) o.vs.length o.vs.length, .bool o.en, .slice (some ⟨w.heap.size + 1 + 1 + 1 + 1, 0, none⟩) o.hs.length o.hs.length, .int .i64 o.vr]) (by simp [results, Try.results19, go_sem]) rfl ⟨w.heap.size + 1 + 1 + 1, w.heap.size + 1 + 1 + 1 + 1, rfl, by omega, by omega, by omega, at5a _ _ _ _ _ _, at5b _ _ _ _ _ _, (below4 _ _ _ _ _).alloc (by simp; omega) _⟩

end Go.Proofs.Ytbefjngbilakjaa
