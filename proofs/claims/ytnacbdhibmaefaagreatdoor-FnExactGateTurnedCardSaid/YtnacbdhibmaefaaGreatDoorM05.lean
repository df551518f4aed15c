import Derived.Test.YtnacbdhibmaefaaGreatDoorM04
import Derived.Test.YtnacbdhibmaefaaGreatDoorM02
import Derived.Test.YtnacbdhibmaefaaGreatDoorM03
namespace Go.Proofs.YtnacbdhibmaefaaGreatDoor
open Go.RowKit

set_option maxHeartbeats 400000 in
theorem nameIs_any (nm : ByteArray) (kd ls ms : Int) (sl : Value) (to : ByteArray) (rl : Int) (mu fx : Bool) (df wg : ByteArray) (v : ByteArray) (bn : Nat) (w : World) (hb : bn < w.heap.size) (hn : w.cell? ⟨bn, 0, none⟩ = some (.string v)) :
    Calls Tryz.prog 68 #[.agg #[.string nm, .int .i64 kd, .int .i64 ls, .int .i64 ms, sl, .string to, .int .i64 rl, .bool mu, .bool fx, .string df, .string wg], .pointer (some ⟨bn, 0, none⟩)] w fun e w' => e = .returned (.bool (nm.toList == v.toList)) ∧ Below w.heap.size w w' := by
  go_enter Tryz.func68, Tryz.ntmps68
  go_wp2
  go_ret
  exact ⟨rfl, (Below.refl _ _).alloc (Nat.le_refl _) _⟩

theorem FldIn.load {w : World} {b off : Nat} {f : Fld} {a : Option Addr} {cap : Nat} (h : FldIn w b off f a cap) :
    w.cell? ⟨b, off, none⟩ = some (.string f.nm) ∧ w.cell? ⟨b, off + 1, none⟩ = some (.int .i64 f.kd) ∧ w.cell? ⟨b, off + 2, none⟩ = some (.int .i64 f.ls) ∧ w.cell? ⟨b, off + 3, none⟩ = some (.int .i64 f.ms) ∧
    w.cell? ⟨b, off + 4, none⟩ = some (.slice a f.ws.length cap) ∧ w.cell? ⟨b, off + 5, none⟩ = some (.string f.to) ∧ w.cell? ⟨b, off + 6, none⟩ = some (.int .i64 f.rl) ∧ w.cell? ⟨b, off + 7, none⟩ = some (.bool f.mu) ∧
    w.cell? ⟨b, off + 8, none⟩ = some (.bool f.fx) ∧ w.cell? ⟨b, off + 9, none⟩ = some (.string f.df) ∧ w.cell? ⟨b, off + 10, none⟩ = some (.string f.wg) :=
  ⟨h.cell 0 (by omega), h.cell 1 (by omega), h.cell 2 (by omega), h.cell 3 (by omega), h.cell 4 (by omega), h.cell 5 (by omega), h.cell 6 (by omega), h.cell 7 (by omega), h.cell 8 (by omega), h.cell 9 (by omega), h.cell 10 (by omega)⟩

set_option maxHeartbeats 1000000 in
theorem IndexFunc_any (a : Option Addr) (cap : Nat) (fs : List Fld) (v : ByteArray) (bn : Nat) (w : World) (hw : FldsAt w a fs) (hbn : bn < w.heap.size) (hn : w.cell? ⟨bn, 0, none⟩ = some (.string v)) :
    Calls Tryz.prog 67 #[.slice a fs.length cap, .func (.func 68) #[] #[.pointer (some ⟨bn, 0, none⟩)]] w fun e w' => e = .returned (.int .i64 (Gate.fieldIx fs v)) ∧ Below w.heap.size w w' := by
  have hl := hw.len
  unfold maxLen at hl
  go_enter Tryz.func67, Tryz.ntmps67
  go_wp2
  go_loopw [8] (fun i wr => ∃ k : Nat, k ≤ fs.length ∧ i = .int .i64 k ∧ Gate.hasName (fs.take k) v = false ∧ Below w.heap.size w wr) (fun i _ => fs.length - (intOf i).toNat)
  case atStart => exact ⟨0, Nat.zero_le _, rfl, rfl, Below.refl _ _⟩
  case round =>
    obtain ⟨k, hk, rfl, hno, hB⟩ := hrel
    by_cases hlt : k < fs.length
    · obtain ⟨b, off, rfl, hb, hr⟩ := hw.rows (by rintro rfl; simp at hlt)
      obtain ⟨wa, wcap, hf⟩ := hr k hlt
      obtain ⟨c0, c1, c2, c3, c4, c5, c6, c7, c8, c9, c10⟩ := (hf.mono hb hB).load
      have hn1 := (hB.cell (p := ⟨bn, 0, none⟩) hbn).trans hn
      have hbn1 : bn < wr.heap.size := Nat.lt_of_lt_of_le hbn hB.size
      clear hw hr hf hn
      by_cases he : fs[k].nm = v
      · have HA : Hid (Gate.fieldIx fs v = k) := Gate.fieldIx_at fs v k hlt hno he
        have HE : Hid ((fs[k].nm.toList == v.toList) = true) := by unfold Hid; rw [Gate.beq_toList]; simpa using he
        clear he hno
        go_wp2_with fail
        refine (as_bool HE.out (nameIs_any _ _ _ _ _ _ _ _ _ _ _ _ _ _ hbn1 hn1)).mono ?_
        rintro e w2 ⟨rfl, hb2⟩
        go_wp2_with fail
        go_ret
        exact ⟨ret_int HA.out.symm, hB.trans (hb2.mono hB.size)⟩
      · have HS : Hid (Gate.hasName (fs.take (k + 1)) v = false) := by unfold Hid; rw [Gate.hasName_snoc fs v k hlt, hno, decide_eq_false he]; rfl
        have HE : Hid ((fs[k].nm.toList == v.toList) = false) := by unfold Hid; rw [Gate.beq_toList]; simpa using he
        clear he hno
        go_wp2_with fail
        refine (as_bool HE.out (nameIs_any _ _ _ _ _ _ _ _ _ _ _ _ _ _ hbn1 hn1)).mono ?_
        rintro e w2 ⟨rfl, hb2⟩
        go_wp2_with fail
        exact ⟨⟨k + 1, by omega, by go_num, HS.out, hB.trans (hb2.mono hB.size)⟩, by simp [intOf]; omega⟩
    · have HA : Hid (Gate.fieldIx fs v = -1) := Gate.fieldIx_none fs v (by rw [← Gate.hasName_all fs v k (by omega)]; exact hno)
      clear hno hw
      go_wp2
      go_ret
      exact ⟨ret_int HA.out.symm, hB⟩

set_option maxHeartbeats 400000 in
theorem fieldPlace_any (a : Option Addr) (cap : Nat) (fs : List Fld) (v : ByteArray) (w : World) (hw : FldsAt w a fs) :
    Calls Tryz.prog 49 #[.slice a fs.length cap, .string v] w fun e w' => e = .returned (.int .i64 (Gate.fieldIx fs v)) ∧ Below w.heap.size w w' := by
  go_enter Tryz.func49, Tryz.ntmps49
  go_wp2_with fail
  refine (IndexFunc_any _ _ _ v _ _ (hw.mono ((Below.refl _ _).alloc (Nat.le_refl _) _)) (by simp) (by rw [World.cell?_alloc_at _ _ _ _ rfl]; rfl)).mono ?_
  rintro e w2 ⟨rfl, hb2⟩
  go_wp2_with fail
  go_ret
  exact ⟨rfl, ((Below.refl _ _).alloc (Nat.le_refl _) _).trans (hb2.mono (by simp))⟩

end Go.Proofs.YtnacbdhibmaefaaGreatDoor

namespace Go.Proofs.YtnacbdhibmaefaaGreatDoor
open Go.RowKit

def Fld.sz (f : Fld) : Nat := fldSz f.nm f.ws f.to f.df f.wg
def sumF (fs : List Fld) : Nat := (fs.map Fld.sz).sum
def fldsSz (fs : List Fld) : Nat := fs.length + sumF fs
def Shp.sz (s : Shp) : Nat := s.kd.size + fldsSz s.fs
def sumS (ss : List Shp) : Nat := (ss.map Shp.sz).sum
def shpsSz (ss : List Shp) : Nat := ss.length + sumS ss

theorem sum_snoc {α : Type} (g : α → Nat) (l : List α) (k : Nat) (h : k < l.length) : ((l.take (k + 1)).map g).sum = ((l.take k).map g).sum + g l[k] := by
  rw [List.take_succ_eq_append_getElem h, List.map_append, List.sum_append]; simp
theorem sum_le {α : Type} (g : α → Nat) (l : List α) (k : Nat) : ((l.take k).map g).sum ≤ (l.map g).sum := by
  conv => rhs; rw [← List.take_append_drop k l]
  rw [List.map_append, List.sum_append]; omega
theorem sum_mem {α : Type} (g : α → Nat) (l : List α) (k : Nat) (h : k < l.length) : g l[k] ≤ (l.map g).sum := by
  have h1 := sum_snoc g l k h
  have h2 := sum_le g l (k + 1)
  omega

theorem szGateField_yes (nm : ByteArray) (kd ls ms : Int) (a : Option Addr) (cap : Nat) (ws : List ByteArray) (to : ByteArray) (rl : Int) (mu fx : Bool) (df wg : ByteArray) (left : Int) (w : World) (hw : StrsAt w a ws) (h0 : 0 ≤ left) (h1 : left ≤ 1048576)
    (hnm : nm.size ≤ maxLen) (hto : to.size ≤ maxLen) (hdf : df.size ≤ maxLen) (hwg : wg.size ≤ maxLen) (h : (fldSz nm ws to df wg : Int) ≤ left) :
    Calls Tryz.prog 37 #[.agg #[.string nm, .int .i64 kd, .int .i64 ls, .int .i64 ms, .slice a ws.length cap, .string to, .int .i64 rl, .bool mu, .bool fx, .string df, .string wg], .int .i64 left] w fun e w' => e = .returned (.int .i64 (left - fldSz nm ws to df wg)) ∧ Below w.heap.size w w' := by
  refine (szGateField_any nm kd ls ms a cap ws to rl mu fx df wg left w hw h0 h1 hnm hto hdf hwg).mono ?_
  rintro e w' ⟨rfl, hb⟩
  exact ⟨ret_int (szRes_yes h), hb⟩

theorem szGateField_no (nm : ByteArray) (kd ls ms : Int) (a : Option Addr) (cap : Nat) (ws : List ByteArray) (to : ByteArray) (rl : Int) (mu fx : Bool) (df wg : ByteArray) (left : Int) (w : World) (hw : StrsAt w a ws) (h0 : 0 ≤ left) (h1 : left ≤ 1048576)
    (hnm : nm.size ≤ maxLen) (hto : to.size ≤ maxLen) (hdf : df.size ≤ maxLen) (hwg : wg.size ≤ maxLen) (h : ¬ (fldSz nm ws to df wg : Int) ≤ left) :
    Calls Tryz.prog 37 #[.agg #[.string nm, .int .i64 kd, .int .i64 ls, .int .i64 ms, .slice a ws.length cap, .string to, .int .i64 rl, .bool mu, .bool fx, .string df, .string wg], .int .i64 left] w fun e w' => e = .returned (.int .i64 (-1)) ∧ Below w.heap.size w w' := by
  refine (szGateField_any nm kd ls ms a cap ws to rl mu fx df wg left w hw h0 h1 hnm hto hdf hwg).mono ?_
  rintro e w' ⟨rfl, hb⟩
  exact ⟨ret_int (szRes_no h), hb⟩

set_option maxHeartbeats 1000000 in
theorem szGateFieldS_any (a : Option Addr) (cap : Nat) (fs : List Fld) (left : Int) (w : World) (hw : FldsAt w a fs) (h0 : 0 ≤ left) (h1 : left ≤ 1048576) :
    Calls Tryz.prog 23 #[.slice a fs.length cap, .int .i64 left] w fun e w' => e = .returned (.int .i64 (szRes (fldsSz fs) left)) ∧ Below w.heap.size w w' := by
  have hl := hw.len
  unfold maxLen at hl
  by_cases hfit : (fs.length : Int) ≤ left
  · go_enter Tryz.func23, Tryz.ntmps23
    go_wp2_with fail
    go_loopw [1, 5] (fun l i wr => ∃ k : Nat, k ≤ fs.length ∧ i = .int .i64 k ∧ 0 ≤ left - fs.length - sumF (fs.take k) ∧ l = .int .i64 (left - fs.length - sumF (fs.take k)) ∧ Below w.heap.size w wr) (fun _ i _ => fs.length - (intOf i).toNat)
    case atStart => exact ⟨0, Nat.zero_le _, rfl, by simp [sumF]; omega, by simp [sumF], Below.refl _ _⟩
    case round =>
      obtain ⟨k, hk, rfl, hpos, rfl, hB⟩ := hrel
      by_cases hlt : k < fs.length
      · obtain ⟨b, off, rfl, hb, hr⟩ := hw.rows (by rintro rfl; simp at hlt)
        obtain ⟨wa, wcap, hf0⟩ := hr k hlt
        have hf := hf0.mono hb hB
        obtain ⟨c0, c1, c2, c3, c4, c5, c6, c7, c8, c9, c10⟩ := hf.load
        have hsm := hf.small
        have hst := hf.strs
        have HS : Hid (sumF (fs.take (k + 1)) = sumF (fs.take k) + fs[k].sz) := sum_snoc Fld.sz fs k hlt
        have hle : sumF (fs.take (k + 1)) ≤ sumF fs := sum_le Fld.sz fs (k + 1)
        clear hw hr hf0 hf
        by_cases hneg : (fldSz fs[k].nm fs[k].ws fs[k].to fs[k].df fs[k].wg : Int) ≤ left - fs.length - sumF (fs.take k)
        · have HNG : Hid ((fldSz fs[k].nm fs[k].ws fs[k].to fs[k].df fs[k].wg : Int) ≤ left - fs.length - sumF (fs.take k)) := hneg
          clear hle
          go_wp2_with fail
          refine (szGateField_yes _ _ _ _ _ _ _ _ _ _ _ _ _ _ _ hst hpos (by omega) hsm.nm hsm.to hsm.df hsm.wg HNG.out).mono ?_
          rintro e w1 ⟨rfl, hb1⟩
          have hB1 := hB.trans (hb1.mono hB.size)
          clear hb1
          go_wp2_with fail
          exact ⟨⟨k + 1, by omega, by go_num, by rw [HS.out]; show 0 ≤ _ - ((_ + fldSz _ _ _ _ _ : Nat) : Int); omega, by rw [HS.out]; show Value.int _ _ = Value.int _ (_ - ((_ + fldSz _ _ _ _ _ : Nat) : Int)); congr 1; omega, hB1⟩, by simp [intOf]; omega⟩
        · have HF : Hid (szRes (fldsSz fs) left = -1) := szRes_no (by have := HS.out; unfold fldsSz; unfold Fld.sz at this; omega)
          have HNG : Hid (¬ (fldSz fs[k].nm fs[k].ws fs[k].to fs[k].df fs[k].wg : Int) ≤ left - fs.length - sumF (fs.take k)) := hneg
          clear hneg hle
          go_wp2_with fail
          refine (szGateField_no _ _ _ _ _ _ _ _ _ _ _ _ _ _ _ hst hpos (by omega) hsm.nm hsm.to hsm.df hsm.wg (by have := HNG.out; omega)).mono ?_
          rintro e w1 ⟨rfl, hb1⟩
          have hB1 := hB.trans (hb1.mono hB.size)
          clear hb1
          go_wp2_with fail
          go_ret
          exact ⟨ret_int HF.out.symm, hB1⟩
      · have HF : Hid (szRes (fldsSz fs) left = left - fs.length - sumF (fs.take k)) := by
          rw [List.take_of_length_le (by omega)] at hpos ⊢
          have e : szRes (fldsSz fs) left = left - fldsSz fs := szRes_yes (by unfold fldsSz; omega)
          unfold Hid; rw [e]; unfold fldsSz; omega
        clear hw
        go_wp2
        go_ret
        exact ⟨ret_int HF.out.symm, hB⟩
  · have HF : Hid (szRes (fldsSz fs) left = -1) := szRes_no (by unfold fldsSz; omega)
    clear hw
    go_enter Tryz.func23, Tryz.ntmps23
    go_wp2
    go_ret
    exact ⟨ret_int HF.out.symm, Below.refl _ _⟩

theorem szGateFieldS_yes (a : Option Addr) (cap : Nat) (fs : List Fld) (left : Int) (w : World) (hw : FldsAt w a fs) (h0 : 0 ≤ left) (h1 : left ≤ 1048576) (h : (fldsSz fs : Int) ≤ left) :
    Calls Tryz.prog 23 #[.slice a fs.length cap, .int .i64 left] w fun e w' => e = .returned (.int .i64 (left - fldsSz fs)) ∧ Below w.heap.size w w' := by
  refine (szGateFieldS_any a cap fs left w hw h0 h1).mono ?_
  rintro e w' ⟨rfl, hb⟩
  exact ⟨ret_int (szRes_yes h), hb⟩

theorem szGateFieldS_no (a : Option Addr) (cap : Nat) (fs : List Fld) (left : Int) (w : World) (hw : FldsAt w a fs) (h0 : 0 ≤ left) (h1 : left ≤ 1048576) (h : ¬ (fldsSz fs : Int) ≤ left) :
    Calls Tryz.prog 23 #[.slice a fs.length cap, .int .i64 left] w fun e w' => e = .returned (.int .i64 (-1)) ∧ Below w.heap.size w w' := by
  refine (szGateFieldS_any a cap fs left w hw h0 h1).mono ?_
  rintro e w' ⟨rfl, hb⟩
  exact ⟨ret_int (szRes_no h), hb⟩

set_option maxHeartbeats 1000000 in
theorem szGateShape_any (kd : ByteArray) (a : Option Addr) (cap : Nat) (fs : List Fld) (left : Int) (w : World) (hkd : kd.size ≤ maxLen) (hw : FldsAt w a fs) (h0 : 0 ≤ left) (h1 : left ≤ 1048576) :
    Calls Tryz.prog 12 #[.agg #[.string kd, .slice a fs.length cap], .int .i64 left] w fun e w' => e = .returned (.int .i64 (szRes (Shp.sz ⟨kd, fs⟩) left)) ∧ Below w.heap.size w w' := by
  unfold maxLen at hkd
  by_cases c1 : (kd.size : Int) ≤ left
  rotate_left
  · have HF : Hid (szRes (Shp.sz ⟨kd, fs⟩) left = -1) := szRes_no (by unfold Shp.sz; simp only; omega)
    go_enter Tryz.func12, Tryz.ntmps12
    go_wp2_with fail
    go_ret
    exact ⟨ret_int HF.out.symm, (Below.refl _ _).alloc (Nat.le_refl _) _⟩
  by_cases c2 : (fldsSz fs : Int) ≤ left - kd.size
  · have HF : Hid (szRes (Shp.sz ⟨kd, fs⟩) left = left - kd.size - fldsSz fs) := by
      have e : szRes (Shp.sz ⟨kd, fs⟩) left = left - Shp.sz ⟨kd, fs⟩ := szRes_yes (by unfold Shp.sz; simp only; omega)
      unfold Hid; rw [e]; unfold Shp.sz; simp only; omega
    go_enter Tryz.func12, Tryz.ntmps12
    go_wp2_with fail
    refine (szGateFieldS_yes _ _ _ _ _ (hw.mono ((Below.refl _ _).alloc (Nat.le_refl _) _)) (by omega) (by omega) (by omega)).mono ?_
    rintro e w1 ⟨rfl, hb1⟩
    go_wp2_with fail
    go_ret
    exact ⟨ret_int HF.out.symm, ((Below.refl _ _).alloc (Nat.le_refl _) _).trans (hb1.mono (by simp))⟩
  · have HF : Hid (szRes (Shp.sz ⟨kd, fs⟩) left = -1) := szRes_no (by unfold Shp.sz; simp only; omega)
    go_enter Tryz.func12, Tryz.ntmps12
    go_wp2_with fail
    refine (szGateFieldS_no _ _ _ _ _ (hw.mono ((Below.refl _ _).alloc (Nat.le_refl _) _)) (by omega) (by omega) (by omega)).mono ?_
    rintro e w1 ⟨rfl, hb1⟩
    go_wp2_with fail
    go_ret
    exact ⟨ret_int HF.out.symm, ((Below.refl _ _).alloc (Nat.le_refl _) _).trans (hb1.mono (by simp))⟩

theorem szGateShape_yes (kd : ByteArray) (a : Option Addr) (cap : Nat) (fs : List Fld) (left : Int) (w : World) (hkd : kd.size ≤ maxLen) (hw : FldsAt w a fs) (h0 : 0 ≤ left) (h1 : left ≤ 1048576) (h : (Shp.sz ⟨kd, fs⟩ : Int) ≤ left) :
    Calls Tryz.prog 12 #[.agg #[.string kd, .slice a fs.length cap], .int .i64 left] w fun e w' => e = .returned (.int .i64 (left - Shp.sz ⟨kd, fs⟩)) ∧ Below w.heap.size w w' := by
  refine (szGateShape_any kd a cap fs left w hkd hw h0 h1).mono ?_
  rintro e w' ⟨rfl, hb⟩
  exact ⟨ret_int (szRes_yes h), hb⟩

theorem szGateShape_no (kd : ByteArray) (a : Option Addr) (cap : Nat) (fs : List Fld) (left : Int) (w : World) (hkd : kd.size ≤ maxLen) (hw : FldsAt w a fs) (h0 : 0 ≤ left) (h1 : left ≤ 1048576) (h : ¬ (Shp.sz ⟨kd, fs⟩ : Int) ≤ left) :
    Calls Tryz.prog 12 #[.agg #[.string kd, .slice a fs.length cap], .int .i64 left] w fun e w' => e = .returned (.int .i64 (-1)) ∧ Below w.heap.size w w' := by
  refine (szGateShape_any kd a cap fs left w hkd hw h0 h1).mono ?_
  rintro e w' ⟨rfl, hb⟩
  exact ⟨ret_int (szRes_no h), hb⟩

set_option maxHeartbeats 1000000 in
theorem szGateShapeS_any (a : Option Addr) (cap : Nat) (ss : List Shp) (left : Int) (w : World) (hw : ShpsAt w a ss) (h0 : 0 ≤ left) (h1 : left ≤ 1048576) :
    Calls Tryz.prog 4 #[.slice a ss.length cap, .int .i64 left] w fun e w' => e = .returned (.int .i64 (szRes (shpsSz ss) left)) ∧ Below w.heap.size w w' := by
  have hl := hw.len
  unfold maxLen at hl
  by_cases hfit : (ss.length : Int) ≤ left
  · go_enter Tryz.func4, Tryz.ntmps4
    go_wp2_with fail
    go_loopw [1, 5] (fun l i wr => ∃ k : Nat, k ≤ ss.length ∧ i = .int .i64 k ∧ 0 ≤ left - ss.length - sumS (ss.take k) ∧ l = .int .i64 (left - ss.length - sumS (ss.take k)) ∧ Below w.heap.size w wr) (fun _ i _ => ss.length - (intOf i).toNat)
    case atStart => exact ⟨0, Nat.zero_le _, rfl, by simp [sumS]; omega, by simp [sumS], Below.refl _ _⟩
    case round =>
      obtain ⟨k, hk, rfl, hpos, rfl, hB⟩ := hrel
      by_cases hlt : k < ss.length
      · obtain ⟨b, off, rfl, hb, hr⟩ := hw.rows (by rintro rfl; simp at hlt)
        obtain ⟨fa, fcap, hs0⟩ := hr k hlt
        have hs := hs0.mono hb hB
        have hck := hs.kind
        have hcl := hs.list
        have hfl := hs.flds
        have hsm := hs.small
        have HS : Hid (sumS (ss.take (k + 1)) = sumS (ss.take k) + Shp.sz ⟨ss[k].kd, ss[k].fs⟩) := sum_snoc Shp.sz ss k hlt
        have hle : sumS (ss.take (k + 1)) ≤ sumS ss := sum_le Shp.sz ss (k + 1)
        clear hw hr hs0 hs
        by_cases hneg : (Shp.sz ⟨ss[k].kd, ss[k].fs⟩ : Int) ≤ left - ss.length - sumS (ss.take k)
        · have HNG : Hid ((Shp.sz ⟨ss[k].kd, ss[k].fs⟩ : Int) ≤ left - ss.length - sumS (ss.take k)) := hneg
          clear hle
          go_wp2_with fail
          refine (szGateShape_yes _ _ _ _ _ _ hsm hfl hpos (by omega) HNG.out).mono ?_
          rintro e w1 ⟨rfl, hb1⟩
          have hB1 := hB.trans (hb1.mono hB.size)
          clear hb1
          go_wp2_with fail
          exact ⟨⟨k + 1, by omega, by go_num, by rw [HS.out]; omega, by rw [HS.out]; congr 1; omega, hB1⟩, by simp [intOf]; omega⟩
        · have HF : Hid (szRes (shpsSz ss) left = -1) := szRes_no (by have := HS.out; unfold shpsSz; omega)
          have HNG : Hid (¬ (Shp.sz ⟨ss[k].kd, ss[k].fs⟩ : Int) ≤ left - ss.length - sumS (ss.take k)) := hneg
          clear hneg hle
          go_wp2_with fail
          refine (szGateShape_no _ _ _ _ _ _ hsm hfl hpos (by omega) (by have := HNG.out; omega)).mono ?_
          rintro e w1 ⟨rfl, hb1⟩
          have hB1 := hB.trans (hb1.mono hB.size)
          clear hb1
          go_wp2_with fail
          go_ret
          exact ⟨ret_int HF.out.symm, hB1⟩
      · have HF : Hid (szRes (shpsSz ss) left = left - ss.length - sumS (ss.take k)) := by
          rw [List.take_of_length_le (by omega)] at hpos ⊢
          have e : szRes (shpsSz ss) left = left - shpsSz ss := szRes_yes (by unfold shpsSz; omega)
          unfold Hid; rw [e]; unfold shpsSz; omega
        clear hw
        go_wp2
        go_ret
        exact ⟨ret_int HF.out.symm, hB⟩
  · have HF : Hid (szRes (shpsSz ss) left = -1) := szRes_no (by unfold shpsSz; omega)
    clear hw
    go_enter Tryz.func4, Tryz.ntmps4
    go_wp2
    go_ret
    exact ⟨ret_int HF.out.symm, Below.refl _ _⟩

end Go.Proofs.YtnacbdhibmaefaaGreatDoor

namespace Go.Proofs.YtnacbdhibmaefaaGreatDoor
open Go.RowKit

theorem heap_setCell_at {w : World} {b o : Nat} {C : Array Value} {t : TypeId} (h : w.heap[b]? = some (.cells C t)) (v : Value) : (w.setCell ⟨b, o, none⟩ v).heap[b]? = some (.cells (C.setIfInBounds o v) t) := by
  simp [World.setCell, Array.getElem?_modify, h]

theorem cell_of_block {w : World} {b o : Nat} {C : Array Value} {t : TypeId} (h : w.heap[b]? = some (.cells C t)) : w.cell? ⟨b, o, none⟩ = C[o]? := by simp [World.cell?, h]
theorem frozen_of_block {w : World} {b o : Nat} {C : Array Value} {t : TypeId} (h : w.heap[b]? = some (.cells C t)) : w.frozen? ⟨b, o, none⟩ = false := by simp [World.frozen?, h]

/-- Eleven cells stored one behind the other. -/
def put11 (w : World) (b o : Nat) (v0 v1 v2 v3 v4 v5 v6 v7 v8 v9 v10 : Value) : World := ((((((((((w.setCell ⟨b, o, none⟩ v0).setCell ⟨b, o + 1, none⟩ v1).setCell ⟨b, o + 2, none⟩ v2).setCell ⟨b, o + 3, none⟩ v3).setCell ⟨b, o + 4, none⟩ v4).setCell ⟨b, o + 5, none⟩ v5).setCell ⟨b, o + 6, none⟩ v6).setCell ⟨b, o + 7, none⟩ v7).setCell ⟨b, o + 8, none⟩ v8).setCell ⟨b, o + 9, none⟩ v9).setCell ⟨b, o + 10, none⟩ v10
def set11 (C : Array Value) (o : Nat) (v0 v1 v2 v3 v4 v5 v6 v7 v8 v9 v10 : Value) : Array Value := ((((((((((C.setIfInBounds o v0).setIfInBounds (o + 1) v1).setIfInBounds (o + 2) v2).setIfInBounds (o + 3) v3).setIfInBounds (o + 4) v4).setIfInBounds (o + 5) v5).setIfInBounds (o + 6) v6).setIfInBounds (o + 7) v7).setIfInBounds (o + 8) v8).setIfInBounds (o + 9) v9).setIfInBounds (o + 10) v10

theorem put11_block {w : World} {b o : Nat} {C : Array Value} {t : TypeId} (h : w.heap[b]? = some (.cells C t)) (v0 v1 v2 v3 v4 v5 v6 v7 v8 v9 v10 : Value) : (put11 w b o v0 v1 v2 v3 v4 v5 v6 v7 v8 v9 v10).heap[b]? = some (.cells (set11 C o v0 v1 v2 v3 v4 v5 v6 v7 v8 v9 v10) t) :=
  heap_setCell_at (heap_setCell_at (heap_setCell_at (heap_setCell_at (heap_setCell_at (heap_setCell_at (heap_setCell_at (heap_setCell_at (heap_setCell_at (heap_setCell_at (heap_setCell_at h v0) v1) v2) v3) v4) v5) v6) v7) v8) v9) v10

theorem put11_below {B : Nat} {a w : World} (h : Below B a w) {b : Nat} (hb : B ≤ b) (o : Nat) (v0 v1 v2 v3 v4 v5 v6 v7 v8 v9 v10 : Value) : Below B a (put11 w b o v0 v1 v2 v3 v4 v5 v6 v7 v8 v9 v10) :=
  ((((((((((h.setCell hb v0).setCell hb v1).setCell hb v2).setCell hb v3).setCell hb v4).setCell hb v5).setCell hb v6).setCell hb v7).setCell hb v8).setCell hb v9).setCell hb v10

theorem put11_size (w : World) (b o : Nat) (v0 v1 v2 v3 v4 v5 v6 v7 v8 v9 v10 : Value) : (put11 w b o v0 v1 v2 v3 v4 v5 v6 v7 v8 v9 v10).heap.size = w.heap.size := by simp [put11, World.setCell]

theorem put11_other (w : World) (b o b' : Nat) (hb : b' ≠ b) (v0 v1 v2 v3 v4 v5 v6 v7 v8 v9 v10 : Value) : (put11 w b o v0 v1 v2 v3 v4 v5 v6 v7 v8 v9 v10).heap[b']? = w.heap[b']? := by
  unfold put11
  iterate 11 rw [Below.heap_setCell _ _ _ _ hb]

theorem set11_size (C : Array Value) (o : Nat) (v0 v1 v2 v3 v4 v5 v6 v7 v8 v9 v10 : Value) : (set11 C o v0 v1 v2 v3 v4 v5 v6 v7 v8 v9 v10).size = C.size := by simp [set11]

theorem set11_out (C : Array Value) (o i : Nat) (v0 v1 v2 v3 v4 v5 v6 v7 v8 v9 v10 : Value) (h : i < o ∨ o + 11 ≤ i) : (set11 C o v0 v1 v2 v3 v4 v5 v6 v7 v8 v9 v10)[i]? = C[i]? := by
  unfold set11
  iterate 11 rw [Array.getElem?_setIfInBounds, if_neg (by omega)]

theorem set11_in (C : Array Value) (o j : Nat) (v0 v1 v2 v3 v4 v5 v6 v7 v8 v9 v10 : Value) (hj : j < 11) (ho : o + 11 ≤ C.size) : (set11 C o v0 v1 v2 v3 v4 v5 v6 v7 v8 v9 v10)[o + j]? = (#[v0, v1, v2, v3, v4, v5, v6, v7, v8, v9, v10] : Array Value)[j]? := by
  have hc : j = 0 ∨ j = 1 ∨ j = 2 ∨ j = 3 ∨ j = 4 ∨ j = 5 ∨ j = 6 ∨ j = 7 ∨ j = 8 ∨ j = 9 ∨ j = 10 := by omega
  unfold set11
  rcases hc with h | h | h | h | h | h | h | h | h | h | h <;> subst h <;> simp [Array.getElem?_setIfInBounds] <;> omega

end Go.Proofs.YtnacbdhibmaefaaGreatDoor
