import Derived.Test.YtpmlngcljbkchaaGreatM06
import Derived.Test.YtpmlngcljbkchaaGreatM01
import Derived.Test.YtpmlngcljbkchaaGreatM07
import Derived.Test.YtpmlngcljbkchaaGreatM04
namespace Go.Proofs.YtpmlngcljbkchaaGreat
open Go.RowKit

def Fld.sz (f : Fld) : Nat := fldSz f.nm f.ws f.to f.df f.wg
def sumF (fs : List Fld) : Nat := (fs.map Fld.sz).sum
def fldsSz (fs : List Fld) : Nat := fs.length + sumF fs
def Shp.sz (s : Shp) : Nat := s.kd.size + fldsSz s.fs
def sumS (ss : List Shp) : Nat := (ss.map Shp.sz).sum
def shpsSz (ss : List Shp) : Nat := ss.length + sumS ss

theorem szGateField_yes (nm : ByteArray) (kd ls ms : Int) (a : Option Addr) (cap : Nat) (ws : List ByteArray) (to : ByteArray) (rl : Int) (mu fx : Bool) (df wg : ByteArray) (left : Int) (w : World) (hw : StrsAt w a ws) (h0 : 0 ≤ left) (h1 : left ≤ 1048576)
    (hnm : nm.size ≤ maxLen) (hto : to.size ≤ maxLen) (hdf : df.size ≤ maxLen) (hwg : wg.size ≤ maxLen) (h : (fldSz nm ws to df wg : Int) ≤ left) :
    Calls Tryz.prog 77 #[.agg #[.string nm, .int .i64 kd, .int .i64 ls, .int .i64 ms, .slice a ws.length cap, .string to, .int .i64 rl, .bool mu, .bool fx, .string df, .string wg], .int .i64 left] w fun e w' => e = .returned (.int .i64 (left - fldSz nm ws to df wg)) ∧ Below w.heap.size w w' := by
  refine (szGateField_any nm kd ls ms a cap ws to rl mu fx df wg left w hw h0 h1 hnm hto hdf hwg).mono ?_
  rintro e w' ⟨rfl, hb⟩
  exact ⟨ret_int (szRes_yes h), hb⟩

theorem szGateField_no (nm : ByteArray) (kd ls ms : Int) (a : Option Addr) (cap : Nat) (ws : List ByteArray) (to : ByteArray) (rl : Int) (mu fx : Bool) (df wg : ByteArray) (left : Int) (w : World) (hw : StrsAt w a ws) (h0 : 0 ≤ left) (h1 : left ≤ 1048576)
    (hnm : nm.size ≤ maxLen) (hto : to.size ≤ maxLen) (hdf : df.size ≤ maxLen) (hwg : wg.size ≤ maxLen) (h : ¬ (fldSz nm ws to df wg : Int) ≤ left) :
    Calls Tryz.prog 77 #[.agg #[.string nm, .int .i64 kd, .int .i64 ls, .int .i64 ms, .slice a ws.length cap, .string to, .int .i64 rl, .bool mu, .bool fx, .string df, .string wg], .int .i64 left] w fun e w' => e = .returned (.int .i64 (-1)) ∧ Below w.heap.size w w' := by
  refine (szGateField_any nm kd ls ms a cap ws to rl mu fx df wg left w hw h0 h1 hnm hto hdf hwg).mono ?_
  rintro e w' ⟨rfl, hb⟩
  exact ⟨ret_int (szRes_no h), hb⟩

set_option maxHeartbeats 1000000 in
theorem szGateFieldS_any (a : Option Addr) (cap : Nat) (fs : List Fld) (left : Int) (w : World) (hw : FldsAt w a fs) (h0 : 0 ≤ left) (h1 : left ≤ 1048576) :
    Calls Tryz.prog 59 #[.slice a fs.length cap, .int .i64 left] w fun e w' => e = .returned (.int .i64 (szRes (fldsSz fs) left)) ∧ Below w.heap.size w w' := by
  have hl := hw.len
  unfold maxLen at hl
  by_cases hfit : (fs.length : Int) ≤ left
  · go_enter Tryz.func59, Tryz.ntmps59
    go_wp2_with fail
    go_loopw [1, 5] (fun l i wr => ∃ k : Nat, k ≤ fs.length ∧ i = .int .i64 k ∧ 0 ≤ left - fs.length - sumF (fs.take k) ∧ l = .int .i64 (left - fs.length - sumF (fs.take k)) ∧ Below w.heap.size w wr) (fun _ i _ => fs.length - (intOf i).toNat)
    case atStart => exact ⟨0, Nat.zero_le _, rfl, by simp [sumF]; omega, by simp [sumF], Below.refl _ _⟩
    case round =>
      obtain ⟨k, hk, rfl, hpos, rfl, hB⟩ := hrel
      by_cases hlt : k < fs.length
      · obtain ⟨b, off, rfl, hb, hr⟩ := hw.rows (by rintro rfl; simp at hlt)
        obtain ⟨wa, wcap, hf0⟩ := hr k hlt
        have hf := hf0.mono hb hB
        obtain ⟨c0, c1, c2, c3, c4, c5, c6, c7, c8, c9, c10⟩ := hf.load
        have hsm := hf.small
        have hst := hf.strs
        have HS : Hid (sumF (fs.take (k + 1)) = sumF (fs.take k) + fs[k].sz) := sum_snoc Fld.sz fs k hlt
        have hle : sumF (fs.take (k + 1)) ≤ sumF fs := sum_le Fld.sz fs (k + 1)
        clear hw hr hf0 hf
        by_cases hneg : (fldSz fs[k].nm fs[k].ws fs[k].to fs[k].df fs[k].wg : Int) ≤ left - fs.length - sumF (fs.take k)
        · have HNG : Hid ((fldSz fs[k].nm fs[k].ws fs[k].to fs[k].df fs[k].wg : Int) ≤ left - fs.length - sumF (fs.take k)) := hneg
          clear hle
          go_wp2_with fail
          refine (szGateField_yes _ _ _ _ _ _ _ _ _ _ _ _ _ _ _ hst hpos (by omega) hsm.nm hsm.to hsm.df hsm.wg HNG.out).mono ?_
          rintro e w1 ⟨rfl, hb1⟩
          have hB1 := hB.trans (hb1.mono hB.size)
          clear hb1
          go_wp2_with fail
          exact ⟨⟨k + 1, by omega, by go_num, by rw [HS.out]; show 0 ≤ _ - ((_ + fldSz _ _ _ _ _ : Nat) : Int); omega, by rw [HS.out]; show Value.int _ _ = Value.int _ (_ - ((_ + fldSz _ _ _ _ _ : Nat) : Int)); congr 1; omega, hB1⟩, by simp [intOf]; omega⟩
        · have HF : Hid (szRes (fldsSz fs) left = -1) := szRes_no (by have := HS.out; unfold fldsSz; unfold Fld.sz at this; omega)
          have HNG : Hid (¬ (fldSz fs[k].nm fs[k].ws fs[k].to fs[k].df fs[k].wg : Int) ≤ left - fs.length - sumF (fs.take k)) := hneg
          clear hneg hle
          go_wp2_with fail
          refine (szGateField_no _ _ _ _ _ _ _ _ _ _ _ _ _ _ _ hst hpos (by omega) hsm.nm hsm.to hsm.df hsm.wg (by have := HNG.out; omega)).mono ?_
          rintro e w1 ⟨rfl, hb1⟩
          have hB1 := hB.trans (hb1.mono hB.size)
          clear hb1
          go_wp2_with fail
          go_ret
          exact ⟨ret_int HF.out.symm, hB1⟩
      · have HF : Hid (szRes (fldsSz fs) left = left - fs.length - sumF (fs.take k)) := by
          rw [List.take_of_length_le (by omega)] at hpos ⊢
          have e : szRes (fldsSz fs) left = left - fldsSz fs := szRes_yes (by unfold fldsSz; omega)
          unfold Hid; rw [e]; unfold fldsSz; omega
        clear hw
        go_wp2
        go_ret
        exact ⟨ret_int HF.out.symm, hB⟩
  · have HF : Hid (szRes (fldsSz fs) left = -1) := szRes_no (by unfold fldsSz; omega)
    clear hw
    go_enter Tryz.func59, Tryz.ntmps59
    go_wp2
    go_ret
    exact ⟨ret_int HF.out.symm, Below.refl _ _⟩

theorem szGateFieldS_yes (a : Option Addr) (cap : Nat) (fs : List Fld) (left : Int) (w : World) (hw : FldsAt w a fs) (h0 : 0 ≤ left) (h1 : left ≤ 1048576) (h : (fldsSz fs : Int) ≤ left) :
    Calls Tryz.prog 59 #[.slice a fs.length cap, .int .i64 left] w fun e w' => e = .returned (.int .i64 (left - fldsSz fs)) ∧ Below w.heap.size w w' := by
  refine (szGateFieldS_any a cap fs left w hw h0 h1).mono ?_
  rintro e w' ⟨rfl, hb⟩
  exact ⟨ret_int (szRes_yes h), hb⟩

theorem szGateFieldS_no (a : Option Addr) (cap : Nat) (fs : List Fld) (left : Int) (w : World) (hw : FldsAt w a fs) (h0 : 0 ≤ left) (h1 : left ≤ 1048576) (h : ¬ (fldsSz fs : Int) ≤ left) :
    Calls Tryz.prog 59 #[.slice a fs.length cap, .int .i64 left] w fun e w' => e = .returned (.int .i64 (-1)) ∧ Below w.heap.size w w' := by
  refine (szGateFieldS_any a cap fs left w hw h0 h1).mono ?_
  rintro e w' ⟨rfl, hb⟩
  exact ⟨ret_int (szRes_no h), hb⟩

set_option maxHeartbeats 1000000 in
theorem szGateShape_any (kd : ByteArray) (a : Option Addr) (cap : Nat) (fs : List Fld) (left : Int) (w : World) (hkd : kd.size ≤ maxLen) (hw : FldsAt w a fs) (h0 : 0 ≤ left) (h1 : left ≤ 1048576) :
    Calls Tryz.prog 31 #[.agg #[.string kd, .slice a fs.length cap], .int .i64 left] w fun e w' => e = .returned (.int .i64 (szRes (Shp.sz ⟨kd, fs⟩) left)) ∧ Below w.heap.size w w' := by
  unfold maxLen at hkd
  by_cases c1 : (kd.size : Int) ≤ left
  rotate_left
  · have HF : Hid (szRes (Shp.sz ⟨kd, fs⟩) left = -1) := szRes_no (by unfold Shp.sz; simp only; omega)
    go_enter Tryz.func31, Tryz.ntmps31
    go_wp2_with fail
    go_ret
    exact ⟨ret_int HF.out.symm, (Below.refl _ _).alloc (Nat.le_refl _) _⟩
  by_cases c2 : (fldsSz fs : Int) ≤ left - kd.size
  · have HF : Hid (szRes (Shp.sz ⟨kd, fs⟩) left = left - kd.size - fldsSz fs) := by
      have e : szRes (Shp.sz ⟨kd, fs⟩) left = left - Shp.sz ⟨kd, fs⟩ := szRes_yes (by unfold Shp.sz; simp only; omega)
      unfold Hid; rw [e]; unfold Shp.sz; simp only; omega
    go_enter Tryz.func31, Tryz.ntmps31
    go_wp2_with fail
    refine (szGateFieldS_yes _ _ _ _ _ (hw.mono ((Below.refl _ _).alloc (Nat.le_refl _) _)) (by omega) (by omega) (by omega)).mono ?_
    rintro e w1 ⟨rfl, hb1⟩
    go_wp2_with fail
    go_ret
    exact ⟨ret_int HF.out.symm, ((Below.refl _ _).alloc (Nat.le_refl _) _).trans (hb1.mono (by simp))⟩
  · have HF : Hid (szRes (Shp.sz ⟨kd, fs⟩) left = -1) := szRes_no (by unfold Shp.sz; simp only; omega)
    go_enter Tryz.func31, Tryz.ntmps31
    go_wp2_with fail
    refine (szGateFieldS_no _ _ _ _ _ (hw.mono ((Below.refl _ _).alloc (Nat.le_refl _) _)) (by omega) (by omega) (by omega)).mono ?_
    rintro e w1 ⟨rfl, hb1⟩
    go_wp2_with fail
    go_ret
    exact ⟨ret_int HF.out.symm, ((Below.refl _ _).alloc (Nat.le_refl _) _).trans (hb1.mono (by simp))⟩

theorem szGateShape_yes (kd : ByteArray) (a : Option Addr) (cap : Nat) (fs : List Fld) (left : Int) (w : World) (hkd : kd.size ≤ maxLen) (hw : FldsAt w a fs) (h0 : 0 ≤ left) (h1 : left ≤ 1048576) (h : (Shp.sz ⟨kd, fs⟩ : Int) ≤ left) :
    Calls Tryz.prog 31 #[.agg #[.string kd, .slice a fs.length cap], .int .i64 left] w fun e w' => e = .returned (.int .i64 (left - Shp.sz ⟨kd, fs⟩)) ∧ Below w.heap.size w w' := by
  refine (szGateShape_any kd a cap fs left w hkd hw h0 h1).mono ?_
  rintro e w' ⟨rfl, hb⟩
  exact ⟨ret_int (szRes_yes h), hb⟩

theorem szGateShape_no (kd : ByteArray) (a : Option Addr) (cap : Nat) (fs : List Fld) (left : Int) (w : World) (hkd : kd.size ≤ maxLen) (hw : FldsAt w a fs) (h0 : 0 ≤ left) (h1 : left ≤ 1048576) (h : ¬ (Shp.sz ⟨kd, fs⟩ : Int) ≤ left) :
    Calls Tryz.prog 31 #[.agg #[.string kd, .slice a fs.length cap], .int .i64 left] w fun e w' => e = .returned (.int .i64 (-1)) ∧ Below w.heap.size w w' := by
  refine (szGateShape_any kd a cap fs left w hkd hw h0 h1).mono ?_
  rintro e w' ⟨rfl, hb⟩
  exact ⟨ret_int (szRes_no h), hb⟩

set_option maxHeartbeats 1000000 in
theorem szGateShapeS_any (a : Option Addr) (cap : Nat) (ss : List Shp) (left : Int) (w : World) (hw : ShpsAt w a ss) (h0 : 0 ≤ left) (h1 : left ≤ 1048576) :
    Calls Tryz.prog 12 #[.slice a ss.length cap, .int .i64 left] w fun e w' => e = .returned (.int .i64 (szRes (shpsSz ss) left)) ∧ Below w.heap.size w w' := by
  have hl := hw.len
  unfold maxLen at hl
  by_cases hfit : (ss.length : Int) ≤ left
  · go_enter Tryz.func12, Tryz.ntmps12
    go_wp2_with fail
    go_loopw [1, 5] (fun l i wr => ∃ k : Nat, k ≤ ss.length ∧ i = .int .i64 k ∧ 0 ≤ left - ss.length - sumS (ss.take k) ∧ l = .int .i64 (left - ss.length - sumS (ss.take k)) ∧ Below w.heap.size w wr) (fun _ i _ => ss.length - (intOf i).toNat)
    case atStart => exact ⟨0, Nat.zero_le _, rfl, by simp [sumS]; omega, by simp [sumS], Below.refl _ _⟩
    case round =>
      obtain ⟨k, hk, rfl, hpos, rfl, hB⟩ := hrel
      by_cases hlt : k < ss.length
      · obtain ⟨b, off, rfl, hb, hr⟩ := hw.rows (by rintro rfl; simp at hlt)
        obtain ⟨fa, fcap, hs0⟩ := hr k hlt
        have hs := hs0.mono hb hB
        have hck := hs.kind
        have hcl := hs.list
        have hfl := hs.flds
        have hsm := hs.small
        have HS : Hid (sumS (ss.take (k + 1)) = sumS (ss.take k) + Shp.sz ⟨ss[k].kd, ss[k].fs⟩) := sum_snoc Shp.sz ss k hlt
        have hle : sumS (ss.take (k + 1)) ≤ sumS ss := sum_le Shp.sz ss (k + 1)
        clear hw hr hs0 hs
        by_cases hneg : (Shp.sz ⟨ss[k].kd, ss[k].fs⟩ : Int) ≤ left - ss.length - sumS (ss.take k)
        · have HNG : Hid ((Shp.sz ⟨ss[k].kd, ss[k].fs⟩ : Int) ≤ left - ss.length - sumS (ss.take k)) := hneg
          clear hle
          go_wp2_with fail
          refine (szGateShape_yes _ _ _ _ _ _ hsm hfl hpos (by omega) HNG.out).mono ?_
          rintro e w1 ⟨rfl, hb1⟩
          have hB1 := hB.trans (hb1.mono hB.size)
          clear hb1
          go_wp2_with fail
          exact ⟨⟨k + 1, by omega, by go_num, by rw [HS.out]; omega, by rw [HS.out]; congr 1; omega, hB1⟩, by simp [intOf]; omega⟩
        · have HF : Hid (szRes (shpsSz ss) left = -1) := szRes_no (by have := HS.out; unfold shpsSz; omega)
          have HNG : Hid (¬ (Shp.sz ⟨ss[k].kd, ss[k].fs⟩ : Int) ≤ left - ss.length - sumS (ss.take k)) := hneg
          clear hneg hle
          go_wp2_with fail
          refine (szGateShape_no _ _ _ _ _ _ hsm hfl hpos (by omega) (by have := HNG.out; omega)).mono ?_
          rintro e w1 ⟨rfl, hb1⟩
          have hB1 := hB.trans (hb1.mono hB.size)
          clear hb1
          go_wp2_with fail
          go_ret
          exact ⟨ret_int HF.out.symm, hB1⟩
      · have HF : Hid (szRes (shpsSz ss) left = left - ss.length - sumS (ss.take k)) := by
          rw [List.take_of_length_le (by omega)] at hpos ⊢
          have e : szRes (shpsSz ss) left = left - shpsSz ss := szRes_yes (by unfold shpsSz; omega)
          unfold Hid; rw [e]; unfold shpsSz; omega
        clear hw
        go_wp2
        go_ret
        exact ⟨ret_int HF.out.symm, hB⟩
  · have HF : Hid (szRes (shpsSz ss) left = -1) := szRes_no (by unfold shpsSz; omega)
    clear hw
    go_enter Tryz.func12, Tryz.ntmps12
    go_wp2
    go_ret
    exact ⟨ret_int HF.out.symm, Below.refl _ _⟩

end Go.Proofs.YtpmlngcljbkchaaGreat

namespace Go.Proofs.YtpmlngcljbkchaaGreat
open Go.RowKit

/-- A row of fields in memory from lo on, the first k of them laid; the words of each in a block of their own. -/
structure FldsOwn (lo : Nat) (w : World) (bo : Nat) (fs : List Fld) (k : Nat) : Prop where
  low : lo ≤ bo
  rows : ∃ C, w.heap[bo]? = some (.cells C 133) ∧ C.size = fs.length * 11 ∧
    ∀ i (h : i < fs.length), i < k → ∃ bk, lo ≤ bk ∧ bk ≠ bo ∧ w.heap[bk]? = some (.cells (strArr fs[i].ws) 9) ∧ ∀ j, j < 11 → C[i * 11 + j]? = (fs[i].cells (some ⟨bk, 0, none⟩) fs[i].ws.length)[j]?

structure FldsSmall (fs : List Fld) : Prop where
  small : ∀ i (h : i < fs.length), fs[i].Small ∧ fs[i].ws.length ≤ maxLen ∧ ∀ s ∈ fs[i].ws, s.size ≤ maxLen

theorem FldsAt.smalls {w : World} {a : Option Addr} {fs : List Fld} (h : FldsAt w a fs) : FldsSmall fs :=
  ⟨fun i hi => by
    obtain ⟨b, off, _, _, hr⟩ := h.rows (by rintro rfl; simp at hi)
    obtain ⟨wa, wcap, hf⟩ := hr i hi
    exact ⟨hf.small, hf.strs.len, hf.strs.small⟩⟩

theorem FldsOwn.at {lo : Nat} {w : World} {bo : Nat} {fs : List Fld} (h : FldsOwn lo w bo fs fs.length) (hs : FldsSmall fs) (hl : fs.length ≤ maxLen) : FldsAt w (some ⟨bo, 0, none⟩) fs := by
  obtain ⟨C, hC, hsz, hr⟩ := h.rows
  refine ⟨hl, fun _ => ⟨bo, 0, rfl, (Array.getElem?_eq_some_iff.1 hC).1, fun i hi => ?_⟩⟩
  obtain ⟨bk, _, _, hk, hc⟩ := hr i hi hi
  obtain ⟨s1, s2, s3⟩ := hs.small i hi
  refine ⟨some ⟨bk, 0, none⟩, fs[i].ws.length, s1, heap_strs hk s2 s3, fun j hj => ?_⟩
  rw [cell_of_block hC, Nat.zero_add]
  exact hc j hj

theorem FldsOwn.later {lo : Nat} {w w' : World} {bo : Nat} {fs : List Fld} {k : Nat} (h : FldsOwn lo w bo fs k) (hb : Below w.heap.size w w') : FldsOwn lo w' bo fs k := by
  obtain ⟨C, hC, hsz, hr⟩ := h.rows
  refine ⟨h.low, C, (hb.block bo (Array.getElem?_eq_some_iff.1 hC).1).trans hC, hsz, fun i hi hk => ?_⟩
  obtain ⟨bk, h1, h2, h3, h4⟩ := hr i hi hk
  exact ⟨bk, h1, h2, (hb.block bk (Array.getElem?_eq_some_iff.1 h3).1).trans h3, h4⟩

theorem FldsOwn.put {lo : Nat} {w : World} {bo : Nat} {fs : List Fld} {k : Nat} (h : FldsOwn lo w bo fs k) (hk : k < fs.length) (bk : Nat) (h1 : lo ≤ bk) (h2 : bk ≠ bo) (h3 : w.heap[bk]? = some (.cells (strArr fs[k].ws) 9)) :
    FldsOwn lo (put11 w bo (k * 11) (.string fs[k].nm) (.int .i64 fs[k].kd) (.int .i64 fs[k].ls) (.int .i64 fs[k].ms) (.slice (some ⟨bk, 0, none⟩) fs[k].ws.length fs[k].ws.length) (.string fs[k].to) (.int .i64 fs[k].rl) (.bool fs[k].mu) (.bool fs[k].fx) (.string fs[k].df) (.string fs[k].wg)) bo fs (k + 1) := by
  obtain ⟨C, hC, hsz, hr⟩ := h.rows
  refine ⟨h.low, _, put11_block hC _ _ _ _ _ _ _ _ _ _ _, by rw [set11_size]; exact hsz, fun i hi hik => ?_⟩
  rcases Nat.lt_or_ge i k with hlt | hge
  · obtain ⟨bi, g1, g2, g3, g4⟩ := hr i hi hlt
    refine ⟨bi, g1, g2, by rw [put11_other _ _ _ _ g2]; exact g3, fun j hj => ?_⟩
    rw [set11_out _ _ _ _ _ _ _ _ _ _ _ _ _ _ (by omega)]
    exact g4 j hj
  · have e : i = k := by omega
    subst e
    refine ⟨bk, h1, h2, by rw [put11_other _ _ _ _ h2]; exact h3, fun j hj => ?_⟩
    rw [set11_in _ _ _ _ _ _ _ _ _ _ _ _ _ _ hj (by omega)]
    rfl

def fldZero : Array Value := #[.string ByteArray.empty, .int .i64 0, .int .i64 0, .int .i64 0, .slice none 0 0, .string ByteArray.empty, .int .i64 0, .bool false, .bool false, .string ByteArray.empty, .string ByteArray.empty]
def fldsZero (n : Nat) : Array Value := madeCells fldZero (n * 11)

set_option maxHeartbeats 2000000 in
theorem toGateFieldS_any (a : Option Addr) (cap : Nat) (fs : List Fld) (w : World) (hw : FldsAt w a fs) (hl : fs.length ≤ 1048576) (hls : ∀ i (h : i < fs.length), fs[i].ws.length ≤ 1048576) :
    Calls Tryz.prog 65 #[.slice a fs.length cap] w fun e w' => e = .returned (.slice (some ⟨w.heap.size, 0, none⟩) fs.length fs.length) ∧ FldsOwn w.heap.size w' w.heap.size fs fs.length ∧ Below w.heap.size w w' := by
  have hmk : ∀ w : World, (Instr.makeSlice 83 (.int .i64 fs.length) (.int .i64 fs.length)).run Tryz.prog w = .ok (.slice (some ⟨w.heap.size, 0, none⟩) fs.length fs.length) (w.alloc (.cells (fldsZero fs.length) 133)) :=
    fun w => run_make_rows (P := Tryz.prog) 83 133 (.agg fldZero) 11 128 Tryz.underlying83 (by kernel_rfl) fs.length (by omega) (by omega) w
  go_enter Tryz.func65, Tryz.ntmps65
  go_wp2_with fail
  clear hmk
  go_loopw [4] (fun i wr => ∃ k : Nat, k ≤ fs.length ∧ i = .int .i64 k ∧ FldsOwn w.heap.size wr w.heap.size fs k ∧ Below w.heap.size w wr) (fun i _ => fs.length - (intOf i).toNat)
  case atStart => exact ⟨0, Nat.zero_le _, rfl, ⟨Nat.le_refl _, fldsZero fs.length, (MapKept.heap_alloc w _).1, size_madeCells _ _, fun i _ h => absurd h (by omega)⟩, (Below.refl _ _).alloc (Nat.le_refl _) _⟩
  case round =>
    obtain ⟨k, hk, rfl, hown, hB⟩ := hrel
    by_cases hlt : k < fs.length
    · obtain ⟨b, off, rfl, hb, hr⟩ := hw.rows (by rintro rfl; simp at hlt)
      obtain ⟨wa, wcap, hf0⟩ := hr k hlt
      have hf := hf0.mono hb hB
      obtain ⟨c0, c1, c2, c3, c4, c5, c6, c7, c8, c9, c10⟩ := hf.load
      have hst := hf.strs
      have HLS : Hid (fs[k].ws.length ≤ 1048576) := hls k hlt
      have hltI : (k : Int) < (fs.length : Int) := by omega
      clear hw hr hf0 hf
      go_wp2_with fail
      refine (toGateField_any _ _ _ _ _ _ _ _ _ _ _ _ _ _ hst HLS.out).mono ?_
      rintro e w1 ⟨bk, rfl, hlo, hhi, hbk, hb1⟩
      have hB1 := hB.trans (hb1.mono hB.size)
      have hown1 := hown.later hb1
      obtain ⟨C, hC, hsz, _⟩ := hown1.rows
      have hfz : ∀ o, w1.frozen? ⟨w.heap.size, o, none⟩ = false := fun o => frozen_of_block hC
      have hex : ∀ o, o < fs.length * 11 → ∃ v, w1.cell? ⟨w.heap.size, o, none⟩ = some v := fun o ho => ⟨C[o]'(by omega), by rw [cell_of_block hC]; exact Array.getElem?_eq_getElem (by omega)⟩
      obtain ⟨v0, hv0⟩ := hex (k * 11) (by omega)
      obtain ⟨v1, hv1⟩ := hex (k * 11 + 1) (by omega)
      obtain ⟨v2, hv2⟩ := hex (k * 11 + 2) (by omega)
      obtain ⟨v3, hv3⟩ := hex (k * 11 + 3) (by omega)
      obtain ⟨v4, hv4⟩ := hex (k * 11 + 4) (by omega)
      obtain ⟨v5, hv5⟩ := hex (k * 11 + 5) (by omega)
      obtain ⟨v6, hv6⟩ := hex (k * 11 + 6) (by omega)
      obtain ⟨v7, hv7⟩ := hex (k * 11 + 7) (by omega)
      obtain ⟨v8, hv8⟩ := hex (k * 11 + 8) (by omega)
      obtain ⟨v9, hv9⟩ := hex (k * 11 + 9) (by omega)
      obtain ⟨v10, hv10⟩ := hex (k * 11 + 10) (by omega)
      clear hex hC hsz c0 c1 c2 c3 c4 c5 c6 c7 c8 c9 c10
      have hbo : w.heap.size < wr.heap.size := by
        obtain ⟨C', hC', _⟩ := hown.rows
        exact (Array.getElem?_eq_some_iff.1 hC').1
      go_wp2_with fail
      exact ⟨⟨k + 1, by omega, by go_num, hown1.put hlt bk (by omega) (by omega) hbk, put11_below hB1 (Nat.le_refl _) _ _ _ _ _ _ _ _ _ _ _ _⟩, by simp [intOf]; omega⟩
    · have HF : Hid (FldsOwn w.heap.size wr w.heap.size fs fs.length) := by
        have e : k = fs.length := by omega
        subst e; exact hown
      clear hw hown
      go_wp2_with fail
      go_ret
      exact ⟨rfl, HF.out, hB⟩

/-- The same of a row of shapes: each has its fields in memory of its own, from lo on. -/
structure ShpsOwn (lo : Nat) (w : World) (bo : Nat) (ss : List Shp) (k : Nat) : Prop where
  low : lo ≤ bo
  rows : ∃ C, w.heap[bo]? = some (.cells C 85) ∧ C.size = ss.length * 2 ∧
    ∀ i (h : i < ss.length), i < k → ∃ bf, lo ≤ bf ∧ bo < bf ∧ FldsOwn (bo + 1) w bf ss[i].fs ss[i].fs.length ∧ C[i * 2]? = some (.string ss[i].kd) ∧ C[i * 2 + 1]? = some (.slice (some ⟨bf, 0, none⟩) ss[i].fs.length ss[i].fs.length)

structure ShpsSmall (ss : List Shp) : Prop where
  small : ∀ i (h : i < ss.length), ss[i].kd.size ≤ maxLen ∧ ss[i].fs.length ≤ maxLen ∧ FldsSmall ss[i].fs

theorem ShpsAt.smalls {w : World} {a : Option Addr} {ss : List Shp} (h : ShpsAt w a ss) : ShpsSmall ss :=
  ⟨fun i hi => by
    obtain ⟨b, off, _, _, hr⟩ := h.rows (by rintro rfl; simp at hi)
    obtain ⟨fa, fcap, hs⟩ := hr i hi
    exact ⟨hs.small, hs.flds.len, hs.flds.smalls⟩⟩

theorem ShpsOwn.at {lo : Nat} {w : World} {bo : Nat} {ss : List Shp} (h : ShpsOwn lo w bo ss ss.length) (hs : ShpsSmall ss) (hl : ss.length ≤ maxLen) : ShpsAt w (some ⟨bo, 0, none⟩) ss := by
  obtain ⟨C, hC, hsz, hr⟩ := h.rows
  refine ⟨hl, fun _ => ⟨bo, 0, rfl, (Array.getElem?_eq_some_iff.1 hC).1, fun i hi => ?_⟩⟩
  obtain ⟨bf, _, _, hf, h1, h2⟩ := hr i hi hi
  obtain ⟨s1, s2, s3⟩ := hs.small i hi
  refine ⟨some ⟨bf, 0, none⟩, ss[i].fs.length, s1, hf.at s3 s2, ?_, ?_⟩
  · rw [cell_of_block hC, Nat.zero_add]; exact h1
  · rw [cell_of_block hC, Nat.zero_add]; exact h2

theorem ShpsOwn.later {lo : Nat} {w w' : World} {bo : Nat} {ss : List Shp} {k : Nat} (h : ShpsOwn lo w bo ss k) (hb : Below w.heap.size w w') : ShpsOwn lo w' bo ss k := by
  obtain ⟨C, hC, hsz, hr⟩ := h.rows
  refine ⟨h.low, C, (hb.block bo (Array.getElem?_eq_some_iff.1 hC).1).trans hC, hsz, fun i hi hk => ?_⟩
  obtain ⟨bf, h1, h2, h3, h4⟩ := hr i hi hk
  exact ⟨bf, h1, h2, h3.later hb, h4⟩

/-- A store into block bo leaves the fields of shapes that lie above it. -/
theorem FldsOwn.setCell {lo : Nat} {w : World} {bf : Nat} {fs : List Fld} {k : Nat} (h : FldsOwn lo w bf fs k) {p : Addr} (hp : p.block < lo) (v : Value) : FldsOwn lo (w.setCell p v) bf fs k := by
  obtain ⟨C, hC, hsz, hr⟩ := h.rows
  have hl := h.low
  refine ⟨h.low, C, by rw [Below.heap_setCell _ _ _ _ (by omega)]; exact hC, hsz, fun i hi hk => ?_⟩
  obtain ⟨bk, h1, h2, h3, h4⟩ := hr i hi hk
  exact ⟨bk, h1, h2, by rw [Below.heap_setCell _ _ _ _ (by omega)]; exact h3, h4⟩

theorem FldsOwn.weaken {lo lo' : Nat} {w : World} {bf : Nat} {fs : List Fld} {k : Nat} (h : FldsOwn lo w bf fs k) (hl : lo' ≤ lo) : FldsOwn lo' w bf fs k := by
  obtain ⟨C, hC, hsz, hr⟩ := h.rows
  refine ⟨Nat.le_trans hl h.low, C, hC, hsz, fun i hi hk => ?_⟩
  obtain ⟨bk, h1, h2⟩ := hr i hi hk
  exact ⟨bk, Nat.le_trans hl h1, h2⟩

theorem ShpsOwn.put {lo : Nat} {w : World} {bo : Nat} {ss : List Shp} {k : Nat} (h : ShpsOwn lo w bo ss k) (hk : k < ss.length) (bf : Nat) (h1 : bo < bf) (h3 : FldsOwn (bo + 1) w bf ss[k].fs ss[k].fs.length) :
    ShpsOwn lo ((w.setCell ⟨bo, k * 2, none⟩ (.string ss[k].kd)).setCell ⟨bo, k * 2 + 1, none⟩ (.slice (some ⟨bf, 0, none⟩) ss[k].fs.length ss[k].fs.length)) bo ss (k + 1) := by
  obtain ⟨C, hC, hsz, hr⟩ := h.rows
  have hl := h.low
  refine ⟨h.low, _, heap_setCell_at (heap_setCell_at hC _) _, by simp [hsz], fun i hi hik => ?_⟩
  rcases Nat.lt_or_ge i k with hlt | hge
  · obtain ⟨bi, g1, g2, g3, g4, g5⟩ := hr i hi hlt
    refine ⟨bi, g1, g2, (g3.setCell (by simp) _).setCell (by simp) _, ?_, ?_⟩
    · rw [Array.getElem?_setIfInBounds, if_neg (by omega), Array.getElem?_setIfInBounds, if_neg (by omega)]; exact g4
    · rw [Array.getElem?_setIfInBounds, if_neg (by omega), Array.getElem?_setIfInBounds, if_neg (by omega)]; exact g5
  · have e : i = k := by omega
    subst e
    refine ⟨bf, by omega, h1, (h3.setCell (by simp) _).setCell (by simp) _, ?_, ?_⟩
    · rw [Array.getElem?_setIfInBounds, if_neg (by omega), Array.getElem?_setIfInBounds, if_pos rfl, if_pos (by omega)]
    · rw [Array.getElem?_setIfInBounds, if_pos rfl, if_pos (by simp; omega)]

set_option maxHeartbeats 1000000 in
theorem toGateShape_any (kd : ByteArray) (a : Option Addr) (cap : Nat) (fs : List Fld) (w : World) (hw : FldsAt w a fs) (hl : fs.length ≤ 1048576) (hls : ∀ i (h : i < fs.length), fs[i].ws.length ≤ 1048576) :
    Calls Tryz.prog 45 #[.agg #[.string kd, .slice a fs.length cap]] w fun e w' => ∃ bf, e = .returned (.agg #[.string kd, .slice (some ⟨bf, 0, none⟩) fs.length fs.length]) ∧ FldsOwn w.heap.size w' bf fs fs.length ∧ Below w.heap.size w w' := by
  go_enter Tryz.func45, Tryz.ntmps45
  go_wp2_with fail
  refine (toGateFieldS_any _ _ _ _ (hw.mono ((((Below.refl _ _).alloc (Nat.le_refl _) _).alloc (by simp) _).alloc (by simp; omega) _)) hl hls).mono ?_
  rintro e w1 ⟨rfl, hown, hb1⟩
  have qr0 : w1.cell? ⟨w.heap.size + 1, 0, none⟩ = some (.string { data := #[] }) := (hb1.cell (p := ⟨w.heap.size + 1, 0, none⟩) (by simp)).trans (by simp [World.cell?_alloc_at, World.cell?_alloc_past])
  have fr0 : w1.frozen? ⟨w.heap.size + 1, 0, none⟩ = false := (hb1.frozen (p := ⟨w.heap.size + 1, 0, none⟩) (by simp)).trans (by simp [World.frozen?_alloc_at, World.frozen?_alloc_past])
  have qr1 : w1.cell? ⟨w.heap.size + 1, 1, none⟩ = some (.slice none 0 0) := (hb1.cell (p := ⟨w.heap.size + 1, 1, none⟩) (by simp)).trans (by simp [World.cell?_alloc_at, World.cell?_alloc_past])
  have fr1 : w1.frozen? ⟨w.heap.size + 1, 1, none⟩ = false := (hb1.frozen (p := ⟨w.heap.size + 1, 1, none⟩) (by simp)).trans (by simp [World.frozen?_alloc_at, World.frozen?_alloc_past])
  have qo0 : w1.cell? ⟨w.heap.size + 1 + 1, 0, none⟩ = some (.string kd) := (hb1.cell (p := ⟨w.heap.size + 1 + 1, 0, none⟩) (by simp)).trans (by simp [World.cell?_alloc_at])
  have fo0 : w1.frozen? ⟨w.heap.size + 1 + 1, 0, none⟩ = false := (hb1.frozen (p := ⟨w.heap.size + 1 + 1, 0, none⟩) (by simp)).trans (by simp [World.frozen?_alloc_at])
  have qo1 : w1.cell? ⟨w.heap.size + 1 + 1, 1, none⟩ = some (.slice none 0 0) := (hb1.cell (p := ⟨w.heap.size + 1 + 1, 1, none⟩) (by simp)).trans (by simp [World.cell?_alloc_at])
  have fo1 : w1.frozen? ⟨w.heap.size + 1 + 1, 1, none⟩ = false := (hb1.frozen (p := ⟨w.heap.size + 1 + 1, 1, none⟩) (by simp)).trans (by simp [World.frozen?_alloc_at])
  have hz1 : w.heap.size + 1 + 1 < w1.heap.size := by have := hb1.size; simp at this; omega
  go_wp2_with fail
  have hsz : (((w.alloc (.cells #[.string kd, .slice a fs.length cap] 69)).alloc (.cells #[.string { data := #[] }, .slice none 0 0] 85)).alloc (.cells #[.string kd, .slice none 0 0] 85)).heap.size = w.heap.size + 1 + 1 + 1 := by simp
  have hB1 : Below w.heap.size w w1 := ((((Below.refl _ _).alloc (Nat.le_refl _) _).alloc (by simp) _).alloc (by simp; omega) _).trans (hb1.mono (by simp; omega))
  rw [hsz] at hown
  refine bodyPost_ret (v := .agg #[.string kd, .slice (some ⟨w.heap.size + 1 + 1 + 1, 0, none⟩) fs.length fs.length]) (by simp [results, Tryz.results45, go_sem, qr0, qr1]) rfl ⟨w.heap.size + 1 + 1 + 1, rfl, ?_, ?_⟩
  · exact (((hown.setCell (by simp) _).setCell (by simp) _).setCell (by simp) _).weaken (by omega)
  · exact ((hB1.setCell (by simp; omega) _).setCell (by simp) _).setCell (by simp) _

def shpZero : Array Value := #[.string ByteArray.empty, .slice none 0 0]
def shpsZero (n : Nat) : Array Value := madeCells shpZero (n * 2)

set_option maxHeartbeats 2000000 in
theorem toGateShapeS_any (a : Option Addr) (cap : Nat) (ss : List Shp) (w : World) (hw : ShpsAt w a ss) (hl : ss.length ≤ 1048576) (hls : ∀ i (h : i < ss.length), ss[i].fs.length ≤ 1048576 ∧ ∀ j (h' : j < ss[i].fs.length), ss[i].fs[j].ws.length ≤ 1048576) :
    Calls Tryz.prog 19 #[.slice a ss.length cap] w fun e w' => e = .returned (.slice (some ⟨w.heap.size, 0, none⟩) ss.length ss.length) ∧ ShpsOwn w.heap.size w' w.heap.size ss ss.length ∧ Below w.heap.size w w' := by
  have hmk : ∀ w : World, (Instr.makeSlice 36 (.int .i64 ss.length) (.int .i64 ss.length)).run Tryz.prog w = .ok (.slice (some ⟨w.heap.size, 0, none⟩) ss.length ss.length) (w.alloc (.cells (shpsZero ss.length) 85)) :=
    fun w => run_make_rows (P := Tryz.prog) 36 85 (.agg shpZero) 2 40 Tryz.underlying36 (by kernel_rfl) ss.length (by omega) (by omega) w
  go_enter Tryz.func19, Tryz.ntmps19
  go_wp2_with fail
  clear hmk
  go_loopw [4] (fun i wr => ∃ k : Nat, k ≤ ss.length ∧ i = .int .i64 k ∧ ShpsOwn w.heap.size wr w.heap.size ss k ∧ Below w.heap.size w wr) (fun i _ => ss.length - (intOf i).toNat)
  case atStart => exact ⟨0, Nat.zero_le _, rfl, ⟨Nat.le_refl _, shpsZero ss.length, (MapKept.heap_alloc w _).1, size_madeCells _ _, fun i _ h => absurd h (by omega)⟩, (Below.refl _ _).alloc (Nat.le_refl _) _⟩
  case round =>
    obtain ⟨k, hk, rfl, hown, hB⟩ := hrel
    by_cases hlt : k < ss.length
    · obtain ⟨b, off, rfl, hb, hr⟩ := hw.rows (by rintro rfl; simp at hlt)
      obtain ⟨fa, fcap, hs0⟩ := hr k hlt
      have hs := hs0.mono hb hB
      have hck := hs.kind
      have hcl := hs.list
      have hfl := hs.flds
      have HLS := hls k hlt
      have HLS' : Hid (ss[k].fs.length ≤ 1048576 ∧ ∀ j (h' : j < ss[k].fs.length), ss[k].fs[j].ws.length ≤ 1048576) := HLS
      have hltI : (k : Int) < (ss.length : Int) := by omega
      clear hw hr hs0 hs HLS
      go_wp2_with fail
      refine (toGateShape_any _ _ _ _ _ hfl HLS'.out.1 HLS'.out.2).mono ?_
      rintro e w1 ⟨bf, rfl, hof, hb1⟩
      have hB1 := hB.trans (hb1.mono hB.size)
      have hown1 := hown.later hb1
      have hbo : w.heap.size < wr.heap.size := by
        obtain ⟨C', hC', _⟩ := hown.rows
        exact (Array.getElem?_eq_some_iff.1 hC').1
      obtain ⟨C, hC, hsz, _⟩ := hown1.rows
      have hfz : ∀ o, w1.frozen? ⟨w.heap.size, o, none⟩ = false := fun o => frozen_of_block hC
      have hex : ∀ o, o < ss.length * 2 → ∃ v, w1.cell? ⟨w.heap.size, o, none⟩ = some v := fun o ho => ⟨C[o]'(by omega), by rw [cell_of_block hC]; exact Array.getElem?_eq_getElem (by omega)⟩
      obtain ⟨v0, hv0⟩ := hex (k * 2) (by omega)
      obtain ⟨v1, hv1⟩ := hex (k * 2 + 1) (by omega)
      clear hex hC hsz hck hcl
      have hlow := hof.low
      go_wp2_with fail
      exact ⟨⟨k + 1, by omega, by go_num, hown1.put hlt bf (by omega) (hof.weaken (by omega)), (hB1.setCell (Nat.le_refl _) _).setCell (Nat.le_refl _) _⟩, by simp [intOf]; omega⟩
    · have HF : Hid (ShpsOwn w.heap.size wr w.heap.size ss ss.length) := by
        have e : k = ss.length := by omega
        subst e; exact hown
      clear hw hown
      go_wp2_with fail
      go_ret
      exact ⟨rfl, HF.out, hB⟩

end Go.Proofs.YtpmlngcljbkchaaGreat

namespace Go.Proofs.YtpmlngcljbkchaaGreat

/-- A team: its name, the one over it. -/
structure Tm where
  nm : ByteArray
  ov : ByteArray

namespace Gate

def noTeam : Tm := ⟨ByteArray.empty, ByteArray.empty⟩
def hasTeam (ts : List Tm) (v : ByteArray) : Bool := ts.any fun t => decide (t.nm = v)
/-- What stands over the first team of a name. -/
def over (ts : List Tm) (v : ByteArray) : ByteArray := ((ts.find? fun t => decide (t.nm = v)).getD noTeam).ov

theorem hasTeam_snoc (ts : List Tm) (v : ByteArray) (k : Nat) (h : k < ts.length) : hasTeam (ts.take (k + 1)) v = (hasTeam (ts.take k) v || decide (ts[k].nm = v)) := by
  unfold hasTeam; rw [List.take_succ_eq_append_getElem h, List.any_append]; simp
theorem hasTeam_at (ts : List Tm) (v : ByteArray) (k : Nat) (h : k < ts.length) (e : ts[k].nm = v) : hasTeam ts v = true := by
  unfold hasTeam; rw [List.any_eq_true]; exact ⟨ts[k], List.getElem_mem h, by simpa using e⟩
theorem hasTeam_all (ts : List Tm) (v : ByteArray) (k : Nat) (h : ts.length ≤ k) : hasTeam (ts.take k) v = hasTeam ts v := by rw [List.take_of_length_le h]
theorem over_at (ts : List Tm) (v : ByteArray) (k : Nat) (h : k < ts.length) (hb : hasTeam (ts.take k) v = false) (e : ts[k].nm = v) : over ts v = ts[k].ov := by
  unfold over
  have hn : (ts.take k).find? (fun s => decide (s.nm = v)) = none := by
    rw [List.find?_eq_none]; intro x hx; unfold hasTeam at hb; rw [List.any_eq_false] at hb; exact hb x hx
  have hf : ts.find? (fun s => decide (s.nm = v)) = some ts[k] := by
    conv => lhs; rw [← List.take_append_drop k ts]
    rw [List.find?_append, hn, List.drop_eq_getElem_cons h, List.find?_cons_of_pos (by simpa using e)]; rfl
  rw [hf]; rfl
theorem over_none (ts : List Tm) (v : ByteArray) (hb : hasTeam ts v = false) : over ts v = ByteArray.empty := by
  unfold over
  have hn : ts.find? (fun s => decide (s.nm = v)) = none := by
    rw [List.find?_eq_none]; intro x hx; unfold hasTeam at hb; rw [List.any_eq_false] at hb; exact hb x hx
  rw [hn]; rfl

/-- A stands under b, in at most n steps. -/
def under (ts : List Tm) : Nat → ByteArray → ByteArray → Bool
  | 0, a, b => decide (a = b)
  | n + 1, a, b => decide (a = b) || (decide (¬ (over ts a).size = 0) && under ts n (over ts a) b)

theorem under_same (ts : List Tm) (n : Nat) (a b : ByteArray) (h : a = b) : under ts n a b = true := by
  cases n <;> simp [under, h]
theorem under_end (ts : List Tm) {a b : ByteArray} (h : ¬ a = b) : under ts 0 a b = false := by simp [under, h]
theorem under_stop (ts : List Tm) (n : Nat) {a b : ByteArray} (h : ¬ a = b) (h0 : (over ts a).size = 0) : under ts (n + 1) a b = false := by simp [under, h, h0]
theorem under_on (ts : List Tm) (n : Nat) {a b : ByteArray} (h : ¬ a = b) (h0 : ¬ (over ts a).size = 0) : under ts (n + 1) a b = under ts n (over ts a) b := by simp [under, h, h0]

/-- A team by itself and beside the others. -/
def teamAt (ts : List Tm) (i : Nat) : Bool :=
  nameOk (ts.getD i noTeam).nm && (decide (i = 0) || less (ts.getD (i - 1) noTeam).nm (ts.getD i noTeam).nm) && ((ts.getD i noTeam).ov.toList.isEmpty || hasTeam ts (ts.getD i noTeam).ov)

def climb (ts : List Tm) : Nat → ByteArray → ByteArray
  | 0, a => a
  | n + 1, a => climb ts n (over ts a)
/-- The same, that stands still at the empty name. -/
def climbS (ts : List Tm) : Nat → ByteArray → ByteArray
  | 0, a => a
  | n + 1, a => if a.size = 0 then a else climbS ts n (over ts a)

def deepOk (ts : List Tm) (t : Tm) : Bool := decide ((climb ts 4 t.ov).size = 0)
def deepAt (ts : List Tm) (i : Nat) : Bool := deepOk ts (ts.getD i noTeam)
def deepS (ts : List Tm) (i : Nat) : Bool := decide ((climbS ts 5 (ts.getD i noTeam).nm).size = 0)
def teamsOk (ts : List Tm) : Bool := decide (ts.length ≤ 12) && (up (teamAt ts) ts.length && up (deepAt ts) ts.length)
def teamAtS (ts : List Tm) (i : Nat) : Bool := teamAt ts i && deepS ts i
def teamsOkS (ts : List Tm) : Bool := decide (ts.length ≤ 12) && up (teamAtS ts) ts.length

theorem up_eq_true {P : Nat → Bool} {n : Nat} : up P n = true ↔ ∀ i, i < n → P i = true := by
  unfold up; rw [List.all_eq_true]; simp

theorem team_name {ts : List Tm} {i : Nat} (hi : i < ts.length) (h : teamAt ts i = true) : nameOk ts[i].nm = true := by
  unfold teamAt at h; rw [getD_at ts i _ hi] at h; simp only [Bool.and_eq_true] at h; exact h.1.1
theorem team_less {ts : List Tm} {i : Nat} (hi : i + 1 < ts.length) (h : teamAt ts (i + 1) = true) : less ts[i].nm ts[i + 1].nm = true := by
  unfold teamAt at h; rw [getD_at ts (i + 1) _ hi, Nat.add_sub_cancel, getD_at ts i _ (by omega)] at h; simp only [Bool.and_eq_true] at h
  simpa using h.1.2

theorem teams_less {ts : List Tm} (h : up (teamAt ts) ts.length = true) : ∀ (j : Nat) (hj : j < ts.length) (i : Nat) (hi : i < j), less (ts[i]'(by omega)).nm ts[j].nm = true := by
  intro j
  induction j with
  | zero => intro _ i hi; omega
  | succ j ih =>
    intro hj i hi
    have h2 := team_less hj (up_at hj h)
    rcases Nat.lt_or_ge i j with hlt | hge
    · exact bytesLess_trans _ _ _ (ih (by omega) i hlt) h2
    · have e : i = j := by omega
      subst e; exact h2

theorem over_self {ts : List Tm} (h : up (teamAt ts) ts.length = true) (i : Nat) (hi : i < ts.length) : over ts ts[i].nm = ts[i].ov := by
  refine over_at ts _ i hi ?_ rfl
  unfold hasTeam
  rw [List.any_eq_false]
  intro x hx
  obtain ⟨k, hk, rfl⟩ := List.mem_iff_getElem.1 hx
  have hk' : k < i := by simp at hk; omega
  have h1 := teams_less h i hi k hk'
  simp only [List.getElem_take, decide_eq_true_eq]
  intro e
  unfold less at h1
  rw [e, bytesLess_irrefl] at h1
  cases h1

theorem over_empty {ts : List Tm} (h : up (teamAt ts) ts.length = true) : over ts ByteArray.empty = ByteArray.empty := by
  apply over_none
  unfold hasTeam
  rw [List.any_eq_false]
  intro x hx
  obtain ⟨k, hk, rfl⟩ := List.mem_iff_getElem.1 hx
  have h1 := team_name hk (up_at hk h)
  simp only [decide_eq_true_eq]
  intro e
  rw [e, nameOk_empty _ rfl] at h1
  cases h1

theorem climb_empty {ts : List Tm} (h : over ts ByteArray.empty = ByteArray.empty) : ∀ n, climb ts n ByteArray.empty = ByteArray.empty
  | 0 => rfl
  | n + 1 => by unfold climb; rw [h]; exact climb_empty h n

theorem climb_same {ts : List Tm} (h : over ts ByteArray.empty = ByteArray.empty) : ∀ n a, climbS ts n a = climb ts n a
  | 0, _ => rfl
  | n + 1, a => by
    unfold climbS
    by_cases h0 : a.size = 0
    · rw [if_pos h0, empty_of_size a h0, climb_empty h]
    · rw [if_neg h0, climb_same h n]; rfl

theorem deep_same {ts : List Tm} (h : up (teamAt ts) ts.length = true) (i : Nat) (hi : i < ts.length) : deepS ts i = deepAt ts i := by
  unfold deepS deepAt deepOk
  rw [getD_at ts i _ hi, climb_same (over_empty h), show climb ts 5 ts[i].nm = climb ts 4 (over ts ts[i].nm) from rfl, over_self h i hi]

theorem teamsOk_same (ts : List Tm) : teamsOk ts = teamsOkS ts := by
  unfold teamsOk teamsOkS
  congr 1
  rw [Bool.eq_iff_iff, Bool.and_eq_true]
  constructor
  · rintro ⟨h1, h2⟩
    rw [up_eq_true]
    intro i hi
    unfold teamAtS
    rw [up_at hi h1, deep_same h1 i hi, up_at hi h2]; rfl
  · intro h
    rw [up_eq_true] at h
    have h1 : up (teamAt ts) ts.length = true := by
      rw [up_eq_true]; intro i hi; have := h i hi; unfold teamAtS at this; rw [Bool.and_eq_true] at this; exact this.1
    refine ⟨h1, ?_⟩
    rw [up_eq_true]; intro i hi; have := h i hi; unfold teamAtS at this; rw [Bool.and_eq_true, deep_same h1 i hi] at this; exact this.2

/-- Among teams that are ok nothing stands under a name but the empty one. -/
theorem under_empty {ts : List Tm} (h : up (teamAt ts) ts.length = true) (n : Nat) (b : ByteArray) (hb : ¬ b.size = 0) : under ts n ByteArray.empty b = false := by
  have hne : ¬ ByteArray.empty = b := by rintro rfl; exact hb rfl
  cases n with
  | zero => exact under_end ts hne
  | succ n => exact under_stop ts n hne (by rw [over_empty h]; rfl)

end Gate
end Go.Proofs.YtpmlngcljbkchaaGreat

namespace Go.Proofs.YtpmlngcljbkchaaGreat
open Go.RowKit

set_option maxHeartbeats 400000 in
theorem l1NameOk_any (s : ByteArray) (w : World) (hs : s.size ≤ maxLen) :
    Calls Tryz.prog 37 #[.string s] w fun e w' => e = .returned (.bool (Gate.nameOk s)) ∧ w' = w := by
  unfold maxLen at hs
  by_cases hb : 1 ≤ s.size ∧ s.size ≤ 16
  · obtain ⟨hb1, hb2⟩ := hb
    go_enter Tryz.func37, Tryz.ntmps37
    go_wp2_with (go_at_call 38; refine (l1In_yes _ _ _ _ (by omega) (by omega)).mono ?_; rintro e w' ⟨rfl, rfl⟩)
    go_loop [3] (fun i => ∃ k : Nat, k ≤ s.size ∧ i = .int .i64 k ∧ (s.data.toList.take k).all Gate.nameByte = true) (fun i => s.size - (intOf i).toNat)
    case atStart => exact ⟨0, Nat.zero_le _, rfl, rfl⟩
    case round =>
      obtain ⟨k, hk, rfl, hall⟩ := hrel
      by_cases hlt : k < s.size
      · have HS : Hid ((s.data.toList.take (k + 1)).all Gate.nameByte = (true && Gate.nameByte s[k])) := by rw [Gate.all_snoc _ s k hlt, hall]; rfl
        have HN := fun h => Gate.all_not Gate.nameByte s k hlt h
        have HN' : Hid (Gate.nameByte s[k] = false → Gate.allName s = false) := HN
        clear HN hall
        by_cases hc : Gate.nameByte s[k] = true
        · go_wp2_with (go_at_call 64; refine (l1Byte_any _ _).mono ?_; rintro e w' ⟨rfl, rfl⟩)
          go_round
          case rel => exact ⟨k + 1, by omega, by go_num, by rw [HS.out, hc]; rfl⟩
          case measure => simp [intOf]; omega
        · have hc' : Gate.nameByte s[k] = false := by simpa using hc
          clear hc
          go_wp2_with (go_at_call 64; refine (l1Byte_any _ _).mono ?_; rintro e w' ⟨rfl, rfl⟩)
          go_ret
          refine ⟨ret_bool ?_, rfl⟩
          simp [Gate.nameOk, HN'.out hc']
      · have HA : Hid (Gate.allName s = true) := by unfold Gate.allName Hid; rw [← Gate.take_all s k (by omega)]; exact hall
        clear hall
        go_wp2
        go_ret
        refine ⟨ret_bool ?_, rfl⟩
        simp only [Gate.nameOk, HA.out]; simp; omega
  · go_enter Tryz.func37, Tryz.ntmps37
    go_wp2_with (go_at_call 38; refine (l1In_no _ _ _ _ (by omega)).mono ?_; rintro e w' ⟨rfl, rfl⟩)
    go_ret
    refine ⟨ret_bool ?_, rfl⟩
    simp [Gate.nameOk]; omega

set_option maxHeartbeats 400000 in
theorem isNameBytes_any (s : ByteArray) (w : World) (hs : s.size ≤ maxLen) :
    Calls Tryz.prog 75 #[.string s] w fun e w' => e = .returned (.bool (Gate.allName s)) ∧ w' = w := by
  unfold maxLen at hs
  go_enter Tryz.func75, Tryz.ntmps75
  go_wp2
  go_loop [7] (fun i => ∃ k : Nat, k ≤ s.size ∧ i = .int .i64 k ∧ (s.data.toList.take k).all Gate.nameByte = true) (fun i => s.size - (intOf i).toNat)
  case atStart => exact ⟨0, Nat.zero_le _, rfl, rfl⟩
  case round =>
    obtain ⟨k, hk, rfl, hall⟩ := hrel
    by_cases hlt : k < s.size
    · have HS : Hid ((s.data.toList.take (k + 1)).all Gate.nameByte = (true && Gate.nameByte s[k])) := by rw [Gate.all_snoc _ s k hlt, hall]; rfl
      have HN : Hid (Gate.nameByte s[k] = false → Gate.allName s = false) := fun h => Gate.all_not Gate.nameByte s k hlt h
      clear hall
      by_cases hd : 48 ≤ (s[k].toNat : Int) ∧ (s[k].toNat : Int) ≤ 57
      · have HC : Hid (Gate.nameByte s[k] = true) := by simp [Gate.nameByte, Hid]; omega
        obtain ⟨hd1, hd2⟩ := hd
        go_wp2_with (go_at_call 100; refine (isDigit_yes _ _ hd1 hd2).mono ?_; rintro e w' ⟨rfl, rfl⟩)
        go_round
        case rel => exact ⟨k + 1, by omega, by go_num, by rw [HS.out, HC.out]; rfl⟩
        case measure => simp [intOf]; omega
      · have HD : Hid (¬ (48 ≤ (s[k].toNat : Int) ∧ (s[k].toNat : Int) ≤ 57)) := hd
        clear hd
        by_cases h45 : (s[k].toNat : Int) = 45
        · have HC : Hid (Gate.nameByte s[k] = true) := by simp [Gate.nameByte, Hid]; omega
          have h45' : ((s[k].toNat : Int) != 45) = false := by simp [h45]
          clear h45
          go_wp2_with (go_at_call 100; refine (isDigit_no _ _ HD.out).mono ?_; rintro e w' ⟨rfl, rfl⟩)
          go_round
          case rel => exact ⟨k + 1, by omega, by go_num, by rw [HS.out, HC.out]; rfl⟩
          case measure => simp [intOf]; omega
        · have h45' : ((s[k].toNat : Int) != 45) = true := by simp [h45]
          by_cases h97 : (s[k].toNat : Int) < 97
          · have HC : Hid (Gate.nameByte s[k] = false) := by have := HD.out; simp [Gate.nameByte, Hid]; omega
            clear h45
            go_wp2_with (go_at_call 100; refine (isDigit_no _ _ HD.out).mono ?_; rintro e w' ⟨rfl, rfl⟩)
            go_ret
            exact ⟨ret_bool (HN.out HC.out).symm, rfl⟩
          · by_cases h122 : 122 < (s[k].toNat : Int)
            · have HC : Hid (Gate.nameByte s[k] = false) := by have := HD.out; simp [Gate.nameByte, Hid]; omega
              clear h45
              go_wp2_with (go_at_call 100; refine (isDigit_no _ _ HD.out).mono ?_; rintro e w' ⟨rfl, rfl⟩)
              go_ret
              exact ⟨ret_bool (HN.out HC.out).symm, rfl⟩
            · have HC : Hid (Gate.nameByte s[k] = true) := by simp [Gate.nameByte, Hid]; omega
              clear h45
              go_wp2_with (go_at_call 100; refine (isDigit_no _ _ HD.out).mono ?_; rintro e w' ⟨rfl, rfl⟩)
              go_round
              case rel => exact ⟨k + 1, by omega, by go_num, by rw [HS.out, HC.out]; rfl⟩
              case measure => simp [intOf]; omega
    · have HA : Hid (Gate.allName s = true) := by unfold Gate.allName Hid; rw [← Gate.take_all s k (by omega)]; exact hall
      clear hall
      go_wp2
      go_ret
      exact ⟨ret_bool HA.out.symm, rfl⟩

set_option maxHeartbeats 400000 in
theorem isName_any (s : ByteArray) (w : World) (hs : s.size ≤ maxLen) :
    Calls Tryz.prog 51 #[.string s] w fun e w' => e = .returned (.bool (Gate.nameOk s)) ∧ w' = w := by
  have hs' := hs
  unfold maxLen at hs'
  by_cases h0 : s.size = 0
  · rw [Gate.empty_of_size s h0]
    go_enter Tryz.func51, Tryz.ntmps51
    go_wp2
    go_ret
    exact ⟨rfl, rfl⟩
  · have hne : s.toList.isEmpty = false := by rw [Gate.isEmpty_of_size]; simp [h0]
    by_cases h16 : s.size ≤ 16
    · have HF : Hid (Gate.nameOk s = Gate.allName s) := by
        simp only [Hid, Gate.nameOk]; rw [decide_eq_true (show 1 ≤ s.size by omega), decide_eq_true h16]; simp
      go_enter Tryz.func51, Tryz.ntmps51
      go_wp2_with (go_at_call 75; refine (isNameBytes_any _ _ hs).mono ?_; rintro e w' ⟨rfl, rfl⟩)
      go_ret
      exact ⟨ret_bool HF.out.symm, rfl⟩
    · go_enter Tryz.func51, Tryz.ntmps51
      go_wp2_with (go_at_call 75; refine (isNameBytes_any _ _ hs).mono ?_; rintro e w' ⟨rfl, rfl⟩)
      go_ret
      refine ⟨ret_bool ?_, rfl⟩
      simp only [Gate.nameOk]; rw [decide_eq_false h16]; simp

end Go.Proofs.YtpmlngcljbkchaaGreat

namespace Go.Proofs.YtpmlngcljbkchaaGreat
open Go.RowKit

set_option maxHeartbeats 1000000 in
theorem shapeOf_any (a : Option Addr) (cap : Nat) (ss : List Shp) (v : ByteArray) (w : World) (hw : ShpsAt w a ss) :
    Calls Tryz.prog 68 #[.slice a ss.length cap, .string v] w fun e w' => ∃ fa fcap, e = .returned (.tuple #[.agg #[.string (Gate.shapeOf ss v).kd, .slice fa (Gate.shapeOf ss v).fs.length fcap], .bool (Gate.hasKind ss v)]) ∧
      FldsAt w fa (Gate.shapeOf ss v).fs ∧ Below w.heap.size w w' := by
  have hl := hw.len
  unfold maxLen at hl
  go_enter Tryz.func68, Tryz.ntmps68
  go_wp2
  go_loopw [10] (fun i wr => ∃ k : Nat, k ≤ ss.length ∧ i = .int .i64 k ∧ Gate.hasKind (ss.take k) v = false ∧ Below (w.heap.size + 1) (w.alloc (.cells #[.string ByteArray.empty, .slice none 0 0] 85)) wr) (fun i _ => ss.length - (intOf i).toNat)
  case atStart => exact ⟨0, Nat.zero_le _, rfl, rfl, Below.refl _ _⟩
  case round =>
    obtain ⟨k, hk, rfl, hno, hbl⟩ := hrel
    have hsz : w.heap.size < wr.heap.size := by have := hbl.size; simp at this; omega
    have hB0 : Below w.heap.size w wr := ((Below.refl _ _).alloc (Nat.le_refl _) _).trans (hbl.mono (by omega))
    have hX0 : wr.cell? ⟨w.heap.size, 0, none⟩ = some (.string ByteArray.empty) := (hbl.cell (p := ⟨w.heap.size, 0, none⟩) (by simp)).trans (by rw [World.cell?_alloc_at _ _ _ _ rfl]; rfl)
    have hX1 : wr.cell? ⟨w.heap.size, 1, none⟩ = some (.slice none 0 0) := (hbl.cell (p := ⟨w.heap.size, 1, none⟩) (by simp)).trans (by rw [World.cell?_alloc_at _ _ _ _ rfl]; rfl)
    have hF0 : wr.frozen? ⟨w.heap.size, 0, none⟩ = false := (hbl.frozen (p := ⟨w.heap.size, 0, none⟩) (by simp)).trans (by rw [World.frozen?_alloc_at _ _ _ _ rfl])
    have hF1 : wr.frozen? ⟨w.heap.size, 1, none⟩ = false := (hbl.frozen (p := ⟨w.heap.size, 1, none⟩) (by simp)).trans (by rw [World.frozen?_alloc_at _ _ _ _ rfl])
    by_cases hlt : k < ss.length
    · obtain ⟨b, off, rfl, hb, hr⟩ := hw.rows (by rintro rfl; simp at hlt)
      obtain ⟨fa, fcap, hs⟩ := hr k hlt
      have hck := (hB0.cell (p := ⟨b, off + k * 2, none⟩) hb).trans hs.kind
      have hcl := (hB0.cell (p := ⟨b, off + k * 2 + 1, none⟩) hb).trans hs.list
      have hfl := hs.flds
      clear hw hr hs
      by_cases he : ss[k].kd = v
      · have hbe : (ss[k].kd.toList == v.toList) = true := by rw [Gate.beq_toList]; simpa using he
        have HA : Hid (Gate.hasKind ss v = true) := Gate.hasKind_at ss v k hlt he
        have HB : Hid (Gate.shapeOf ss v = ss[k]) := Gate.shapeOf_at ss v k hlt hno he
        clear he hno
        go_wp2
        refine bodyPost_ret (v := .tuple #[.agg #[.string ss[k].kd, .slice fa ss[k].fs.length fcap], .bool true]) (by simp [results, Tryz.results68, go_sem, hX0, hX1, hsz]) rfl ⟨fa, fcap, by rw [HA.out, HB.out], by rw [HB.out]; exact hfl, ?_⟩
        exact ((hB0.setCell (Nat.le_refl _) _).setCell (Nat.le_refl _) _).alloc (by simp [World.setCell]; omega) _
      · have hbe : (ss[k].kd.toList == v.toList) = false := by rw [Gate.beq_toList]; simpa using he
        have HS : Hid (Gate.hasKind (ss.take (k + 1)) v = false) := by unfold Hid; rw [Gate.hasKind_snoc ss v k hlt, hno, decide_eq_false he]; rfl
        clear he hno hX0 hX1 hF0 hF1
        go_wp2
        go_roundw
        case rel => exact ⟨k + 1, by omega, by go_num, HS.out, hbl.alloc (by omega) _⟩
        case measure => simp [intOf]; omega
    · have HA : Hid (Gate.hasKind ss v = false) := by rw [← Gate.hasKind_all ss v k (by omega)]; exact hno
      have HB : Hid (Gate.shapeOf ss v = Gate.noShape) := Gate.shapeOf_none ss v HA.out
      clear hno hw
      go_wp2
      refine bodyPost_ret (v := .tuple #[.agg #[.string ByteArray.empty, .slice none 0 0], .bool false]) (by simp [results, Tryz.results68, go_sem, hX0, hX1]; rfl) rfl ⟨none, 0, by rw [HA.out, HB.out]; rfl, by rw [HB.out]; exact ⟨by simp [Gate.noShape, maxLen], fun h => absurd rfl h⟩, ?_⟩
      exact (hB0.setCell (Nat.le_refl _) _).setCell (Nat.le_refl _) _

end Go.Proofs.YtpmlngcljbkchaaGreat
