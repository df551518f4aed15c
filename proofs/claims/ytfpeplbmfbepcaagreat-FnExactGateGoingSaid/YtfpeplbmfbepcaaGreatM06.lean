import Derived.Test.YtfpeplbmfbepcaaGreatM03
import Derived.Deep.QuietTactic
import Derived.BigQuiet
namespace Go.Proofs.YtfpeplbmfbepcaaGreat
open Go.RowKit
def zbO (ws : List ByteArray) : Nat := (ws.map ByteArray.size).sum
def qm (ws : List ByteArray) : Nat := ws.length + zbO ws
theorem znT (ws : List ByteArray) (k : Nat) (h : k < ws.length) : zbO (ws.take (k + 1)) = zbO (ws.take k) + ws[k].size := by
  unfold zbO; rw [List.take_succ_eq_append_getElem h, List.map_append, List.sum_append]; simp
theorem zpX (ws : List ByteArray) (k : Nat) : zbO (ws.take k) <= zbO ws := by
  unfold zbO
  conv => rhs; rw [<- List.take_append_drop k ws]
  rw [List.map_append, List.sum_append]; omega
theorem zoP (ws : List ByteArray) (k : Nat) (h : ws.length <= k) : zbO (ws.take k) = zbO ws := by rw [List.take_of_length_le h]
set_option maxHeartbeats 400000 in
theorem zeI (a : Option Addr) (cap : Nat) (ws : List ByteArray) (left : Int) (w : World) (hw : zA w a ws) (h0 : 0 <= left) (h1 : left <= 1048576) :
    Calls Tryz.prog 86 #[.slice a ws.length cap, .int .i64 left] w fun e w' => e = .returned (.int .i64 (zF (qm ws) left)) /\ w' = w := by
  have hl := hw.len
  unfold maxLen at hl
  by_cases hfit : (ws.length : Int) <= left
  · go_enter Tryz.func86, Tryz.ntmps86
    go_wp2
    go_loop [1, 5] (fun l i => ∃ k : Nat, k <= ws.length /\ i = .int .i64 k /\ 0 <= left - ws.length - zbO (ws.take k) /\ l = .int .i64 (left - ws.length - zbO (ws.take k))) (fun _ i => ws.length - (intOf i).toNat)
    case atStart => exact ⟨0, Nat.zero_le _, rfl, by simp [zbO]; omega, by simp [zbO]⟩
    case round =>
      obtain ⟨k, hk, rfl, hpos, rfl⟩ := hrel
      by_cases hlt : k < ws.length
      · obtain ⟨b, off, rfl, hb, hc⟩ := hw.cells (by rintro rfl; simp at hlt)
        have hsm := hw.small _ (List.getElem_mem hlt)
        unfold maxLen at hsm
        clear hw
        have hck := hc k hlt
        have HS : Hid (zbO (ws.take (k + 1)) = zbO (ws.take k) + ws[k].size) := znT ws k hlt
        have hle := zpX ws (k + 1)
        clear hc
        by_cases hneg : left - ws.length - zbO (ws.take k) - ws[k].size < 0
        · have HF : Hid (zF (qm ws) left = -1) := zx (by have := HS.out; unfold qm; omega)
          clear hle
          go_wp2
          go_ret
          exact ⟨zl HF.out.symm, rfl⟩
        · clear hle
          go_wp2
          go_round
          case rel => exact ⟨k + 1, by omega, by go_num, by rw [HS.out]; omega, by rw [HS.out]; go_num⟩
          case measure => simp [intOf]; omega
      · have HF : Hid (zF (qm ws) left = left - ws.length - zbO (ws.take k)) := by
          rw [zoP ws k (by omega)] at hpos ⊢
          have e : zF (qm ws) left = left - qm ws := zH (by unfold qm; omega)
          unfold Hid; rw [e]; unfold qm; omega
        clear hw
        go_wp2
        go_ret
        exact ⟨zl HF.out.symm, rfl⟩
  · have HF : Hid (zF (qm ws) left = -1) := zx (by unfold qm; omega)
    clear hw
    go_enter Tryz.func86, Tryz.ntmps86
    go_wp2
    go_ret
    exact ⟨zl HF.out.symm, rfl⟩
set_option maxHeartbeats 400000 in
theorem zcO (a a' : Option Addr) (cap cap' : Nat) (ws : List ByteArray) (w : World) (hw : zA w a ws) (hw' : zA w a' ws) :
    Calls Tryz.prog 121 #[.slice a ws.length cap, .slice a' ws.length cap'] w fun e w' => e = .returned (.bool true) /\ Below w.heap.size w w' := by
  have hl := hw.len
  unfold maxLen at hl
  have hnn : ((ws.length : Int) != ws.length) = false := by simp
  go_enter Tryz.func121, Tryz.ntmps121
  go_wp2
  go_loopw [5] (fun i wr => ∃ k : Nat, k <= ws.length /\ i = .int .i64 k /\ ∃ n, wr = w.drewN n) (fun i _ => ws.length - (intOf i).toNat)
  case atStart => exact ⟨0, Nat.zero_le _, rfl, 0, rfl⟩
  case round =>
    obtain ⟨k, hk, rfl, nd, rfl⟩ := hrel
    by_cases hlt : k < ws.length
    · obtain ⟨b, off, rfl, hb, hc⟩ := hw.cells (by rintro rfl; simp at hlt)
      obtain ⟨b', off', rfl, hb', hc'⟩ := hw'.cells (by rintro rfl; simp at hlt)
      clear hw hw'
      have hck := hc k hlt
      have hck' := hc' k hlt
      have hltI : (k : Int) < (ws.length : Int) := by omega
      clear hc hc'
      go_wp2
      go_quiet (fail)
      go_wp2
      exact ⟨⟨k + 1, by omega, by go_num, nd + nq, rfl⟩, by simp [intOf]; omega⟩
    · clear hw hw'
      go_wp2
      go_ret
      exact ⟨rfl, below_drewN (Below.refl _ _) nd⟩
set_option maxHeartbeats 1000000 in
theorem zhU (nm : ByteArray) (kd ls ms : Int) (a a' : Option Addr) (cap cap' : Nat) (ws : List ByteArray) (to : ByteArray) (rl : Int) (mu fx : Bool) (df wg : ByteArray) (w : World) (hw : zA w a ws) (hw' : zA w a' ws) :
    Calls Tryz.prog 168 #[.agg #[.string nm, .int .i64 kd, .int .i64 ls, .int .i64 ms, .slice a ws.length cap, .string to, .int .i64 rl, .bool mu, .bool fx, .string df, .string wg], .agg #[.string nm, .int .i64 kd, .int .i64 ls, .int .i64 ms, .slice a' ws.length cap', .string to, .int .i64 rl, .bool mu, .bool fx, .string df, .string wg]] w
      fun e w' => e = .returned (.bool true) /\ Below w.heap.size w w' := by
  go_enter Tryz.func168, Tryz.ntmps168
  go_wp2_with (go_at_call 121; refine (zcO _ _ _ _ _ _ (by exact hw.mono (zn _ _ _)) (by exact hw'.mono (zn _ _ _))).mono ?_; rintro e w1 ⟨rfl, hb1⟩; have hc1 := (zqq hb1).1; have hz1 := hb1.size; simp only [World.size_alloc] at hz1)
  go_ret
  exact ⟨rfl, (zn _ _ _).trans (hb1.mono (by simp; omega))⟩
def jY (nm : ByteArray) (ws : List ByteArray) (to df wg : ByteArray) : Nat := nm.size + qm ws + to.size + df.size + wg.size
theorem jF (a : Option Addr) (cap : Nat) (ws : List ByteArray) (left : Int) (w : World) (hw : zA w a ws) (h0 : 0 <= left) (h1 : left <= 1048576) (h : (qm ws : Int) <= left) :
    Calls Tryz.prog 86 #[.slice a ws.length cap, .int .i64 left] w fun e w' => e = .returned (.int .i64 (left - qm ws)) /\ w' = w := by
  refine (zeI a cap ws left w hw h0 h1).mono ?_
  rintro e w' ⟨rfl, rfl⟩
  exact ⟨zl (zH h), rfl⟩
theorem zdc (a : Option Addr) (cap : Nat) (ws : List ByteArray) (left : Int) (w : World) (hw : zA w a ws) (h0 : 0 <= left) (h1 : left <= 1048576) (h : ¬ (qm ws : Int) <= left) :
    Calls Tryz.prog 86 #[.slice a ws.length cap, .int .i64 left] w fun e w' => e = .returned (.int .i64 (-1)) /\ w' = w := by
  refine (zeI a cap ws left w hw h0 h1).mono ?_
  rintro e w' ⟨rfl, rfl⟩
  exact ⟨zl (zx h), rfl⟩
set_option maxHeartbeats 1000000 in
theorem zdM (nm : ByteArray) (kd ls ms : Int) (a : Option Addr) (cap : Nat) (ws : List ByteArray) (to : ByteArray) (rl : Int) (mu fx : Bool) (df wg : ByteArray) (left : Int) (w : World) (hw : zA w a ws) (h0 : 0 <= left) (h1 : left <= 1048576)
    (hnm : nm.size <= maxLen) (hto : to.size <= maxLen) (hdf : df.size <= maxLen) (hwg : wg.size <= maxLen) :
    Calls Tryz.prog 123 #[.agg #[.string nm, .int .i64 kd, .int .i64 ls, .int .i64 ms, .slice a ws.length cap, .string to, .int .i64 rl, .bool mu, .bool fx, .string df, .string wg], .int .i64 left] w fun e w' => e = .returned (.int .i64 (zF (jY nm ws to df wg) left)) /\ Below w.heap.size w w' := by
  unfold maxLen at hnm hto hdf hwg
  by_cases c1 : (nm.size : Int) <= left
  rotate_left
  · have HF : Hid (zF (jY nm ws to df wg) left = -1) := zx (by unfold jY; omega)
    go_enter Tryz.func123, Tryz.ntmps123
    go_wp2_with fail
    go_ret
    exact ⟨zl HF.out.symm, (Below.refl _ _).alloc (Nat.le_refl _) _⟩
  by_cases c2 : (qm ws : Int) <= left - nm.size
  rotate_left
  · have HF : Hid (zF (jY nm ws to df wg) left = -1) := zx (by unfold jY; omega)
    go_enter Tryz.func123, Tryz.ntmps123
    go_wp2_with (go_at_call 86; refine (zdc _ _ _ _ _ (by exact hw.mono ((Below.refl _ _).alloc (Nat.le_refl _) _)) (by omega) (by omega) (by omega)).mono ?_; rintro e w1 ⟨rfl, rfl⟩)
    go_ret
    exact ⟨zl HF.out.symm, (Below.refl _ _).alloc (Nat.le_refl _) _⟩
  by_cases c3 : (to.size : Int) <= left - nm.size - qm ws
  rotate_left
  · have HF : Hid (zF (jY nm ws to df wg) left = -1) := zx (by unfold jY; omega)
    go_enter Tryz.func123, Tryz.ntmps123
    go_wp2_with (go_at_call 86; refine (jF _ _ _ _ _ (by exact hw.mono ((Below.refl _ _).alloc (Nat.le_refl _) _)) (by omega) (by omega) (by omega)).mono ?_; rintro e w1 ⟨rfl, rfl⟩)
    go_ret
    exact ⟨zl HF.out.symm, (Below.refl _ _).alloc (Nat.le_refl _) _⟩
  by_cases c4 : (df.size : Int) <= left - nm.size - qm ws - to.size
  rotate_left
  · have HF : Hid (zF (jY nm ws to df wg) left = -1) := zx (by unfold jY; omega)
    go_enter Tryz.func123, Tryz.ntmps123
    go_wp2_with (go_at_call 86; refine (jF _ _ _ _ _ (by exact hw.mono ((Below.refl _ _).alloc (Nat.le_refl _) _)) (by omega) (by omega) (by omega)).mono ?_; rintro e w1 ⟨rfl, rfl⟩)
    go_ret
    exact ⟨zl HF.out.symm, (Below.refl _ _).alloc (Nat.le_refl _) _⟩
  by_cases c5 : (wg.size : Int) <= left - nm.size - qm ws - to.size - df.size
  rotate_left
  · have HF : Hid (zF (jY nm ws to df wg) left = -1) := zx (by unfold jY; omega)
    go_enter Tryz.func123, Tryz.ntmps123
    go_wp2_with (go_at_call 86; refine (jF _ _ _ _ _ (by exact hw.mono ((Below.refl _ _).alloc (Nat.le_refl _) _)) (by omega) (by omega) (by omega)).mono ?_; rintro e w1 ⟨rfl, rfl⟩)
    go_ret
    exact ⟨zl HF.out.symm, (Below.refl _ _).alloc (Nat.le_refl _) _⟩
  · have HF : Hid (zF (jY nm ws to df wg) left = left - nm.size - qm ws - to.size - df.size - wg.size) := by
      have e : zF (jY nm ws to df wg) left = left - jY nm ws to df wg := zH (by unfold jY; omega)
      unfold Hid; rw [e]; unfold jY; omega
    go_enter Tryz.func123, Tryz.ntmps123
    go_wp2_with (go_at_call 86; refine (jF _ _ _ _ _ (by exact hw.mono ((Below.refl _ _).alloc (Nat.le_refl _) _)) (by omega) (by omega) (by omega)).mono ?_; rintro e w1 ⟨rfl, rfl⟩)
    go_ret
    exact ⟨zl HF.out.symm, (Below.refl _ _).alloc (Nat.le_refl _) _⟩
end Go.Proofs.YtfpeplbmfbepcaaGreat

namespace Go.Proofs.YtfpeplbmfbepcaaGreat
open Go.RowKit
def Fld.sz (f : Fld) : Nat := jY f.nm f.ws f.to f.df f.wg
def zgm (fs : List Fld) : Nat := (fs.map Fld.sz).sum
def zal (fs : List Fld) : Nat := fs.length + zgm fs
def Shp.sz (s : Shp) : Nat := s.kd.size + zal s.fs
def zgG (ss : List Shp) : Nat := (ss.map Shp.sz).sum
def zao (ss : List Shp) : Nat := ss.length + zgG ss
theorem zhO (nm : ByteArray) (kd ls ms : Int) (a : Option Addr) (cap : Nat) (ws : List ByteArray) (to : ByteArray) (rl : Int) (mu fx : Bool) (df wg : ByteArray) (left : Int) (w : World) (hw : zA w a ws) (h0 : 0 <= left) (h1 : left <= 1048576)
    (hnm : nm.size <= maxLen) (hto : to.size <= maxLen) (hdf : df.size <= maxLen) (hwg : wg.size <= maxLen) (h : (jY nm ws to df wg : Int) <= left) :
    Calls Tryz.prog 123 #[.agg #[.string nm, .int .i64 kd, .int .i64 ls, .int .i64 ms, .slice a ws.length cap, .string to, .int .i64 rl, .bool mu, .bool fx, .string df, .string wg], .int .i64 left] w fun e w' => e = .returned (.int .i64 (left - jY nm ws to df wg)) /\ Below w.heap.size w w' := by
  refine (zdM nm kd ls ms a cap ws to rl mu fx df wg left w hw h0 h1 hnm hto hdf hwg).mono ?_
  rintro e w' ⟨rfl, hb⟩
  exact ⟨zl (zH h), hb⟩
theorem zi5 (nm : ByteArray) (kd ls ms : Int) (a : Option Addr) (cap : Nat) (ws : List ByteArray) (to : ByteArray) (rl : Int) (mu fx : Bool) (df wg : ByteArray) (left : Int) (w : World) (hw : zA w a ws) (h0 : 0 <= left) (h1 : left <= 1048576)
    (hnm : nm.size <= maxLen) (hto : to.size <= maxLen) (hdf : df.size <= maxLen) (hwg : wg.size <= maxLen) (h : ¬ (jY nm ws to df wg : Int) <= left) :
    Calls Tryz.prog 123 #[.agg #[.string nm, .int .i64 kd, .int .i64 ls, .int .i64 ms, .slice a ws.length cap, .string to, .int .i64 rl, .bool mu, .bool fx, .string df, .string wg], .int .i64 left] w fun e w' => e = .returned (.int .i64 (-1)) /\ Below w.heap.size w w' := by
  refine (zdM nm kd ls ms a cap ws to rl mu fx df wg left w hw h0 h1 hnm hto hdf hwg).mono ?_
  rintro e w' ⟨rfl, hb⟩
  exact ⟨zl (zx h), hb⟩
set_option maxHeartbeats 1000000 in
theorem zc0 (a : Option Addr) (cap : Nat) (fs : List Fld) (left : Int) (w : World) (hw : zW w a fs) (h0 : 0 <= left) (h1 : left <= 1048576) :
    Calls Tryz.prog 85 #[.slice a fs.length cap, .int .i64 left] w fun e w' => e = .returned (.int .i64 (zF (zal fs) left)) /\ Below w.heap.size w w' := by
  have hl := hw.len
  unfold maxLen at hl
  by_cases hfit : (fs.length : Int) <= left
  · go_enter Tryz.func85, Tryz.ntmps85
    go_wp2_with fail
    go_loopw [1, 5] (fun l i wr => ∃ k : Nat, k <= fs.length /\ i = .int .i64 k /\ 0 <= left - fs.length - zgm (fs.take k) /\ l = .int .i64 (left - fs.length - zgm (fs.take k)) /\ Below w.heap.size w wr) (fun _ i _ => fs.length - (intOf i).toNat)
    case atStart => exact ⟨0, Nat.zero_le _, rfl, by simp [zgm]; omega, by simp [zgm], Below.refl _ _⟩
    case round =>
      obtain ⟨k, hk, rfl, hpos, rfl, hB⟩ := hrel
      by_cases hlt : k < fs.length
      · obtain ⟨b, off, rfl, hb, hr⟩ := hw.rows (by rintro rfl; simp at hlt)
        obtain ⟨wa, wcap, hf0⟩ := hr k hlt
        have hf := hf0.mono hb hB
        obtain ⟨c0, c1, c2, c3, c4, c5, c6, c7, c8, c9, c10⟩ := hf.load
        have hsm := hf.small
        have hst := hf.strs
        have HS : Hid (zgm (fs.take (k + 1)) = zgm (fs.take k) + fs[k].sz) := zaH Fld.sz fs k hlt
        have hle : zgm (fs.take (k + 1)) <= zgm fs := zce Fld.sz fs (k + 1)
        clear hw hr hf0 hf
        by_cases hneg : (jY fs[k].nm fs[k].ws fs[k].to fs[k].df fs[k].wg : Int) <= left - fs.length - zgm (fs.take k)
        · have HNG : Hid ((jY fs[k].nm fs[k].ws fs[k].to fs[k].df fs[k].wg : Int) <= left - fs.length - zgm (fs.take k)) := hneg
          clear hle
          go_wp2_with fail
          refine (zhO _ _ _ _ _ _ _ _ _ _ _ _ _ _ _ hst hpos (by omega) hsm.nm hsm.to hsm.df hsm.wg HNG.out).mono ?_
          rintro e w1 ⟨rfl, hb1⟩
          have hB1 := hB.trans (hb1.mono hB.size)
          clear hb1
          go_wp2_with fail
          exact ⟨⟨k + 1, by omega, by go_num, by rw [HS.out]; show 0 <= _ - ((_ + jY _ _ _ _ _ : Nat) : Int); omega, by rw [HS.out]; show Value.int _ _ = Value.int _ (_ - ((_ + jY _ _ _ _ _ : Nat) : Int)); congr 1; omega, hB1⟩, by simp [intOf]; omega⟩
        · have HF : Hid (zF (zal fs) left = -1) := zx (by have := HS.out; unfold zal; unfold Fld.sz at this; omega)
          have HNG := hid hneg
          clear hneg hle
          go_wp2_with fail
          refine (zi5 _ _ _ _ _ _ _ _ _ _ _ _ _ _ _ hst hpos (by omega) hsm.nm hsm.to hsm.df hsm.wg (by have := HNG.out; omega)).mono ?_
          rintro e w1 ⟨rfl, hb1⟩
          have hB1 := hB.trans (hb1.mono hB.size)
          clear hb1
          go_wp2_with fail
          go_ret
          exact ⟨zl HF.out.symm, hB1⟩
      · have HF : Hid (zF (zal fs) left = left - fs.length - zgm (fs.take k)) := by
          rw [List.take_of_length_le (by omega)] at hpos ⊢
          have e : zF (zal fs) left = left - zal fs := zH (by unfold zal; omega)
          unfold Hid; rw [e]; unfold zal; omega
        clear hw
        go_wp2
        go_ret
        exact ⟨zl HF.out.symm, hB⟩
  · have HF : Hid (zF (zal fs) left = -1) := zx (by unfold zal; omega)
    clear hw
    go_enter Tryz.func85, Tryz.ntmps85
    go_wp2
    go_ret
    exact ⟨zl HF.out.symm, Below.refl _ _⟩
theorem zf4 (a : Option Addr) (cap : Nat) (fs : List Fld) (left : Int) (w : World) (hw : zW w a fs) (h0 : 0 <= left) (h1 : left <= 1048576) (h : (zal fs : Int) <= left) :
    Calls Tryz.prog 85 #[.slice a fs.length cap, .int .i64 left] w fun e w' => e = .returned (.int .i64 (left - zal fs)) /\ Below w.heap.size w w' := by
  refine (zc0 a cap fs left w hw h0 h1).mono ?_
  rintro e w' ⟨rfl, hb⟩
  exact ⟨zl (zH h), hb⟩
theorem zhV (a : Option Addr) (cap : Nat) (fs : List Fld) (left : Int) (w : World) (hw : zW w a fs) (h0 : 0 <= left) (h1 : left <= 1048576) (h : ¬ (zal fs : Int) <= left) :
    Calls Tryz.prog 85 #[.slice a fs.length cap, .int .i64 left] w fun e w' => e = .returned (.int .i64 (-1)) /\ Below w.heap.size w w' := by
  refine (zc0 a cap fs left w hw h0 h1).mono ?_
  rintro e w' ⟨rfl, hb⟩
  exact ⟨zl (zx h), hb⟩
set_option maxHeartbeats 1000000 in
theorem zdI (kd : ByteArray) (a : Option Addr) (cap : Nat) (fs : List Fld) (left : Int) (w : World) (hkd : kd.size <= maxLen) (hw : zW w a fs) (h0 : 0 <= left) (h1 : left <= 1048576) :
    Calls Tryz.prog 51 #[.agg #[.string kd, .slice a fs.length cap], .int .i64 left] w fun e w' => e = .returned (.int .i64 (zF (Shp.sz ⟨kd, fs⟩) left)) /\ Below w.heap.size w w' := by
  unfold maxLen at hkd
  by_cases c1 : (kd.size : Int) <= left
  rotate_left
  · have HF : Hid (zF (Shp.sz ⟨kd, fs⟩) left = -1) := zx (by unfold Shp.sz; simp only; omega)
    go_enter Tryz.func51, Tryz.ntmps51
    go_wp2_with fail
    go_ret
    exact ⟨zl HF.out.symm, (Below.refl _ _).alloc (Nat.le_refl _) _⟩
  by_cases c2 : (zal fs : Int) <= left - kd.size
  · have HF : Hid (zF (Shp.sz ⟨kd, fs⟩) left = left - kd.size - zal fs) := by
      have e : zF (Shp.sz ⟨kd, fs⟩) left = left - Shp.sz ⟨kd, fs⟩ := zH (by unfold Shp.sz; simp only; omega)
      unfold Hid; rw [e]; unfold Shp.sz; simp only; omega
    go_enter Tryz.func51, Tryz.ntmps51
    go_wp2_with fail
    refine (zf4 _ _ _ _ _ (hw.mono ((Below.refl _ _).alloc (Nat.le_refl _) _)) (by omega) (by omega) (by omega)).mono ?_
    rintro e w1 ⟨rfl, hb1⟩
    go_wp2_with fail
    go_ret
    exact ⟨zl HF.out.symm, ((Below.refl _ _).alloc (Nat.le_refl _) _).trans (hb1.mono (by simp))⟩
  · have HF : Hid (zF (Shp.sz ⟨kd, fs⟩) left = -1) := zx (by unfold Shp.sz; simp only; omega)
    go_enter Tryz.func51, Tryz.ntmps51
    go_wp2_with fail
    refine (zhV _ _ _ _ _ (hw.mono ((Below.refl _ _).alloc (Nat.le_refl _) _)) (by omega) (by omega) (by omega)).mono ?_
    rintro e w1 ⟨rfl, hb1⟩
    go_wp2_with fail
    go_ret
    exact ⟨zl HF.out.symm, ((Below.refl _ _).alloc (Nat.le_refl _) _).trans (hb1.mono (by simp))⟩
theorem zhP (kd : ByteArray) (a : Option Addr) (cap : Nat) (fs : List Fld) (left : Int) (w : World) (hkd : kd.size <= maxLen) (hw : zW w a fs) (h0 : 0 <= left) (h1 : left <= 1048576) (h : (Shp.sz ⟨kd, fs⟩ : Int) <= left) :
    Calls Tryz.prog 51 #[.agg #[.string kd, .slice a fs.length cap], .int .i64 left] w fun e w' => e = .returned (.int .i64 (left - Shp.sz ⟨kd, fs⟩)) /\ Below w.heap.size w w' := by
  refine (zdI kd a cap fs left w hkd hw h0 h1).mono ?_
  rintro e w' ⟨rfl, hb⟩
  exact ⟨zl (zH h), hb⟩
theorem ziv (kd : ByteArray) (a : Option Addr) (cap : Nat) (fs : List Fld) (left : Int) (w : World) (hkd : kd.size <= maxLen) (hw : zW w a fs) (h0 : 0 <= left) (h1 : left <= 1048576) (h : ¬ (Shp.sz ⟨kd, fs⟩ : Int) <= left) :
    Calls Tryz.prog 51 #[.agg #[.string kd, .slice a fs.length cap], .int .i64 left] w fun e w' => e = .returned (.int .i64 (-1)) /\ Below w.heap.size w w' := by
  refine (zdI kd a cap fs left w hkd hw h0 h1).mono ?_
  rintro e w' ⟨rfl, hb⟩
  exact ⟨zl (zx h), hb⟩
set_option maxHeartbeats 1000000 in
theorem zgo (a : Option Addr) (cap : Nat) (ss : List Shp) (left : Int) (w : World) (hw : yI w a ss) (h0 : 0 <= left) (h1 : left <= 1048576) :
    Calls Tryz.prog 17 #[.slice a ss.length cap, .int .i64 left] w fun e w' => e = .returned (.int .i64 (zF (zao ss) left)) /\ Below w.heap.size w w' := by
  have hl := hw.len
  unfold maxLen at hl
  by_cases hfit : (ss.length : Int) <= left
  · go_enter Tryz.func17, Tryz.ntmps17
    go_wp2_with fail
    go_loopw [1, 5] (fun l i wr => ∃ k : Nat, k <= ss.length /\ i = .int .i64 k /\ 0 <= left - ss.length - zgG (ss.take k) /\ l = .int .i64 (left - ss.length - zgG (ss.take k)) /\ Below w.heap.size w wr) (fun _ i _ => ss.length - (intOf i).toNat)
    case atStart => exact ⟨0, Nat.zero_le _, rfl, by simp [zgG]; omega, by simp [zgG], Below.refl _ _⟩
    case round =>
      obtain ⟨k, hk, rfl, hpos, rfl, hB⟩ := hrel
      by_cases hlt : k < ss.length
      · obtain ⟨b, off, rfl, hb, hr⟩ := hw.rows (by rintro rfl; simp at hlt)
        obtain ⟨fa, fcap, hs0⟩ := hr k hlt
        have hs := hs0.mono hb hB
        have hck := hs.kind
        have hcl := hs.list
        have hfl := hs.zcE
        have hsm := hs.small
        have HS : Hid (zgG (ss.take (k + 1)) = zgG (ss.take k) + Shp.sz ⟨ss[k].kd, ss[k].fs⟩) := zaH Shp.sz ss k hlt
        have hle : zgG (ss.take (k + 1)) <= zgG ss := zce Shp.sz ss (k + 1)
        clear hw hr hs0 hs
        by_cases hneg : (Shp.sz ⟨ss[k].kd, ss[k].fs⟩ : Int) <= left - ss.length - zgG (ss.take k)
        · have HNG : Hid ((Shp.sz ⟨ss[k].kd, ss[k].fs⟩ : Int) <= left - ss.length - zgG (ss.take k)) := hneg
          clear hle
          go_wp2_with fail
          refine (zhP _ _ _ _ _ _ hsm hfl hpos (by omega) HNG.out).mono ?_
          rintro e w1 ⟨rfl, hb1⟩
          have hB1 := hB.trans (hb1.mono hB.size)
          clear hb1
          go_wp2_with fail
          exact ⟨⟨k + 1, by omega, by go_num, by rw [HS.out]; omega, by rw [HS.out]; congr 1; omega, hB1⟩, by simp [intOf]; omega⟩
        · have HF : Hid (zF (zao ss) left = -1) := zx (by have := HS.out; unfold zao; omega)
          have HNG := hid hneg
          clear hneg hle
          go_wp2_with fail
          refine (ziv _ _ _ _ _ _ hsm hfl hpos (by omega) (by have := HNG.out; omega)).mono ?_
          rintro e w1 ⟨rfl, hb1⟩
          have hB1 := hB.trans (hb1.mono hB.size)
          clear hb1
          go_wp2_with fail
          go_ret
          exact ⟨zl HF.out.symm, hB1⟩
      · have HF : Hid (zF (zao ss) left = left - ss.length - zgG (ss.take k)) := by
          rw [List.take_of_length_le (by omega)] at hpos ⊢
          have e : zF (zao ss) left = left - zao ss := zH (by unfold zao; omega)
          unfold Hid; rw [e]; unfold zao; omega
        clear hw
        go_wp2
        go_ret
        exact ⟨zl HF.out.symm, hB⟩
  · have HF : Hid (zF (zao ss) left = -1) := zx (by unfold zao; omega)
    clear hw
    go_enter Tryz.func17, Tryz.ntmps17
    go_wp2
    go_ret
    exact ⟨zl HF.out.symm, Below.refl _ _⟩
end Go.Proofs.YtfpeplbmfbepcaaGreat
