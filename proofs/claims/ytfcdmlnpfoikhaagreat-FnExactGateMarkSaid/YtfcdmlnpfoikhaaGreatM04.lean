import Derived.Test.YtfcdmlnpfoikhaaGreatM02
import Derived.Deep.QuietTactic
import Derived.BigQuiet
namespace Go.Proofs.YtfcdmlnpfoikhaaGreat
open Go.RowKit
def zbB (ws : List ByteArray) : Nat := (ws.map ByteArray.size).sum
def qj (ws : List ByteArray) : Nat := ws.length + zbB ws
theorem zmY (ws : List ByteArray) (k : Nat) (h : k < ws.length) : zbB (ws.take (k + 1)) = zbB (ws.take k) + ws[k].size := by
  unfold zbB; rw [List.take_succ_eq_append_getElem h, List.map_append, List.sum_append]; simp
theorem zoX (ws : List ByteArray) (k : Nat) : zbB (ws.take k) <= zbB ws := by
  unfold zbB
  conv => rhs; rw [<- List.take_append_drop k ws]
  rw [List.map_append, List.sum_append]; omega
theorem znT (ws : List ByteArray) (k : Nat) (h : ws.length <= k) : zbB (ws.take k) = zbB ws := by rw [List.take_of_length_le h]
set_option maxHeartbeats 400000 in
theorem zem (a : Option Addr) (cap : Nat) (ws : List ByteArray) (left : Int) (w : World) (hw : zB w a ws) (h0 : 0 <= left) (h1 : left <= 1048576) :
    Calls Tryz.prog 84 #[.slice a ws.length cap, .int .i64 left] w fun e w' => e = .returned (.int .i64 (zF (qj ws) left)) /\ w' = w := by
  have hl := hw.len
  unfold maxLen at hl
  by_cases hfit : (ws.length : Int) <= left
  · go_enter Tryz.func84, Tryz.ntmps84
    go_wp2
    go_loop [1, 5] (fun l i => ∃ k : Nat, k <= ws.length /\ i = .int .i64 k /\ 0 <= left - ws.length - zbB (ws.take k) /\ l = .int .i64 (left - ws.length - zbB (ws.take k))) (fun _ i => ws.length - (intOf i).toNat)
    case atStart => exact ⟨0, Nat.zero_le _, rfl, by simp [zbB]; omega, by simp [zbB]⟩
    case round =>
      obtain ⟨k, hk, rfl, hpos, rfl⟩ := hrel
      by_cases hlt : k < ws.length
      · obtain ⟨b, off, rfl, hb, hc⟩ := hw.cells (by rintro rfl; simp at hlt)
        have hsm := hw.small _ (List.getElem_mem hlt)
        unfold maxLen at hsm
        clear hw
        have hck := hc k hlt
        have HS : Hid (zbB (ws.take (k + 1)) = zbB (ws.take k) + ws[k].size) := zmY ws k hlt
        have hle := zoX ws (k + 1)
        clear hc
        by_cases hneg : left - ws.length - zbB (ws.take k) - ws[k].size < 0
        · have HF : Hid (zF (qj ws) left = -1) := zx (by have := HS.out; unfold qj; omega)
          clear hle
          go_wp2
          go_ret
          exact ⟨zl HF.out.symm, rfl⟩
        · clear hle
          go_wp2
          go_round
          case rel => exact ⟨k + 1, by omega, by go_num, by rw [HS.out]; omega, by rw [HS.out]; go_num⟩
          case measure => simp [intOf]; omega
      · have HF : Hid (zF (qj ws) left = left - ws.length - zbB (ws.take k)) := by
          rw [znT ws k (by omega)] at hpos ⊢
          have e : zF (qj ws) left = left - qj ws := zG (by unfold qj; omega)
          unfold Hid; rw [e]; unfold qj; omega
        clear hw
        go_wp2
        go_ret
        exact ⟨zl HF.out.symm, rfl⟩
  · have HF : Hid (zF (qj ws) left = -1) := zx (by unfold qj; omega)
    clear hw
    go_enter Tryz.func84, Tryz.ntmps84
    go_wp2
    go_ret
    exact ⟨zl HF.out.symm, rfl⟩
set_option maxHeartbeats 400000 in
theorem zcw (a a' : Option Addr) (cap cap' : Nat) (ws : List ByteArray) (w : World) (hw : zB w a ws) (hw' : zB w a' ws) :
    Calls Tryz.prog 116 #[.slice a ws.length cap, .slice a' ws.length cap'] w fun e w' => e = .returned (.bool true) /\ Below w.heap.size w w' := by
  have hl := hw.len
  unfold maxLen at hl
  have hnn : ((ws.length : Int) != ws.length) = false := by simp
  go_enter Tryz.func116, Tryz.ntmps116
  go_wp2
  go_loopw [5] (fun i wr => ∃ k : Nat, k <= ws.length /\ i = .int .i64 k /\ ∃ n, wr = w.drewN n) (fun i _ => ws.length - (intOf i).toNat)
  case atStart => exact ⟨0, Nat.zero_le _, rfl, 0, rfl⟩
  case round =>
    obtain ⟨k, hk, rfl, nd, rfl⟩ := hrel
    by_cases hlt : k < ws.length
    · obtain ⟨b, off, rfl, hb, hc⟩ := hw.cells (by rintro rfl; simp at hlt)
      obtain ⟨b', off', rfl, hb', hc'⟩ := hw'.cells (by rintro rfl; simp at hlt)
      clear hw hw'
      have hck := hc k hlt
      have hck' := hc' k hlt
      have hltI : (k : Int) < (ws.length : Int) := by omega
      clear hc hc'
      go_wp2
      go_quiet (fail)
      go_wp2
      exact ⟨⟨k + 1, by omega, by go_num, nd + nq, rfl⟩, by simp [intOf]; omega⟩
    · clear hw hw'
      go_wp2
      go_ret
      exact ⟨rfl, below_drewN (Below.refl _ _) nd⟩
set_option maxHeartbeats 1000000 in
theorem zhp (nm : ByteArray) (kd ls ms : Int) (a a' : Option Addr) (cap cap' : Nat) (ws : List ByteArray) (to : ByteArray) (rl : Int) (mu fx : Bool) (df wg : ByteArray) (w : World) (hw : zB w a ws) (hw' : zB w a' ws) :
    Calls Tryz.prog 164 #[.agg #[.string nm, .int .i64 kd, .int .i64 ls, .int .i64 ms, .slice a ws.length cap, .string to, .int .i64 rl, .bool mu, .bool fx, .string df, .string wg], .agg #[.string nm, .int .i64 kd, .int .i64 ls, .int .i64 ms, .slice a' ws.length cap', .string to, .int .i64 rl, .bool mu, .bool fx, .string df, .string wg]] w
      fun e w' => e = .returned (.bool true) /\ Below w.heap.size w w' := by
  go_enter Tryz.func164, Tryz.ntmps164
  go_wp2_with (go_at_call 116; refine (zcw _ _ _ _ _ _ (by exact hw.mono (zq _ _ _)) (by exact hw'.mono (zq _ _ _))).mono ?_; rintro e w1 ⟨rfl, hb1⟩; have hc1 := (zpp hb1).1; have hz1 := hb1.size; simp only [World.size_alloc] at hz1)
  go_ret
  exact ⟨rfl, (zq _ _ _).trans (hb1.mono (by simp; omega))⟩
def jV (nm : ByteArray) (ws : List ByteArray) (to df wg : ByteArray) : Nat := nm.size + qj ws + to.size + df.size + wg.size
theorem jD (a : Option Addr) (cap : Nat) (ws : List ByteArray) (left : Int) (w : World) (hw : zB w a ws) (h0 : 0 <= left) (h1 : left <= 1048576) (h : (qj ws : Int) <= left) :
    Calls Tryz.prog 84 #[.slice a ws.length cap, .int .i64 left] w fun e w' => e = .returned (.int .i64 (left - qj ws)) /\ w' = w := by
  refine (zem a cap ws left w hw h0 h1).mono ?_
  rintro e w' ⟨rfl, rfl⟩
  exact ⟨zl (zG h), rfl⟩
theorem zcV (a : Option Addr) (cap : Nat) (ws : List ByteArray) (left : Int) (w : World) (hw : zB w a ws) (h0 : 0 <= left) (h1 : left <= 1048576) (h : ¬ (qj ws : Int) <= left) :
    Calls Tryz.prog 84 #[.slice a ws.length cap, .int .i64 left] w fun e w' => e = .returned (.int .i64 (-1)) /\ w' = w := by
  refine (zem a cap ws left w hw h0 h1).mono ?_
  rintro e w' ⟨rfl, rfl⟩
  exact ⟨zl (zx h), rfl⟩
set_option maxHeartbeats 1000000 in
theorem zdu (nm : ByteArray) (kd ls ms : Int) (a : Option Addr) (cap : Nat) (ws : List ByteArray) (to : ByteArray) (rl : Int) (mu fx : Bool) (df wg : ByteArray) (left : Int) (w : World) (hw : zB w a ws) (h0 : 0 <= left) (h1 : left <= 1048576)
    (hnm : nm.size <= maxLen) (hto : to.size <= maxLen) (hdf : df.size <= maxLen) (hwg : wg.size <= maxLen) :
    Calls Tryz.prog 118 #[.agg #[.string nm, .int .i64 kd, .int .i64 ls, .int .i64 ms, .slice a ws.length cap, .string to, .int .i64 rl, .bool mu, .bool fx, .string df, .string wg], .int .i64 left] w fun e w' => e = .returned (.int .i64 (zF (jV nm ws to df wg) left)) /\ Below w.heap.size w w' := by
  unfold maxLen at hnm hto hdf hwg
  by_cases c1 : (nm.size : Int) <= left
  rotate_left
  · have HF : Hid (zF (jV nm ws to df wg) left = -1) := zx (by unfold jV; omega)
    go_enter Tryz.func118, Tryz.ntmps118
    go_wp2_with fail
    go_ret
    exact ⟨zl HF.out.symm, (Below.refl _ _).alloc (Nat.le_refl _) _⟩
  by_cases c2 : (qj ws : Int) <= left - nm.size
  rotate_left
  · have HF : Hid (zF (jV nm ws to df wg) left = -1) := zx (by unfold jV; omega)
    go_enter Tryz.func118, Tryz.ntmps118
    go_wp2_with (go_at_call 84; refine (zcV _ _ _ _ _ (by exact hw.mono ((Below.refl _ _).alloc (Nat.le_refl _) _)) (by omega) (by omega) (by omega)).mono ?_; rintro e w1 ⟨rfl, rfl⟩)
    go_ret
    exact ⟨zl HF.out.symm, (Below.refl _ _).alloc (Nat.le_refl _) _⟩
  by_cases c3 : (to.size : Int) <= left - nm.size - qj ws
  rotate_left
  · have HF : Hid (zF (jV nm ws to df wg) left = -1) := zx (by unfold jV; omega)
    go_enter Tryz.func118, Tryz.ntmps118
    go_wp2_with (go_at_call 84; refine (jD _ _ _ _ _ (by exact hw.mono ((Below.refl _ _).alloc (Nat.le_refl _) _)) (by omega) (by omega) (by omega)).mono ?_; rintro e w1 ⟨rfl, rfl⟩)
    go_ret
    exact ⟨zl HF.out.symm, (Below.refl _ _).alloc (Nat.le_refl _) _⟩
  by_cases c4 : (df.size : Int) <= left - nm.size - qj ws - to.size
  rotate_left
  · have HF : Hid (zF (jV nm ws to df wg) left = -1) := zx (by unfold jV; omega)
    go_enter Tryz.func118, Tryz.ntmps118
    go_wp2_with (go_at_call 84; refine (jD _ _ _ _ _ (by exact hw.mono ((Below.refl _ _).alloc (Nat.le_refl _) _)) (by omega) (by omega) (by omega)).mono ?_; rintro e w1 ⟨rfl, rfl⟩)
    go_ret
    exact ⟨zl HF.out.symm, (Below.refl _ _).alloc (Nat.le_refl _) _⟩
  by_cases c5 : (wg.size : Int) <= left - nm.size - qj ws - to.size - df.size
  rotate_left
  · have HF : Hid (zF (jV nm ws to df wg) left = -1) := zx (by unfold jV; omega)
    go_enter Tryz.func118, Tryz.ntmps118
    go_wp2_with (go_at_call 84; refine (jD _ _ _ _ _ (by exact hw.mono ((Below.refl _ _).alloc (Nat.le_refl _) _)) (by omega) (by omega) (by omega)).mono ?_; rintro e w1 ⟨rfl, rfl⟩)
    go_ret
    exact ⟨zl HF.out.symm, (Below.refl _ _).alloc (Nat.le_refl _) _⟩
  · have HF : Hid (zF (jV nm ws to df wg) left = left - nm.size - qj ws - to.size - df.size - wg.size) := by
      have e : zF (jV nm ws to df wg) left = left - jV nm ws to df wg := zG (by unfold jV; omega)
      unfold Hid; rw [e]; unfold jV; omega
    go_enter Tryz.func118, Tryz.ntmps118
    go_wp2_with (go_at_call 84; refine (jD _ _ _ _ _ (by exact hw.mono ((Below.refl _ _).alloc (Nat.le_refl _) _)) (by omega) (by omega) (by omega)).mono ?_; rintro e w1 ⟨rfl, rfl⟩)
    go_ret
    exact ⟨zl HF.out.symm, (Below.refl _ _).alloc (Nat.le_refl _) _⟩
end Go.Proofs.YtfcdmlnpfoikhaaGreat

namespace Go.Proofs.YtfcdmlnpfoikhaaGreat
open Go.RowKit
def Fld.sz (f : Fld) : Nat := jV f.nm f.ws f.to f.df f.wg
def zfW (fs : List Fld) : Nat := (fs.map Fld.sz).sum
def zaf (fs : List Fld) : Nat := fs.length + zfW fs
def Shp.sz (s : Shp) : Nat := s.kd.size + zaf s.fs
def zgf (ss : List Shp) : Nat := (ss.map Shp.sz).sum
def zai (ss : List Shp) : Nat := ss.length + zgf ss
theorem zhk (nm : ByteArray) (kd ls ms : Int) (a : Option Addr) (cap : Nat) (ws : List ByteArray) (to : ByteArray) (rl : Int) (mu fx : Bool) (df wg : ByteArray) (left : Int) (w : World) (hw : zB w a ws) (h0 : 0 <= left) (h1 : left <= 1048576)
    (hnm : nm.size <= maxLen) (hto : to.size <= maxLen) (hdf : df.size <= maxLen) (hwg : wg.size <= maxLen) (h : (jV nm ws to df wg : Int) <= left) :
    Calls Tryz.prog 118 #[.agg #[.string nm, .int .i64 kd, .int .i64 ls, .int .i64 ms, .slice a ws.length cap, .string to, .int .i64 rl, .bool mu, .bool fx, .string df, .string wg], .int .i64 left] w fun e w' => e = .returned (.int .i64 (left - jV nm ws to df wg)) /\ Below w.heap.size w w' := by
  refine (zdu nm kd ls ms a cap ws to rl mu fx df wg left w hw h0 h1 hnm hto hdf hwg).mono ?_
  rintro e w' ⟨rfl, hb⟩
  exact ⟨zl (zG h), hb⟩
theorem ziy (nm : ByteArray) (kd ls ms : Int) (a : Option Addr) (cap : Nat) (ws : List ByteArray) (to : ByteArray) (rl : Int) (mu fx : Bool) (df wg : ByteArray) (left : Int) (w : World) (hw : zB w a ws) (h0 : 0 <= left) (h1 : left <= 1048576)
    (hnm : nm.size <= maxLen) (hto : to.size <= maxLen) (hdf : df.size <= maxLen) (hwg : wg.size <= maxLen) (h : ¬ (jV nm ws to df wg : Int) <= left) :
    Calls Tryz.prog 118 #[.agg #[.string nm, .int .i64 kd, .int .i64 ls, .int .i64 ms, .slice a ws.length cap, .string to, .int .i64 rl, .bool mu, .bool fx, .string df, .string wg], .int .i64 left] w fun e w' => e = .returned (.int .i64 (-1)) /\ Below w.heap.size w w' := by
  refine (zdu nm kd ls ms a cap ws to rl mu fx df wg left w hw h0 h1 hnm hto hdf hwg).mono ?_
  rintro e w' ⟨rfl, hb⟩
  exact ⟨zl (zx h), hb⟩
set_option maxHeartbeats 1000000 in
theorem zcK (a : Option Addr) (cap : Nat) (fs : List Fld) (left : Int) (w : World) (hw : zY w a fs) (h0 : 0 <= left) (h1 : left <= 1048576) :
    Calls Tryz.prog 83 #[.slice a fs.length cap, .int .i64 left] w fun e w' => e = .returned (.int .i64 (zF (zaf fs) left)) /\ Below w.heap.size w w' := by
  have hl := hw.len
  unfold maxLen at hl
  by_cases hfit : (fs.length : Int) <= left
  · go_enter Tryz.func83, Tryz.ntmps83
    go_wp2_with fail
    go_loopw [1, 5] (fun l i wr => ∃ k : Nat, k <= fs.length /\ i = .int .i64 k /\ 0 <= left - fs.length - zfW (fs.take k) /\ l = .int .i64 (left - fs.length - zfW (fs.take k)) /\ Below w.heap.size w wr) (fun _ i _ => fs.length - (intOf i).toNat)
    case atStart => exact ⟨0, Nat.zero_le _, rfl, by simp [zfW]; omega, by simp [zfW], Below.refl _ _⟩
    case round =>
      obtain ⟨k, hk, rfl, hpos, rfl, hB⟩ := hrel
      by_cases hlt : k < fs.length
      · obtain ⟨b, off, rfl, hb, hr⟩ := hw.rows (by rintro rfl; simp at hlt)
        obtain ⟨wa, wcap, hf0⟩ := hr k hlt
        have hf := hf0.mono hb hB
        obtain ⟨c0, c1, c2, c3, c4, c5, c6, c7, c8, c9, c10⟩ := hf.load
        have hsm := hf.small
        have hst := hf.strs
        have HS : Hid (zfW (fs.take (k + 1)) = zfW (fs.take k) + fs[k].sz) := zaA Fld.sz fs k hlt
        have hle : zfW (fs.take (k + 1)) <= zfW fs := zb0 Fld.sz fs (k + 1)
        clear hw hr hf0 hf
        by_cases hneg : (jV fs[k].nm fs[k].ws fs[k].to fs[k].df fs[k].wg : Int) <= left - fs.length - zfW (fs.take k)
        · have HNG : Hid ((jV fs[k].nm fs[k].ws fs[k].to fs[k].df fs[k].wg : Int) <= left - fs.length - zfW (fs.take k)) := hneg
          clear hle
          go_wp2_with fail
          refine (zhk _ _ _ _ _ _ _ _ _ _ _ _ _ _ _ hst hpos (by omega) hsm.nm hsm.to hsm.df hsm.wg HNG.out).mono ?_
          rintro e w1 ⟨rfl, hb1⟩
          have hB1 := hB.trans (hb1.mono hB.size)
          clear hb1
          go_wp2_with fail
          exact ⟨⟨k + 1, by omega, by go_num, by rw [HS.out]; show 0 <= _ - ((_ + jV _ _ _ _ _ : Nat) : Int); omega, by rw [HS.out]; show Value.int _ _ = Value.int _ (_ - ((_ + jV _ _ _ _ _ : Nat) : Int)); congr 1; omega, hB1⟩, by simp [intOf]; omega⟩
        · have HF : Hid (zF (zaf fs) left = -1) := zx (by have := HS.out; unfold zaf; unfold Fld.sz at this; omega)
          have HNG := hid hneg
          clear hneg hle
          go_wp2_with fail
          refine (ziy _ _ _ _ _ _ _ _ _ _ _ _ _ _ _ hst hpos (by omega) hsm.nm hsm.to hsm.df hsm.wg (by have := HNG.out; omega)).mono ?_
          rintro e w1 ⟨rfl, hb1⟩
          have hB1 := hB.trans (hb1.mono hB.size)
          clear hb1
          go_wp2_with fail
          go_ret
          exact ⟨zl HF.out.symm, hB1⟩
      · have HF : Hid (zF (zaf fs) left = left - fs.length - zfW (fs.take k)) := by
          rw [List.take_of_length_le (by omega)] at hpos ⊢
          have e : zF (zaf fs) left = left - zaf fs := zG (by unfold zaf; omega)
          unfold Hid; rw [e]; unfold zaf; omega
        clear hw
        go_wp2
        go_ret
        exact ⟨zl HF.out.symm, hB⟩
  · have HF : Hid (zF (zaf fs) left = -1) := zx (by unfold zaf; omega)
    clear hw
    go_enter Tryz.func83, Tryz.ntmps83
    go_wp2
    go_ret
    exact ⟨zl HF.out.symm, Below.refl _ _⟩
theorem zfE (a : Option Addr) (cap : Nat) (fs : List Fld) (left : Int) (w : World) (hw : zY w a fs) (h0 : 0 <= left) (h1 : left <= 1048576) (h : (zaf fs : Int) <= left) :
    Calls Tryz.prog 83 #[.slice a fs.length cap, .int .i64 left] w fun e w' => e = .returned (.int .i64 (left - zaf fs)) /\ Below w.heap.size w w' := by
  refine (zcK a cap fs left w hw h0 h1).mono ?_
  rintro e w' ⟨rfl, hb⟩
  exact ⟨zl (zG h), hb⟩
theorem zhq (a : Option Addr) (cap : Nat) (fs : List Fld) (left : Int) (w : World) (hw : zY w a fs) (h0 : 0 <= left) (h1 : left <= 1048576) (h : ¬ (zaf fs : Int) <= left) :
    Calls Tryz.prog 83 #[.slice a fs.length cap, .int .i64 left] w fun e w' => e = .returned (.int .i64 (-1)) /\ Below w.heap.size w w' := by
  refine (zcK a cap fs left w hw h0 h1).mono ?_
  rintro e w' ⟨rfl, hb⟩
  exact ⟨zl (zx h), hb⟩
set_option maxHeartbeats 1000000 in
theorem zdq (kd : ByteArray) (a : Option Addr) (cap : Nat) (fs : List Fld) (left : Int) (w : World) (hkd : kd.size <= maxLen) (hw : zY w a fs) (h0 : 0 <= left) (h1 : left <= 1048576) :
    Calls Tryz.prog 49 #[.agg #[.string kd, .slice a fs.length cap], .int .i64 left] w fun e w' => e = .returned (.int .i64 (zF (Shp.sz ⟨kd, fs⟩) left)) /\ Below w.heap.size w w' := by
  unfold maxLen at hkd
  by_cases c1 : (kd.size : Int) <= left
  rotate_left
  · have HF : Hid (zF (Shp.sz ⟨kd, fs⟩) left = -1) := zx (by unfold Shp.sz; simp only; omega)
    go_enter Tryz.func49, Tryz.ntmps49
    go_wp2_with fail
    go_ret
    exact ⟨zl HF.out.symm, (Below.refl _ _).alloc (Nat.le_refl _) _⟩
  by_cases c2 : (zaf fs : Int) <= left - kd.size
  · have HF : Hid (zF (Shp.sz ⟨kd, fs⟩) left = left - kd.size - zaf fs) := by
      have e : zF (Shp.sz ⟨kd, fs⟩) left = left - Shp.sz ⟨kd, fs⟩ := zG (by unfold Shp.sz; simp only; omega)
      unfold Hid; rw [e]; unfold Shp.sz; simp only; omega
    go_enter Tryz.func49, Tryz.ntmps49
    go_wp2_with fail
    refine (zfE _ _ _ _ _ (hw.mono ((Below.refl _ _).alloc (Nat.le_refl _) _)) (by omega) (by omega) (by omega)).mono ?_
    rintro e w1 ⟨rfl, hb1⟩
    go_wp2_with fail
    go_ret
    exact ⟨zl HF.out.symm, ((Below.refl _ _).alloc (Nat.le_refl _) _).trans (hb1.mono (by simp))⟩
  · have HF : Hid (zF (Shp.sz ⟨kd, fs⟩) left = -1) := zx (by unfold Shp.sz; simp only; omega)
    go_enter Tryz.func49, Tryz.ntmps49
    go_wp2_with fail
    refine (zhq _ _ _ _ _ (hw.mono ((Below.refl _ _).alloc (Nat.le_refl _) _)) (by omega) (by omega) (by omega)).mono ?_
    rintro e w1 ⟨rfl, hb1⟩
    go_wp2_with fail
    go_ret
    exact ⟨zl HF.out.symm, ((Below.refl _ _).alloc (Nat.le_refl _) _).trans (hb1.mono (by simp))⟩
theorem zhl (kd : ByteArray) (a : Option Addr) (cap : Nat) (fs : List Fld) (left : Int) (w : World) (hkd : kd.size <= maxLen) (hw : zY w a fs) (h0 : 0 <= left) (h1 : left <= 1048576) (h : (Shp.sz ⟨kd, fs⟩ : Int) <= left) :
    Calls Tryz.prog 49 #[.agg #[.string kd, .slice a fs.length cap], .int .i64 left] w fun e w' => e = .returned (.int .i64 (left - Shp.sz ⟨kd, fs⟩)) /\ Below w.heap.size w w' := by
  refine (zdq kd a cap fs left w hkd hw h0 h1).mono ?_
  rintro e w' ⟨rfl, hb⟩
  exact ⟨zl (zG h), hb⟩
theorem zhV (kd : ByteArray) (a : Option Addr) (cap : Nat) (fs : List Fld) (left : Int) (w : World) (hkd : kd.size <= maxLen) (hw : zY w a fs) (h0 : 0 <= left) (h1 : left <= 1048576) (h : ¬ (Shp.sz ⟨kd, fs⟩ : Int) <= left) :
    Calls Tryz.prog 49 #[.agg #[.string kd, .slice a fs.length cap], .int .i64 left] w fun e w' => e = .returned (.int .i64 (-1)) /\ Below w.heap.size w w' := by
  refine (zdq kd a cap fs left w hkd hw h0 h1).mono ?_
  rintro e w' ⟨rfl, hb⟩
  exact ⟨zl (zx h), hb⟩
set_option maxHeartbeats 1000000 in
theorem zfY (a : Option Addr) (cap : Nat) (ss : List Shp) (left : Int) (w : World) (hw : yE w a ss) (h0 : 0 <= left) (h1 : left <= 1048576) :
    Calls Tryz.prog 17 #[.slice a ss.length cap, .int .i64 left] w fun e w' => e = .returned (.int .i64 (zF (zai ss) left)) /\ Below w.heap.size w w' := by
  have hl := hw.len
  unfold maxLen at hl
  by_cases hfit : (ss.length : Int) <= left
  · go_enter Tryz.func17, Tryz.ntmps17
    go_wp2_with fail
    go_loopw [1, 5] (fun l i wr => ∃ k : Nat, k <= ss.length /\ i = .int .i64 k /\ 0 <= left - ss.length - zgf (ss.take k) /\ l = .int .i64 (left - ss.length - zgf (ss.take k)) /\ Below w.heap.size w wr) (fun _ i _ => ss.length - (intOf i).toNat)
    case atStart => exact ⟨0, Nat.zero_le _, rfl, by simp [zgf]; omega, by simp [zgf], Below.refl _ _⟩
    case round =>
      obtain ⟨k, hk, rfl, hpos, rfl, hB⟩ := hrel
      by_cases hlt : k < ss.length
      · obtain ⟨b, off, rfl, hb, hr⟩ := hw.rows (by rintro rfl; simp at hlt)
        obtain ⟨fa, fcap, hs0⟩ := hr k hlt
        have hs := hs0.mono hb hB
        have hck := hs.kind
        have hcl := hs.list
        have hfl := hs.zcn
        have hsm := hs.small
        have HS : Hid (zgf (ss.take (k + 1)) = zgf (ss.take k) + Shp.sz ⟨ss[k].kd, ss[k].fs⟩) := zaA Shp.sz ss k hlt
        have hle : zgf (ss.take (k + 1)) <= zgf ss := zb0 Shp.sz ss (k + 1)
        clear hw hr hs0 hs
        by_cases hneg : (Shp.sz ⟨ss[k].kd, ss[k].fs⟩ : Int) <= left - ss.length - zgf (ss.take k)
        · have HNG : Hid ((Shp.sz ⟨ss[k].kd, ss[k].fs⟩ : Int) <= left - ss.length - zgf (ss.take k)) := hneg
          clear hle
          go_wp2_with fail
          refine (zhl _ _ _ _ _ _ hsm hfl hpos (by omega) HNG.out).mono ?_
          rintro e w1 ⟨rfl, hb1⟩
          have hB1 := hB.trans (hb1.mono hB.size)
          clear hb1
          go_wp2_with fail
          exact ⟨⟨k + 1, by omega, by go_num, by rw [HS.out]; omega, by rw [HS.out]; congr 1; omega, hB1⟩, by simp [intOf]; omega⟩
        · have HF : Hid (zF (zai ss) left = -1) := zx (by have := HS.out; unfold zai; omega)
          have HNG := hid hneg
          clear hneg hle
          go_wp2_with fail
          refine (zhV _ _ _ _ _ _ hsm hfl hpos (by omega) (by have := HNG.out; omega)).mono ?_
          rintro e w1 ⟨rfl, hb1⟩
          have hB1 := hB.trans (hb1.mono hB.size)
          clear hb1
          go_wp2_with fail
          go_ret
          exact ⟨zl HF.out.symm, hB1⟩
      · have HF : Hid (zF (zai ss) left = left - ss.length - zgf (ss.take k)) := by
          rw [List.take_of_length_le (by omega)] at hpos ⊢
          have e : zF (zai ss) left = left - zai ss := zG (by unfold zai; omega)
          unfold Hid; rw [e]; unfold zai; omega
        clear hw
        go_wp2
        go_ret
        exact ⟨zl HF.out.symm, hB⟩
  · have HF : Hid (zF (zai ss) left = -1) := zx (by unfold zai; omega)
    clear hw
    go_enter Tryz.func17, Tryz.ntmps17
    go_wp2
    go_ret
    exact ⟨zl HF.out.symm, Below.refl _ _⟩
end Go.Proofs.YtfcdmlnpfoikhaaGreat
