import Derived.Test.YtfapkhgallmkdaaGreatM04
import Derived.Deep.QuietTactic
import Derived.BigQuiet
namespace Go.Proofs.YtfapkhgallmkdaaGreat
open Go.RowKit
def zbp (ws : List ByteArray) : Nat := (ws.map ByteArray.size).sum
def y8 (ws : List ByteArray) : Nat := ws.length + zbp ws
theorem zmD (ws : List ByteArray) (k : Nat) (h : k < ws.length) : zbp (ws.take (k + 1)) = zbp (ws.take k) + ws[k].size := by
  unfold zbp; rw [List.take_succ_eq_append_getElem h, List.map_append, List.sum_append]; simp
theorem zoC (ws : List ByteArray) (k : Nat) : zbp (ws.take k) <= zbp ws := by
  unfold zbp
  conv => rhs; rw [<- List.take_append_drop k ws]
  rw [List.map_append, List.sum_append]; omega
theorem zny (ws : List ByteArray) (k : Nat) (h : ws.length <= k) : zbp (ws.take k) = zbp ws := by rw [List.take_of_length_le h]
set_option maxHeartbeats 400000 in
theorem zea (a : Option Addr) (cap : Nat) (ws : List ByteArray) (left : Int) (w : World) (hw : zC w a ws) (h0 : 0 <= left) (h1 : left <= 1048576) :
    Calls Tryz.prog 75 #[.slice a ws.length cap, .int .i64 left] w fun e w' => e = .returned (.int .i64 (zH (y8 ws) left)) /\ w' = w := by
  have hl := hw.len
  unfold maxLen at hl
  by_cases hfit : (ws.length : Int) <= left
  · go_enter Tryz.func75, Tryz.ntmps75
    go_wp2
    go_loop [1, 5] (fun l i => ∃ k : Nat, k <= ws.length /\ i = .int .i64 k /\ 0 <= left - ws.length - zbp (ws.take k) /\ l = .int .i64 (left - ws.length - zbp (ws.take k))) (fun _ i => ws.length - (intOf i).toNat)
    case atStart => exact ⟨0, Nat.zero_le _, rfl, by simp [zbp]; omega, by simp [zbp]⟩
    case round =>
      obtain ⟨k, hk, rfl, hpos, rfl⟩ := hrel
      by_cases hlt : k < ws.length
      · obtain ⟨b, off, rfl, hb, hc⟩ := hw.cells (by rintro rfl; simp at hlt)
        have hsm := hw.small _ (List.getElem_mem hlt)
        unfold maxLen at hsm
        clear hw
        have hck := hc k hlt
        have HS : Hid (zbp (ws.take (k + 1)) = zbp (ws.take k) + ws[k].size) := zmD ws k hlt
        have hle := zoC ws (k + 1)
        clear hc
        by_cases hneg : left - ws.length - zbp (ws.take k) - ws[k].size < 0
        · have HF : Hid (zH (y8 ws) left = -1) := zw (by have := HS.out; unfold y8; omega)
          clear hle
          go_wp2
          go_ret
          exact ⟨zh HF.out.symm, rfl⟩
        · clear hle
          go_wp2
          go_round
          case rel => exact ⟨k + 1, by omega, by go_num, by rw [HS.out]; omega, by rw [HS.out]; go_num⟩
          case measure => simp [intOf]; omega
      · have HF : Hid (zH (y8 ws) left = left - ws.length - zbp (ws.take k)) := by
          rw [zny ws k (by omega)] at hpos ⊢
          have e : zH (y8 ws) left = left - y8 ws := zI (by unfold y8; omega)
          unfold Hid; rw [e]; unfold y8; omega
        clear hw
        go_wp2
        go_ret
        exact ⟨zh HF.out.symm, rfl⟩
  · have HF : Hid (zH (y8 ws) left = -1) := zw (by unfold y8; omega)
    clear hw
    go_enter Tryz.func75, Tryz.ntmps75
    go_wp2
    go_ret
    exact ⟨zh HF.out.symm, rfl⟩
set_option maxHeartbeats 400000 in
theorem zcq (a a' : Option Addr) (cap cap' : Nat) (ws : List ByteArray) (w : World) (hw : zC w a ws) (hw' : zC w a' ws) :
    Calls Tryz.prog 111 #[.slice a ws.length cap, .slice a' ws.length cap'] w fun e w' => e = .returned (.bool true) /\ Below w.heap.size w w' := by
  have hl := hw.len
  unfold maxLen at hl
  have hnn : ((ws.length : Int) != ws.length) = false := by simp
  go_enter Tryz.func111, Tryz.ntmps111
  go_wp2
  go_loopw [5] (fun i wr => ∃ k : Nat, k <= ws.length /\ i = .int .i64 k /\ ∃ n, wr = w.drewN n) (fun i _ => ws.length - (intOf i).toNat)
  case atStart => exact ⟨0, Nat.zero_le _, rfl, 0, rfl⟩
  case round =>
    obtain ⟨k, hk, rfl, nd, rfl⟩ := hrel
    by_cases hlt : k < ws.length
    · obtain ⟨b, off, rfl, hb, hc⟩ := hw.cells (by rintro rfl; simp at hlt)
      obtain ⟨b', off', rfl, hb', hc'⟩ := hw'.cells (by rintro rfl; simp at hlt)
      clear hw hw'
      have hck := hc k hlt
      have hck' := hc' k hlt
      have hltI : (k : Int) < (ws.length : Int) := by omega
      clear hc hc'
      go_wp2
      go_quiet (fail)
      go_wp2
      exact ⟨⟨k + 1, by omega, by go_num, nd + nq, rfl⟩, by simp [intOf]; omega⟩
    · clear hw hw'
      go_wp2
      go_ret
      exact ⟨rfl, below_drewN (Below.refl _ _) nd⟩
set_option maxHeartbeats 1000000 in
theorem zg2 (nm : ByteArray) (kd ls ms : Int) (a a' : Option Addr) (cap cap' : Nat) (ws : List ByteArray) (to : ByteArray) (rl : Int) (mu fx : Bool) (df wg : ByteArray) (w : World) (hw : zC w a ws) (hw' : zC w a' ws) :
    Calls Tryz.prog 159 #[.agg #[.string nm, .int .i64 kd, .int .i64 ls, .int .i64 ms, .slice a ws.length cap, .string to, .int .i64 rl, .bool mu, .bool fx, .string df, .string wg], .agg #[.string nm, .int .i64 kd, .int .i64 ls, .int .i64 ms, .slice a' ws.length cap', .string to, .int .i64 rl, .bool mu, .bool fx, .string df, .string wg]] w
      fun e w' => e = .returned (.bool true) /\ Below w.heap.size w w' := by
  go_enter Tryz.func159, Tryz.ntmps159
  go_wp2_with (go_at_call 111; refine (zcq _ _ _ _ _ _ (by exact hw.mono (zu _ _ _)) (by exact hw'.mono (zu _ _ _))).mono ?_; rintro e w1 ⟨rfl, hb1⟩; have hc1 := (zpa hb1).1; have hz1 := hb1.size; simp only [World.size_alloc] at hz1)
  go_ret
  exact ⟨rfl, (zu _ _ _).trans (hb1.mono (by simp; omega))⟩
def jR (nm : ByteArray) (ws : List ByteArray) (to df wg : ByteArray) : Nat := nm.size + y8 ws + to.size + df.size + wg.size
theorem jy (a : Option Addr) (cap : Nat) (ws : List ByteArray) (left : Int) (w : World) (hw : zC w a ws) (h0 : 0 <= left) (h1 : left <= 1048576) (h : (y8 ws : Int) <= left) :
    Calls Tryz.prog 75 #[.slice a ws.length cap, .int .i64 left] w fun e w' => e = .returned (.int .i64 (left - y8 ws)) /\ w' = w := by
  refine (zea a cap ws left w hw h0 h1).mono ?_
  rintro e w' ⟨rfl, rfl⟩
  exact ⟨zh (zI h), rfl⟩
theorem zcO (a : Option Addr) (cap : Nat) (ws : List ByteArray) (left : Int) (w : World) (hw : zC w a ws) (h0 : 0 <= left) (h1 : left <= 1048576) (h : ¬ (y8 ws : Int) <= left) :
    Calls Tryz.prog 75 #[.slice a ws.length cap, .int .i64 left] w fun e w' => e = .returned (.int .i64 (-1)) /\ w' = w := by
  refine (zea a cap ws left w hw h0 h1).mono ?_
  rintro e w' ⟨rfl, rfl⟩
  exact ⟨zh (zw h), rfl⟩
set_option maxHeartbeats 1000000 in
theorem zdi (nm : ByteArray) (kd ls ms : Int) (a : Option Addr) (cap : Nat) (ws : List ByteArray) (to : ByteArray) (rl : Int) (mu fx : Bool) (df wg : ByteArray) (left : Int) (w : World) (hw : zC w a ws) (h0 : 0 <= left) (h1 : left <= 1048576)
    (hnm : nm.size <= maxLen) (hto : to.size <= maxLen) (hdf : df.size <= maxLen) (hwg : wg.size <= maxLen) :
    Calls Tryz.prog 113 #[.agg #[.string nm, .int .i64 kd, .int .i64 ls, .int .i64 ms, .slice a ws.length cap, .string to, .int .i64 rl, .bool mu, .bool fx, .string df, .string wg], .int .i64 left] w fun e w' => e = .returned (.int .i64 (zH (jR nm ws to df wg) left)) /\ Below w.heap.size w w' := by
  unfold maxLen at hnm hto hdf hwg
  by_cases c1 : (nm.size : Int) <= left
  rotate_left
  · have HF : Hid (zH (jR nm ws to df wg) left = -1) := zw (by unfold jR; omega)
    go_enter Tryz.func113, Tryz.ntmps113
    go_wp2_with fail
    go_ret
    exact ⟨zh HF.out.symm, (Below.refl _ _).alloc (Nat.le_refl _) _⟩
  by_cases c2 : (y8 ws : Int) <= left - nm.size
  rotate_left
  · have HF : Hid (zH (jR nm ws to df wg) left = -1) := zw (by unfold jR; omega)
    go_enter Tryz.func113, Tryz.ntmps113
    go_wp2_with (go_at_call 75; refine (zcO _ _ _ _ _ (by exact hw.mono ((Below.refl _ _).alloc (Nat.le_refl _) _)) (by omega) (by omega) (by omega)).mono ?_; rintro e w1 ⟨rfl, rfl⟩)
    go_ret
    exact ⟨zh HF.out.symm, (Below.refl _ _).alloc (Nat.le_refl _) _⟩
  by_cases c3 : (to.size : Int) <= left - nm.size - y8 ws
  rotate_left
  · have HF : Hid (zH (jR nm ws to df wg) left = -1) := zw (by unfold jR; omega)
    go_enter Tryz.func113, Tryz.ntmps113
    go_wp2_with (go_at_call 75; refine (jy _ _ _ _ _ (by exact hw.mono ((Below.refl _ _).alloc (Nat.le_refl _) _)) (by omega) (by omega) (by omega)).mono ?_; rintro e w1 ⟨rfl, rfl⟩)
    go_ret
    exact ⟨zh HF.out.symm, (Below.refl _ _).alloc (Nat.le_refl _) _⟩
  by_cases c4 : (df.size : Int) <= left - nm.size - y8 ws - to.size
  rotate_left
  · have HF : Hid (zH (jR nm ws to df wg) left = -1) := zw (by unfold jR; omega)
    go_enter Tryz.func113, Tryz.ntmps113
    go_wp2_with (go_at_call 75; refine (jy _ _ _ _ _ (by exact hw.mono ((Below.refl _ _).alloc (Nat.le_refl _) _)) (by omega) (by omega) (by omega)).mono ?_; rintro e w1 ⟨rfl, rfl⟩)
    go_ret
    exact ⟨zh HF.out.symm, (Below.refl _ _).alloc (Nat.le_refl _) _⟩
  by_cases c5 : (wg.size : Int) <= left - nm.size - y8 ws - to.size - df.size
  rotate_left
  · have HF : Hid (zH (jR nm ws to df wg) left = -1) := zw (by unfold jR; omega)
    go_enter Tryz.func113, Tryz.ntmps113
    go_wp2_with (go_at_call 75; refine (jy _ _ _ _ _ (by exact hw.mono ((Below.refl _ _).alloc (Nat.le_refl _) _)) (by omega) (by omega) (by omega)).mono ?_; rintro e w1 ⟨rfl, rfl⟩)
    go_ret
    exact ⟨zh HF.out.symm, (Below.refl _ _).alloc (Nat.le_refl _) _⟩
  · have HF : Hid (zH (jR nm ws to df wg) left = left - nm.size - y8 ws - to.size - df.size - wg.size) := by
      have e : zH (jR nm ws to df wg) left = left - jR nm ws to df wg := zI (by unfold jR; omega)
      unfold Hid; rw [e]; unfold jR; omega
    go_enter Tryz.func113, Tryz.ntmps113
    go_wp2_with (go_at_call 75; refine (jy _ _ _ _ _ (by exact hw.mono ((Below.refl _ _).alloc (Nat.le_refl _) _)) (by omega) (by omega) (by omega)).mono ?_; rintro e w1 ⟨rfl, rfl⟩)
    go_ret
    exact ⟨zh HF.out.symm, (Below.refl _ _).alloc (Nat.le_refl _) _⟩
end Go.Proofs.YtfapkhgallmkdaaGreat

namespace Go.Proofs.YtfapkhgallmkdaaGreat
open Go.RowKit
def Fld.sz (f : Fld) : Nat := jR f.nm f.ws f.to f.df f.wg
def zfF (fs : List Fld) : Nat := (fs.map Fld.sz).sum
def j5 (fs : List Fld) : Nat := fs.length + zfF fs
def Shp.sz (s : Shp) : Nat := s.kd.size + j5 s.fs
def zfX (ss : List Shp) : Nat := (ss.map Shp.sz).sum
def zaa (ss : List Shp) : Nat := ss.length + zfX ss
theorem zgX (nm : ByteArray) (kd ls ms : Int) (a : Option Addr) (cap : Nat) (ws : List ByteArray) (to : ByteArray) (rl : Int) (mu fx : Bool) (df wg : ByteArray) (left : Int) (w : World) (hw : zC w a ws) (h0 : 0 <= left) (h1 : left <= 1048576)
    (hnm : nm.size <= maxLen) (hto : to.size <= maxLen) (hdf : df.size <= maxLen) (hwg : wg.size <= maxLen) (h : (jR nm ws to df wg : Int) <= left) :
    Calls Tryz.prog 113 #[.agg #[.string nm, .int .i64 kd, .int .i64 ls, .int .i64 ms, .slice a ws.length cap, .string to, .int .i64 rl, .bool mu, .bool fx, .string df, .string wg], .int .i64 left] w fun e w' => e = .returned (.int .i64 (left - jR nm ws to df wg)) /\ Below w.heap.size w w' := by
  refine (zdi nm kd ls ms a cap ws to rl mu fx df wg left w hw h0 h1 hnm hto hdf hwg).mono ?_
  rintro e w' ⟨rfl, hb⟩
  exact ⟨zh (zI h), hb⟩
theorem zh8 (nm : ByteArray) (kd ls ms : Int) (a : Option Addr) (cap : Nat) (ws : List ByteArray) (to : ByteArray) (rl : Int) (mu fx : Bool) (df wg : ByteArray) (left : Int) (w : World) (hw : zC w a ws) (h0 : 0 <= left) (h1 : left <= 1048576)
    (hnm : nm.size <= maxLen) (hto : to.size <= maxLen) (hdf : df.size <= maxLen) (hwg : wg.size <= maxLen) (h : ¬ (jR nm ws to df wg : Int) <= left) :
    Calls Tryz.prog 113 #[.agg #[.string nm, .int .i64 kd, .int .i64 ls, .int .i64 ms, .slice a ws.length cap, .string to, .int .i64 rl, .bool mu, .bool fx, .string df, .string wg], .int .i64 left] w fun e w' => e = .returned (.int .i64 (-1)) /\ Below w.heap.size w w' := by
  refine (zdi nm kd ls ms a cap ws to rl mu fx df wg left w hw h0 h1 hnm hto hdf hwg).mono ?_
  rintro e w' ⟨rfl, hb⟩
  exact ⟨zh (zw h), hb⟩
set_option maxHeartbeats 1000000 in
theorem zcD (a : Option Addr) (cap : Nat) (fs : List Fld) (left : Int) (w : World) (hw : yc w a fs) (h0 : 0 <= left) (h1 : left <= 1048576) :
    Calls Tryz.prog 74 #[.slice a fs.length cap, .int .i64 left] w fun e w' => e = .returned (.int .i64 (zH (j5 fs) left)) /\ Below w.heap.size w w' := by
  have hl := hw.len
  unfold maxLen at hl
  by_cases hfit : (fs.length : Int) <= left
  · go_enter Tryz.func74, Tryz.ntmps74
    go_wp2_with fail
    go_loopw [1, 5] (fun l i wr => ∃ k : Nat, k <= fs.length /\ i = .int .i64 k /\ 0 <= left - fs.length - zfF (fs.take k) /\ l = .int .i64 (left - fs.length - zfF (fs.take k)) /\ Below w.heap.size w wr) (fun _ i _ => fs.length - (intOf i).toNat)
    case atStart => exact ⟨0, Nat.zero_le _, rfl, by simp [zfF]; omega, by simp [zfF], Below.refl _ _⟩
    case round =>
      obtain ⟨k, hk, rfl, hpos, rfl, hB⟩ := hrel
      by_cases hlt : k < fs.length
      · obtain ⟨b, off, rfl, hb, hr⟩ := hw.rows (by rintro rfl; simp at hlt)
        obtain ⟨wa, wcap, hf0⟩ := hr k hlt
        have hf := hf0.mono hb hB
        obtain ⟨c0, c1, c2, c3, c4, c5, c6, c7, c8, c9, c10⟩ := hf.load
        have hsm := hf.small
        have hst := hf.strs
        have HS : Hid (zfF (fs.take (k + 1)) = zfF (fs.take k) + fs[k].sz) := zar Fld.sz fs k hlt
        have hle : zfF (fs.take (k + 1)) <= zfF fs := zbW Fld.sz fs (k + 1)
        clear hw hr hf0 hf
        by_cases hneg : (jR fs[k].nm fs[k].ws fs[k].to fs[k].df fs[k].wg : Int) <= left - fs.length - zfF (fs.take k)
        · have HNG : Hid ((jR fs[k].nm fs[k].ws fs[k].to fs[k].df fs[k].wg : Int) <= left - fs.length - zfF (fs.take k)) := hneg
          clear hle
          go_wp2_with fail
          refine (zgX _ _ _ _ _ _ _ _ _ _ _ _ _ _ _ hst hpos (by omega) hsm.nm hsm.to hsm.df hsm.wg HNG.out).mono ?_
          rintro e w1 ⟨rfl, hb1⟩
          have hB1 := hB.trans (hb1.mono hB.size)
          clear hb1
          go_wp2_with fail
          exact ⟨⟨k + 1, by omega, by go_num, by rw [HS.out]; show 0 <= _ - ((_ + jR _ _ _ _ _ : Nat) : Int); omega, by rw [HS.out]; show Value.int _ _ = Value.int _ (_ - ((_ + jR _ _ _ _ _ : Nat) : Int)); congr 1; omega, hB1⟩, by simp [intOf]; omega⟩
        · have HF : Hid (zH (j5 fs) left = -1) := zw (by have := HS.out; unfold j5; unfold Fld.sz at this; omega)
          have HNG := hid hneg
          clear hneg hle
          go_wp2_with fail
          refine (zh8 _ _ _ _ _ _ _ _ _ _ _ _ _ _ _ hst hpos (by omega) hsm.nm hsm.to hsm.df hsm.wg (by have := HNG.out; omega)).mono ?_
          rintro e w1 ⟨rfl, hb1⟩
          have hB1 := hB.trans (hb1.mono hB.size)
          clear hb1
          go_wp2_with fail
          go_ret
          exact ⟨zh HF.out.symm, hB1⟩
      · have HF : Hid (zH (j5 fs) left = left - fs.length - zfF (fs.take k)) := by
          rw [List.take_of_length_le (by omega)] at hpos ⊢
          have e : zH (j5 fs) left = left - j5 fs := zI (by unfold j5; omega)
          unfold Hid; rw [e]; unfold j5; omega
        clear hw
        go_wp2
        go_ret
        exact ⟨zh HF.out.symm, hB⟩
  · have HF : Hid (zH (j5 fs) left = -1) := zw (by unfold j5; omega)
    clear hw
    go_enter Tryz.func74, Tryz.ntmps74
    go_wp2
    go_ret
    exact ⟨zh HF.out.symm, Below.refl _ _⟩
theorem zfm (a : Option Addr) (cap : Nat) (fs : List Fld) (left : Int) (w : World) (hw : yc w a fs) (h0 : 0 <= left) (h1 : left <= 1048576) (h : (j5 fs : Int) <= left) :
    Calls Tryz.prog 74 #[.slice a fs.length cap, .int .i64 left] w fun e w' => e = .returned (.int .i64 (left - j5 fs)) /\ Below w.heap.size w w' := by
  refine (zcD a cap fs left w hw h0 h1).mono ?_
  rintro e w' ⟨rfl, hb⟩
  exact ⟨zh (zI h), hb⟩
theorem zg3 (a : Option Addr) (cap : Nat) (fs : List Fld) (left : Int) (w : World) (hw : yc w a fs) (h0 : 0 <= left) (h1 : left <= 1048576) (h : ¬ (j5 fs : Int) <= left) :
    Calls Tryz.prog 74 #[.slice a fs.length cap, .int .i64 left] w fun e w' => e = .returned (.int .i64 (-1)) /\ Below w.heap.size w w' := by
  refine (zcD a cap fs left w hw h0 h1).mono ?_
  rintro e w' ⟨rfl, hb⟩
  exact ⟨zh (zw h), hb⟩
set_option maxHeartbeats 1000000 in
theorem zdf (kd : ByteArray) (a : Option Addr) (cap : Nat) (fs : List Fld) (left : Int) (w : World) (hkd : kd.size <= maxLen) (hw : yc w a fs) (h0 : 0 <= left) (h1 : left <= 1048576) :
    Calls Tryz.prog 39 #[.agg #[.string kd, .slice a fs.length cap], .int .i64 left] w fun e w' => e = .returned (.int .i64 (zH (Shp.sz ⟨kd, fs⟩) left)) /\ Below w.heap.size w w' := by
  unfold maxLen at hkd
  by_cases c1 : (kd.size : Int) <= left
  rotate_left
  · have HF : Hid (zH (Shp.sz ⟨kd, fs⟩) left = -1) := zw (by unfold Shp.sz; simp only; omega)
    go_enter Tryz.func39, Tryz.ntmps39
    go_wp2_with fail
    go_ret
    exact ⟨zh HF.out.symm, (Below.refl _ _).alloc (Nat.le_refl _) _⟩
  by_cases c2 : (j5 fs : Int) <= left - kd.size
  · have HF : Hid (zH (Shp.sz ⟨kd, fs⟩) left = left - kd.size - j5 fs) := by
      have e : zH (Shp.sz ⟨kd, fs⟩) left = left - Shp.sz ⟨kd, fs⟩ := zI (by unfold Shp.sz; simp only; omega)
      unfold Hid; rw [e]; unfold Shp.sz; simp only; omega
    go_enter Tryz.func39, Tryz.ntmps39
    go_wp2_with fail
    refine (zfm _ _ _ _ _ (hw.mono ((Below.refl _ _).alloc (Nat.le_refl _) _)) (by omega) (by omega) (by omega)).mono ?_
    rintro e w1 ⟨rfl, hb1⟩
    go_wp2_with fail
    go_ret
    exact ⟨zh HF.out.symm, ((Below.refl _ _).alloc (Nat.le_refl _) _).trans (hb1.mono (by simp))⟩
  · have HF : Hid (zH (Shp.sz ⟨kd, fs⟩) left = -1) := zw (by unfold Shp.sz; simp only; omega)
    go_enter Tryz.func39, Tryz.ntmps39
    go_wp2_with fail
    refine (zg3 _ _ _ _ _ (hw.mono ((Below.refl _ _).alloc (Nat.le_refl _) _)) (by omega) (by omega) (by omega)).mono ?_
    rintro e w1 ⟨rfl, hb1⟩
    go_wp2_with fail
    go_ret
    exact ⟨zh HF.out.symm, ((Below.refl _ _).alloc (Nat.le_refl _) _).trans (hb1.mono (by simp))⟩
theorem zgY (kd : ByteArray) (a : Option Addr) (cap : Nat) (fs : List Fld) (left : Int) (w : World) (hkd : kd.size <= maxLen) (hw : yc w a fs) (h0 : 0 <= left) (h1 : left <= 1048576) (h : (Shp.sz ⟨kd, fs⟩ : Int) <= left) :
    Calls Tryz.prog 39 #[.agg #[.string kd, .slice a fs.length cap], .int .i64 left] w fun e w' => e = .returned (.int .i64 (left - Shp.sz ⟨kd, fs⟩)) /\ Below w.heap.size w w' := by
  refine (zdf kd a cap fs left w hkd hw h0 h1).mono ?_
  rintro e w' ⟨rfl, hb⟩
  exact ⟨zh (zI h), hb⟩
theorem zhy (kd : ByteArray) (a : Option Addr) (cap : Nat) (fs : List Fld) (left : Int) (w : World) (hkd : kd.size <= maxLen) (hw : yc w a fs) (h0 : 0 <= left) (h1 : left <= 1048576) (h : ¬ (Shp.sz ⟨kd, fs⟩ : Int) <= left) :
    Calls Tryz.prog 39 #[.agg #[.string kd, .slice a fs.length cap], .int .i64 left] w fun e w' => e = .returned (.int .i64 (-1)) /\ Below w.heap.size w w' := by
  refine (zdf kd a cap fs left w hkd hw h0 h1).mono ?_
  rintro e w' ⟨rfl, hb⟩
  exact ⟨zh (zw h), hb⟩
set_option maxHeartbeats 1000000 in
theorem zfH (a : Option Addr) (cap : Nat) (ss : List Shp) (left : Int) (w : World) (hw : yH w a ss) (h0 : 0 <= left) (h1 : left <= 1048576) :
    Calls Tryz.prog 14 #[.slice a ss.length cap, .int .i64 left] w fun e w' => e = .returned (.int .i64 (zH (zaa ss) left)) /\ Below w.heap.size w w' := by
  have hl := hw.len
  unfold maxLen at hl
  by_cases hfit : (ss.length : Int) <= left
  · go_enter Tryz.func14, Tryz.ntmps14
    go_wp2_with fail
    go_loopw [1, 5] (fun l i wr => ∃ k : Nat, k <= ss.length /\ i = .int .i64 k /\ 0 <= left - ss.length - zfX (ss.take k) /\ l = .int .i64 (left - ss.length - zfX (ss.take k)) /\ Below w.heap.size w wr) (fun _ i _ => ss.length - (intOf i).toNat)
    case atStart => exact ⟨0, Nat.zero_le _, rfl, by simp [zfX]; omega, by simp [zfX], Below.refl _ _⟩
    case round =>
      obtain ⟨k, hk, rfl, hpos, rfl, hB⟩ := hrel
      by_cases hlt : k < ss.length
      · obtain ⟨b, off, rfl, hb, hr⟩ := hw.rows (by rintro rfl; simp at hlt)
        obtain ⟨fa, fcap, hs0⟩ := hr k hlt
        have hs := hs0.mono hb hB
        have hck := hs.kind
        have hcl := hs.list
        have hfl := hs.flds
        have hsm := hs.small
        have HS : Hid (zfX (ss.take (k + 1)) = zfX (ss.take k) + Shp.sz ⟨ss[k].kd, ss[k].fs⟩) := zar Shp.sz ss k hlt
        have hle : zfX (ss.take (k + 1)) <= zfX ss := zbW Shp.sz ss (k + 1)
        clear hw hr hs0 hs
        by_cases hneg : (Shp.sz ⟨ss[k].kd, ss[k].fs⟩ : Int) <= left - ss.length - zfX (ss.take k)
        · have HNG : Hid ((Shp.sz ⟨ss[k].kd, ss[k].fs⟩ : Int) <= left - ss.length - zfX (ss.take k)) := hneg
          clear hle
          go_wp2_with fail
          refine (zgY _ _ _ _ _ _ hsm hfl hpos (by omega) HNG.out).mono ?_
          rintro e w1 ⟨rfl, hb1⟩
          have hB1 := hB.trans (hb1.mono hB.size)
          clear hb1
          go_wp2_with fail
          exact ⟨⟨k + 1, by omega, by go_num, by rw [HS.out]; omega, by rw [HS.out]; congr 1; omega, hB1⟩, by simp [intOf]; omega⟩
        · have HF : Hid (zH (zaa ss) left = -1) := zw (by have := HS.out; unfold zaa; omega)
          have HNG := hid hneg
          clear hneg hle
          go_wp2_with fail
          refine (zhy _ _ _ _ _ _ hsm hfl hpos (by omega) (by have := HNG.out; omega)).mono ?_
          rintro e w1 ⟨rfl, hb1⟩
          have hB1 := hB.trans (hb1.mono hB.size)
          clear hb1
          go_wp2_with fail
          go_ret
          exact ⟨zh HF.out.symm, hB1⟩
      · have HF : Hid (zH (zaa ss) left = left - ss.length - zfX (ss.take k)) := by
          rw [List.take_of_length_le (by omega)] at hpos ⊢
          have e : zH (zaa ss) left = left - zaa ss := zI (by unfold zaa; omega)
          unfold Hid; rw [e]; unfold zaa; omega
        clear hw
        go_wp2
        go_ret
        exact ⟨zh HF.out.symm, hB⟩
  · have HF : Hid (zH (zaa ss) left = -1) := zw (by unfold zaa; omega)
    clear hw
    go_enter Tryz.func14, Tryz.ntmps14
    go_wp2
    go_ret
    exact ⟨zh HF.out.symm, Below.refl _ _⟩
end Go.Proofs.YtfapkhgallmkdaaGreat
