import Derived.Test.YtmfgjafdnopfbaaGreatM07
import Derived.Test.YtmfgjafdnopfbaaGreatM11
import Derived.Test.YtmfgjafdnopfbaaGreatM06
import Derived.Test.YtmfgjafdnopfbaaGreatM01
import Derived.Test.YtmfgjafdnopfbaaGreatM05
import Derived.ChangeSlices
namespace Go.Proofs.YtmfgjafdnopfbaaGreat
open Go.RowKit
set_option maxHeartbeats 1000000 in
theorem zbw (nm : ByteArray) (ls ms : Int) (a : Option Addr) (cap : Nat) (ws : List ByteArray) (to : ByteArray) (rl : Int) (mu fx : Bool) (df wg : ByteArray) (a0 : Option Addr) (cap0 : Nat) (ss : List Shp) (w : World) (hw : yG w a0 ss) :
    Calls Tryz.prog 125 #[.agg #[.string nm, .int .i64 4, .int .i64 ls, .int .i64 ms, .slice a ws.length cap, .string to, .int .i64 rl, .bool mu, .bool fx, .string df, .string wg], .slice a0 ss.length cap0] w fun e w' => e = .returned (.bool (Gate.zV ss ⟨nm, 4, ls, ms, ws, to, rl, mu, fx, df, wg⟩)) /\ Below w.heap.size w w' := by
  have HF : Hid (Gate.zV ss ⟨nm, 4, ls, ms, ws, to, rl, mu, fx, df, wg⟩ = (Gate.zy ss to && (decide (1 <= rl) && decide (rl <= 3)) && df.toList.isEmpty && (decide (rl ≠ 2) || !mu))) := by simp [Gate.zV, Hid]
  by_cases hk : Gate.zy ss to = true
  rotate_left
  · have hk' : Gate.zy ss to = false := by simpa using hk
    have HK : Hid (Gate.zy ss to = false) := hk'
    clear hk hk'
    go_enter Tryz.func125, Tryz.ntmps125
    go_wp2_with fail
    refine (qN _ _ _ _ _ (hw.mono ((Below.refl _ _).alloc (Nat.le_refl _) _))).mono ?_
    rintro e w1 ⟨fa, fcap, rfl, _, hb1⟩
    rw [HK.out]
    have hX1 := ze (zo w _ _) (by simp) hb1
    have hz1 : w.heap.size < w1.heap.size := by have := hb1.size; simp at this; omega
    have hB1 : Below w.heap.size w w1 := ((Below.refl _ _).alloc (Nat.le_refl _) _).trans (hb1.mono (by simp))
    clear hb1 hw
    go_wp2_with fail
    go_ret
    exact ⟨zh (by rw [HF.out, HK.out]; rfl), hB1.alloc (by omega) _⟩
  have HK : Hid (Gate.zy ss to = true) := hk
  clear hk
  by_cases hd : df.toList.isEmpty = true
  rotate_left
  · have hd' : df.toList.isEmpty = false := by simpa using hd
    clear hd
    go_enter Tryz.func125, Tryz.ntmps125
    go_wp2_with fail
    refine (qN _ _ _ _ _ (hw.mono ((Below.refl _ _).alloc (Nat.le_refl _) _))).mono ?_
    rintro e w1 ⟨fa, fcap, rfl, _, hb1⟩
    rw [HK.out]
    have hX1 := ze (zo w _ _) (by simp) hb1
    have hz1 : w.heap.size < w1.heap.size := by have := hb1.size; simp at this; omega
    have hB1 : Below w.heap.size w w1 := ((Below.refl _ _).alloc (Nat.le_refl _) _).trans (hb1.mono (by simp))
    clear hb1 hw
    go_wp2_with fail
    go_ret
    exact ⟨zh (by rw [HF.out, HK.out, hd']; simp), hB1.alloc (by omega) _⟩
  by_cases h1 : rl = 1
  · subst h1
    go_enter Tryz.func125, Tryz.ntmps125
    go_wp2_with fail
    refine (qN _ _ _ _ _ (hw.mono ((Below.refl _ _).alloc (Nat.le_refl _) _))).mono ?_
    rintro e w1 ⟨fa, fcap, rfl, _, hb1⟩
    rw [HK.out]
    have hX1 := ze (zo w _ _) (by simp) hb1
    have hz1 : w.heap.size < w1.heap.size := by have := hb1.size; simp at this; omega
    have hB1 : Below w.heap.size w w1 := ((Below.refl _ _).alloc (Nat.le_refl _) _).trans (hb1.mono (by simp))
    clear hb1 hw
    go_wp2_with fail
    go_ret
    exact ⟨zh (by rw [HF.out, HK.out, hd]; rfl), hB1.alloc (by omega) _⟩
  by_cases h3 : rl = 3
  · subst h3
    go_enter Tryz.func125, Tryz.ntmps125
    go_wp2_with fail
    refine (qN _ _ _ _ _ (hw.mono ((Below.refl _ _).alloc (Nat.le_refl _) _))).mono ?_
    rintro e w1 ⟨fa, fcap, rfl, _, hb1⟩
    rw [HK.out]
    have hX1 := ze (zo w _ _) (by simp) hb1
    have hz1 : w.heap.size < w1.heap.size := by have := hb1.size; simp at this; omega
    have hB1 : Below w.heap.size w w1 := ((Below.refl _ _).alloc (Nat.le_refl _) _).trans (hb1.mono (by simp))
    clear hb1 hw
    go_wp2_with fail
    go_ret
    exact ⟨zh (by rw [HF.out, HK.out, hd]; rfl), hB1.alloc (by omega) _⟩
  by_cases h2 : rl = 2
  · subst h2
    clear h1 h3
    go_enter Tryz.func125, Tryz.ntmps125
    go_wp2_with fail
    refine (qN _ _ _ _ _ (hw.mono ((Below.refl _ _).alloc (Nat.le_refl _) _))).mono ?_
    rintro e w1 ⟨fa, fcap, rfl, _, hb1⟩
    rw [HK.out]
    have hX1 := ze (zo w _ _) (by simp) hb1
    have hz1 : w.heap.size < w1.heap.size := by have := hb1.size; simp at this; omega
    have hB1 : Below w.heap.size w w1 := ((Below.refl _ _).alloc (Nat.le_refl _) _).trans (hb1.mono (by simp))
    clear hb1 hw
    go_wp2_with fail
    go_ret
    exact ⟨zh (by rw [HF.out, HK.out, hd]; rfl), hB1.alloc (by omega) _⟩
  · have HR : Hid ((decide (1 <= rl) && decide (rl <= 3)) = false) := by unfold Hid; rw [Bool.eq_false_iff]; simp; omega
    have e1 : (rl == 1) = false := by simpa using h1
    have e2 : (rl == 2) = false := by simpa using h2
    have e3 : (rl == 3) = false := by simpa using h3
    clear h1 h2 h3
    go_enter Tryz.func125, Tryz.ntmps125
    go_wp2_with fail
    refine (qN _ _ _ _ _ (hw.mono ((Below.refl _ _).alloc (Nat.le_refl _) _))).mono ?_
    rintro e w1 ⟨fa, fcap, rfl, _, hb1⟩
    rw [HK.out]
    have hX1 := ze (zo w _ _) (by simp) hb1
    have hz1 : w.heap.size < w1.heap.size := by have := hb1.size; simp at this; omega
    have hB1 : Below w.heap.size w w1 := ((Below.refl _ _).alloc (Nat.le_refl _) _).trans (hb1.mono (by simp))
    clear hb1 hw
    go_wp2_with fail
    go_ret
    exact ⟨zh (by rw [HF.out, HK.out, HR.out]; simp), hB1.alloc (by omega) _⟩
end Go.Proofs.YtmfgjafdnopfbaaGreat

namespace Go.Proofs.YtmfgjafdnopfbaaGreat
open Go.RowKit
set_option maxHeartbeats 400000 in
theorem zhc (nm : ByteArray) (ls ms : Int) (a : Option Addr) (cap : Nat) (ws : List ByteArray) (to : ByteArray) (rl : Int) (mu fx : Bool) (df wg : ByteArray) (v : ByteArray) (w : World) (hv : v.size <= maxLen) :
    Calls Tryz.prog 67 #[.agg #[.string nm, .int .i64 1, .int .i64 ls, .int .i64 ms, .slice a ws.length cap, .string to, .int .i64 rl, .bool mu, .bool fx, .string df, .string wg], .string v] w
      fun e w' => e = .returned (.bool (Gate.fits 1 ls ms ws v)) /\ Below w.heap.size w w' := by
  rw [Gate.zic]
  by_cases hd : Gate.jQ v = true
  · have HE : Hid (jX v = Gate.zdB v) := by unfold jX Hid; rw [hd]; rfl
    have HF : Hid (Gate.jP ls ms v = (decide (ls <= jX v) && decide (jX v <= ms))) := by rw [HE.out]; exact Gate.zgK _ _ _ hd
    have h0 : 0 <= jX v := by rw [HE.out]; exact Gate.zgj v hd
    go_enter Tryz.func67, Tryz.ntmps67
    go_wp2_with (first
      | (go_at_call 90; refine (zds _ _ hv).mono ?_; rintro e w' ⟨rfl, rfl⟩)
      | (go_at_call 86; refine (zcj _ _ _ _).mono ?_; rintro e w' ⟨rfl, rfl⟩))
    go_ret
    exact ⟨zh HF.out.symm, (Below.refl _ _).alloc (Nat.le_refl _) _⟩
  · have hd' : Gate.jQ v = false := by simpa using hd
    have HF : Hid (Gate.jP ls ms v = false) := Gate.zeo _ _ _ hd'
    have h0 : jX v < 0 := by unfold jX; rw [hd']; simp
    go_enter Tryz.func67, Tryz.ntmps67
    go_wp2_with (first
      | (go_at_call 90; refine (zds _ _ hv).mono ?_; rintro e w' ⟨rfl, rfl⟩)
      | (go_at_call 86; refine (zcj _ _ _ _).mono ?_; rintro e w' ⟨rfl, rfl⟩))
    go_ret
    exact ⟨zh HF.out.symm, (Below.refl _ _).alloc (Nat.le_refl _) _⟩
set_option maxHeartbeats 400000 in
theorem zgY (nm : ByteArray) (ls ms : Int) (a : Option Addr) (cap : Nat) (ws : List ByteArray) (to : ByteArray) (rl : Int) (mu fx : Bool) (df wg : ByteArray) (v : ByteArray) (w : World) (hws : zZ w a ws) :
    Calls Tryz.prog 67 #[.agg #[.string nm, .int .i64 2, .int .i64 ls, .int .i64 ms, .slice a ws.length cap, .string to, .int .i64 rl, .bool mu, .bool fx, .string df, .string wg], .string v] w
      fun e w' => e = .returned (.bool (Gate.fits 2 ls ms ws v)) /\ Below w.heap.size w w' := by
  by_cases hz : v.size = 0
  · rw [Gate.jK _ _ _ _ _ hz]
    have hne : v.toList.isEmpty = true := by rw [Gate.zW]; simp [hz]
    clear hz hws
    go_enter Tryz.func67, Tryz.ntmps67
    go_wp2_with fail
    go_ret
    exact ⟨rfl, (Below.refl _ _).alloc (Nat.le_refl _) _⟩
  · rw [Gate.zg5 _ _ _ _ hz]
    have hne : v.toList.isEmpty = false := by rw [Gate.zW]; simp [hz]
    go_enter Tryz.func67, Tryz.ntmps67
    go_wp2_with (go_at_call 69; refine (za5 _ _ _ _ _ (by exact hws.mono ((Below.refl _ _).alloc (Nat.le_refl _) _))).mono ?_; rintro e w' ⟨rfl, rfl⟩)
    go_ret
    exact ⟨rfl, (Below.refl _ _).alloc (Nat.le_refl _) _⟩
set_option maxHeartbeats 400000 in
theorem zg1 (nm : ByteArray) (ls ms : Int) (a : Option Addr) (cap : Nat) (ws : List ByteArray) (to : ByteArray) (rl : Int) (mu fx : Bool) (df wg : ByteArray) (v : ByteArray) (w : World) (hv : v.size <= maxLen) :
    Calls Tryz.prog 67 #[.agg #[.string nm, .int .i64 4, .int .i64 ls, .int .i64 ms, .slice a ws.length cap, .string to, .int .i64 rl, .bool mu, .bool fx, .string df, .string wg], .string v] w
      fun e w' => e = .returned (.bool (Gate.fits 4 ls ms ws v)) /\ Below w.heap.size w w' := by
  rw [Gate.zhI]
  go_enter Tryz.func67, Tryz.ntmps67
  go_wp2_with (go_at_call 63; refine (zw _ _ hv).mono ?_; rintro e w' ⟨rfl, rfl⟩)
  go_ret
  exact ⟨rfl, (Below.refl _ _).alloc (Nat.le_refl _) _⟩
set_option maxHeartbeats 400000 in
theorem zeC (nm : ByteArray) (kd ls ms : Int) (a : Option Addr) (cap : Nat) (ws : List ByteArray) (to : ByteArray) (rl : Int) (mu fx : Bool) (df wg : ByteArray) (v : ByteArray) (w : World) (h1 : kd ≠ 1) (h2 : kd ≠ 2) (h3 : kd ≠ 3) (h4 : kd ≠ 4) :
    Calls Tryz.prog 67 #[.agg #[.string nm, .int .i64 kd, .int .i64 ls, .int .i64 ms, .slice a ws.length cap, .string to, .int .i64 rl, .bool mu, .bool fx, .string df, .string wg], .string v] w
      fun e w' => e = .returned (.bool (Gate.fits kd ls ms ws v)) /\ Below w.heap.size w w' := by
  rw [Gate.zda kd ls ms ws v h1 h2 h3 h4]
  have e1 : (kd == 1) = false := by simpa using h1
  have e2 : (kd == 2) = false := by simpa using h2
  have e3 : (kd == 3) = false := by simpa using h3
  have e4 : (kd == 4) = false := by simpa using h4
  clear h1 h2 h3 h4
  go_enter Tryz.func67, Tryz.ntmps67
  go_wp2_with fail
  go_ret
  exact ⟨rfl, (Below.refl _ _).alloc (Nat.le_refl _) _⟩
set_option maxHeartbeats 800000 in
theorem zg3 (nm : ByteArray) (ls ms : Int) (a : Option Addr) (cap : Nat) (ws : List ByteArray) (to : ByteArray) (rl : Int) (mu fx : Bool) (df wg : ByteArray) (v : ByteArray) (w : World) (hv : v.size <= maxLen) :
    Calls Tryz.prog 67 #[.agg #[.string nm, .int .i64 3, .int .i64 ls, .int .i64 ms, .slice a ws.length cap, .string to, .int .i64 rl, .bool mu, .bool fx, .string df, .string wg], .string v] w
      fun e w' => e = .returned (.bool (Gate.fits 3 ls ms ws v)) /\ Below w.heap.size w w' := by
  unfold maxLen at hv
  go_enter Tryz.func67, Tryz.ntmps67
  go_wp2_with fail
  go_loop [6] (fun i => ∃ k : Nat, k <= v.size /\ i = .int .i64 k /\ (v.data.toList.take k).all Gate.y7 = true) (fun i => v.size - (intOf i).toNat)
  case atStart => exact ⟨0, Nat.zero_le _, rfl, rfl⟩
  case round =>
    obtain ⟨k, hk, rfl, hall⟩ := hrel
    by_cases hlt : k < v.size
    · have HS : Hid ((v.data.toList.take (k + 1)).all Gate.y7 = (true && Gate.y7 v[k])) := by rw [Gate.zbc _ v k hlt, hall]; rfl
      have HN : Hid (Gate.y7 v[k] = false -> Gate.fits 3 ls ms ws v = false) := fun h => Gate.zeO ls ms ws v (Gate.zcH Gate.y7 v k hlt h)
      clear hall
      by_cases h33 : 33 <= (v[k].toNat : Int) /\ (v[k].toNat : Int) <= 126
      · have HC : Hid (Gate.y7 v[k] = true) := by simp [Gate.y7, Hid]; omega
        obtain ⟨ha, hb⟩ := h33
        go_wp2_with (go_at_call 86; refine (zaJ _ _ _ _ (by omega) (by omega)).mono ?_; rintro e w' ⟨rfl, rfl⟩)
        go_round
        case rel => exact ⟨k + 1, by omega, by go_num, by rw [HS.out, HC.out]; rfl⟩
        case measure => simp [intOf]; omega
      · have HC : Hid (Gate.y7 v[k] = false) := by simp [Gate.y7, Hid]; omega
        have HD : Hid (¬ (33 <= (v[k].toNat : Int) /\ (v[k].toNat : Int) <= 126)) := h33
        clear h33
        have hby : (v[k].toNat : Int) < 256 := by have := v[k].toNat_lt; omega
        go_wp2_with (go_at_call 86; refine (zbT _ _ _ _ (by have := HD.out; omega)).mono ?_; rintro e w' ⟨rfl, rfl⟩)
        go_ret
        exact ⟨zh (HN.out HC.out).symm, (Below.refl _ _).alloc (Nat.le_refl _) _⟩
    · have HA : Hid (Gate.zax v = true) := by unfold Gate.zax Hid; rw [<- Gate.zaL v k (by omega)]; exact hall
      clear hall
      by_cases hz : v.size = 0
      · have HF : Hid (Gate.fits 3 ls ms ws v = false) := Gate.jK _ _ _ _ _ hz
        have hne : v.toList.isEmpty = true := by rw [Gate.zW]; simp [hz]
        clear hz
        go_wp2_with fail
        go_ret
        exact ⟨zh HF.out.symm, (Below.refl _ _).alloc (Nat.le_refl _) _⟩
      · have HF : Hid (Gate.fits 3 ls ms ws v = (decide (ls <= v.size) && decide ((v.size : Int) <= ms))) := Gate.zeR ls ms ws v HA.out hz
        have hne : v.toList.isEmpty = false := by rw [Gate.zW]; simp [hz]
        go_wp2_with (go_at_call 86; refine (zcj _ _ _ _).mono ?_; rintro e w' ⟨rfl, rfl⟩)
        go_ret
        exact ⟨zh HF.out.symm, (Below.refl _ _).alloc (Nat.le_refl _) _⟩
theorem qc (nm : ByteArray) (kd ls ms : Int) (a : Option Addr) (cap : Nat) (ws : List ByteArray) (to : ByteArray) (rl : Int) (mu fx : Bool) (df wg : ByteArray) (v : ByteArray) (w : World) (hv : v.size <= maxLen) (hws : zZ w a ws) :
    Calls Tryz.prog 67 #[.agg #[.string nm, .int .i64 kd, .int .i64 ls, .int .i64 ms, .slice a ws.length cap, .string to, .int .i64 rl, .bool mu, .bool fx, .string df, .string wg], .string v] w
      fun e w' => e = .returned (.bool (Gate.fits kd ls ms ws v)) /\ Below w.heap.size w w' := by
  by_cases h1 : kd = 1
  · subst h1; exact zhc nm ls ms a cap ws to rl mu fx df wg v w hv
  by_cases h2 : kd = 2
  · subst h2; exact zgY nm ls ms a cap ws to rl mu fx df wg v w hws
  by_cases h3 : kd = 3
  · subst h3; exact zg3 nm ls ms a cap ws to rl mu fx df wg v w hv
  by_cases h4 : kd = 4
  · subst h4; exact zg1 nm ls ms a cap ws to rl mu fx df wg v w hv
  exact zeC nm kd ls ms a cap ws to rl mu fx df wg v w h1 h2 h3 h4
end Go.Proofs.YtmfgjafdnopfbaaGreat

namespace Go.Proofs.YtmfgjafdnopfbaaGreat
open Go.RowKit
theorem zk.setCell {lo : Nat} {w : World} {a : Option Addr} {ws : List ByteArray} (h : zk lo w a ws) (p : Addr) (hp : p.block < lo) (v : Value) : zk lo (w.setCell p v) a ws := by
  rcases h with ⟨rfl, rfl⟩ | ⟨g, C, rfl, hg, hh, hc⟩
  · exact Or.inl ⟨rfl, rfl⟩
  · exact Or.inr ⟨g, C, rfl, hg, (Below.heap_setCell _ _ _ _ (by omega)).trans hh, hc⟩
theorem zk.low {lo lo' : Nat} {w : World} {a : Option Addr} {ws : List ByteArray} (h : zk lo w a ws) (hl : lo' <= lo) : zk lo' w a ws := by
  rcases h with ⟨rfl, rfl⟩ | ⟨g, C, rfl, hg, hh, hc⟩
  · exact Or.inl ⟨rfl, rfl⟩
  · exact Or.inr ⟨g, C, rfl, by omega, hh, hc⟩
end Go.Proofs.YtmfgjafdnopfbaaGreat

namespace Go.Proofs.YtmfgjafdnopfbaaGreat
open Go.ChangeShapes Go.WideShapes Go.ChangeAt Go.RowKit
theorem Tryz.ziR : Tryz.prog.cellsOf 5 = 1 := by kernel_rfl
theorem zia {H : Type} {enc : TypeId × Value -> H} {w : World} {base : Nat} {spare : Nat -> Bool} {held : Bool} {fuel : Nat} {cs : List Value} {x : DataW H × List MemPlace} (h : DataW.trod enc Tryz.prog w base spare held fuel 22 cs = some x) :
    ∃ a n cap, cs = [.slice a n cap] /\ n <= cap /\ zcq w a n := by
  rcases open_ints Tryz.underlying22 Tryz.underlying5 Tryz.ziR h with ⟨rfl, _⟩ | ⟨a, len, cap, zs, rfl, _, hl, hm, hz, _, hcell, hwf⟩
  · exact ⟨none, 0, 0, rfl, Nat.le_refl _, ⟨by simp [maxLen], fun h => absurd h (by omega)⟩⟩
  · have hle : len <= zs.length := by rw [hz]; split <;> omega
    refine ⟨some a, len, cap, rfl, hl, ⟨by omega, fun hp => ?_⟩⟩
    have h0 := hcell 0 (by omega)
    obtain ⟨ha, hb⟩ := zfY h0
    simp only [Addr.add, if_true] at ha hb
    refine ⟨a.block, a.off, by rw [<- ha], hb, fun i hi => ?_⟩
    have h1 := hcell i (by omega)
    have e1 : a.add i = ⟨a.block, a.off + i, none⟩ := by
      unfold Addr.add; split
      · rename_i h; subst h; simpa using ha
      · rfl
    rw [e1] at h1
    have hm9 : zs.getD i 0 ∈ zs := by
      rw [List.getD_eq_getElem?_getD, List.getElem?_eq_getElem (by omega)]
      exact List.getElem_mem _
    have hr9 : ∀ z : Int, (Lit.int .u8 z).wf = true -> 0 <= z /\ z <= 255 := by
      intro z hz9
      have hz8 : (decide ((0 : Int) <= z) && decide (z <= 255)) = true := hz9
      simpa using hz8
    obtain ⟨h8, h9⟩ := hr9 _ (hwf _ hm9)
    exact ⟨_, h8, h9, h1⟩
end Go.Proofs.YtmfgjafdnopfbaaGreat
