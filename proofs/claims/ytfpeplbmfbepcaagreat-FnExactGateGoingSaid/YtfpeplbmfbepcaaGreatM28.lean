import Derived.Test.YtfpeplbmfbepcaaGreatM11
import Derived.Test.YtfpeplbmfbepcaaGreatM13
import Derived.Test.YtfpeplbmfbepcaaGreatM07
import Derived.Test.YtfpeplbmfbepcaaGreatM03
import Derived.Deep.Cut
import Derived.Test.YtfpeplbmfbepcaaGreatM18
import Derived.Test.YtfpeplbmfbepcaaGreatM21
import Derived.Test.YtfpeplbmfbepcaaGreatM22
namespace Go.Proofs.YtfpeplbmfbepcaaGreat
open Go.RowKit
set_option maxHeartbeats 1000000 in
theorem znq (nm : ByteArray) (ls ms : Int) (a : Option Addr) (n cap : Nat) (to : ByteArray) (rl : Int) (mu fx : Bool) (df wg : ByteArray) (w : World) :
    Calls Tryz.prog 202 #[.agg #[.string nm, .int .i64 1, .int .i64 ls, .int .i64 ms, .slice a n cap, .string to, .int .i64 rl, .bool mu, .bool fx, .string df, .string wg]] w fun e w' => e = .returned (.bool (Gate.qO 1 ls ms n to rl wg)) /\ Below w.heap.size w w' := by
  go_enter Tryz.func202, Tryz.ntmps202
  go_wp2
  all_goals
    go_ret
    refine ⟨ze ?_, (Below.refl _ _).alloc (Nat.le_refl _) _⟩
    simp_all [Gate.qO]
    try first | omega | (intros; omega) | (rw [Bool.eq_iff_iff]; simp)
set_option maxHeartbeats 1000000 in
theorem zn3 (nm : ByteArray) (ls ms : Int) (a : Option Addr) (n cap : Nat) (to : ByteArray) (rl : Int) (mu fx : Bool) (df wg : ByteArray) (w : World) :
    Calls Tryz.prog 202 #[.agg #[.string nm, .int .i64 2, .int .i64 ls, .int .i64 ms, .slice a n cap, .string to, .int .i64 rl, .bool mu, .bool fx, .string df, .string wg]] w fun e w' => e = .returned (.bool (Gate.qO 2 ls ms n to rl wg)) /\ Below w.heap.size w w' := by
  go_enter Tryz.func202, Tryz.ntmps202
  go_wp2
  all_goals
    go_ret
    refine ⟨ze ?_, (Below.refl _ _).alloc (Nat.le_refl _) _⟩
    simp_all [Gate.qO]
    try first | omega | (intros; omega) | (rw [Bool.eq_iff_iff]; simp)
set_option maxHeartbeats 1000000 in
theorem znu (nm : ByteArray) (ls ms : Int) (a : Option Addr) (n cap : Nat) (to : ByteArray) (rl : Int) (mu fx : Bool) (df wg : ByteArray) (w : World) :
    Calls Tryz.prog 202 #[.agg #[.string nm, .int .i64 3, .int .i64 ls, .int .i64 ms, .slice a n cap, .string to, .int .i64 rl, .bool mu, .bool fx, .string df, .string wg]] w fun e w' => e = .returned (.bool (Gate.qO 3 ls ms n to rl wg)) /\ Below w.heap.size w w' := by
  go_enter Tryz.func202, Tryz.ntmps202
  go_wp2
  all_goals
    go_ret
    refine ⟨ze ?_, (Below.refl _ _).alloc (Nat.le_refl _) _⟩
    simp_all [Gate.qO]
    try first | omega | (intros; omega) | (rw [Bool.eq_iff_iff]; simp)
set_option maxHeartbeats 1000000 in
theorem znr (nm : ByteArray) (ls ms : Int) (a : Option Addr) (n cap : Nat) (to : ByteArray) (rl : Int) (mu fx : Bool) (df wg : ByteArray) (w : World) :
    Calls Tryz.prog 202 #[.agg #[.string nm, .int .i64 4, .int .i64 ls, .int .i64 ms, .slice a n cap, .string to, .int .i64 rl, .bool mu, .bool fx, .string df, .string wg]] w fun e w' => e = .returned (.bool (Gate.qO 4 ls ms n to rl wg)) /\ Below w.heap.size w w' := by
  go_enter Tryz.func202, Tryz.ntmps202
  go_wp2
  all_goals
    go_ret
    refine ⟨ze ?_, (Below.refl _ _).alloc (Nat.le_refl _) _⟩
    simp_all [Gate.qO]
    try first | omega | (intros; omega) | (rw [Bool.eq_iff_iff]; simp)
set_option maxHeartbeats 1000000 in
theorem zih (nm : ByteArray) (kd ls ms : Int) (a : Option Addr) (n cap : Nat) (to : ByteArray) (rl : Int) (mu fx : Bool) (df wg : ByteArray) (w : World) (h1 : kd ≠ 1) (h2 : kd ≠ 2) (h3 : kd ≠ 3) (h4 : kd ≠ 4) :
    Calls Tryz.prog 202 #[.agg #[.string nm, .int .i64 kd, .int .i64 ls, .int .i64 ms, .slice a n cap, .string to, .int .i64 rl, .bool mu, .bool fx, .string df, .string wg]] w fun e w' => ∃ b, e = .returned (.bool b) /\ Below w.heap.size w w' := by
  have e1 : (kd == 1) = false := by simpa using h1
  have e2 : (kd == 2) = false := by simpa using h2
  have e3 : (kd == 3) = false := by simpa using h3
  have e4 : (kd == 4) = false := by simpa using h4
  have n1 : (kd != 1) = true := by simpa using h1
  have n2 : (kd != 2) = true := by simpa using h2
  clear h1 h2 h3 h4
  go_enter Tryz.func202, Tryz.ntmps202
  go_wp2
  all_goals
    go_ret
    exact ⟨_, rfl, (Below.refl _ _).alloc (Nat.le_refl _) _⟩
end Go.Proofs.YtfpeplbmfbepcaaGreat

namespace Go.Proofs.YtfpeplbmfbepcaaGreat
open Go.RowKit
set_option maxHeartbeats 4000000 in
theorem zeR (a0 : Option Addr) (cap0 : Nat) (ss : List Shp) (nm : ByteArray) (kd ls ms : Int) (a : Option Addr) (cap : Nat) (ws : List ByteArray) (to : ByteArray) (rl : Int) (mu fx : Bool) (df wg : ByteArray) (w : World) (hnm : nm.size <= maxLen) (hdf : df.size <= maxLen) (hwg : wg.size <= maxLen) (hws : zA w a ws) (hss : yI w a0 ss) :
    Calls Tryz.prog 169 #[.slice a0 ss.length cap0, .agg #[.string nm, .int .i64 kd, .int .i64 ls, .int .i64 ms, .slice a ws.length cap, .string to, .int .i64 rl, .bool mu, .bool fx, .string df, .string wg]] w
      fun e w' => e = .returned (.bool (Gate.zy nm && Gate.jT ss ⟨nm, kd, ls, ms, ws, to, rl, mu, fx, df, wg⟩)) /\ Below w.heap.size w w' := by
  obtain ⟨so, hso⟩ : ∃ so, so = Gate.yX ss ⟨nm, kd, ls, ms, ws, to, rl, mu, fx, df, wg⟩ := ⟨_, rfl⟩
  obtain ⟨res, hres⟩ : ∃ res, res = (Gate.zy nm && Gate.jT ss ⟨nm, kd, ls, ms, ws, to, rl, mu, fx, df, wg⟩) := ⟨_, rfl⟩
  have HO : Hid (res = (Gate.zy nm && (Gate.qO kd ls ms ws.length to rl wg && so && (df.toList.isEmpty || Gate.fits kd ls ms ws df)))) := by rw [Hid, hres, hso]; rfl
  have HSo := hid hso
  have HH := qJ hws hss
  have HBr : Hid (∀ W, Calls Tryz.prog 202 #[.agg #[.string nm, .int .i64 kd, .int .i64 ls, .int .i64 ms, .slice a ws.length cap, .string to, .int .i64 rl, .bool mu, .bool fx, .string df, .string wg]] W fun e w' => ∃ bb, e = .returned (.bool bb) /\ (so = true -> bb = Gate.qO kd ls ms ws.length to rl wg) /\ Below W.heap.size W w') := fun W => by
    by_cases h1 : kd = 1
    · subst h1; exact (znq _ _ _ _ _ _ _ _ _ _ _ _ _).mono fun _ _ h => ⟨_, h.1, fun _ => rfl, h.2⟩
    by_cases h2 : kd = 2
    · subst h2; exact (zn3 _ _ _ _ _ _ _ _ _ _ _ _ _).mono fun _ _ h => ⟨_, h.1, fun _ => rfl, h.2⟩
    by_cases h3 : kd = 3
    · subst h3; exact (znu _ _ _ _ _ _ _ _ _ _ _ _ _).mono fun _ _ h => ⟨_, h.1, fun _ => rfl, h.2⟩
    by_cases h4 : kd = 4
    · subst h4; exact (znr _ _ _ _ _ _ _ _ _ _ _ _ _).mono fun _ _ h => ⟨_, h.1, fun _ => rfl, h.2⟩
    refine (zih _ _ _ _ _ _ _ _ _ _ _ _ _ _ h1 h2 h3 h4).mono fun _ _ h => ?_
    obtain ⟨bb, he, hb⟩ := h
    exact ⟨bb, he, fun h => by rw [hso] at h; simp [Gate.yX, h1, h2, h3, h4] at h, hb⟩
  have hl := hws.len
  unfold maxLen at hl
  have hba := (Below.refl w.heap.size w).alloc (Nat.le_refl _) (.cells #[.string nm, .int .i64 kd, .int .i64 ls, .int .i64 ms, .slice a ws.length cap, .string to, .int .i64 rl, .bool mu, .bool fx, .string df, .string wg] 165)
  have kX := zG w #[.string nm, .int .i64 kd, .int .i64 ls, .int .i64 ms, .slice a ws.length cap, .string to, .int .i64 rl, .bool mu, .bool fx, .string df, .string wg] 165
  rw [<- hres]
  clear hws hss hso hres
  go_enter Tryz.func169, Tryz.ntmps169
  go_upto_region 1 with fail
  obtain ⟨W0, hW0⟩ : ∃ W0, W0 = w.alloc (.cells #[.string nm, .int .i64 kd, .int .i64 ls, .int .i64 ms, .slice a ws.length cap, .string to, .int .i64 rl, .bool mu, .bool fx, .string df, .string wg] 165) := ⟨_, rfl⟩
  have hz0 : w.heap.size < W0.heap.size := by rw [hW0]; simp
  rw [<- hW0] at hba kX ⊢
  clear hW0
  have HS : Hid (∀ W, Below W0.heap.size W0 W -> (∀ j, W.cell? ⟨w.heap.size, j, none⟩ = (#[.string nm, .int .i64 kd, .int .i64 ls, .int .i64 ms, .slice a ws.length cap, .string to, .int .i64 rl, .bool mu, .bool fx, .string df, .string wg] : Array Value)[j]?) /\ w.heap.size < W.heap.size /\ Below w.heap.size w W) := fun W hW => ⟨za kX hz0 hW, Nat.lt_of_lt_of_le hz0 hW.size, hba.trans (hW.mono hba.size)⟩
  clear hba kX
  refine zi9 (fun A A' w' => ∃ u5 u6 u7 u8 u9 u10 u11 u12 u13 u14 u15 u16 u17 u18 u19 u20 u21 u22 u23 u24 t, A' = (((((((((((((((((((((A.put (some 5) u5).put (some 6) u6).put (some 7) u7).put (some 8) u8).put (some 9) u9).put (some 10) u10).put (some 11) u11).put (some 12) u12).put (some 13) u13).put (some 14) u14).put (some 15) u15).put (some 16) u16).put (some 17) u17).put (some 18) u18).put (some 19) u19).put (some 20) u20).put (some 21) u21).put (some 22) u22).put (some 23) u23).put (some 24) u24).put (some 25) (.bool t)) /\ Hid (res = (!t && so) /\ Below W0.heap.size W0 w')) ?_ ?_
  · have cX := (HS.out W0 (Below.refl _ _)).1
    go_wp2_with fail
    refine (zS _ _ hnm).mono ?_
    rintro e w1 ⟨rfl, rfl⟩
    cases hn : Gate.zy nm with
    | false =>
      have HR : Hid (res = (!true && so)) := by rw [Hid, HO.out, hn]; rfl
      go_wp2_with fail
      exact ⟨HR.out, Below.refl _ _⟩
    | true =>
      go_wp2_with fail
      refine (HBr.out _).mono ?_
      rintro e w2 ⟨bb, rfl, hbb, hb2⟩
      have HB2 := qJ hbb hb2
      clear hbb hb2 cX
      obtain ⟨cX, hz2, hB2⟩ := HS.out w2 HB2.out.2
      cases bb with
      | false =>
        have HR : Hid (res = (!true && so)) := by
          rw [Hid, HO.out, hn]
          cases so with
          | false => simp
          | true => rw [<- HB2.out.1 rfl]; rfl
        go_wp2_with fail
        exact ⟨HR.out, HB2.out.2⟩
      | true =>
        have HE : Hid (res = (so && (df.toList.isEmpty || Gate.fits kd ls ms ws df))) := by
          rw [Hid, HO.out, hn]
          cases so with
          | false => simp
          | true => rw [<- HB2.out.1 rfl]; rfl
        cases hd : df.toList.isEmpty with
        | true =>
          have HR : Hid (res = (!false && so)) := by rw [Hid, HE.out, hd]; simp
          go_wp2_with fail
          exact ⟨HR.out, HB2.out.2⟩
        | false =>
          go_wp2_with fail
          refine (zdw _ _ _ _ _ _ _ _ _ _ _ _ _ _ _ hdf (HH.out.1.mono hB2)).mono ?_
          rintro e w3 ⟨rfl, hb3⟩
          have HB3 := hid (HB2.out.2.trans (hb3.mono HB2.out.2.size))
          have HR : Hid (res = (!(!(Gate.fits kd ls ms ws df)) && so)) := by rw [Hid, HE.out, hd]; simp [Bool.and_comm]
          clear hb3 cX
          cases hf : Gate.fits kd ls ms ws df with
          | true =>
            rw [hf] at HR
            go_wp2_with fail
            exact ⟨HR.out, HB3.out⟩
          | false =>
            rw [hf] at HR
            go_wp2_with fail
            exact ⟨HR.out, HB3.out⟩
  rintro A' w3 ⟨u5, u6, u7, u8, u9, u10, u11, u12, u13, u14, u15, u16, u17, u18, u19, u20, u21, u22, u23, u24, t, rfl, H3⟩
  obtain ⟨cX, hz3, hB3⟩ := HS.out w3 H3.out.2
  (try simp only [Act.put, sA, s0, sS])
  cases t with
  | true =>
    go_wp2_with fail
    go_ret
    exact ⟨ze (by rw [H3.out.1]; rfl), hB3⟩
  | false =>
  have HR : Hid (res = so) := by rw [Hid, H3.out.1]; simp
  have HB3 := hid hB3
  by_cases h1 : kd = 1
  · have e1 : (kd == 1) = true := by simp [h1]
    have HE : Hid (so = (Gate.jq ls ms 0 1000000 && (wg.toList.isEmpty || Gate.zy wg))) := by rw [Hid, HSo.out]; simp [Gate.yX, h1]
    clear h1
    go_wp2_with (go_at_call 97; refine (zS _ _ hwg).mono ?_; rintro e w5 ⟨rfl, rfl⟩)
    all_goals
      go_ret
      refine ⟨ze ?_, HB3.out⟩
      rw [HR.out, HE.out]
      clear HS HBr cX
      simp_all [Gate.jq]
      try omega
  have e1 : (kd == 1) = false := by simp [h1]
  by_cases h2 : kd = 2
  · have e2 : (kd == 2) = true := by simp [h2]
    have HE : Hid (so = (decide (1 <= ws.length) && decide (ws.length <= 6) && Gate.asc ws)) := by rw [Hid, HSo.out]; simp [Gate.yX, h2]
    clear h1 h2
    go_wp2_with fail
    by_cases h16 : 1 <= ws.length /\ ws.length <= 6
    · refine (zci _ _ _ _ (by omega) (by omega)).mono ?_
      rintro e w5 ⟨rfl, rfl⟩
      go_wp2_with fail
      refine (zdO _ _ _ _ (HH.out.1.mono HB3.out)).mono ?_
      rintro e w6 ⟨rfl, nd, rfl⟩
      go_wp2_with fail
      go_ret
      exact ⟨ze (by rw [HR.out, HE.out, decide_eq_true h16.1, decide_eq_true h16.2]; rfl), below_drewN HB3.out _⟩
    · refine (zet _ _ _ _ (by omega)).mono ?_
      rintro e w5 ⟨rfl, rfl⟩
      have HN : Hid ((decide (1 <= ws.length) && decide (ws.length <= 6)) = false) := by rw [Hid, Bool.eq_false_iff]; simp; omega
      go_wp2_with fail
      go_ret
      exact ⟨ze (by rw [HR.out, HE.out, HN.out]; rfl), HB3.out⟩
  have e2 : (kd == 2) = false := by simp [h2]
  by_cases h3 : kd = 3
  · have e3 : (kd == 3) = true := by simp [h3]
    have HE : Hid (so = Gate.jq ls ms 1 40) := by rw [Hid, HSo.out]; simp [Gate.yX, h3]
    clear h1 h2 h3
    go_wp2_with fail
    all_goals
      go_ret
      refine ⟨ze ?_, HB3.out⟩
      rw [HR.out, HE.out]
      clear HS HBr cX
      simp_all [Gate.jq]
      try omega
  have e3 : (kd == 3) = false := by simp [h3]
  by_cases h4 : kd = 4
  · have e4 : (kd == 4) = true := by simp [h4]
    have HE : Hid (so = (Gate.zC ss to && (decide (1 <= rl) && decide (rl <= 3)) && df.toList.isEmpty && (decide (rl ≠ 2) || !mu))) := by rw [Hid, HSo.out]; simp [Gate.yX, h4]
    clear h1 h2 h3 h4
    go_wp2_with fail
    cases hk : Gate.zC ss to with
    | false =>
      refine (ze8 _ _ _ _ _ (HH.out.2.mono HB3.out) hk).mono ?_
      rintro e w5 ⟨rfl, rfl⟩
      go_wp2_with fail
      go_ret
      exact ⟨ze (by rw [HR.out, HE.out, hk]; rfl), HB3.out⟩
    | true =>
      refine (za8 _ _ _ _ _ (HH.out.2.mono HB3.out) hk).mono ?_
      rintro e w5 ⟨ix, hix, rfl, _, rfl⟩
      have hix0 : (0 : Int) <= (ix : Int) := by omega
      go_wp2_with fail
      by_cases h13 : 1 <= rl /\ rl <= 3
      · have HT : Hid ((decide (1 <= rl) && decide (rl <= 3)) = true) := by unfold Hid; simp; omega
        refine (zci _ _ _ _ h13.1 h13.2).mono ?_
        rintro e w6 ⟨rfl, rfl⟩
        cases hd : df.toList.isEmpty with
        | false =>
          go_wp2_with fail
          go_ret
          exact ⟨ze (by rw [HR.out, HE.out, hd]; simp), HB3.out⟩
        | true =>
          cases e5 : (rl != 2) with
          | false =>
            have HN : Hid (decide (rl ≠ 2) = false) := by rw [Hid]; simpa using e5
            go_wp2_with fail
            go_ret
            exact ⟨ze (by rw [HR.out, HE.out, hk, HT.out, hd, HN.out]; simp), HB3.out⟩
          | true =>
            have HN : Hid (decide (rl ≠ 2) = true) := by rw [Hid]; simpa using e5
            go_wp2_with fail
            go_ret
            exact ⟨ze (by rw [HR.out, HE.out, hk, HT.out, hd, HN.out]; simp), HB3.out⟩
      · refine (zet _ _ _ _ h13).mono ?_
        rintro e w6 ⟨rfl, rfl⟩
        have HT : Hid ((decide (1 <= rl) && decide (rl <= 3)) = false) := by unfold Hid; rw [Bool.eq_false_iff]; simp; omega
        go_wp2_with fail
        go_ret
        exact ⟨ze (by rw [HR.out, HE.out, HT.out]; simp), HB3.out⟩
  have e4 : (kd == 4) = false := by simp [h4]
  have HE : Hid (so = false) := by rw [Hid, HSo.out]; simp [Gate.yX, h1, h2, h3, h4]
  go_wp2_with fail
  go_ret
  exact ⟨ze (by rw [HR.out, HE.out]), HB3.out⟩
end Go.Proofs.YtfpeplbmfbepcaaGreat

namespace Go.Proofs.YtfpeplbmfbepcaaGreat
open Go.RowKit
structure zai (lo hi : Nat) (w : World) (bo : Nat) (ms : List Lg) : Prop where
  low : lo <= bo
  high : bo < hi
  rows : ∃ C, w.heap[bo]? = some (.cells C 134) /\ C.size = ms.length * 4 /\ ∀ i, i < ms.length -> (∀ j, j < 4 -> zaP C (i * 4 + j))
theorem zai.mono {lo hi : Nat} {w w' : World} {b : Nat} {ms : List Lg} (h : zai lo hi w b ms) (hM : Marked lo hi w w') : zai lo hi w' b ms := by
  obtain ⟨C, hC, hs, hn⟩ := h.rows
  obtain ⟨C', hC', hs', hk⟩ := hM.inn b C _ h.low h.high hC
  refine ⟨h.low, h.high, C', hC', by omega, fun i hi => ?_⟩
  have h0 := hn i hi
  exact fun j hj a m c he => h0 j hj a m c ((hk _ a m c).1 he)
theorem jC.form {lo : Nat} {w : World} {bo : Nat} {ms : List Lg} (h : jC lo w bo ms ms.length) : zai lo w.heap.size w bo ms := by
  obtain ⟨C, hC, hsz, hr⟩ := h.rows
  refine ⟨h.low, (Array.getElem?_eq_some_iff.1 hC).1, C, hC, hsz, fun i hi j hj a n c he => ?_⟩
  rw [hr i hi hi j hj] at he
  rcases j with _ | _ | _ | _ | j <;> first | omega | (simp [Lg.cells] at he)
theorem zai.ready {lo hi bo : Nat} {w W : World} {ms : List Lg} (h : zai lo hi w bo ms) (hM : Marked lo hi w W) (i : Nat) (hi' : i < ms.length) :
    (∀ j, j < 4 -> ∃ v, W.cell? ⟨bo, i * 4 + j, none⟩ = some v) /\ (∀ o, W.frozen? ⟨bo, o, none⟩ = false) := by
  have h' := h.mono hM
  obtain ⟨C, hC, hs, hn⟩ := h'.rows
  exact ⟨fun j hj => ⟨C[i * 4 + j]'(by omega), by rw [cell_of_block hC]; exact Array.getElem?_eq_getElem (by omega)⟩, fun o => zh hC⟩
theorem zai.put {lo hi bo : Nat} {w W : World} {ms : List Lg} (h : zai lo hi w bo ms) (hM : Marked lo hi w W) (i j : Nat) (hi' : i < ms.length) (hj : j < 4) (v : Value) (hv : ∀ a n c, v ≠ Value.slice a n c) : Marked lo hi w (W.setCell ⟨bo, i * 4 + j, none⟩ v) := by
  obtain ⟨C, hC, hs, hn⟩ := h.rows
  exact hM.put h.low h.high hC (hn i hi' j hj) v hv
set_option maxRecDepth 20000 in
set_option maxHeartbeats 8000000 in
theorem zeB (lo hi bo cap : Nat) (ms : List Lg) (k : Int) (w : World) (h : zai lo hi w bo ms) (hl : ms.length <= 1048576) (hk : 0 < k) (hk2 : k < 5000000000000000000) :
    Calls Tryz.prog 49 #[.slice (some ⟨bo, 0, none⟩) ms.length cap, .int .i64 k] w fun e w' => ∃ k', e = .returned (.int .i64 k') /\ k <= k' /\ k' <= k + ms.length * 4 /\ Marked lo hi w w' := by
  have HF : Hid (zai lo hi w bo ms) := h
  have HL : Hid (ms.length <= 1048576) := hl
  have HK : Hid (0 < k /\ k < 5000000000000000000) := ⟨hk, hk2⟩
  clear h hl hk hk2
  go_enter Tryz.func49, Tryz.ntmps49
  go_wp2_with fail
  go_loopw [1, 5] (fun kv iv wr => ∃ (i : Nat) (kk : Int), i <= ms.length /\ kv = .int .i64 kk /\ iv = .int .i64 i /\ k <= kk /\ kk <= k + i * 4 /\ Marked lo hi w wr) (fun _ iv _ => ms.length - (intOf iv).toNat)
  case atStart => exact ⟨0, k, Nat.zero_le _, rfl, rfl, Int.le_refl _, by simp, Marked.refl _ _ _⟩
  case round =>
    obtain ⟨i, kk, hile, rfl, rfl, h1, h2, hM⟩ := hrel
    by_cases hlt : i < ms.length
    · have hltI : (i : Int) < (ms.length : Int) := by omega
      have HB : Hid (0 < kk /\ kk < 7000000000000000000 /\ kk <= k + i * 4 /\ k <= kk) := by have a := HK.out; have b := HL.out; exact ⟨by omega, by omega, h2, h1⟩
      have HM := hid hM
      clear h1 h2 hM
      go_wp2_with fail
      refine (zI _ _ (by have a0 := HB.out; omega) (by have a0 := HB.out; omega)).mono ?_
      rintro e wm1 ⟨s1, rfl, hb⟩
      have HM1 : Hid (Marked lo hi w wm1) := (HM.out).trans (Marked.of_below hb)
      clear hb
      obtain ⟨hex, hfz1⟩ := HF.out.ready (HM1.out) i hlt
      obtain ⟨v1, hv1⟩ := hex 0 (by omega)
      rw [Nat.add_zero] at hv1
      clear hex
      have HP1_0 : Hid (Marked lo hi w (wm1.setCell ⟨bo, i * 4, none⟩ (.string s1))) := HF.out.put (HM1.out) i 0 hlt (by omega)  (.string s1) (fun _ _ _ h => by cases h)
      have hw1 : wrap64 (kk + 1) = kk + 1 := z8 _ ⟨by have a0 := HB.out; omega, by have a0 := HB.out; omega⟩
      go_wp2_with fail
      clear hfz1 hv1
      refine (zI _ _ (by have a0 := HB.out; omega) (by have a0 := HB.out; omega)).mono ?_
      rintro e wm2 ⟨s2, rfl, hb⟩
      have HM2 : Hid (Marked lo hi w wm2) := (HP1_0.out).trans (Marked.of_below hb)
      clear hb
      obtain ⟨hex, hfz2⟩ := HF.out.ready (HM2.out) i hlt
      obtain ⟨v2, hv2⟩ := hex 1 (by omega)
      clear hex
      have HP2_1 : Hid (Marked lo hi w (wm2.setCell ⟨bo, i * 4 + 1, none⟩ (.string s2))) := HF.out.put (HM2.out) i 1 hlt (by omega)  (.string s2) (fun _ _ _ h => by cases h)
      have hw2 : wrap64 (kk + 1 + 1) = kk + 1 + 1 := z8 _ ⟨by have a0 := HB.out; omega, by have a0 := HB.out; omega⟩
      obtain ⟨hex, hfz3⟩ := HF.out.ready (HP2_1.out) i hlt
      obtain ⟨v3, hv3⟩ := hex 2 (by omega)
      clear hex
      have HP2_2 : Hid (Marked lo hi w ((wm2.setCell ⟨bo, i * 4 + 1, none⟩ (.string s2)).setCell ⟨bo, i * 4 + 2, none⟩ (.int .i64 (kk + 1 + 1)))) := HF.out.put (HP2_1.out) i 2 hlt (by omega)  (.int .i64 (kk + 1 + 1)) (fun _ _ _ h => by cases h)
      have hw3 : wrap64 (kk + 1 + 1 + 1) = kk + 1 + 1 + 1 := z8 _ ⟨by have a0 := HB.out; omega, by have a0 := HB.out; omega⟩
      obtain ⟨hex, hfz4⟩ := HF.out.ready (HP2_2.out) i hlt
      obtain ⟨v4, hv4⟩ := hex 3 (by omega)
      clear hex
      have HP2_3 : Hid (Marked lo hi w (((wm2.setCell ⟨bo, i * 4 + 1, none⟩ (.string s2)).setCell ⟨bo, i * 4 + 2, none⟩ (.int .i64 (kk + 1 + 1))).setCell ⟨bo, i * 4 + 3, none⟩ (.int .i64 (kk + 1 + 1 + 1)))) := HF.out.put (HP2_2.out) i 3 hlt (by omega)  (.int .i64 (kk + 1 + 1 + 1)) (fun _ _ _ h => by cases h)
      have hw4 : wrap64 (kk + 1 + 1 + 1 + 1) = kk + 1 + 1 + 1 + 1 := z8 _ ⟨by have a0 := HB.out; omega, by have a0 := HB.out; omega⟩
      go_wp2_with fail
      go_roundw
      case rel => exact ⟨i + 1, kk + 1 + 1 + 1 + 1, by omega, by first | rfl | rw [hw4], by rw [wrap_one (by have := HL.out; omega)], by have a0 := HB.out; omega, by have a0 := HB.out; omega, HP2_3.out⟩
      case measure => exact qK hlt (by have := HL.out; omega)
    · have e : i = ms.length := by omega
      subst e
      go_wp2_with fail
      go_ret
      exact ⟨kk, rfl, h1, h2, hM⟩
end Go.Proofs.YtfpeplbmfbepcaaGreat

namespace Go.Proofs.YtfpeplbmfbepcaaGreat
open Go.RowKit
structure zaf (lo hi : Nat) (w : World) (bo : Nat) (ms : List Pu) : Prop where
  low : lo <= bo
  high : bo < hi
  rows : ∃ C, w.heap[bo]? = some (.cells C 136) /\ C.size = ms.length * 5 /\ ∀ i, i < ms.length -> (∀ j, j < 5 -> zaP C (i * 5 + j))
theorem zaf.mono {lo hi : Nat} {w w' : World} {b : Nat} {ms : List Pu} (h : zaf lo hi w b ms) (hM : Marked lo hi w w') : zaf lo hi w' b ms := by
  obtain ⟨C, hC, hs, hn⟩ := h.rows
  obtain ⟨C', hC', hs', hk⟩ := hM.inn b C _ h.low h.high hC
  refine ⟨h.low, h.high, C', hC', by omega, fun i hi => ?_⟩
  have h0 := hn i hi
  exact fun j hj a m c he => h0 j hj a m c ((hk _ a m c).1 he)
theorem jB.form {lo : Nat} {w : World} {bo : Nat} {ms : List Pu} (h : jB lo w bo ms ms.length) : zaf lo w.heap.size w bo ms := by
  obtain ⟨C, hC, hsz, hr⟩ := h.rows
  refine ⟨h.low, (Array.getElem?_eq_some_iff.1 hC).1, C, hC, hsz, fun i hi j hj a n c he => ?_⟩
  rw [hr i hi hi j hj] at he
  rcases j with _ | _ | _ | _ | _ | j <;> first | omega | (simp [Pu.cells] at he)
theorem zaf.ready {lo hi bo : Nat} {w W : World} {ms : List Pu} (h : zaf lo hi w bo ms) (hM : Marked lo hi w W) (i : Nat) (hi' : i < ms.length) :
    (∀ j, j < 5 -> ∃ v, W.cell? ⟨bo, i * 5 + j, none⟩ = some v) /\ (∀ o, W.frozen? ⟨bo, o, none⟩ = false) := by
  have h' := h.mono hM
  obtain ⟨C, hC, hs, hn⟩ := h'.rows
  exact ⟨fun j hj => ⟨C[i * 5 + j]'(by omega), by rw [cell_of_block hC]; exact Array.getElem?_eq_getElem (by omega)⟩, fun o => zh hC⟩
theorem zaf.put {lo hi bo : Nat} {w W : World} {ms : List Pu} (h : zaf lo hi w bo ms) (hM : Marked lo hi w W) (i j : Nat) (hi' : i < ms.length) (hj : j < 5) (v : Value) (hv : ∀ a n c, v ≠ Value.slice a n c) : Marked lo hi w (W.setCell ⟨bo, i * 5 + j, none⟩ v) := by
  obtain ⟨C, hC, hs, hn⟩ := h.rows
  exact hM.put h.low h.high hC (hn i hi' j hj) v hv
set_option maxRecDepth 20000 in
set_option maxHeartbeats 8000000 in
theorem ze6 (lo hi bo cap : Nat) (ms : List Pu) (k : Int) (w : World) (h : zaf lo hi w bo ms) (hl : ms.length <= 1048576) (hk : 0 < k) (hk2 : k < 5000000000000000000) :
    Calls Tryz.prog 50 #[.slice (some ⟨bo, 0, none⟩) ms.length cap, .int .i64 k] w fun e w' => ∃ k', e = .returned (.int .i64 k') /\ k <= k' /\ k' <= k + ms.length * 5 /\ Marked lo hi w w' := by
  have HF : Hid (zaf lo hi w bo ms) := h
  have HL : Hid (ms.length <= 1048576) := hl
  have HK : Hid (0 < k /\ k < 5000000000000000000) := ⟨hk, hk2⟩
  clear h hl hk hk2
  go_enter Tryz.func50, Tryz.ntmps50
  go_wp2_with fail
  go_loopw [1, 5] (fun kv iv wr => ∃ (i : Nat) (kk : Int), i <= ms.length /\ kv = .int .i64 kk /\ iv = .int .i64 i /\ k <= kk /\ kk <= k + i * 5 /\ Marked lo hi w wr) (fun _ iv _ => ms.length - (intOf iv).toNat)
  case atStart => exact ⟨0, k, Nat.zero_le _, rfl, rfl, Int.le_refl _, by simp, Marked.refl _ _ _⟩
  case round =>
    obtain ⟨i, kk, hile, rfl, rfl, h1, h2, hM⟩ := hrel
    by_cases hlt : i < ms.length
    · have hltI : (i : Int) < (ms.length : Int) := by omega
      have HB : Hid (0 < kk /\ kk < 7000000000000000000 /\ kk <= k + i * 5 /\ k <= kk) := by have a := HK.out; have b := HL.out; exact ⟨by omega, by omega, h2, h1⟩
      have HM := hid hM
      clear h1 h2 hM
      go_wp2_with fail
      refine (zI _ _ (by have a0 := HB.out; omega) (by have a0 := HB.out; omega)).mono ?_
      rintro e wm1 ⟨s1, rfl, hb⟩
      have HM1 : Hid (Marked lo hi w wm1) := (HM.out).trans (Marked.of_below hb)
      clear hb
      obtain ⟨hex, hfz1⟩ := HF.out.ready (HM1.out) i hlt
      obtain ⟨v1, hv1⟩ := hex 0 (by omega)
      rw [Nat.add_zero] at hv1
      clear hex
      have HP1_0 : Hid (Marked lo hi w (wm1.setCell ⟨bo, i * 5, none⟩ (.string s1))) := HF.out.put (HM1.out) i 0 hlt (by omega)  (.string s1) (fun _ _ _ h => by cases h)
      have hw1 : wrap64 (kk + 1) = kk + 1 := z8 _ ⟨by have a0 := HB.out; omega, by have a0 := HB.out; omega⟩
      go_wp2_with fail
      clear hfz1 hv1
      refine (zI _ _ (by have a0 := HB.out; omega) (by have a0 := HB.out; omega)).mono ?_
      rintro e wm2 ⟨s2, rfl, hb⟩
      have HM2 : Hid (Marked lo hi w wm2) := (HP1_0.out).trans (Marked.of_below hb)
      clear hb
      obtain ⟨hex, hfz2⟩ := HF.out.ready (HM2.out) i hlt
      obtain ⟨v2, hv2⟩ := hex 1 (by omega)
      clear hex
      have HP2_1 : Hid (Marked lo hi w (wm2.setCell ⟨bo, i * 5 + 1, none⟩ (.string s2))) := HF.out.put (HM2.out) i 1 hlt (by omega)  (.string s2) (fun _ _ _ h => by cases h)
      have hw2 : wrap64 (kk + 1 + 1) = kk + 1 + 1 := z8 _ ⟨by have a0 := HB.out; omega, by have a0 := HB.out; omega⟩
      go_wp2_with fail
      clear hfz2 hv2
      refine (zI _ _ (by have a0 := HB.out; omega) (by have a0 := HB.out; omega)).mono ?_
      rintro e wm3 ⟨s3, rfl, hb⟩
      have HM3 : Hid (Marked lo hi w wm3) := (HP2_1.out).trans (Marked.of_below hb)
      clear hb
      obtain ⟨hex, hfz3⟩ := HF.out.ready (HM3.out) i hlt
      obtain ⟨v3, hv3⟩ := hex 2 (by omega)
      clear hex
      have HP3_2 : Hid (Marked lo hi w (wm3.setCell ⟨bo, i * 5 + 2, none⟩ (.string s3))) := HF.out.put (HM3.out) i 2 hlt (by omega)  (.string s3) (fun _ _ _ h => by cases h)
      have hw3 : wrap64 (kk + 1 + 1 + 1) = kk + 1 + 1 + 1 := z8 _ ⟨by have a0 := HB.out; omega, by have a0 := HB.out; omega⟩
      obtain ⟨hex, hfz4⟩ := HF.out.ready (HP3_2.out) i hlt
      obtain ⟨v4, hv4⟩ := hex 3 (by omega)
      clear hex
      have HP3_3 : Hid (Marked lo hi w ((wm3.setCell ⟨bo, i * 5 + 2, none⟩ (.string s3)).setCell ⟨bo, i * 5 + 3, none⟩ (.int .i64 (kk + 1 + 1 + 1)))) := HF.out.put (HP3_2.out) i 3 hlt (by omega)  (.int .i64 (kk + 1 + 1 + 1)) (fun _ _ _ h => by cases h)
      have hw4 : wrap64 (kk + 1 + 1 + 1 + 1) = kk + 1 + 1 + 1 + 1 := z8 _ ⟨by have a0 := HB.out; omega, by have a0 := HB.out; omega⟩
      obtain ⟨hex, hfz5⟩ := HF.out.ready (HP3_3.out) i hlt
      obtain ⟨v5, hv5⟩ := hex 4 (by omega)
      clear hex
      have HP3_4 : Hid (Marked lo hi w (((wm3.setCell ⟨bo, i * 5 + 2, none⟩ (.string s3)).setCell ⟨bo, i * 5 + 3, none⟩ (.int .i64 (kk + 1 + 1 + 1))).setCell ⟨bo, i * 5 + 4, none⟩ (.int .i64 (kk + 1 + 1 + 1 + 1)))) := HF.out.put (HP3_3.out) i 4 hlt (by omega)  (.int .i64 (kk + 1 + 1 + 1 + 1)) (fun _ _ _ h => by cases h)
      have hw5 : wrap64 (kk + 1 + 1 + 1 + 1 + 1) = kk + 1 + 1 + 1 + 1 + 1 := z8 _ ⟨by have a0 := HB.out; omega, by have a0 := HB.out; omega⟩
      go_wp2_with fail
      go_roundw
      case rel => exact ⟨i + 1, kk + 1 + 1 + 1 + 1 + 1, by omega, by first | rfl | rw [hw5], by rw [wrap_one (by have := HL.out; omega)], by have a0 := HB.out; omega, by have a0 := HB.out; omega, HP3_4.out⟩
      case measure => exact qK hlt (by have := HL.out; omega)
    · have e : i = ms.length := by omega
      subst e
      go_wp2_with fail
      go_ret
      exact ⟨kk, rfl, h1, h2, hM⟩
end Go.Proofs.YtfpeplbmfbepcaaGreat

namespace Go.Proofs.YtfpeplbmfbepcaaGreat
open Go.RowKit
structure jH (lo hi : Nat) (w : World) (bo : Nat) (ms : List Gr) : Prop where
  low : lo <= bo
  high : bo < hi
  rows : ∃ C, w.heap[bo]? = some (.cells C 132) /\ C.size = ms.length * 7 /\ ∀ i (h : i < ms.length), (∀ j, j < 7 -> j ≠ 3 -> zaP C (i * 7 + j)) /\ (∃ bk cap, zaF lo hi w bk ms[i].r.vs.length /\ C[i * 7 + 3]? = some (.slice (some ⟨bk, 0, none⟩) ms[i].r.vs.length cap))
theorem jH.mono {lo hi : Nat} {w w' : World} {b : Nat} {ms : List Gr} (h : jH lo hi w b ms) (hM : Marked lo hi w w') : jH lo hi w' b ms := by
  obtain ⟨C, hC, hs, hn⟩ := h.rows
  obtain ⟨C', hC', hs', hk⟩ := hM.inn b C _ h.low h.high hC
  refine ⟨h.low, h.high, C', hC', by omega, fun i hi => ?_⟩
  obtain ⟨h0, ⟨bk3, cap3, f3, g3⟩⟩ := hn i hi
  exact ⟨fun j hj n3 a m c he => h0 j hj n3 a m c ((hk _ a m c).1 he), bk3, cap3, f3.mono hM, (hk _ _ _ _).2 g3⟩
theorem zjo (ws : List Int) (j : Nat) : zaP (zaY ws) j := by
  intro a n c h
  simp [zaY] at h
theorem jE.form {lo : Nat} {w : World} {bo : Nat} {ms : List Gr} (h : jE lo w bo ms ms.length) : jH lo w.heap.size w bo ms := by
  obtain ⟨C, hC, hsz, hr⟩ := h.rows
  refine ⟨h.low, (Array.getElem?_eq_some_iff.1 hC).1, C, hC, hsz, fun i hi => ?_⟩
  obtain ⟨g0, hl0, hn0, hg0, hc⟩ := hr i hi hi
  refine ⟨fun j hj n3 a n c he => ?_, g0, _, ⟨hl0, (Array.getElem?_eq_some_iff.1 hg0).1, _, hg0, by simp [zaY], fun j _ => zjo _ j⟩, hc 3 (by omega)⟩
  rw [hc j hj] at he
  rcases j with _ | _ | _ | _ | _ | _ | _ | j <;> first | omega | (simp [Gr.cells] at he)
theorem jH.ready {lo hi bo : Nat} {w W : World} {ms : List Gr} (h : jH lo hi w bo ms) (hM : Marked lo hi w W) (i : Nat) (hi' : i < ms.length) :
    (∀ j, j < 7 -> ∃ v, W.cell? ⟨bo, i * 7 + j, none⟩ = some v) /\ (∀ o, W.frozen? ⟨bo, o, none⟩ = false) := by
  have h' := h.mono hM
  obtain ⟨C, hC, hs, hn⟩ := h'.rows
  exact ⟨fun j hj => ⟨C[i * 7 + j]'(by omega), by rw [cell_of_block hC]; exact Array.getElem?_eq_getElem (by omega)⟩, fun o => zh hC⟩
theorem jH.put {lo hi bo : Nat} {w W : World} {ms : List Gr} (h : jH lo hi w bo ms) (hM : Marked lo hi w W) (i j : Nat) (hi' : i < ms.length) (hj : j < 7) (n3 : j ≠ 3) (v : Value) (hv : ∀ a n c, v ≠ Value.slice a n c) : Marked lo hi w (W.setCell ⟨bo, i * 7 + j, none⟩ v) := by
  obtain ⟨C, hC, hs, hn⟩ := h.rows
  exact hM.put h.low h.high hC ((hn i hi').1 j hj n3) v hv
theorem jH.zpk {lo hi bo : Nat} {w : World} {ms : List Gr} (h : jH lo hi w bo ms) (i : Nat) (hi' : i < ms.length) :
    ∃ bk cap, zaF lo hi w bk ms[i].r.vs.length /\ ∀ W, Marked lo hi w W -> W.cell? ⟨bo, i * 7 + 3, none⟩ = some (.slice (some ⟨bk, 0, none⟩) ms[i].r.vs.length cap) := by
  obtain ⟨C, hC, hs, hn⟩ := h.rows
  obtain ⟨bk, cap, h1, h2⟩ := (hn i hi').2
  refine ⟨bk, cap, h1, fun W hM => ?_⟩
  obtain ⟨C', hC', _, hk⟩ := hM.inn bo C _ h.low h.high hC
  rw [cell_of_block hC']
  exact (hk _ _ _ _).2 h2
set_option maxRecDepth 20000 in
set_option maxHeartbeats 8000000 in
theorem ze7 (lo hi bo cap : Nat) (ms : List Gr) (k : Int) (w : World) (h : jH lo hi w bo ms) (hl : ms.length <= 1048576) (hls : ∀ i (h : i < ms.length), ms[i].r.vs.length <= 1048576) (hk : 0 < k) (hk2 : k < 5000000000000000000) :
    Calls Tryz.prog 48 #[.slice (some ⟨bo, 0, none⟩) ms.length cap, .int .i64 k] w fun e w' => ∃ k', e = .returned (.int .i64 k') /\ k <= k' /\ k' <= k + ms.length * 1048583 /\ Marked lo hi w w' := by
  have HF : Hid (jH lo hi w bo ms) := h
  have HL : Hid (ms.length <= 1048576 /\ ∀ i (h : i < ms.length), ms[i].r.vs.length <= 1048576) := ⟨hl, hls⟩
  have HK : Hid (0 < k /\ k < 5000000000000000000) := ⟨hk, hk2⟩
  clear h hl hk hk2 hls
  go_enter Tryz.func48, Tryz.ntmps48
  go_wp2_with fail
  go_loopw [1, 5] (fun kv iv wr => ∃ (i : Nat) (kk : Int), i <= ms.length /\ kv = .int .i64 kk /\ iv = .int .i64 i /\ k <= kk /\ kk <= k + i * 1048583 /\ Marked lo hi w wr) (fun _ iv _ => ms.length - (intOf iv).toNat)
  case atStart => exact ⟨0, k, Nat.zero_le _, rfl, rfl, Int.le_refl _, by simp, Marked.refl _ _ _⟩
  case round =>
    obtain ⟨i, kk, hile, rfl, rfl, h1, h2, hM⟩ := hrel
    by_cases hlt : i < ms.length
    · have hltI : (i : Int) < (ms.length : Int) := by omega
      have HB : Hid (0 < kk /\ kk < 7000000000000000000 /\ kk <= k + i * 1048583 /\ k <= kk) := by have a := HK.out; have b := HL.out.1; exact ⟨by omega, by omega, h2, h1⟩
      have HM : Hid (Marked lo hi w wr) := hM
      clear h1 h2 hM
      obtain ⟨bk3, bc3, hT, hsl⟩ := HF.out.zpk i hlt
      have HT3 : Hid (zaF lo hi w bk3 ms[i].r.vs.length /\ ∀ W, Marked lo hi w W -> W.cell? ⟨bo, i * 7 + 3, none⟩ = some (.slice (some ⟨bk3, 0, none⟩) ms[i].r.vs.length bc3)) := ⟨hT, hsl⟩
      clear hT hsl
      obtain ⟨hex, hfz1⟩ := HF.out.ready (HM.out) i hlt
      obtain ⟨v1, hv1⟩ := hex 0 (by omega)
      rw [Nat.add_zero] at hv1
      clear hex
      have HP0_0 : Hid (Marked lo hi w (wr.setCell ⟨bo, i * 7, none⟩ (.int .i64 (kk)))) := HF.out.put (HM.out) i 0 hlt (by omega) (by omega) (.int .i64 (kk)) (fun _ _ _ h => by cases h)
      have hw1 : wrap64 (kk + 1) = kk + 1 := z8 _ ⟨by have a0 := HB.out; omega, by have a0 := HB.out; omega⟩
      go_wp2_with fail
      clear hfz1 hv1
      refine (zI _ _ (by have a0 := HB.out; omega) (by have a0 := HB.out; omega)).mono ?_
      rintro e wm1 ⟨s1, rfl, hb⟩
      have HM1 : Hid (Marked lo hi w wm1) := (HP0_0.out).trans (Marked.of_below hb)
      clear hb
      obtain ⟨hex, hfz2⟩ := HF.out.ready (HM1.out) i hlt
      obtain ⟨v2, hv2⟩ := hex 1 (by omega)
      clear hex
      have HP1_1 : Hid (Marked lo hi w (wm1.setCell ⟨bo, i * 7 + 1, none⟩ (.string s1))) := HF.out.put (HM1.out) i 1 hlt (by omega) (by omega) (.string s1) (fun _ _ _ h => by cases h)
      have hw2 : wrap64 (kk + 1 + 1) = kk + 1 + 1 := z8 _ ⟨by have a0 := HB.out; omega, by have a0 := HB.out; omega⟩
      go_wp2_with fail
      clear hfz2 hv2
      refine (zI _ _ (by have a0 := HB.out; omega) (by have a0 := HB.out; omega)).mono ?_
      rintro e wm2 ⟨s2, rfl, hb⟩
      have HM2 : Hid (Marked lo hi w wm2) := (HP1_1.out).trans (Marked.of_below hb)
      clear hb
      obtain ⟨hex, hfz3⟩ := HF.out.ready (HM2.out) i hlt
      obtain ⟨v3, hv3⟩ := hex 2 (by omega)
      clear hex
      have HP2_2 : Hid (Marked lo hi w (wm2.setCell ⟨bo, i * 7 + 2, none⟩ (.string s2))) := HF.out.put (HM2.out) i 2 hlt (by omega) (by omega) (.string s2) (fun _ _ _ h => by cases h)
      have hw3 : wrap64 (kk + 1 + 1 + 1) = kk + 1 + 1 + 1 := z8 _ ⟨by have a0 := HB.out; omega, by have a0 := HB.out; omega⟩
      have hsl3 := HT3.out.2 _ (HP2_2.out)
      go_wp2_with fail
      clear hfz3 hv3 hsl3
      refine (zjs lo hi bk3 _ bc3 _ _ (HT3.out.1.mono (HP2_2.out)) ((HL.out.2 i hlt)) (by have a0 := HB.out; omega) (by have a0 := HB.out; omega)).mono ?_
      rintro e wm3 ⟨k3, rfl, hke, hMn⟩
      have HM3 : Hid (Marked lo hi w wm3) := (HP2_2.out).trans hMn
      have HK3 : Hid (k3 = kk + 1 + 1 + 1 + ms[i].r.vs.length /\ ms[i].r.vs.length <= 1048576) := ⟨by omega, (HL.out.2 i hlt)⟩
      clear hMn hke
      go_wp2_with fail
      refine (zI _ _ (by have a0 := HB.out; have a1 := HK3.out; omega) (by have a0 := HB.out; have a1 := HK3.out; omega)).mono ?_
      rintro e wm4 ⟨s4, rfl, hb⟩
      have HM4 : Hid (Marked lo hi w wm4) := (HM3.out).trans (Marked.of_below hb)
      clear hb
      obtain ⟨hex, hfz4⟩ := HF.out.ready (HM4.out) i hlt
      obtain ⟨v4, hv4⟩ := hex 4 (by omega)
      clear hex
      have HP4_4 : Hid (Marked lo hi w (wm4.setCell ⟨bo, i * 7 + 4, none⟩ (.string s4))) := HF.out.put (HM4.out) i 4 hlt (by omega) (by omega) (.string s4) (fun _ _ _ h => by cases h)
      have hw4 : wrap64 (k3 + 1) = k3 + 1 := z8 _ ⟨by have a0 := HB.out; have a1 := HK3.out; omega, by have a0 := HB.out; have a1 := HK3.out; omega⟩
      go_wp2_with fail
      clear hfz4 hv4
      refine (zI _ _ (by have a0 := HB.out; have a1 := HK3.out; omega) (by have a0 := HB.out; have a1 := HK3.out; omega)).mono ?_
      rintro e wm5 ⟨s5, rfl, hb⟩
      have HM5 : Hid (Marked lo hi w wm5) := (HP4_4.out).trans (Marked.of_below hb)
      clear hb
      obtain ⟨hex, hfz5⟩ := HF.out.ready (HM5.out) i hlt
      obtain ⟨v5, hv5⟩ := hex 5 (by omega)
      clear hex
      have HP5_5 : Hid (Marked lo hi w (wm5.setCell ⟨bo, i * 7 + 5, none⟩ (.string s5))) := HF.out.put (HM5.out) i 5 hlt (by omega) (by omega) (.string s5) (fun _ _ _ h => by cases h)
      have hw5 : wrap64 (k3 + 1 + 1) = k3 + 1 + 1 := z8 _ ⟨by have a0 := HB.out; have a1 := HK3.out; omega, by have a0 := HB.out; have a1 := HK3.out; omega⟩
      go_wp2_with fail
      clear hfz5 hv5
      refine (zI _ _ (by have a0 := HB.out; have a1 := HK3.out; omega) (by have a0 := HB.out; have a1 := HK3.out; omega)).mono ?_
      rintro e wm6 ⟨s6, rfl, hb⟩
      have HM6 : Hid (Marked lo hi w wm6) := (HP5_5.out).trans (Marked.of_below hb)
      clear hb
      obtain ⟨hex, hfz6⟩ := HF.out.ready (HM6.out) i hlt
      obtain ⟨v6, hv6⟩ := hex 6 (by omega)
      clear hex
      have HP6_6 : Hid (Marked lo hi w (wm6.setCell ⟨bo, i * 7 + 6, none⟩ (.string s6))) := HF.out.put (HM6.out) i 6 hlt (by omega) (by omega) (.string s6) (fun _ _ _ h => by cases h)
      have hw6 : wrap64 (k3 + 1 + 1 + 1) = k3 + 1 + 1 + 1 := z8 _ ⟨by have a0 := HB.out; have a1 := HK3.out; omega, by have a0 := HB.out; have a1 := HK3.out; omega⟩
      go_wp2_with fail
      go_roundw
      case rel => exact ⟨i + 1, k3 + 1 + 1 + 1, by omega, by first | rfl | rw [hw6], by rw [wrap_one (by have := HL.out.1; omega)], by have a0 := HB.out; have a1 := HK3.out; omega, by have a0 := HB.out; have a1 := HK3.out; omega, HP6_6.out⟩
      case measure => exact qK hlt (by have := HL.out.1; omega)
    · have e : i = ms.length := by omega
      subst e
      go_wp2_with fail
      go_ret
      exact ⟨kk, rfl, h1, h2, hM⟩
end Go.Proofs.YtfpeplbmfbepcaaGreat
