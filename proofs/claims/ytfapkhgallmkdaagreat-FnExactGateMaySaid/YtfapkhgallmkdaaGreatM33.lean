import Derived.Test.YtfapkhgallmkdaaGreatM31
import Derived.Test.YtfapkhgallmkdaaGreatM04
import Derived.Deep.Cut
namespace Go.Proofs.YtfapkhgallmkdaaGreat
open Go.RowKit
set_option maxHeartbeats 4000000 in
theorem zeg (a0 : Option Addr) (cap0 : Nat) (ss : List Shp) (nm : ByteArray) (kd ls ms : Int) (a : Option Addr) (cap : Nat) (ws : List ByteArray) (to : ByteArray) (rl : Int) (mu fx : Bool) (df wg : ByteArray) (w : World) (hnm : nm.size <= maxLen) (hdf : df.size <= maxLen) (hwg : wg.size <= maxLen) (hws : zC w a ws) (hss : yH w a0 ss) :
    Calls Tryz.prog 161 #[.slice a0 ss.length cap0, .agg #[.string nm, .int .i64 kd, .int .i64 ls, .int .i64 ms, .slice a ws.length cap, .string to, .int .i64 rl, .bool mu, .bool fx, .string df, .string wg]] w
      fun e w' => e = .returned (.bool (Gate.zy nm && Gate.jY ss ⟨nm, kd, ls, ms, ws, to, rl, mu, fx, df, wg⟩)) /\ Below w.heap.size w w' := by
  obtain ⟨so, hso⟩ : ∃ so, so = Gate.yY ss ⟨nm, kd, ls, ms, ws, to, rl, mu, fx, df, wg⟩ := ⟨_, rfl⟩
  obtain ⟨res, hres⟩ : ∃ res, res = (Gate.zy nm && Gate.jY ss ⟨nm, kd, ls, ms, ws, to, rl, mu, fx, df, wg⟩) := ⟨_, rfl⟩
  have HO : Hid (res = (Gate.zy nm && (Gate.qP kd ls ms ws.length to rl wg && so && (df.toList.isEmpty || Gate.fits kd ls ms ws df)))) := by rw [Hid, hres, hso]; rfl
  have HSo := hid hso
  have HH := j4 hws hss
  have HBr : Hid (∀ W, Calls Tryz.prog 197 #[.agg #[.string nm, .int .i64 kd, .int .i64 ls, .int .i64 ms, .slice a ws.length cap, .string to, .int .i64 rl, .bool mu, .bool fx, .string df, .string wg]] W fun e w' => ∃ bb, e = .returned (.bool bb) /\ (so = true -> bb = Gate.qP kd ls ms ws.length to rl wg) /\ Below W.heap.size W w') := fun W => by
    by_cases h1 : kd = 1
    · subst h1; exact (zl9 _ _ _ _ _ _ _ _ _ _ _ _ _).mono fun _ _ h => ⟨_, h.1, fun _ => rfl, h.2⟩
    by_cases h2 : kd = 2
    · subst h2; exact (zmP _ _ _ _ _ _ _ _ _ _ _ _ _).mono fun _ _ h => ⟨_, h.1, fun _ => rfl, h.2⟩
    by_cases h3 : kd = 3
    · subst h3; exact (zmd _ _ _ _ _ _ _ _ _ _ _ _ _).mono fun _ _ h => ⟨_, h.1, fun _ => rfl, h.2⟩
    by_cases h4 : kd = 4
    · subst h4; exact (zma _ _ _ _ _ _ _ _ _ _ _ _ _).mono fun _ _ h => ⟨_, h.1, fun _ => rfl, h.2⟩
    refine (zhl _ _ _ _ _ _ _ _ _ _ _ _ _ _ h1 h2 h3 h4).mono fun _ _ h => ?_
    obtain ⟨bb, he, hb⟩ := h
    exact ⟨bb, he, fun h => by rw [hso] at h; simp [Gate.yY, h1, h2, h3, h4] at h, hb⟩
  have hl := hws.len
  unfold maxLen at hl
  have hba := (Below.refl w.heap.size w).alloc (Nat.le_refl _) (.cells #[.string nm, .int .i64 kd, .int .i64 ls, .int .i64 ms, .slice a ws.length cap, .string to, .int .i64 rl, .bool mu, .bool fx, .string df, .string wg] 158)
  have kX := zG w #[.string nm, .int .i64 kd, .int .i64 ls, .int .i64 ms, .slice a ws.length cap, .string to, .int .i64 rl, .bool mu, .bool fx, .string df, .string wg] 158
  rw [<- hres]
  clear hws hss hso hres
  go_enter Tryz.func161, Tryz.ntmps161
  go_upto_region 1 with fail
  obtain ⟨W0, hW0⟩ : ∃ W0, W0 = w.alloc (.cells #[.string nm, .int .i64 kd, .int .i64 ls, .int .i64 ms, .slice a ws.length cap, .string to, .int .i64 rl, .bool mu, .bool fx, .string df, .string wg] 158) := ⟨_, rfl⟩
  have hz0 : w.heap.size < W0.heap.size := by rw [hW0]; simp
  rw [<- hW0] at hba kX ⊢
  clear hW0
  have HS : Hid (∀ W, Below W0.heap.size W0 W -> (∀ j, W.cell? ⟨w.heap.size, j, none⟩ = (#[.string nm, .int .i64 kd, .int .i64 ls, .int .i64 ms, .slice a ws.length cap, .string to, .int .i64 rl, .bool mu, .bool fx, .string df, .string wg] : Array Value)[j]?) /\ w.heap.size < W.heap.size /\ Below w.heap.size w W) := fun W hW => ⟨za kX hz0 hW, Nat.lt_of_lt_of_le hz0 hW.size, hba.trans (hW.mono hba.size)⟩
  clear hba kX
  refine zmN (fun A A' w' => ∃ u5 u6 u7 u8 u9 u10 u11 u12 u13 u14 u15 u16 u17 u18 u19 u20 u21 u22 u23 u24 t, A' = (((((((((((((((((((((A.put (some 5) u5).put (some 6) u6).put (some 7) u7).put (some 8) u8).put (some 9) u9).put (some 10) u10).put (some 11) u11).put (some 12) u12).put (some 13) u13).put (some 14) u14).put (some 15) u15).put (some 16) u16).put (some 17) u17).put (some 18) u18).put (some 19) u19).put (some 20) u20).put (some 21) u21).put (some 22) u22).put (some 23) u23).put (some 24) u24).put (some 25) (.bool t)) /\ Hid (res = (!t && so) /\ Below W0.heap.size W0 w')) ?_ ?_
  · have cX := (HS.out W0 (Below.refl _ _)).1
    go_wp2_with fail
    refine (zR _ _ hnm).mono ?_
    rintro e w1 ⟨rfl, rfl⟩
    cases hn : Gate.zy nm with
    | false =>
      have HR : Hid (res = (!true && so)) := by rw [Hid, HO.out, hn]; rfl
      go_wp2_with fail
      exact ⟨HR.out, Below.refl _ _⟩
    | true =>
      go_wp2_with fail
      refine (HBr.out _).mono ?_
      rintro e w2 ⟨bb, rfl, hbb, hb2⟩
      have HB2 := j4 hbb hb2
      clear hbb hb2 cX
      obtain ⟨cX, hz2, hB2⟩ := HS.out w2 HB2.out.2
      cases bb with
      | false =>
        have HR : Hid (res = (!true && so)) := by
          rw [Hid, HO.out, hn]
          cases so with
          | false => simp
          | true => rw [<- HB2.out.1 rfl]; rfl
        go_wp2_with fail
        exact ⟨HR.out, HB2.out.2⟩
      | true =>
        have HE : Hid (res = (so && (df.toList.isEmpty || Gate.fits kd ls ms ws df))) := by
          rw [Hid, HO.out, hn]
          cases so with
          | false => simp
          | true => rw [<- HB2.out.1 rfl]; rfl
        cases hd : df.toList.isEmpty with
        | true =>
          have HR : Hid (res = (!false && so)) := by rw [Hid, HE.out, hd]; simp
          go_wp2_with fail
          exact ⟨HR.out, HB2.out.2⟩
        | false =>
          go_wp2_with fail
          refine (zc4 _ _ _ _ _ _ _ _ _ _ _ _ _ _ _ hdf (HH.out.1.mono hB2)).mono ?_
          rintro e w3 ⟨rfl, hb3⟩
          have HB3 := hid (HB2.out.2.trans (hb3.mono HB2.out.2.size))
          have HR : Hid (res = (!(!(Gate.fits kd ls ms ws df)) && so)) := by rw [Hid, HE.out, hd]; simp [Bool.and_comm]
          clear hb3 cX
          cases hf : Gate.fits kd ls ms ws df with
          | true =>
            rw [hf] at HR
            go_wp2_with fail
            exact ⟨HR.out, HB3.out⟩
          | false =>
            rw [hf] at HR
            go_wp2_with fail
            exact ⟨HR.out, HB3.out⟩
  rintro A' w3 ⟨u5, u6, u7, u8, u9, u10, u11, u12, u13, u14, u15, u16, u17, u18, u19, u20, u21, u22, u23, u24, t, rfl, H3⟩
  obtain ⟨cX, hz3, hB3⟩ := HS.out w3 H3.out.2
  (try simp only [Act.put, sA, s0, sS])
  cases t with
  | true =>
    go_wp2_with fail
    go_ret
    exact ⟨ze (by rw [H3.out.1]; rfl), hB3⟩
  | false =>
  have HR : Hid (res = so) := by rw [Hid, H3.out.1]; simp
  have HB3 := hid hB3
  by_cases h1 : kd = 1
  · have e1 : (kd == 1) = true := by simp [h1]
    have HE : Hid (so = (Gate.jk ls ms 0 1000000 && (wg.toList.isEmpty || Gate.zy wg))) := by rw [Hid, HSo.out]; simp [Gate.yY, h1]
    clear h1
    go_wp2_with (go_at_call 86; refine (zR _ _ hwg).mono ?_; rintro e w5 ⟨rfl, rfl⟩)
    all_goals
      go_ret
      refine ⟨ze ?_, HB3.out⟩
      rw [HR.out, HE.out]
      clear HS HBr cX
      simp_all [Gate.jk]
      try omega
  have e1 : (kd == 1) = false := by simp [h1]
  by_cases h2 : kd = 2
  · have e2 : (kd == 2) = true := by simp [h2]
    have HE : Hid (so = (decide (1 <= ws.length) && decide (ws.length <= 6) && Gate.asc ws)) := by rw [Hid, HSo.out]; simp [Gate.yY, h2]
    clear h1 h2
    go_wp2_with fail
    by_cases h16 : 1 <= ws.length /\ ws.length <= 6
    · refine (zb2 _ _ _ _ (by omega) (by omega)).mono ?_
      rintro e w5 ⟨rfl, rfl⟩
      go_wp2_with fail
      refine (zdk _ _ _ _ (HH.out.1.mono HB3.out)).mono ?_
      rintro e w6 ⟨rfl, nd, rfl⟩
      go_wp2_with fail
      go_ret
      exact ⟨ze (by rw [HR.out, HE.out, decide_eq_true h16.1, decide_eq_true h16.2]; rfl), below_drewN HB3.out _⟩
    · refine (zdZ _ _ _ _ (by omega)).mono ?_
      rintro e w5 ⟨rfl, rfl⟩
      have HN : Hid ((decide (1 <= ws.length) && decide (ws.length <= 6)) = false) := by rw [Hid, Bool.eq_false_iff]; simp; omega
      go_wp2_with fail
      go_ret
      exact ⟨ze (by rw [HR.out, HE.out, HN.out]; rfl), HB3.out⟩
  have e2 : (kd == 2) = false := by simp [h2]
  by_cases h3 : kd = 3
  · have e3 : (kd == 3) = true := by simp [h3]
    have HE : Hid (so = Gate.jk ls ms 1 40) := by rw [Hid, HSo.out]; simp [Gate.yY, h3]
    clear h1 h2 h3
    go_wp2_with fail
    all_goals
      go_ret
      refine ⟨ze ?_, HB3.out⟩
      rw [HR.out, HE.out]
      clear HS HBr cX
      simp_all [Gate.jk]
      try omega
  have e3 : (kd == 3) = false := by simp [h3]
  by_cases h4 : kd = 4
  · have e4 : (kd == 4) = true := by simp [h4]
    have HE : Hid (so = (Gate.zF ss to && (decide (1 <= rl) && decide (rl <= 3)) && df.toList.isEmpty && (decide (rl ≠ 2) || !mu))) := by rw [Hid, HSo.out]; simp [Gate.yY, h4]
    clear h1 h2 h3 h4
    go_wp2_with fail
    cases hk : Gate.zF ss to with
    | false =>
      refine (zes _ _ _ _ _ (HH.out.2.mono HB3.out) hk).mono ?_
      rintro e w5 ⟨rfl, rfl⟩
      go_wp2_with fail
      go_ret
      exact ⟨ze (by rw [HR.out, HE.out, hk]; rfl), HB3.out⟩
    | true =>
      refine (zaP _ _ _ _ _ (HH.out.2.mono HB3.out) hk).mono ?_
      rintro e w5 ⟨ix, hix, rfl, _, rfl⟩
      have hix0 : (0 : Int) <= (ix : Int) := by omega
      go_wp2_with fail
      by_cases h13 : 1 <= rl /\ rl <= 3
      · have HT : Hid ((decide (1 <= rl) && decide (rl <= 3)) = true) := by unfold Hid; simp; omega
        refine (zb2 _ _ _ _ h13.1 h13.2).mono ?_
        rintro e w6 ⟨rfl, rfl⟩
        cases hd : df.toList.isEmpty with
        | false =>
          go_wp2_with fail
          go_ret
          exact ⟨ze (by rw [HR.out, HE.out, hd]; simp), HB3.out⟩
        | true =>
          cases e5 : (rl != 2) with
          | false =>
            have HN : Hid (decide (rl ≠ 2) = false) := by rw [Hid]; simpa using e5
            go_wp2_with fail
            go_ret
            exact ⟨ze (by rw [HR.out, HE.out, hk, HT.out, hd, HN.out]; simp), HB3.out⟩
          | true =>
            have HN : Hid (decide (rl ≠ 2) = true) := by rw [Hid]; simpa using e5
            go_wp2_with fail
            go_ret
            exact ⟨ze (by rw [HR.out, HE.out, hk, HT.out, hd, HN.out]; simp), HB3.out⟩
      · refine (zdZ _ _ _ _ h13).mono ?_
        rintro e w6 ⟨rfl, rfl⟩
        have HT : Hid ((decide (1 <= rl) && decide (rl <= 3)) = false) := by unfold Hid; rw [Bool.eq_false_iff]; simp; omega
        go_wp2_with fail
        go_ret
        exact ⟨ze (by rw [HR.out, HE.out, HT.out]; simp), HB3.out⟩
  have e4 : (kd == 4) = false := by simp [h4]
  have HE : Hid (so = false) := by rw [Hid, HSo.out]; simp [Gate.yY, h1, h2, h3, h4]
  go_wp2_with fail
  go_ret
  exact ⟨ze (by rw [HR.out, HE.out]), HB3.out⟩
end Go.Proofs.YtfapkhgallmkdaaGreat
