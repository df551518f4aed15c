import Derived.Test.YtpmlngcljbkchaaGreatM26
import Derived.Test.YtpmlngcljbkchaaGreatM13
import Derived.Test.YtpmlngcljbkchaaGreatM09
import Derived.Test.YtpmlngcljbkchaaGreatM19
import Derived.Test.YtpmlngcljbkchaaGreatM18
import Derived.Test.YtpmlngcljbkchaaGreatM04
namespace Go.Proofs.YtpmlngcljbkchaaGreat
open Go.RowKit

theorem l1Ascending_below (a : Option Addr) (cap : Nat) (ws : List ByteArray) (w : World) (hw : StrsAt w a ws) :
    Calls Tryz.prog 43 #[.slice a ws.length cap] w fun e w' => e = .returned (.bool (Gate.asc ws)) ∧ Below w.heap.size w w' := by
  refine (l1Ascending_any a cap ws w hw).mono ?_
  rintro e w' ⟨rfl, n, rfl⟩
  exact ⟨rfl, below_drewN (Below.refl _ _) n⟩

set_option maxHeartbeats 2000000 in
theorem l8Ask_name (l : Lw) (la lb lc : Option Addr) (lca lcb lcc : Nat) (who : ByteArray) (vb : Int) (kd nm tm : ByteArray) (vs hs : List ByteArray) (sn : Int) (hd to : ByteArray) (r : Rl) (no : Int) (a0 a1 a2 : Option Addr) (c0 c1 c2 : Nat) (w : World) (hl : LwAt w l la lb lc) (hx : AkAt w (⟨who, vb, kd, nm, tm, vs, hs, sn, hd, to, r, no⟩ : Ak) a0 a1 a2) (hn : Gate.nameOk who = false) :
    Calls Tryz.prog 18 #[.agg (l.cells la lb lc lca lcb lcc), .agg ((⟨who, vb, kd, nm, tm, vs, hs, sn, hd, to, r, no⟩ : Ak).cells a0 a1 a2 c0 c1 c2)] w fun e w' => e = .returned (.bool false) ∧ Below w.heap.size w w' := by
  have HL : Hid (LwAt w l la lb lc) := hl
  have HX : Hid (AkAt w (⟨who, vb, kd, nm, tm, vs, hs, sn, hd, to, r, no⟩ : Ak) a0 a1 a2) := hx
  clear hl hx
  have HN : Hid (Gate.nameOk who = false) := hn
  clear hn
  unfold Ak.cells Lw.cells
  dsimp only
  go_enter Tryz.func18, Tryz.ntmps18
  go_wp2_with fail
  obtain ⟨W0, hW0, hX0, hY0, hz0, hB0⟩ := pair_boxes w #[.slice la l.ss.length lca, .slice lb l.ms.length lcb, .slice lc l.ts.length lcc] #[.string who, .int .i64 vb, .string kd, .string nm, .string tm, .slice a0 vs.length c0, .slice a1 hs.length c1, .int .i64 sn, .string hd, .string to, .slice a2 r.vs.length c2, .string r.kd, .string r.tm, .string r.px, .int .i64 no] 40 44
  rw [← hW0]
  clear hW0
  have hq0 := Nat.lt_of_succ_lt hz0
  refine (as_bool HN.out (l1NameOk_any who _ HX.out.small.who)).mono ?_
  rintro e w1 ⟨rfl, rfl⟩
  go_wp2_with fail
  go_ret
  exact ⟨rfl, hB0⟩

set_option maxHeartbeats 2000000 in
theorem l8Ask_verb (l : Lw) (la lb lc : Option Addr) (lca lcb lcc : Nat) (who : ByteArray) (vb : Int) (kd nm tm : ByteArray) (vs hs : List ByteArray) (sn : Int) (hd to : ByteArray) (r : Rl) (no : Int) (a0 a1 a2 : Option Addr) (c0 c1 c2 : Nat) (w : World) (hl : LwAt w l la lb lc) (hx : AkAt w (⟨who, vb, kd, nm, tm, vs, hs, sn, hd, to, r, no⟩ : Ak) a0 a1 a2) (hn : Gate.nameOk who = true) (hv : Gate.within vb 1 6 = false) :
    Calls Tryz.prog 18 #[.agg (l.cells la lb lc lca lcb lcc), .agg ((⟨who, vb, kd, nm, tm, vs, hs, sn, hd, to, r, no⟩ : Ak).cells a0 a1 a2 c0 c1 c2)] w fun e w' => e = .returned (.bool false) ∧ Below w.heap.size w w' := by
  have HL : Hid (LwAt w l la lb lc) := hl
  have HX : Hid (AkAt w (⟨who, vb, kd, nm, tm, vs, hs, sn, hd, to, r, no⟩ : Ak) a0 a1 a2) := hx
  clear hl hx
  have HN : Hid (Gate.nameOk who = true) := hn
  have HV : Hid (Gate.within vb 1 6 = false) := hv
  clear hn hv
  unfold Ak.cells Lw.cells
  dsimp only
  go_enter Tryz.func18, Tryz.ntmps18
  go_wp2_with fail
  obtain ⟨W0, hW0, hX0, hY0, hz0, hB0⟩ := pair_boxes w #[.slice la l.ss.length lca, .slice lb l.ms.length lcb, .slice lc l.ts.length lcc] #[.string who, .int .i64 vb, .string kd, .string nm, .string tm, .slice a0 vs.length c0, .slice a1 hs.length c1, .int .i64 sn, .string hd, .string to, .slice a2 r.vs.length c2, .string r.kd, .string r.tm, .string r.px, .int .i64 no] 40 44
  rw [← hW0]
  clear hW0
  have hq0 := Nat.lt_of_succ_lt hz0
  refine (as_bool HN.out (l1NameOk_any who _ HX.out.small.who)).mono ?_
  rintro e w1 ⟨rfl, rfl⟩
  go_wp2_with fail
  refine (as_bool HV.out (l1In_any vb 1 6 _)).mono ?_
  rintro e w1 ⟨rfl, rfl⟩
  go_wp2_with fail
  go_ret
  exact ⟨rfl, hB0⟩

set_option maxHeartbeats 2000000 in
theorem l8Ask_rest (l : Lw) (la lb lc : Option Addr) (lca lcb lcc : Nat) (who : ByteArray) (vb : Int) (kd nm tm : ByteArray) (vs hs : List ByteArray) (sn : Int) (hd to : ByteArray) (r : Rl) (no : Int) (a0 a1 a2 : Option Addr) (c0 c1 c2 : Nat) (w : World) (hl : LwAt w l la lb lc) (hx : AkAt w (⟨who, vb, kd, nm, tm, vs, hs, sn, hd, to, r, no⟩ : Ak) a0 a1 a2) (hn : Gate.nameOk who = true) (hv : Gate.within vb 1 6 = true) (hu : Gate.unused (Gate.restOf (⟨who, vb, kd, nm, tm, vs, hs, sn, hd, to, r, no⟩ : Ak)) = false) :
    Calls Tryz.prog 18 #[.agg (l.cells la lb lc lca lcb lcc), .agg ((⟨who, vb, kd, nm, tm, vs, hs, sn, hd, to, r, no⟩ : Ak).cells a0 a1 a2 c0 c1 c2)] w fun e w' => e = .returned (.bool false) ∧ Below w.heap.size w w' := by
  have HL : Hid (LwAt w l la lb lc) := hl
  have HX : Hid (AkAt w (⟨who, vb, kd, nm, tm, vs, hs, sn, hd, to, r, no⟩ : Ak) a0 a1 a2) := hx
  clear hl hx
  have HN : Hid (Gate.nameOk who = true) := hn
  have HV : Hid (Gate.within vb 1 6 = true) := hv
  have HU : Hid (Gate.unused (Gate.restOf (⟨who, vb, kd, nm, tm, vs, hs, sn, hd, to, r, no⟩ : Ak)) = false) := hu
  clear hn hv hu
  unfold Ak.cells Lw.cells
  dsimp only
  go_enter Tryz.func18, Tryz.ntmps18
  go_wp2_with fail
  obtain ⟨W0, hW0, hX0, hY0, hz0, hB0⟩ := pair_boxes w #[.slice la l.ss.length lca, .slice lb l.ms.length lcb, .slice lc l.ts.length lcc] #[.string who, .int .i64 vb, .string kd, .string nm, .string tm, .slice a0 vs.length c0, .slice a1 hs.length c1, .int .i64 sn, .string hd, .string to, .slice a2 r.vs.length c2, .string r.kd, .string r.tm, .string r.px, .int .i64 no] 40 44
  rw [← hW0]
  clear hW0
  have hq0 := Nat.lt_of_succ_lt hz0
  refine (as_bool HN.out (l1NameOk_any who _ HX.out.small.who)).mono ?_
  rintro e w1 ⟨rfl, rfl⟩
  go_wp2_with fail
  refine (as_bool HV.out (l1In_any vb 1 6 _)).mono ?_
  rintro e w1 ⟨rfl, rfl⟩
  go_wp2_with fail
  refine (l8Rest_any (⟨who, vb, kd, nm, tm, vs, hs, sn, hd, to, r, no⟩ : Ak) a0 a1 a2 c0 c1 c2 _ HV.out).mono ?_
  rintro e w2 ⟨y, b0, b1, b2, d0, d1, d2, rfl, hu, hb⟩
  have hX1 := box_later hX0 hq0 hb
  have hY1 := box_later hY0 hz0 hb
  have hz1 := Nat.lt_of_lt_of_le hz0 hb.size
  have hB1 := hB0.trans (hb.mono hB0.size)
  have HU0 : Hid (Gate.unused y = Gate.unused (Gate.restOf (⟨who, vb, kd, nm, tm, vs, hs, sn, hd, to, r, no⟩ : Ak))) := hu
  clear hb hX0 hY0 hz0 hB0 hq0 hu
  have hq1 := Nat.lt_of_succ_lt hz1
  go_wp2_with fail
  refine (as_bool (HU0.out.trans HU.out) (l8Nothing_any y b0 b1 b2 d0 d1 d2 _)).mono ?_
  rintro e w3 ⟨rfl, hb⟩
  have hX3 := box_later hX1 hq1 hb
  have hY3 := box_later hY1 hz1 hb
  have hz3 := Nat.lt_of_lt_of_le hz1 hb.size
  have hB3 := hB1.trans (hb.mono hB1.size)
  clear hb hX1 hY1 hz1 hB1 hq1 HU0
  have hq3 := Nat.lt_of_succ_lt hz3
  go_wp2_with fail
  go_ret
  exact ⟨rfl, hB3⟩

set_option maxRecDepth 20000 in
set_option maxHeartbeats 8000000 in
theorem l8Ask_1 (l : Lw) (la lb lc : Option Addr) (lca lcb lcc : Nat) (who : ByteArray) (kd nm tm : ByteArray) (vs hs : List ByteArray) (sn : Int) (hd to : ByteArray) (r : Rl) (no : Int) (a0 a1 a2 : Option Addr) (c0 c1 c2 : Nat) (w : World) (hl : LwAt w l la lb lc) (hx : AkAt w (⟨who, 1, kd, nm, tm, vs, hs, sn, hd, to, r, no⟩ : Ak) a0 a1 a2) (hn : Gate.nameOk who = true) (hu : Gate.unused (Gate.restOf (⟨who, 1, kd, nm, tm, vs, hs, sn, hd, to, r, no⟩ : Ak)) = true) :
    Calls Tryz.prog 18 #[.agg (l.cells la lb lc lca lcb lcc), .agg ((⟨who, 1, kd, nm, tm, vs, hs, sn, hd, to, r, no⟩ : Ak).cells a0 a1 a2 c0 c1 c2)] w fun e w' => e = .returned (.bool (Gate.useMake l (⟨who, 1, kd, nm, tm, vs, hs, sn, hd, to, r, no⟩ : Ak))) ∧ Below w.heap.size w w' := by
  have HL : Hid (LwAt w l la lb lc) := hl
  have HX : Hid (AkAt w (⟨who, 1, kd, nm, tm, vs, hs, sn, hd, to, r, no⟩ : Ak) a0 a1 a2) := hx
  clear hl hx
  have HN : Hid (Gate.nameOk who = true) := hn
  have HV : Hid (Gate.within 1 1 6 = true) := rfl
  have HU : Hid (Gate.unused (Gate.restOf (⟨who, 1, kd, nm, tm, vs, hs, sn, hd, to, r, no⟩ : Ak)) = true) := hu
  clear hn hu
  unfold Ak.cells Lw.cells
  dsimp only
  by_cases hk : Gate.hasKind l.ss kd = true
  rotate_left
  · have HK : Hid (Gate.hasKind l.ss kd = false) := Bool.eq_false_iff.2 hk
    clear hk
    go_enter Tryz.func18, Tryz.ntmps18
    go_wp2_with fail
    obtain ⟨W0, hW0, hX0, hY0, hz0, hB0⟩ := pair_boxes w #[.slice la l.ss.length lca, .slice lb l.ms.length lcb, .slice lc l.ts.length lcc] #[.string who, .int .i64 1, .string kd, .string nm, .string tm, .slice a0 vs.length c0, .slice a1 hs.length c1, .int .i64 sn, .string hd, .string to, .slice a2 r.vs.length c2, .string r.kd, .string r.tm, .string r.px, .int .i64 no] 40 44
    rw [← hW0]
    clear hW0
    have hq0 := Nat.lt_of_succ_lt hz0
    refine (as_bool HN.out (l1NameOk_any who _ HX.out.small.who)).mono ?_
    rintro e w1 ⟨rfl, rfl⟩
    go_wp2_with fail
    refine (as_bool HV.out (l1In_any 1 1 6 _)).mono ?_
    rintro e w1 ⟨rfl, rfl⟩
    go_wp2_with fail
    refine (l8Rest_any (⟨who, 1, kd, nm, tm, vs, hs, sn, hd, to, r, no⟩ : Ak) a0 a1 a2 c0 c1 c2 _ HV.out).mono ?_
    rintro e w2 ⟨y, b0, b1, b2, d0, d1, d2, rfl, hu, hb⟩
    have hX1 := box_later hX0 hq0 hb
    have hY1 := box_later hY0 hz0 hb
    have hz1 := Nat.lt_of_lt_of_le hz0 hb.size
    have hB1 := hB0.trans (hb.mono hB0.size)
    have HU0 : Hid (Gate.unused y = Gate.unused (Gate.restOf (⟨who, 1, kd, nm, tm, vs, hs, sn, hd, to, r, no⟩ : Ak))) := hu
    clear hb hX0 hY0 hz0 hB0 hq0 hu
    have hq1 := Nat.lt_of_succ_lt hz1
    go_wp2_with fail
    refine (as_bool (HU0.out.trans HU.out) (l8Nothing_any y b0 b1 b2 d0 d1 d2 _)).mono ?_
    rintro e w3 ⟨rfl, hb⟩
    have hX3 := box_later hX1 hq1 hb
    have hY3 := box_later hY1 hz1 hb
    have hz3 := Nat.lt_of_lt_of_le hz1 hb.size
    have hB3 := hB1.trans (hb.mono hB1.size)
    clear hb hX1 hY1 hz1 hB1 hq1 HU0
    have hq3 := Nat.lt_of_succ_lt hz3
    go_wp2_with fail
    refine (l1Shape_no _ _ l.ss kd _ (HL.out.ss.mono hB3) HK.out).mono ?_
    rintro e w4 ⟨rfl, rfl⟩
    go_wp2_with fail
    go_ret
    exact ⟨ret_bool (by unfold Gate.useMake Gate.keyOk; rw [HK.out]; rfl), hB3⟩
  have HK : Hid (Gate.hasKind l.ss kd = true) := hk
  clear hk
  by_cases hm : Gate.nameOk nm = true
  rotate_left
  · have HM : Hid (Gate.nameOk nm = false) := Bool.eq_false_iff.2 hm
    clear hm
    go_enter Tryz.func18, Tryz.ntmps18
    go_wp2_with fail
    obtain ⟨W0, hW0, hX0, hY0, hz0, hB0⟩ := pair_boxes w #[.slice la l.ss.length lca, .slice lb l.ms.length lcb, .slice lc l.ts.length lcc] #[.string who, .int .i64 1, .string kd, .string nm, .string tm, .slice a0 vs.length c0, .slice a1 hs.length c1, .int .i64 sn, .string hd, .string to, .slice a2 r.vs.length c2, .string r.kd, .string r.tm, .string r.px, .int .i64 no] 40 44
    rw [← hW0]
    clear hW0
    have hq0 := Nat.lt_of_succ_lt hz0
    refine (as_bool HN.out (l1NameOk_any who _ HX.out.small.who)).mono ?_
    rintro e w1 ⟨rfl, rfl⟩
    go_wp2_with fail
    refine (as_bool HV.out (l1In_any 1 1 6 _)).mono ?_
    rintro e w1 ⟨rfl, rfl⟩
    go_wp2_with fail
    refine (l8Rest_any (⟨who, 1, kd, nm, tm, vs, hs, sn, hd, to, r, no⟩ : Ak) a0 a1 a2 c0 c1 c2 _ HV.out).mono ?_
    rintro e w2 ⟨y, b0, b1, b2, d0, d1, d2, rfl, hu, hb⟩
    have hX1 := box_later hX0 hq0 hb
    have hY1 := box_later hY0 hz0 hb
    have hz1 := Nat.lt_of_lt_of_le hz0 hb.size
    have hB1 := hB0.trans (hb.mono hB0.size)
    have HU0 : Hid (Gate.unused y = Gate.unused (Gate.restOf (⟨who, 1, kd, nm, tm, vs, hs, sn, hd, to, r, no⟩ : Ak))) := hu
    clear hb hX0 hY0 hz0 hB0 hq0 hu
    have hq1 := Nat.lt_of_succ_lt hz1
    go_wp2_with fail
    refine (as_bool (HU0.out.trans HU.out) (l8Nothing_any y b0 b1 b2 d0 d1 d2 _)).mono ?_
    rintro e w3 ⟨rfl, hb⟩
    have hX3 := box_later hX1 hq1 hb
    have hY3 := box_later hY1 hz1 hb
    have hz3 := Nat.lt_of_lt_of_le hz1 hb.size
    have hB3 := hB1.trans (hb.mono hB1.size)
    clear hb hX1 hY1 hz1 hB1 hq1 HU0
    have hq3 := Nat.lt_of_succ_lt hz3
    go_wp2_with fail
    refine (l1Shape_yes _ _ l.ss kd _ (HL.out.ss.mono hB3) HK.out).mono ?_
    rintro e w4 ⟨k, hk, rfl, hsh, rfl⟩
    go_wp2_with fail
    refine (as_bool HM.out (l1NameOk_any nm _ HX.out.small.nm)).mono ?_
    rintro e w5 ⟨rfl, rfl⟩
    go_wp2_with fail
    go_ret
    exact ⟨ret_bool (by unfold Gate.useMake Gate.keyOk; rw [HK.out, HM.out]; rfl), hB3⟩
  have HM : Hid (Gate.nameOk nm = true) := hm
  clear hm
  have HF : Hid (Gate.keyOk l (⟨who, 1, kd, nm, tm, vs, hs, sn, hd, to, r, no⟩ : Ak) = true) := by unfold Hid Gate.keyOk; rw [HK.out, HM.out]; rfl
  go_enter Tryz.func18, Tryz.ntmps18
  go_wp2_with fail
  obtain ⟨W0, hW0, hX0, hY0, hz0, hB0⟩ := pair_boxes w #[.slice la l.ss.length lca, .slice lb l.ms.length lcb, .slice lc l.ts.length lcc] #[.string who, .int .i64 1, .string kd, .string nm, .string tm, .slice a0 vs.length c0, .slice a1 hs.length c1, .int .i64 sn, .string hd, .string to, .slice a2 r.vs.length c2, .string r.kd, .string r.tm, .string r.px, .int .i64 no] 40 44
  rw [← hW0]
  clear hW0
  have hq0 := Nat.lt_of_succ_lt hz0
  refine (as_bool HN.out (l1NameOk_any who _ HX.out.small.who)).mono ?_
  rintro e w1 ⟨rfl, rfl⟩
  go_wp2_with fail
  refine (as_bool HV.out (l1In_any 1 1 6 _)).mono ?_
  rintro e w1 ⟨rfl, rfl⟩
  go_wp2_with fail
  refine (l8Rest_any (⟨who, 1, kd, nm, tm, vs, hs, sn, hd, to, r, no⟩ : Ak) a0 a1 a2 c0 c1 c2 _ HV.out).mono ?_
  rintro e w2 ⟨y, b0, b1, b2, d0, d1, d2, rfl, hu, hb⟩
  have hX1 := box_later hX0 hq0 hb
  have hY1 := box_later hY0 hz0 hb
  have hz1 := Nat.lt_of_lt_of_le hz0 hb.size
  have hB1 := hB0.trans (hb.mono hB0.size)
  have HU0 : Hid (Gate.unused y = Gate.unused (Gate.restOf (⟨who, 1, kd, nm, tm, vs, hs, sn, hd, to, r, no⟩ : Ak))) := hu
  clear hb hX0 hY0 hz0 hB0 hq0 hu
  have hq1 := Nat.lt_of_succ_lt hz1
  go_wp2_with fail
  refine (as_bool (HU0.out.trans HU.out) (l8Nothing_any y b0 b1 b2 d0 d1 d2 _)).mono ?_
  rintro e w3 ⟨rfl, hb⟩
  have hX3 := box_later hX1 hq1 hb
  have hY3 := box_later hY1 hz1 hb
  have hz3 := Nat.lt_of_lt_of_le hz1 hb.size
  have hB3 := hB1.trans (hb.mono hB1.size)
  clear hb hX1 hY1 hz1 hB1 hq1 HU0
  have hq3 := Nat.lt_of_succ_lt hz3
  go_wp2_with fail
  refine (l1Shape_yes _ _ l.ss kd _ (HL.out.ss.mono hB3) HK.out).mono ?_
  rintro e w4 ⟨k, hk, rfl, hsh, rfl⟩
  go_wp2_with fail
  refine (as_bool HM.out (l1NameOk_any nm _ HX.out.small.nm)).mono ?_
  rintro e w5 ⟨rfl, rfl⟩
  go_wp2_with fail
  have HC : Hid (Gate.countOk l (⟨who, 1, kd, nm, tm, vs, hs, sn, hd, to, r, no⟩ : Ak) = decide (vs.length = l.ss[k].fs.length)) := by unfold Hid Gate.countOk; rw [hsh]
  obtain ⟨sb, so, hsa, hsb, hrw⟩ := HL.out.ss.rows (fun e => by rw [e] at hk; cases hk)
  obtain ⟨fa, fcap, hsi⟩ := hrw k hk
  subst hsa
  have e1 := (hB3.drew.cell (p := ⟨sb, so + k * 2 + 1, none⟩) hsb).trans hsi.list
  clear hrw hsi
  have hkI : (k : Int) < (l.ss.length : Int) := by omega
  have hX := box_later hX3 hq3 (Below.refl w5.heap.size w5).drew
  have hY := box_later hY3 hz3 (Below.refl w5.heap.size w5).drew
  have hz : w.heap.size + 1 < w5.drew.heap.size := hz3
  have hq : w.heap.size < w5.drew.heap.size := hq3
  have hB := hB3.drew
  have hsz : sb < w5.drew.heap.size := Nat.lt_of_lt_of_le hsb hB.size
  have hT0 := HL.out.ts.mono hB
  have hH0 := HX.out.hs.mono hB
  clear hX3 hY3 hz3 hq3 hB3 hsh
  refine wp_region_held_drew (S := fun w' => (∀ j, w'.cell? ⟨w.heap.size, j, none⟩ = (#[.slice (some ⟨sb, so, none⟩) l.ss.length lca, .slice lb l.ms.length lcb, .slice lc l.ts.length lcc] : Array Value)[j]?) ∧ (∀ j, w'.cell? ⟨w.heap.size + 1, j, none⟩ = (#[.string who, .int .i64 1, .string kd, .string nm, .string tm, .slice a0 vs.length c0, .slice a1 hs.length c1, .int .i64 sn, .string hd, .string to, .slice a2 r.vs.length c2, .string r.kd, .string r.tm, .string r.px, .int .i64 no] : Array Value)[j]?) ∧ w'.cell? ⟨sb, so + k * 2 + 1, none⟩ = some (.slice fa l.ss[k].fs.length fcap)) (by kernel_rfl) ⟨hX, hY, e1⟩ (fun hHeld => ?_)
  refine tH 0 rfl hHeld ?_; refine tH 1 rfl hHeld ?_; refine tH 2 rfl hHeld ?_; refine tH 3 rfl hHeld ?_; refine tH 4 rfl hHeld ?_; refine tH 5 rfl hHeld ?_; refine tH 6 rfl hHeld ?_; refine tH 7 rfl hHeld ?_; refine tH 8 rfl hHeld ?_; refine tH 9 rfl hHeld ?_
  by_cases t1 : vs.length = l.ss[k].fs.length
  · have g1 : ((vs.length : Int) == (l.ss[k].fs.length : Int)) = true := by simp [t1]
    have HT1 : Hid (vs.length = l.ss[k].fs.length) := t1
    clear t1
    refine tH 10 rfl hHeld ?_; refine tH 11 rfl hHeld ?_; refine tH 12 rfl hHeld ?_; refine tH 13 rfl hHeld ?_; refine tH 14 rfl hHeld ?_; refine tH 15 rfl hHeld ?_
    by_cases t2 : Gate.hasTeam l.ts tm = true
    · refine cH 16 rfl fun K hK => ?_
      go_simp
      refine (as_bool t2 (l4Team_any _ _ l.ts tm _ hT0)).mono ?_
      rintro e w6 ⟨rfl, rfl⟩
      (try go_wp2_with fail)
      refine hK.out _ _ ?_ (fun hHeld => ?_)
      · exact hHeld
      clear hK K
      (try simp only [Act.put, sA, s0, sS])
      refine tH 17 rfl hHeld ?_; refine tH 18 rfl hHeld ?_; refine tH 19 rfl hHeld ?_; refine tH 20 rfl hHeld ?_; refine tH 21 rfl hHeld ?_
      by_cases t3 : hs.length ≤ 3
      · have g3 : (hs.length : Int) ≤ 3 := by omega
        have HT3 : Hid (hs.length ≤ 3) := t3
        clear t3
        refine tH 22 rfl hHeld ?_; refine tH 23 rfl hHeld ?_; refine tH 24 rfl hHeld ?_; refine tH 25 rfl hHeld ?_; refine tH 26 rfl hHeld ?_
        refine cH 27 rfl fun K hK => ?_
        go_simp
        refine (l1Ascending_below _ _ hs _ hH0).mono ?_
        rintro e w6 ⟨rfl, hb⟩
        have hX6 := box_later hX hq hb
        have hY6 := box_later hY hz hb
        have e6 := (hb.cell (p := ⟨sb, so + k * 2 + 1, none⟩) hsz).trans e1
        have hB6 := hB.trans (hb.mono hB.size)
        clear hb
        (try go_wp2_with fail)
        refine hK.out _ _ ?_ (fun hHeld => ?_)
        · exact ⟨hX6, hY6, e6⟩
        clear hK K
        (try simp only [Act.put, sA, s0, sS])
        refine tH 28 rfl hHeld ?_; refine tH 29 rfl hHeld ?_
        refine wpAnyH_done (by kernel_rfl) ?_ _
        go_wp2_with fail
        go_ret
        exact ⟨ret_bool (by unfold Gate.useMake; rw [HF.out, HC.out, decide_eq_true HT1.out]; dsimp only; rw [t2, decide_eq_true HT3.out]; rfl), hB6⟩
      · have g3 : ¬ (hs.length : Int) ≤ 3 := by omega
        have HT3 : Hid (¬ hs.length ≤ 3) := t3
        clear t3
        refine tH 22 rfl hHeld ?_; refine tH 23 rfl hHeld ?_; refine tH 24 rfl hHeld ?_; refine kH 25 rfl hHeld ?_; refine kH 26 rfl hHeld ?_; refine kH 27 rfl hHeld ?_; refine tH 28 rfl hHeld ?_; refine tH 29 rfl hHeld ?_
        refine wpAnyH_done (by kernel_rfl) ?_ _
        go_wp2_with fail
        go_ret
        exact ⟨ret_bool (by unfold Gate.useMake; dsimp only; rw [decide_eq_false HT3.out]; simp), hB⟩
    · refine cH 16 rfl fun K hK => ?_
      go_simp
      refine (as_bool (Bool.eq_false_iff.2 t2) (l4Team_any _ _ l.ts tm _ hT0)).mono ?_
      rintro e w6 ⟨rfl, rfl⟩
      (try go_wp2_with fail)
      refine hK.out _ _ ?_ (fun hHeld => ?_)
      · exact hHeld
      clear hK K
      (try simp only [Act.put, sA, s0, sS])
      refine tH 17 rfl hHeld ?_; refine tH 18 rfl hHeld ?_; refine kH 19 rfl hHeld ?_; refine kH 20 rfl hHeld ?_; refine kH 21 rfl hHeld ?_; refine kH 22 rfl hHeld ?_; refine tH 23 rfl hHeld ?_; refine tH 24 rfl hHeld ?_; refine kH 25 rfl hHeld ?_; refine kH 26 rfl hHeld ?_; refine kH 27 rfl hHeld ?_; refine tH 28 rfl hHeld ?_; refine tH 29 rfl hHeld ?_
      refine wpAnyH_done (by kernel_rfl) ?_ _
      go_wp2_with fail
      go_ret
      exact ⟨ret_bool (by unfold Gate.useMake; rw [HF.out]; dsimp only; rw [Bool.eq_false_iff.2 t2]; rfl), hB⟩
  · have g1 : ((vs.length : Int) == (l.ss[k].fs.length : Int)) = false := by simp; omega
    have HT1 : Hid (¬ vs.length = l.ss[k].fs.length) := t1
    clear t1
    refine tH 10 rfl hHeld ?_; refine tH 11 rfl hHeld ?_; refine kH 12 rfl hHeld ?_; refine kH 13 rfl hHeld ?_; refine kH 14 rfl hHeld ?_; refine kH 15 rfl hHeld ?_; refine kH 16 rfl hHeld ?_; refine tH 17 rfl hHeld ?_; refine tH 18 rfl hHeld ?_; refine kH 19 rfl hHeld ?_; refine kH 20 rfl hHeld ?_; refine kH 21 rfl hHeld ?_; refine kH 22 rfl hHeld ?_; refine tH 23 rfl hHeld ?_; refine tH 24 rfl hHeld ?_; refine kH 25 rfl hHeld ?_; refine kH 26 rfl hHeld ?_; refine kH 27 rfl hHeld ?_; refine tH 28 rfl hHeld ?_; refine tH 29 rfl hHeld ?_
    refine wpAnyH_done (by kernel_rfl) ?_ _
    go_wp2_with fail
    go_ret
    exact ⟨ret_bool (by unfold Gate.useMake; rw [HF.out, HC.out, decide_eq_false HT1.out]; simp), hB⟩

set_option maxRecDepth 20000 in
set_option maxHeartbeats 8000000 in
theorem l8Ask_2 (l : Lw) (la lb lc : Option Addr) (lca lcb lcc : Nat) (who : ByteArray) (kd nm tm : ByteArray) (vs hs : List ByteArray) (sn : Int) (hd to : ByteArray) (r : Rl) (no : Int) (a0 a1 a2 : Option Addr) (c0 c1 c2 : Nat) (w : World) (hl : LwAt w l la lb lc) (hx : AkAt w (⟨who, 2, kd, nm, tm, vs, hs, sn, hd, to, r, no⟩ : Ak) a0 a1 a2) (hn : Gate.nameOk who = true) (hu : Gate.unused (Gate.restOf (⟨who, 2, kd, nm, tm, vs, hs, sn, hd, to, r, no⟩ : Ak)) = true) :
    Calls Tryz.prog 18 #[.agg (l.cells la lb lc lca lcb lcc), .agg ((⟨who, 2, kd, nm, tm, vs, hs, sn, hd, to, r, no⟩ : Ak).cells a0 a1 a2 c0 c1 c2)] w fun e w' => e = .returned (.bool (Gate.useChange l (⟨who, 2, kd, nm, tm, vs, hs, sn, hd, to, r, no⟩ : Ak))) ∧ Below w.heap.size w w' := by
  have HL : Hid (LwAt w l la lb lc) := hl
  have HX : Hid (AkAt w (⟨who, 2, kd, nm, tm, vs, hs, sn, hd, to, r, no⟩ : Ak) a0 a1 a2) := hx
  clear hl hx
  have HN : Hid (Gate.nameOk who = true) := hn
  have HV : Hid (Gate.within 2 1 6 = true) := rfl
  have HU : Hid (Gate.unused (Gate.restOf (⟨who, 2, kd, nm, tm, vs, hs, sn, hd, to, r, no⟩ : Ak)) = true) := hu
  clear hn hu
  unfold Ak.cells Lw.cells
  dsimp only
  by_cases hk : Gate.hasKind l.ss kd = true
  rotate_left
  · have HK : Hid (Gate.hasKind l.ss kd = false) := Bool.eq_false_iff.2 hk
    clear hk
    go_enter Tryz.func18, Tryz.ntmps18
    go_wp2_with fail
    obtain ⟨W0, hW0, hX0, hY0, hz0, hB0⟩ := pair_boxes w #[.slice la l.ss.length lca, .slice lb l.ms.length lcb, .slice lc l.ts.length lcc] #[.string who, .int .i64 2, .string kd, .string nm, .string tm, .slice a0 vs.length c0, .slice a1 hs.length c1, .int .i64 sn, .string hd, .string to, .slice a2 r.vs.length c2, .string r.kd, .string r.tm, .string r.px, .int .i64 no] 40 44
    rw [← hW0]
    clear hW0
    have hq0 := Nat.lt_of_succ_lt hz0
    refine (as_bool HN.out (l1NameOk_any who _ HX.out.small.who)).mono ?_
    rintro e w1 ⟨rfl, rfl⟩
    go_wp2_with fail
    refine (as_bool HV.out (l1In_any 2 1 6 _)).mono ?_
    rintro e w1 ⟨rfl, rfl⟩
    go_wp2_with fail
    refine (l8Rest_any (⟨who, 2, kd, nm, tm, vs, hs, sn, hd, to, r, no⟩ : Ak) a0 a1 a2 c0 c1 c2 _ HV.out).mono ?_
    rintro e w2 ⟨y, b0, b1, b2, d0, d1, d2, rfl, hu, hb⟩
    have hX1 := box_later hX0 hq0 hb
    have hY1 := box_later hY0 hz0 hb
    have hz1 := Nat.lt_of_lt_of_le hz0 hb.size
    have hB1 := hB0.trans (hb.mono hB0.size)
    have HU0 : Hid (Gate.unused y = Gate.unused (Gate.restOf (⟨who, 2, kd, nm, tm, vs, hs, sn, hd, to, r, no⟩ : Ak))) := hu
    clear hb hX0 hY0 hz0 hB0 hq0 hu
    have hq1 := Nat.lt_of_succ_lt hz1
    go_wp2_with fail
    refine (as_bool (HU0.out.trans HU.out) (l8Nothing_any y b0 b1 b2 d0 d1 d2 _)).mono ?_
    rintro e w3 ⟨rfl, hb⟩
    have hX3 := box_later hX1 hq1 hb
    have hY3 := box_later hY1 hz1 hb
    have hz3 := Nat.lt_of_lt_of_le hz1 hb.size
    have hB3 := hB1.trans (hb.mono hB1.size)
    clear hb hX1 hY1 hz1 hB1 hq1 HU0
    have hq3 := Nat.lt_of_succ_lt hz3
    go_wp2_with fail
    refine (l1Shape_no _ _ l.ss kd _ (HL.out.ss.mono hB3) HK.out).mono ?_
    rintro e w4 ⟨rfl, rfl⟩
    go_wp2_with fail
    go_ret
    exact ⟨ret_bool (by unfold Gate.useChange Gate.keyOk; rw [HK.out]; rfl), hB3⟩
  have HK : Hid (Gate.hasKind l.ss kd = true) := hk
  clear hk
  by_cases hm : Gate.nameOk nm = true
  rotate_left
  · have HM : Hid (Gate.nameOk nm = false) := Bool.eq_false_iff.2 hm
    clear hm
    go_enter Tryz.func18, Tryz.ntmps18
    go_wp2_with fail
    obtain ⟨W0, hW0, hX0, hY0, hz0, hB0⟩ := pair_boxes w #[.slice la l.ss.length lca, .slice lb l.ms.length lcb, .slice lc l.ts.length lcc] #[.string who, .int .i64 2, .string kd, .string nm, .string tm, .slice a0 vs.length c0, .slice a1 hs.length c1, .int .i64 sn, .string hd, .string to, .slice a2 r.vs.length c2, .string r.kd, .string r.tm, .string r.px, .int .i64 no] 40 44
    rw [← hW0]
    clear hW0
    have hq0 := Nat.lt_of_succ_lt hz0
    refine (as_bool HN.out (l1NameOk_any who _ HX.out.small.who)).mono ?_
    rintro e w1 ⟨rfl, rfl⟩
    go_wp2_with fail
    refine (as_bool HV.out (l1In_any 2 1 6 _)).mono ?_
    rintro e w1 ⟨rfl, rfl⟩
    go_wp2_with fail
    refine (l8Rest_any (⟨who, 2, kd, nm, tm, vs, hs, sn, hd, to, r, no⟩ : Ak) a0 a1 a2 c0 c1 c2 _ HV.out).mono ?_
    rintro e w2 ⟨y, b0, b1, b2, d0, d1, d2, rfl, hu, hb⟩
    have hX1 := box_later hX0 hq0 hb
    have hY1 := box_later hY0 hz0 hb
    have hz1 := Nat.lt_of_lt_of_le hz0 hb.size
    have hB1 := hB0.trans (hb.mono hB0.size)
    have HU0 : Hid (Gate.unused y = Gate.unused (Gate.restOf (⟨who, 2, kd, nm, tm, vs, hs, sn, hd, to, r, no⟩ : Ak))) := hu
    clear hb hX0 hY0 hz0 hB0 hq0 hu
    have hq1 := Nat.lt_of_succ_lt hz1
    go_wp2_with fail
    refine (as_bool (HU0.out.trans HU.out) (l8Nothing_any y b0 b1 b2 d0 d1 d2 _)).mono ?_
    rintro e w3 ⟨rfl, hb⟩
    have hX3 := box_later hX1 hq1 hb
    have hY3 := box_later hY1 hz1 hb
    have hz3 := Nat.lt_of_lt_of_le hz1 hb.size
    have hB3 := hB1.trans (hb.mono hB1.size)
    clear hb hX1 hY1 hz1 hB1 hq1 HU0
    have hq3 := Nat.lt_of_succ_lt hz3
    go_wp2_with fail
    refine (l1Shape_yes _ _ l.ss kd _ (HL.out.ss.mono hB3) HK.out).mono ?_
    rintro e w4 ⟨k, hk, rfl, hsh, rfl⟩
    go_wp2_with fail
    refine (as_bool HM.out (l1NameOk_any nm _ HX.out.small.nm)).mono ?_
    rintro e w5 ⟨rfl, rfl⟩
    go_wp2_with fail
    go_ret
    exact ⟨ret_bool (by unfold Gate.useChange Gate.keyOk; rw [HK.out, HM.out]; rfl), hB3⟩
  have HM : Hid (Gate.nameOk nm = true) := hm
  clear hm
  have HF : Hid (Gate.keyOk l (⟨who, 2, kd, nm, tm, vs, hs, sn, hd, to, r, no⟩ : Ak) = true) := by unfold Hid Gate.keyOk; rw [HK.out, HM.out]; rfl
  go_enter Tryz.func18, Tryz.ntmps18
  go_wp2_with fail
  obtain ⟨W0, hW0, hX0, hY0, hz0, hB0⟩ := pair_boxes w #[.slice la l.ss.length lca, .slice lb l.ms.length lcb, .slice lc l.ts.length lcc] #[.string who, .int .i64 2, .string kd, .string nm, .string tm, .slice a0 vs.length c0, .slice a1 hs.length c1, .int .i64 sn, .string hd, .string to, .slice a2 r.vs.length c2, .string r.kd, .string r.tm, .string r.px, .int .i64 no] 40 44
  rw [← hW0]
  clear hW0
  have hq0 := Nat.lt_of_succ_lt hz0
  refine (as_bool HN.out (l1NameOk_any who _ HX.out.small.who)).mono ?_
  rintro e w1 ⟨rfl, rfl⟩
  go_wp2_with fail
  refine (as_bool HV.out (l1In_any 2 1 6 _)).mono ?_
  rintro e w1 ⟨rfl, rfl⟩
  go_wp2_with fail
  refine (l8Rest_any (⟨who, 2, kd, nm, tm, vs, hs, sn, hd, to, r, no⟩ : Ak) a0 a1 a2 c0 c1 c2 _ HV.out).mono ?_
  rintro e w2 ⟨y, b0, b1, b2, d0, d1, d2, rfl, hu, hb⟩
  have hX1 := box_later hX0 hq0 hb
  have hY1 := box_later hY0 hz0 hb
  have hz1 := Nat.lt_of_lt_of_le hz0 hb.size
  have hB1 := hB0.trans (hb.mono hB0.size)
  have HU0 : Hid (Gate.unused y = Gate.unused (Gate.restOf (⟨who, 2, kd, nm, tm, vs, hs, sn, hd, to, r, no⟩ : Ak))) := hu
  clear hb hX0 hY0 hz0 hB0 hq0 hu
  have hq1 := Nat.lt_of_succ_lt hz1
  go_wp2_with fail
  refine (as_bool (HU0.out.trans HU.out) (l8Nothing_any y b0 b1 b2 d0 d1 d2 _)).mono ?_
  rintro e w3 ⟨rfl, hb⟩
  have hX3 := box_later hX1 hq1 hb
  have hY3 := box_later hY1 hz1 hb
  have hz3 := Nat.lt_of_lt_of_le hz1 hb.size
  have hB3 := hB1.trans (hb.mono hB1.size)
  clear hb hX1 hY1 hz1 hB1 hq1 HU0
  have hq3 := Nat.lt_of_succ_lt hz3
  go_wp2_with fail
  refine (l1Shape_yes _ _ l.ss kd _ (HL.out.ss.mono hB3) HK.out).mono ?_
  rintro e w4 ⟨k, hk, rfl, hsh, rfl⟩
  go_wp2_with fail
  refine (as_bool HM.out (l1NameOk_any nm _ HX.out.small.nm)).mono ?_
  rintro e w5 ⟨rfl, rfl⟩
  go_wp2_with fail
  have HC : Hid (Gate.countOk l (⟨who, 2, kd, nm, tm, vs, hs, sn, hd, to, r, no⟩ : Ak) = decide (vs.length = l.ss[k].fs.length)) := by unfold Hid Gate.countOk; rw [hsh]
  obtain ⟨sb, so, hsa, hsb, hrw⟩ := HL.out.ss.rows (fun e => by rw [e] at hk; cases hk)
  obtain ⟨fa, fcap, hsi⟩ := hrw k hk
  subst hsa
  have e1 := (hB3.drew.cell (p := ⟨sb, so + k * 2 + 1, none⟩) hsb).trans hsi.list
  clear hrw hsi
  have hkI : (k : Int) < (l.ss.length : Int) := by omega
  have hX := box_later hX3 hq3 (Below.refl w5.heap.size w5).drew
  have hY := box_later hY3 hz3 (Below.refl w5.heap.size w5).drew
  have hz : w.heap.size + 1 < w5.drew.heap.size := hz3
  have hq : w.heap.size < w5.drew.heap.size := hq3
  have hB := hB3.drew
  have hsz : sb < w5.drew.heap.size := Nat.lt_of_lt_of_le hsb hB.size
  have hT0 := HL.out.ts.mono hB
  have hH0 := HX.out.hs.mono hB
  clear hX3 hY3 hz3 hq3 hB3 hsh
  refine wp_region_held_drew (S := fun w' => (∀ j, w'.cell? ⟨w.heap.size, j, none⟩ = (#[.slice (some ⟨sb, so, none⟩) l.ss.length lca, .slice lb l.ms.length lcb, .slice lc l.ts.length lcc] : Array Value)[j]?) ∧ (∀ j, w'.cell? ⟨w.heap.size + 1, j, none⟩ = (#[.string who, .int .i64 2, .string kd, .string nm, .string tm, .slice a0 vs.length c0, .slice a1 hs.length c1, .int .i64 sn, .string hd, .string to, .slice a2 r.vs.length c2, .string r.kd, .string r.tm, .string r.px, .int .i64 no] : Array Value)[j]?) ∧ w'.cell? ⟨sb, so + k * 2 + 1, none⟩ = some (.slice fa l.ss[k].fs.length fcap)) (by kernel_rfl) ⟨hX, hY, e1⟩ (fun hHeld => ?_)
  refine tH 0 rfl hHeld ?_; refine tH 1 rfl hHeld ?_; refine tH 2 rfl hHeld ?_; refine tH 3 rfl hHeld ?_; refine tH 4 rfl hHeld ?_; refine tH 5 rfl hHeld ?_; refine tH 6 rfl hHeld ?_; refine tH 7 rfl hHeld ?_; refine tH 8 rfl hHeld ?_; refine tH 9 rfl hHeld ?_
  by_cases t1 : vs.length = l.ss[k].fs.length
  · have g1 : ((vs.length : Int) == (l.ss[k].fs.length : Int)) = true := by simp [t1]
    have HT1 : Hid (vs.length = l.ss[k].fs.length) := t1
    clear t1
    refine tH 10 rfl hHeld ?_; refine tH 11 rfl hHeld ?_; refine tH 12 rfl hHeld ?_; refine tH 13 rfl hHeld ?_; refine tH 14 rfl hHeld ?_; refine tH 15 rfl hHeld ?_; refine tH 16 rfl hHeld ?_
    refine wpAnyH_done (by kernel_rfl) ?_ _
    go_wp2_with fail
    go_ret
    exact ⟨ret_bool (by unfold Gate.useChange; rw [HF.out, HC.out, decide_eq_true HT1.out]; rfl), hB⟩
  · have g1 : ((vs.length : Int) == (l.ss[k].fs.length : Int)) = false := by simp; omega
    have HT1 : Hid (¬ vs.length = l.ss[k].fs.length) := t1
    clear t1
    refine tH 10 rfl hHeld ?_; refine tH 11 rfl hHeld ?_; refine kH 12 rfl hHeld ?_; refine kH 13 rfl hHeld ?_; refine kH 14 rfl hHeld ?_; refine tH 15 rfl hHeld ?_; refine tH 16 rfl hHeld ?_
    refine wpAnyH_done (by kernel_rfl) ?_ _
    go_wp2_with fail
    go_ret
    exact ⟨ret_bool (by unfold Gate.useChange; rw [HF.out, HC.out, decide_eq_false HT1.out]; rfl), hB⟩

set_option maxRecDepth 20000 in
set_option maxHeartbeats 8000000 in
theorem l8Ask_3 (l : Lw) (la lb lc : Option Addr) (lca lcb lcc : Nat) (who : ByteArray) (kd nm tm : ByteArray) (vs hs : List ByteArray) (sn : Int) (hd to : ByteArray) (r : Rl) (no : Int) (a0 a1 a2 : Option Addr) (c0 c1 c2 : Nat) (w : World) (hl : LwAt w l la lb lc) (hx : AkAt w (⟨who, 3, kd, nm, tm, vs, hs, sn, hd, to, r, no⟩ : Ak) a0 a1 a2) (hn : Gate.nameOk who = true) (hu : Gate.unused (Gate.restOf (⟨who, 3, kd, nm, tm, vs, hs, sn, hd, to, r, no⟩ : Ak)) = true) :
    Calls Tryz.prog 18 #[.agg (l.cells la lb lc lca lcb lcc), .agg ((⟨who, 3, kd, nm, tm, vs, hs, sn, hd, to, r, no⟩ : Ak).cells a0 a1 a2 c0 c1 c2)] w fun e w' => e = .returned (.bool (Gate.useEnd l (⟨who, 3, kd, nm, tm, vs, hs, sn, hd, to, r, no⟩ : Ak))) ∧ Below w.heap.size w w' := by
  have HL : Hid (LwAt w l la lb lc) := hl
  have HX : Hid (AkAt w (⟨who, 3, kd, nm, tm, vs, hs, sn, hd, to, r, no⟩ : Ak) a0 a1 a2) := hx
  clear hl hx
  have HN : Hid (Gate.nameOk who = true) := hn
  have HV : Hid (Gate.within 3 1 6 = true) := rfl
  have HU : Hid (Gate.unused (Gate.restOf (⟨who, 3, kd, nm, tm, vs, hs, sn, hd, to, r, no⟩ : Ak)) = true) := hu
  clear hn hu
  unfold Ak.cells Lw.cells
  dsimp only
  by_cases hk : Gate.hasKind l.ss kd = true
  rotate_left
  · have HK : Hid (Gate.hasKind l.ss kd = false) := Bool.eq_false_iff.2 hk
    clear hk
    go_enter Tryz.func18, Tryz.ntmps18
    go_wp2_with fail
    obtain ⟨W0, hW0, hX0, hY0, hz0, hB0⟩ := pair_boxes w #[.slice la l.ss.length lca, .slice lb l.ms.length lcb, .slice lc l.ts.length lcc] #[.string who, .int .i64 3, .string kd, .string nm, .string tm, .slice a0 vs.length c0, .slice a1 hs.length c1, .int .i64 sn, .string hd, .string to, .slice a2 r.vs.length c2, .string r.kd, .string r.tm, .string r.px, .int .i64 no] 40 44
    rw [← hW0]
    clear hW0
    have hq0 := Nat.lt_of_succ_lt hz0
    refine (as_bool HN.out (l1NameOk_any who _ HX.out.small.who)).mono ?_
    rintro e w1 ⟨rfl, rfl⟩
    go_wp2_with fail
    refine (as_bool HV.out (l1In_any 3 1 6 _)).mono ?_
    rintro e w1 ⟨rfl, rfl⟩
    go_wp2_with fail
    refine (l8Rest_any (⟨who, 3, kd, nm, tm, vs, hs, sn, hd, to, r, no⟩ : Ak) a0 a1 a2 c0 c1 c2 _ HV.out).mono ?_
    rintro e w2 ⟨y, b0, b1, b2, d0, d1, d2, rfl, hu, hb⟩
    have hX1 := box_later hX0 hq0 hb
    have hY1 := box_later hY0 hz0 hb
    have hz1 := Nat.lt_of_lt_of_le hz0 hb.size
    have hB1 := hB0.trans (hb.mono hB0.size)
    have HU0 : Hid (Gate.unused y = Gate.unused (Gate.restOf (⟨who, 3, kd, nm, tm, vs, hs, sn, hd, to, r, no⟩ : Ak))) := hu
    clear hb hX0 hY0 hz0 hB0 hq0 hu
    have hq1 := Nat.lt_of_succ_lt hz1
    go_wp2_with fail
    refine (as_bool (HU0.out.trans HU.out) (l8Nothing_any y b0 b1 b2 d0 d1 d2 _)).mono ?_
    rintro e w3 ⟨rfl, hb⟩
    have hX3 := box_later hX1 hq1 hb
    have hY3 := box_later hY1 hz1 hb
    have hz3 := Nat.lt_of_lt_of_le hz1 hb.size
    have hB3 := hB1.trans (hb.mono hB1.size)
    clear hb hX1 hY1 hz1 hB1 hq1 HU0
    have hq3 := Nat.lt_of_succ_lt hz3
    go_wp2_with fail
    refine (l1Shape_no _ _ l.ss kd _ (HL.out.ss.mono hB3) HK.out).mono ?_
    rintro e w4 ⟨rfl, rfl⟩
    go_wp2_with fail
    go_ret
    exact ⟨ret_bool (by unfold Gate.useEnd Gate.keyOk; rw [HK.out]; rfl), hB3⟩
  have HK : Hid (Gate.hasKind l.ss kd = true) := hk
  clear hk
  by_cases hm : Gate.nameOk nm = true
  rotate_left
  · have HM : Hid (Gate.nameOk nm = false) := Bool.eq_false_iff.2 hm
    clear hm
    go_enter Tryz.func18, Tryz.ntmps18
    go_wp2_with fail
    obtain ⟨W0, hW0, hX0, hY0, hz0, hB0⟩ := pair_boxes w #[.slice la l.ss.length lca, .slice lb l.ms.length lcb, .slice lc l.ts.length lcc] #[.string who, .int .i64 3, .string kd, .string nm, .string tm, .slice a0 vs.length c0, .slice a1 hs.length c1, .int .i64 sn, .string hd, .string to, .slice a2 r.vs.length c2, .string r.kd, .string r.tm, .string r.px, .int .i64 no] 40 44
    rw [← hW0]
    clear hW0
    have hq0 := Nat.lt_of_succ_lt hz0
    refine (as_bool HN.out (l1NameOk_any who _ HX.out.small.who)).mono ?_
    rintro e w1 ⟨rfl, rfl⟩
    go_wp2_with fail
    refine (as_bool HV.out (l1In_any 3 1 6 _)).mono ?_
    rintro e w1 ⟨rfl, rfl⟩
    go_wp2_with fail
    refine (l8Rest_any (⟨who, 3, kd, nm, tm, vs, hs, sn, hd, to, r, no⟩ : Ak) a0 a1 a2 c0 c1 c2 _ HV.out).mono ?_
    rintro e w2 ⟨y, b0, b1, b2, d0, d1, d2, rfl, hu, hb⟩
    have hX1 := box_later hX0 hq0 hb
    have hY1 := box_later hY0 hz0 hb
    have hz1 := Nat.lt_of_lt_of_le hz0 hb.size
    have hB1 := hB0.trans (hb.mono hB0.size)
    have HU0 : Hid (Gate.unused y = Gate.unused (Gate.restOf (⟨who, 3, kd, nm, tm, vs, hs, sn, hd, to, r, no⟩ : Ak))) := hu
    clear hb hX0 hY0 hz0 hB0 hq0 hu
    have hq1 := Nat.lt_of_succ_lt hz1
    go_wp2_with fail
    refine (as_bool (HU0.out.trans HU.out) (l8Nothing_any y b0 b1 b2 d0 d1 d2 _)).mono ?_
    rintro e w3 ⟨rfl, hb⟩
    have hX3 := box_later hX1 hq1 hb
    have hY3 := box_later hY1 hz1 hb
    have hz3 := Nat.lt_of_lt_of_le hz1 hb.size
    have hB3 := hB1.trans (hb.mono hB1.size)
    clear hb hX1 hY1 hz1 hB1 hq1 HU0
    have hq3 := Nat.lt_of_succ_lt hz3
    go_wp2_with fail
    refine (l1Shape_yes _ _ l.ss kd _ (HL.out.ss.mono hB3) HK.out).mono ?_
    rintro e w4 ⟨k, hk, rfl, hsh, rfl⟩
    go_wp2_with fail
    refine (as_bool HM.out (l1NameOk_any nm _ HX.out.small.nm)).mono ?_
    rintro e w5 ⟨rfl, rfl⟩
    go_wp2_with fail
    go_ret
    exact ⟨ret_bool (by unfold Gate.useEnd Gate.keyOk; rw [HK.out, HM.out]; rfl), hB3⟩
  have HM : Hid (Gate.nameOk nm = true) := hm
  clear hm
  have HF : Hid (Gate.keyOk l (⟨who, 3, kd, nm, tm, vs, hs, sn, hd, to, r, no⟩ : Ak) = true) := by unfold Hid Gate.keyOk; rw [HK.out, HM.out]; rfl
  go_enter Tryz.func18, Tryz.ntmps18
  go_wp2_with fail
  obtain ⟨W0, hW0, hX0, hY0, hz0, hB0⟩ := pair_boxes w #[.slice la l.ss.length lca, .slice lb l.ms.length lcb, .slice lc l.ts.length lcc] #[.string who, .int .i64 3, .string kd, .string nm, .string tm, .slice a0 vs.length c0, .slice a1 hs.length c1, .int .i64 sn, .string hd, .string to, .slice a2 r.vs.length c2, .string r.kd, .string r.tm, .string r.px, .int .i64 no] 40 44
  rw [← hW0]
  clear hW0
  have hq0 := Nat.lt_of_succ_lt hz0
  refine (as_bool HN.out (l1NameOk_any who _ HX.out.small.who)).mono ?_
  rintro e w1 ⟨rfl, rfl⟩
  go_wp2_with fail
  refine (as_bool HV.out (l1In_any 3 1 6 _)).mono ?_
  rintro e w1 ⟨rfl, rfl⟩
  go_wp2_with fail
  refine (l8Rest_any (⟨who, 3, kd, nm, tm, vs, hs, sn, hd, to, r, no⟩ : Ak) a0 a1 a2 c0 c1 c2 _ HV.out).mono ?_
  rintro e w2 ⟨y, b0, b1, b2, d0, d1, d2, rfl, hu, hb⟩
  have hX1 := box_later hX0 hq0 hb
  have hY1 := box_later hY0 hz0 hb
  have hz1 := Nat.lt_of_lt_of_le hz0 hb.size
  have hB1 := hB0.trans (hb.mono hB0.size)
  have HU0 : Hid (Gate.unused y = Gate.unused (Gate.restOf (⟨who, 3, kd, nm, tm, vs, hs, sn, hd, to, r, no⟩ : Ak))) := hu
  clear hb hX0 hY0 hz0 hB0 hq0 hu
  have hq1 := Nat.lt_of_succ_lt hz1
  go_wp2_with fail
  refine (as_bool (HU0.out.trans HU.out) (l8Nothing_any y b0 b1 b2 d0 d1 d2 _)).mono ?_
  rintro e w3 ⟨rfl, hb⟩
  have hX3 := box_later hX1 hq1 hb
  have hY3 := box_later hY1 hz1 hb
  have hz3 := Nat.lt_of_lt_of_le hz1 hb.size
  have hB3 := hB1.trans (hb.mono hB1.size)
  clear hb hX1 hY1 hz1 hB1 hq1 HU0
  have hq3 := Nat.lt_of_succ_lt hz3
  go_wp2_with fail
  refine (l1Shape_yes _ _ l.ss kd _ (HL.out.ss.mono hB3) HK.out).mono ?_
  rintro e w4 ⟨k, hk, rfl, hsh, rfl⟩
  go_wp2_with fail
  refine (as_bool HM.out (l1NameOk_any nm _ HX.out.small.nm)).mono ?_
  rintro e w5 ⟨rfl, rfl⟩
  go_wp2_with fail
  go_ret
  exact ⟨ret_bool (by unfold Gate.useEnd; rw [HF.out]; rfl), hB3⟩

set_option maxRecDepth 20000 in
set_option maxHeartbeats 8000000 in
theorem l8Ask_4 (l : Lw) (la lb lc : Option Addr) (lca lcb lcc : Nat) (who : ByteArray) (kd nm tm : ByteArray) (vs hs : List ByteArray) (sn : Int) (hd to : ByteArray) (r : Rl) (no : Int) (a0 a1 a2 : Option Addr) (c0 c1 c2 : Nat) (w : World) (hl : LwAt w l la lb lc) (hx : AkAt w (⟨who, 4, kd, nm, tm, vs, hs, sn, hd, to, r, no⟩ : Ak) a0 a1 a2) (hn : Gate.nameOk who = true) (hu : Gate.unused (Gate.restOf (⟨who, 4, kd, nm, tm, vs, hs, sn, hd, to, r, no⟩ : Ak)) = true) :
    Calls Tryz.prog 18 #[.agg (l.cells la lb lc lca lcb lcc), .agg ((⟨who, 4, kd, nm, tm, vs, hs, sn, hd, to, r, no⟩ : Ak).cells a0 a1 a2 c0 c1 c2)] w fun e w' => e = .returned (.bool (Gate.useLetGo l (⟨who, 4, kd, nm, tm, vs, hs, sn, hd, to, r, no⟩ : Ak))) ∧ Below w.heap.size w w' := by
  have HL : Hid (LwAt w l la lb lc) := hl
  have HX : Hid (AkAt w (⟨who, 4, kd, nm, tm, vs, hs, sn, hd, to, r, no⟩ : Ak) a0 a1 a2) := hx
  clear hl hx
  have HN : Hid (Gate.nameOk who = true) := hn
  have HV : Hid (Gate.within 4 1 6 = true) := rfl
  have HU : Hid (Gate.unused (Gate.restOf (⟨who, 4, kd, nm, tm, vs, hs, sn, hd, to, r, no⟩ : Ak)) = true) := hu
  clear hn hu
  unfold Ak.cells Lw.cells
  dsimp only
  by_cases hk : Gate.hasKind l.ss kd = true
  rotate_left
  · have HK : Hid (Gate.hasKind l.ss kd = false) := Bool.eq_false_iff.2 hk
    clear hk
    go_enter Tryz.func18, Tryz.ntmps18
    go_wp2_with fail
    obtain ⟨W0, hW0, hX0, hY0, hz0, hB0⟩ := pair_boxes w #[.slice la l.ss.length lca, .slice lb l.ms.length lcb, .slice lc l.ts.length lcc] #[.string who, .int .i64 4, .string kd, .string nm, .string tm, .slice a0 vs.length c0, .slice a1 hs.length c1, .int .i64 sn, .string hd, .string to, .slice a2 r.vs.length c2, .string r.kd, .string r.tm, .string r.px, .int .i64 no] 40 44
    rw [← hW0]
    clear hW0
    have hq0 := Nat.lt_of_succ_lt hz0
    refine (as_bool HN.out (l1NameOk_any who _ HX.out.small.who)).mono ?_
    rintro e w1 ⟨rfl, rfl⟩
    go_wp2_with fail
    refine (as_bool HV.out (l1In_any 4 1 6 _)).mono ?_
    rintro e w1 ⟨rfl, rfl⟩
    go_wp2_with fail
    refine (l8Rest_any (⟨who, 4, kd, nm, tm, vs, hs, sn, hd, to, r, no⟩ : Ak) a0 a1 a2 c0 c1 c2 _ HV.out).mono ?_
    rintro e w2 ⟨y, b0, b1, b2, d0, d1, d2, rfl, hu, hb⟩
    have hX1 := box_later hX0 hq0 hb
    have hY1 := box_later hY0 hz0 hb
    have hz1 := Nat.lt_of_lt_of_le hz0 hb.size
    have hB1 := hB0.trans (hb.mono hB0.size)
    have HU0 : Hid (Gate.unused y = Gate.unused (Gate.restOf (⟨who, 4, kd, nm, tm, vs, hs, sn, hd, to, r, no⟩ : Ak))) := hu
    clear hb hX0 hY0 hz0 hB0 hq0 hu
    have hq1 := Nat.lt_of_succ_lt hz1
    go_wp2_with fail
    refine (as_bool (HU0.out.trans HU.out) (l8Nothing_any y b0 b1 b2 d0 d1 d2 _)).mono ?_
    rintro e w3 ⟨rfl, hb⟩
    have hX3 := box_later hX1 hq1 hb
    have hY3 := box_later hY1 hz1 hb
    have hz3 := Nat.lt_of_lt_of_le hz1 hb.size
    have hB3 := hB1.trans (hb.mono hB1.size)
    clear hb hX1 hY1 hz1 hB1 hq1 HU0
    have hq3 := Nat.lt_of_succ_lt hz3
    go_wp2_with fail
    refine (l1Shape_no _ _ l.ss kd _ (HL.out.ss.mono hB3) HK.out).mono ?_
    rintro e w4 ⟨rfl, rfl⟩
    go_wp2_with fail
    go_ret
    exact ⟨ret_bool (by unfold Gate.useLetGo Gate.keyOk; rw [HK.out]; rfl), hB3⟩
  have HK : Hid (Gate.hasKind l.ss kd = true) := hk
  clear hk
  by_cases hm : Gate.nameOk nm = true
  rotate_left
  · have HM : Hid (Gate.nameOk nm = false) := Bool.eq_false_iff.2 hm
    clear hm
    go_enter Tryz.func18, Tryz.ntmps18
    go_wp2_with fail
    obtain ⟨W0, hW0, hX0, hY0, hz0, hB0⟩ := pair_boxes w #[.slice la l.ss.length lca, .slice lb l.ms.length lcb, .slice lc l.ts.length lcc] #[.string who, .int .i64 4, .string kd, .string nm, .string tm, .slice a0 vs.length c0, .slice a1 hs.length c1, .int .i64 sn, .string hd, .string to, .slice a2 r.vs.length c2, .string r.kd, .string r.tm, .string r.px, .int .i64 no] 40 44
    rw [← hW0]
    clear hW0
    have hq0 := Nat.lt_of_succ_lt hz0
    refine (as_bool HN.out (l1NameOk_any who _ HX.out.small.who)).mono ?_
    rintro e w1 ⟨rfl, rfl⟩
    go_wp2_with fail
    refine (as_bool HV.out (l1In_any 4 1 6 _)).mono ?_
    rintro e w1 ⟨rfl, rfl⟩
    go_wp2_with fail
    refine (l8Rest_any (⟨who, 4, kd, nm, tm, vs, hs, sn, hd, to, r, no⟩ : Ak) a0 a1 a2 c0 c1 c2 _ HV.out).mono ?_
    rintro e w2 ⟨y, b0, b1, b2, d0, d1, d2, rfl, hu, hb⟩
    have hX1 := box_later hX0 hq0 hb
    have hY1 := box_later hY0 hz0 hb
    have hz1 := Nat.lt_of_lt_of_le hz0 hb.size
    have hB1 := hB0.trans (hb.mono hB0.size)
    have HU0 : Hid (Gate.unused y = Gate.unused (Gate.restOf (⟨who, 4, kd, nm, tm, vs, hs, sn, hd, to, r, no⟩ : Ak))) := hu
    clear hb hX0 hY0 hz0 hB0 hq0 hu
    have hq1 := Nat.lt_of_succ_lt hz1
    go_wp2_with fail
    refine (as_bool (HU0.out.trans HU.out) (l8Nothing_any y b0 b1 b2 d0 d1 d2 _)).mono ?_
    rintro e w3 ⟨rfl, hb⟩
    have hX3 := box_later hX1 hq1 hb
    have hY3 := box_later hY1 hz1 hb
    have hz3 := Nat.lt_of_lt_of_le hz1 hb.size
    have hB3 := hB1.trans (hb.mono hB1.size)
    clear hb hX1 hY1 hz1 hB1 hq1 HU0
    have hq3 := Nat.lt_of_succ_lt hz3
    go_wp2_with fail
    refine (l1Shape_yes _ _ l.ss kd _ (HL.out.ss.mono hB3) HK.out).mono ?_
    rintro e w4 ⟨k, hk, rfl, hsh, rfl⟩
    go_wp2_with fail
    refine (as_bool HM.out (l1NameOk_any nm _ HX.out.small.nm)).mono ?_
    rintro e w5 ⟨rfl, rfl⟩
    go_wp2_with fail
    go_ret
    exact ⟨ret_bool (by unfold Gate.useLetGo Gate.keyOk; rw [HK.out, HM.out]; rfl), hB3⟩
  have HM : Hid (Gate.nameOk nm = true) := hm
  clear hm
  have HF : Hid (Gate.keyOk l (⟨who, 4, kd, nm, tm, vs, hs, sn, hd, to, r, no⟩ : Ak) = true) := by unfold Hid Gate.keyOk; rw [HK.out, HM.out]; rfl
  go_enter Tryz.func18, Tryz.ntmps18
  go_wp2_with fail
  obtain ⟨W0, hW0, hX0, hY0, hz0, hB0⟩ := pair_boxes w #[.slice la l.ss.length lca, .slice lb l.ms.length lcb, .slice lc l.ts.length lcc] #[.string who, .int .i64 4, .string kd, .string nm, .string tm, .slice a0 vs.length c0, .slice a1 hs.length c1, .int .i64 sn, .string hd, .string to, .slice a2 r.vs.length c2, .string r.kd, .string r.tm, .string r.px, .int .i64 no] 40 44
  rw [← hW0]
  clear hW0
  have hq0 := Nat.lt_of_succ_lt hz0
  refine (as_bool HN.out (l1NameOk_any who _ HX.out.small.who)).mono ?_
  rintro e w1 ⟨rfl, rfl⟩
  go_wp2_with fail
  refine (as_bool HV.out (l1In_any 4 1 6 _)).mono ?_
  rintro e w1 ⟨rfl, rfl⟩
  go_wp2_with fail
  refine (l8Rest_any (⟨who, 4, kd, nm, tm, vs, hs, sn, hd, to, r, no⟩ : Ak) a0 a1 a2 c0 c1 c2 _ HV.out).mono ?_
  rintro e w2 ⟨y, b0, b1, b2, d0, d1, d2, rfl, hu, hb⟩
  have hX1 := box_later hX0 hq0 hb
  have hY1 := box_later hY0 hz0 hb
  have hz1 := Nat.lt_of_lt_of_le hz0 hb.size
  have hB1 := hB0.trans (hb.mono hB0.size)
  have HU0 : Hid (Gate.unused y = Gate.unused (Gate.restOf (⟨who, 4, kd, nm, tm, vs, hs, sn, hd, to, r, no⟩ : Ak))) := hu
  clear hb hX0 hY0 hz0 hB0 hq0 hu
  have hq1 := Nat.lt_of_succ_lt hz1
  go_wp2_with fail
  refine (as_bool (HU0.out.trans HU.out) (l8Nothing_any y b0 b1 b2 d0 d1 d2 _)).mono ?_
  rintro e w3 ⟨rfl, hb⟩
  have hX3 := box_later hX1 hq1 hb
  have hY3 := box_later hY1 hz1 hb
  have hz3 := Nat.lt_of_lt_of_le hz1 hb.size
  have hB3 := hB1.trans (hb.mono hB1.size)
  clear hb hX1 hY1 hz1 hB1 hq1 HU0
  have hq3 := Nat.lt_of_succ_lt hz3
  go_wp2_with fail
  refine (l1Shape_yes _ _ l.ss kd _ (HL.out.ss.mono hB3) HK.out).mono ?_
  rintro e w4 ⟨k, hk, rfl, hsh, rfl⟩
  go_wp2_with fail
  refine (as_bool HM.out (l1NameOk_any nm _ HX.out.small.nm)).mono ?_
  rintro e w5 ⟨rfl, rfl⟩
  go_wp2_with fail
  refine (l1NameOk_any hd _ HX.out.small.hd).mono ?_
  rintro e w6 ⟨rfl, rfl⟩
  go_wp2_with fail
  go_ret
  exact ⟨ret_bool (by unfold Gate.useLetGo; rw [HF.out]; rfl), hB3⟩

set_option maxRecDepth 20000 in
set_option maxHeartbeats 8000000 in
theorem l8Ask_5 (l : Lw) (la lb lc : Option Addr) (lca lcb lcc : Nat) (who : ByteArray) (kd nm tm : ByteArray) (vs hs : List ByteArray) (sn : Int) (hd to : ByteArray) (r : Rl) (no : Int) (a0 a1 a2 : Option Addr) (c0 c1 c2 : Nat) (w : World) (hl : LwAt w l la lb lc) (hx : AkAt w (⟨who, 5, kd, nm, tm, vs, hs, sn, hd, to, r, no⟩ : Ak) a0 a1 a2) (hn : Gate.nameOk who = true) (hu : Gate.unused (Gate.restOf (⟨who, 5, kd, nm, tm, vs, hs, sn, hd, to, r, no⟩ : Ak)) = true) :
    Calls Tryz.prog 18 #[.agg (l.cells la lb lc lca lcb lcc), .agg ((⟨who, 5, kd, nm, tm, vs, hs, sn, hd, to, r, no⟩ : Ak).cells a0 a1 a2 c0 c1 c2)] w fun e w' => e = .returned (.bool (Gate.useGive (⟨who, 5, kd, nm, tm, vs, hs, sn, hd, to, r, no⟩ : Ak))) ∧ Below w.heap.size w w' := by
  have HL : Hid (LwAt w l la lb lc) := hl
  have HX : Hid (AkAt w (⟨who, 5, kd, nm, tm, vs, hs, sn, hd, to, r, no⟩ : Ak) a0 a1 a2) := hx
  clear hl hx
  have HN : Hid (Gate.nameOk who = true) := hn
  have HV : Hid (Gate.within 5 1 6 = true) := rfl
  have HU : Hid (Gate.unused (Gate.restOf (⟨who, 5, kd, nm, tm, vs, hs, sn, hd, to, r, no⟩ : Ak)) = true) := hu
  clear hn hu
  unfold Ak.cells Lw.cells
  dsimp only
  by_cases hk : Gate.hasKind l.ss kd = true
  · have HK : Hid (Gate.hasKind l.ss kd = true) := hk
    clear hk
    by_cases ht : Gate.nameOk to = true
    · have HT : Hid (Gate.nameOk to = true) := ht
      clear ht
      go_enter Tryz.func18, Tryz.ntmps18
      go_wp2_with fail
      obtain ⟨W0, hW0, hX0, hY0, hz0, hB0⟩ := pair_boxes w #[.slice la l.ss.length lca, .slice lb l.ms.length lcb, .slice lc l.ts.length lcc] #[.string who, .int .i64 5, .string kd, .string nm, .string tm, .slice a0 vs.length c0, .slice a1 hs.length c1, .int .i64 sn, .string hd, .string to, .slice a2 r.vs.length c2, .string r.kd, .string r.tm, .string r.px, .int .i64 no] 40 44
      rw [← hW0]
      clear hW0
      have hq0 := Nat.lt_of_succ_lt hz0
      refine (as_bool HN.out (l1NameOk_any who _ HX.out.small.who)).mono ?_
      rintro e w1 ⟨rfl, rfl⟩
      go_wp2_with fail
      refine (as_bool HV.out (l1In_any 5 1 6 _)).mono ?_
      rintro e w1 ⟨rfl, rfl⟩
      go_wp2_with fail
      refine (l8Rest_any (⟨who, 5, kd, nm, tm, vs, hs, sn, hd, to, r, no⟩ : Ak) a0 a1 a2 c0 c1 c2 _ HV.out).mono ?_
      rintro e w2 ⟨y, b0, b1, b2, d0, d1, d2, rfl, hu, hb⟩
      have hX1 := box_later hX0 hq0 hb
      have hY1 := box_later hY0 hz0 hb
      have hz1 := Nat.lt_of_lt_of_le hz0 hb.size
      have hB1 := hB0.trans (hb.mono hB0.size)
      have HU0 : Hid (Gate.unused y = Gate.unused (Gate.restOf (⟨who, 5, kd, nm, tm, vs, hs, sn, hd, to, r, no⟩ : Ak))) := hu
      clear hb hX0 hY0 hz0 hB0 hq0 hu
      have hq1 := Nat.lt_of_succ_lt hz1
      go_wp2_with fail
      refine (as_bool (HU0.out.trans HU.out) (l8Nothing_any y b0 b1 b2 d0 d1 d2 _)).mono ?_
      rintro e w3 ⟨rfl, hb⟩
      have hX3 := box_later hX1 hq1 hb
      have hY3 := box_later hY1 hz1 hb
      have hz3 := Nat.lt_of_lt_of_le hz1 hb.size
      have hB3 := hB1.trans (hb.mono hB1.size)
      clear hb hX1 hY1 hz1 hB1 hq1 HU0
      have hq3 := Nat.lt_of_succ_lt hz3
      go_wp2_with fail
      refine (l1Shape_yes _ _ l.ss kd _ (HL.out.ss.mono hB3) HK.out).mono ?_
      rintro e w4 ⟨k, hk, rfl, hsh, rfl⟩
      go_wp2_with fail
      refine (as_bool HT.out (l1NameOk_any to _ HX.out.small.to)).mono ?_
      rintro e w5 ⟨rfl, rfl⟩
      go_wp2_with fail
      refine (l4RuleOk_any r _ _ _ HX.out.small.r (HX.out.r.mono hB3)).mono ?_
      rintro e w6 ⟨rfl, hb⟩
      have hB6 := hB3.trans (hb.mono hB3.size)
      clear hb
      go_wp2_with fail
      go_ret
      exact ⟨ret_bool (by unfold Gate.useGive; rw [HT.out]; rfl), hB6⟩
    · have HT : Hid (Gate.nameOk to = false) := Bool.eq_false_iff.2 ht
      clear ht
      go_enter Tryz.func18, Tryz.ntmps18
      go_wp2_with fail
      obtain ⟨W0, hW0, hX0, hY0, hz0, hB0⟩ := pair_boxes w #[.slice la l.ss.length lca, .slice lb l.ms.length lcb, .slice lc l.ts.length lcc] #[.string who, .int .i64 5, .string kd, .string nm, .string tm, .slice a0 vs.length c0, .slice a1 hs.length c1, .int .i64 sn, .string hd, .string to, .slice a2 r.vs.length c2, .string r.kd, .string r.tm, .string r.px, .int .i64 no] 40 44
      rw [← hW0]
      clear hW0
      have hq0 := Nat.lt_of_succ_lt hz0
      refine (as_bool HN.out (l1NameOk_any who _ HX.out.small.who)).mono ?_
      rintro e w1 ⟨rfl, rfl⟩
      go_wp2_with fail
      refine (as_bool HV.out (l1In_any 5 1 6 _)).mono ?_
      rintro e w1 ⟨rfl, rfl⟩
      go_wp2_with fail
      refine (l8Rest_any (⟨who, 5, kd, nm, tm, vs, hs, sn, hd, to, r, no⟩ : Ak) a0 a1 a2 c0 c1 c2 _ HV.out).mono ?_
      rintro e w2 ⟨y, b0, b1, b2, d0, d1, d2, rfl, hu, hb⟩
      have hX1 := box_later hX0 hq0 hb
      have hY1 := box_later hY0 hz0 hb
      have hz1 := Nat.lt_of_lt_of_le hz0 hb.size
      have hB1 := hB0.trans (hb.mono hB0.size)
      have HU0 : Hid (Gate.unused y = Gate.unused (Gate.restOf (⟨who, 5, kd, nm, tm, vs, hs, sn, hd, to, r, no⟩ : Ak))) := hu
      clear hb hX0 hY0 hz0 hB0 hq0 hu
      have hq1 := Nat.lt_of_succ_lt hz1
      go_wp2_with fail
      refine (as_bool (HU0.out.trans HU.out) (l8Nothing_any y b0 b1 b2 d0 d1 d2 _)).mono ?_
      rintro e w3 ⟨rfl, hb⟩
      have hX3 := box_later hX1 hq1 hb
      have hY3 := box_later hY1 hz1 hb
      have hz3 := Nat.lt_of_lt_of_le hz1 hb.size
      have hB3 := hB1.trans (hb.mono hB1.size)
      clear hb hX1 hY1 hz1 hB1 hq1 HU0
      have hq3 := Nat.lt_of_succ_lt hz3
      go_wp2_with fail
      refine (l1Shape_yes _ _ l.ss kd _ (HL.out.ss.mono hB3) HK.out).mono ?_
      rintro e w4 ⟨k, hk, rfl, hsh, rfl⟩
      go_wp2_with fail
      refine (as_bool HT.out (l1NameOk_any to _ HX.out.small.to)).mono ?_
      rintro e w5 ⟨rfl, rfl⟩
      go_wp2_with fail
      go_ret
      exact ⟨ret_bool (by unfold Gate.useGive; rw [HT.out]; rfl), hB3⟩
  · have HK : Hid (Gate.hasKind l.ss kd = false) := Bool.eq_false_iff.2 hk
    clear hk
    by_cases ht : Gate.nameOk to = true
    · have HT : Hid (Gate.nameOk to = true) := ht
      clear ht
      go_enter Tryz.func18, Tryz.ntmps18
      go_wp2_with fail
      obtain ⟨W0, hW0, hX0, hY0, hz0, hB0⟩ := pair_boxes w #[.slice la l.ss.length lca, .slice lb l.ms.length lcb, .slice lc l.ts.length lcc] #[.string who, .int .i64 5, .string kd, .string nm, .string tm, .slice a0 vs.length c0, .slice a1 hs.length c1, .int .i64 sn, .string hd, .string to, .slice a2 r.vs.length c2, .string r.kd, .string r.tm, .string r.px, .int .i64 no] 40 44
      rw [← hW0]
      clear hW0
      have hq0 := Nat.lt_of_succ_lt hz0
      refine (as_bool HN.out (l1NameOk_any who _ HX.out.small.who)).mono ?_
      rintro e w1 ⟨rfl, rfl⟩
      go_wp2_with fail
      refine (as_bool HV.out (l1In_any 5 1 6 _)).mono ?_
      rintro e w1 ⟨rfl, rfl⟩
      go_wp2_with fail
      refine (l8Rest_any (⟨who, 5, kd, nm, tm, vs, hs, sn, hd, to, r, no⟩ : Ak) a0 a1 a2 c0 c1 c2 _ HV.out).mono ?_
      rintro e w2 ⟨y, b0, b1, b2, d0, d1, d2, rfl, hu, hb⟩
      have hX1 := box_later hX0 hq0 hb
      have hY1 := box_later hY0 hz0 hb
      have hz1 := Nat.lt_of_lt_of_le hz0 hb.size
      have hB1 := hB0.trans (hb.mono hB0.size)
      have HU0 : Hid (Gate.unused y = Gate.unused (Gate.restOf (⟨who, 5, kd, nm, tm, vs, hs, sn, hd, to, r, no⟩ : Ak))) := hu
      clear hb hX0 hY0 hz0 hB0 hq0 hu
      have hq1 := Nat.lt_of_succ_lt hz1
      go_wp2_with fail
      refine (as_bool (HU0.out.trans HU.out) (l8Nothing_any y b0 b1 b2 d0 d1 d2 _)).mono ?_
      rintro e w3 ⟨rfl, hb⟩
      have hX3 := box_later hX1 hq1 hb
      have hY3 := box_later hY1 hz1 hb
      have hz3 := Nat.lt_of_lt_of_le hz1 hb.size
      have hB3 := hB1.trans (hb.mono hB1.size)
      clear hb hX1 hY1 hz1 hB1 hq1 HU0
      have hq3 := Nat.lt_of_succ_lt hz3
      go_wp2_with fail
      refine (l1Shape_no _ _ l.ss kd _ (HL.out.ss.mono hB3) HK.out).mono ?_
      rintro e w4 ⟨rfl, rfl⟩
      go_wp2_with fail
      refine (as_bool HT.out (l1NameOk_any to _ HX.out.small.to)).mono ?_
      rintro e w5 ⟨rfl, rfl⟩
      go_wp2_with fail
      refine (l4RuleOk_any r _ _ _ HX.out.small.r (HX.out.r.mono hB3)).mono ?_
      rintro e w6 ⟨rfl, hb⟩
      have hB6 := hB3.trans (hb.mono hB3.size)
      clear hb
      go_wp2_with fail
      go_ret
      exact ⟨ret_bool (by unfold Gate.useGive; rw [HT.out]; rfl), hB6⟩
    · have HT : Hid (Gate.nameOk to = false) := Bool.eq_false_iff.2 ht
      clear ht
      go_enter Tryz.func18, Tryz.ntmps18
      go_wp2_with fail
      obtain ⟨W0, hW0, hX0, hY0, hz0, hB0⟩ := pair_boxes w #[.slice la l.ss.length lca, .slice lb l.ms.length lcb, .slice lc l.ts.length lcc] #[.string who, .int .i64 5, .string kd, .string nm, .string tm, .slice a0 vs.length c0, .slice a1 hs.length c1, .int .i64 sn, .string hd, .string to, .slice a2 r.vs.length c2, .string r.kd, .string r.tm, .string r.px, .int .i64 no] 40 44
      rw [← hW0]
      clear hW0
      have hq0 := Nat.lt_of_succ_lt hz0
      refine (as_bool HN.out (l1NameOk_any who _ HX.out.small.who)).mono ?_
      rintro e w1 ⟨rfl, rfl⟩
      go_wp2_with fail
      refine (as_bool HV.out (l1In_any 5 1 6 _)).mono ?_
      rintro e w1 ⟨rfl, rfl⟩
      go_wp2_with fail
      refine (l8Rest_any (⟨who, 5, kd, nm, tm, vs, hs, sn, hd, to, r, no⟩ : Ak) a0 a1 a2 c0 c1 c2 _ HV.out).mono ?_
      rintro e w2 ⟨y, b0, b1, b2, d0, d1, d2, rfl, hu, hb⟩
      have hX1 := box_later hX0 hq0 hb
      have hY1 := box_later hY0 hz0 hb
      have hz1 := Nat.lt_of_lt_of_le hz0 hb.size
      have hB1 := hB0.trans (hb.mono hB0.size)
      have HU0 : Hid (Gate.unused y = Gate.unused (Gate.restOf (⟨who, 5, kd, nm, tm, vs, hs, sn, hd, to, r, no⟩ : Ak))) := hu
      clear hb hX0 hY0 hz0 hB0 hq0 hu
      have hq1 := Nat.lt_of_succ_lt hz1
      go_wp2_with fail
      refine (as_bool (HU0.out.trans HU.out) (l8Nothing_any y b0 b1 b2 d0 d1 d2 _)).mono ?_
      rintro e w3 ⟨rfl, hb⟩
      have hX3 := box_later hX1 hq1 hb
      have hY3 := box_later hY1 hz1 hb
      have hz3 := Nat.lt_of_lt_of_le hz1 hb.size
      have hB3 := hB1.trans (hb.mono hB1.size)
      clear hb hX1 hY1 hz1 hB1 hq1 HU0
      have hq3 := Nat.lt_of_succ_lt hz3
      go_wp2_with fail
      refine (l1Shape_no _ _ l.ss kd _ (HL.out.ss.mono hB3) HK.out).mono ?_
      rintro e w4 ⟨rfl, rfl⟩
      go_wp2_with fail
      refine (as_bool HT.out (l1NameOk_any to _ HX.out.small.to)).mono ?_
      rintro e w5 ⟨rfl, rfl⟩
      go_wp2_with fail
      go_ret
      exact ⟨ret_bool (by unfold Gate.useGive; rw [HT.out]; rfl), hB3⟩

set_option maxRecDepth 20000 in
set_option maxHeartbeats 8000000 in
theorem l8Ask_6 (l : Lw) (la lb lc : Option Addr) (lca lcb lcc : Nat) (who : ByteArray) (kd nm tm : ByteArray) (vs hs : List ByteArray) (sn : Int) (hd to : ByteArray) (r : Rl) (no : Int) (a0 a1 a2 : Option Addr) (c0 c1 c2 : Nat) (w : World) (hl : LwAt w l la lb lc) (hx : AkAt w (⟨who, 6, kd, nm, tm, vs, hs, sn, hd, to, r, no⟩ : Ak) a0 a1 a2) (hn : Gate.nameOk who = true) (hu : Gate.unused (Gate.restOf (⟨who, 6, kd, nm, tm, vs, hs, sn, hd, to, r, no⟩ : Ak)) = true) :
    Calls Tryz.prog 18 #[.agg (l.cells la lb lc lca lcb lcc), .agg ((⟨who, 6, kd, nm, tm, vs, hs, sn, hd, to, r, no⟩ : Ak).cells a0 a1 a2 c0 c1 c2)] w fun e w' => e = .returned (.bool (Gate.useTake (⟨who, 6, kd, nm, tm, vs, hs, sn, hd, to, r, no⟩ : Ak))) ∧ Below w.heap.size w w' := by
  have HL : Hid (LwAt w l la lb lc) := hl
  have HX : Hid (AkAt w (⟨who, 6, kd, nm, tm, vs, hs, sn, hd, to, r, no⟩ : Ak) a0 a1 a2) := hx
  clear hl hx
  have HN : Hid (Gate.nameOk who = true) := hn
  have HV : Hid (Gate.within 6 1 6 = true) := rfl
  have HU : Hid (Gate.unused (Gate.restOf (⟨who, 6, kd, nm, tm, vs, hs, sn, hd, to, r, no⟩ : Ak)) = true) := hu
  clear hn hu
  unfold Ak.cells Lw.cells
  dsimp only
  by_cases hk : Gate.hasKind l.ss kd = true
  · have HK : Hid (Gate.hasKind l.ss kd = true) := hk
    clear hk
    go_enter Tryz.func18, Tryz.ntmps18
    go_wp2_with fail
    obtain ⟨W0, hW0, hX0, hY0, hz0, hB0⟩ := pair_boxes w #[.slice la l.ss.length lca, .slice lb l.ms.length lcb, .slice lc l.ts.length lcc] #[.string who, .int .i64 6, .string kd, .string nm, .string tm, .slice a0 vs.length c0, .slice a1 hs.length c1, .int .i64 sn, .string hd, .string to, .slice a2 r.vs.length c2, .string r.kd, .string r.tm, .string r.px, .int .i64 no] 40 44
    rw [← hW0]
    clear hW0
    have hq0 := Nat.lt_of_succ_lt hz0
    refine (as_bool HN.out (l1NameOk_any who _ HX.out.small.who)).mono ?_
    rintro e w1 ⟨rfl, rfl⟩
    go_wp2_with fail
    refine (as_bool HV.out (l1In_any 6 1 6 _)).mono ?_
    rintro e w1 ⟨rfl, rfl⟩
    go_wp2_with fail
    refine (l8Rest_any (⟨who, 6, kd, nm, tm, vs, hs, sn, hd, to, r, no⟩ : Ak) a0 a1 a2 c0 c1 c2 _ HV.out).mono ?_
    rintro e w2 ⟨y, b0, b1, b2, d0, d1, d2, rfl, hu, hb⟩
    have hX1 := box_later hX0 hq0 hb
    have hY1 := box_later hY0 hz0 hb
    have hz1 := Nat.lt_of_lt_of_le hz0 hb.size
    have hB1 := hB0.trans (hb.mono hB0.size)
    have HU0 : Hid (Gate.unused y = Gate.unused (Gate.restOf (⟨who, 6, kd, nm, tm, vs, hs, sn, hd, to, r, no⟩ : Ak))) := hu
    clear hb hX0 hY0 hz0 hB0 hq0 hu
    have hq1 := Nat.lt_of_succ_lt hz1
    go_wp2_with fail
    refine (as_bool (HU0.out.trans HU.out) (l8Nothing_any y b0 b1 b2 d0 d1 d2 _)).mono ?_
    rintro e w3 ⟨rfl, hb⟩
    have hX3 := box_later hX1 hq1 hb
    have hY3 := box_later hY1 hz1 hb
    have hz3 := Nat.lt_of_lt_of_le hz1 hb.size
    have hB3 := hB1.trans (hb.mono hB1.size)
    clear hb hX1 hY1 hz1 hB1 hq1 HU0
    have hq3 := Nat.lt_of_succ_lt hz3
    go_wp2_with fail
    refine (l1Shape_yes _ _ l.ss kd _ (HL.out.ss.mono hB3) HK.out).mono ?_
    rintro e w4 ⟨k, hk, rfl, hsh, rfl⟩
    go_wp2_with fail
    go_ret
    exact ⟨rfl, hB3⟩
  · have HK : Hid (Gate.hasKind l.ss kd = false) := Bool.eq_false_iff.2 hk
    clear hk
    go_enter Tryz.func18, Tryz.ntmps18
    go_wp2_with fail
    obtain ⟨W0, hW0, hX0, hY0, hz0, hB0⟩ := pair_boxes w #[.slice la l.ss.length lca, .slice lb l.ms.length lcb, .slice lc l.ts.length lcc] #[.string who, .int .i64 6, .string kd, .string nm, .string tm, .slice a0 vs.length c0, .slice a1 hs.length c1, .int .i64 sn, .string hd, .string to, .slice a2 r.vs.length c2, .string r.kd, .string r.tm, .string r.px, .int .i64 no] 40 44
    rw [← hW0]
    clear hW0
    have hq0 := Nat.lt_of_succ_lt hz0
    refine (as_bool HN.out (l1NameOk_any who _ HX.out.small.who)).mono ?_
    rintro e w1 ⟨rfl, rfl⟩
    go_wp2_with fail
    refine (as_bool HV.out (l1In_any 6 1 6 _)).mono ?_
    rintro e w1 ⟨rfl, rfl⟩
    go_wp2_with fail
    refine (l8Rest_any (⟨who, 6, kd, nm, tm, vs, hs, sn, hd, to, r, no⟩ : Ak) a0 a1 a2 c0 c1 c2 _ HV.out).mono ?_
    rintro e w2 ⟨y, b0, b1, b2, d0, d1, d2, rfl, hu, hb⟩
    have hX1 := box_later hX0 hq0 hb
    have hY1 := box_later hY0 hz0 hb
    have hz1 := Nat.lt_of_lt_of_le hz0 hb.size
    have hB1 := hB0.trans (hb.mono hB0.size)
    have HU0 : Hid (Gate.unused y = Gate.unused (Gate.restOf (⟨who, 6, kd, nm, tm, vs, hs, sn, hd, to, r, no⟩ : Ak))) := hu
    clear hb hX0 hY0 hz0 hB0 hq0 hu
    have hq1 := Nat.lt_of_succ_lt hz1
    go_wp2_with fail
    refine (as_bool (HU0.out.trans HU.out) (l8Nothing_any y b0 b1 b2 d0 d1 d2 _)).mono ?_
    rintro e w3 ⟨rfl, hb⟩
    have hX3 := box_later hX1 hq1 hb
    have hY3 := box_later hY1 hz1 hb
    have hz3 := Nat.lt_of_lt_of_le hz1 hb.size
    have hB3 := hB1.trans (hb.mono hB1.size)
    clear hb hX1 hY1 hz1 hB1 hq1 HU0
    have hq3 := Nat.lt_of_succ_lt hz3
    go_wp2_with fail
    refine (l1Shape_no _ _ l.ss kd _ (HL.out.ss.mono hB3) HK.out).mono ?_
    rintro e w4 ⟨rfl, rfl⟩
    go_wp2_with fail
    go_ret
    exact ⟨rfl, hB3⟩

theorem l8AskOk_any (l : Lw) (la lb lc : Option Addr) (lca lcb lcc : Nat) (x : Ak) (a0 a1 a2 : Option Addr) (c0 c1 c2 : Nat) (w : World) (hl : LwAt w l la lb lc) (hx : AkAt w x a0 a1 a2) :
    Calls Tryz.prog 18 #[.agg (l.cells la lb lc lca lcb lcc), .agg (x.cells a0 a1 a2 c0 c1 c2)] w fun e w' => e = .returned (.bool (Gate.isAsk l x)) ∧ Below w.heap.size w w' := by
  obtain ⟨who, vb, kd, nm, tm, vs, hs, sn, hd, to, r, no⟩ := x
  by_cases hn : Gate.nameOk who = true
  rotate_left
  · refine (l8Ask_name l la lb lc lca lcb lcc who vb kd nm tm vs hs sn hd to r no a0 a1 a2 c0 c1 c2 w hl hx (Bool.eq_false_iff.2 hn)).mono ?_
    rintro e w1 ⟨rfl, hb⟩
    exact ⟨ret_bool (by unfold Gate.isAsk; dsimp only; rw [Bool.eq_false_iff.2 hn]; rfl), hb⟩
  by_cases hv : Gate.within vb 1 6 = true
  rotate_left
  · refine (l8Ask_verb l la lb lc lca lcb lcc who vb kd nm tm vs hs sn hd to r no a0 a1 a2 c0 c1 c2 w hl hx hn (Bool.eq_false_iff.2 hv)).mono ?_
    rintro e w1 ⟨rfl, hb⟩
    exact ⟨ret_bool (by unfold Gate.isAsk; dsimp only; rw [hn, Bool.eq_false_iff.2 hv]; rfl), hb⟩
  by_cases hu : Gate.unused (Gate.restOf (⟨who, vb, kd, nm, tm, vs, hs, sn, hd, to, r, no⟩ : Ak)) = true
  rotate_left
  · refine (l8Ask_rest l la lb lc lca lcb lcc who vb kd nm tm vs hs sn hd to r no a0 a1 a2 c0 c1 c2 w hl hx hn hv (Bool.eq_false_iff.2 hu)).mono ?_
    rintro e w1 ⟨rfl, hb⟩
    exact ⟨ret_bool (by unfold Gate.isAsk; rw [Bool.eq_false_iff.2 hu]; simp), hb⟩
  rcases verb_six hv with e | e | e | e | e | e <;> subst e
  · refine (l8Ask_1 l la lb lc lca lcb lcc who kd nm tm vs hs sn hd to r no a0 a1 a2 c0 c1 c2 w hl hx hn hu).mono ?_
    rintro e w1 ⟨rfl, hb⟩
    exact ⟨ret_bool (by unfold Gate.isAsk; rw [hu]; dsimp only; rw [hn]; exact (Bool.and_true _).symm), hb⟩
  · refine (l8Ask_2 l la lb lc lca lcb lcc who kd nm tm vs hs sn hd to r no a0 a1 a2 c0 c1 c2 w hl hx hn hu).mono ?_
    rintro e w1 ⟨rfl, hb⟩
    exact ⟨ret_bool (by unfold Gate.isAsk; rw [hu]; dsimp only; rw [hn]; exact (Bool.and_true _).symm), hb⟩
  · refine (l8Ask_3 l la lb lc lca lcb lcc who kd nm tm vs hs sn hd to r no a0 a1 a2 c0 c1 c2 w hl hx hn hu).mono ?_
    rintro e w1 ⟨rfl, hb⟩
    exact ⟨ret_bool (by unfold Gate.isAsk; rw [hu]; dsimp only; rw [hn]; exact (Bool.and_true _).symm), hb⟩
  · refine (l8Ask_4 l la lb lc lca lcb lcc who kd nm tm vs hs sn hd to r no a0 a1 a2 c0 c1 c2 w hl hx hn hu).mono ?_
    rintro e w1 ⟨rfl, hb⟩
    exact ⟨ret_bool (by unfold Gate.isAsk; rw [hu]; dsimp only; rw [hn]; exact (Bool.and_true _).symm), hb⟩
  · refine (l8Ask_5 l la lb lc lca lcb lcc who kd nm tm vs hs sn hd to r no a0 a1 a2 c0 c1 c2 w hl hx hn hu).mono ?_
    rintro e w1 ⟨rfl, hb⟩
    exact ⟨ret_bool (by unfold Gate.isAsk; rw [hu]; dsimp only; rw [hn]; exact (Bool.and_true _).symm), hb⟩
  · refine (l8Ask_6 l la lb lc lca lcb lcc who kd nm tm vs hs sn hd to r no a0 a1 a2 c0 c1 c2 w hl hx hn hu).mono ?_
    rintro e w1 ⟨rfl, hb⟩
    exact ⟨ret_bool (by unfold Gate.isAsk; rw [hu]; dsimp only; rw [hn]; exact (Bool.and_true _).symm), hb⟩

end Go.Proofs.YtpmlngcljbkchaaGreat
