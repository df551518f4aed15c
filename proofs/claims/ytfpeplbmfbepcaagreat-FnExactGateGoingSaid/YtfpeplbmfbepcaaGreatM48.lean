import Derived.Test.YtfpeplbmfbepcaaGreatM46
import Derived.Test.YtfpeplbmfbepcaaGreatM39
import Derived.Test.YtfpeplbmfbepcaaGreatM03
import Derived.Deep.CutRange
import Derived.Test.YtfpeplbmfbepcaaGreatM07
import Derived.Test.YtfpeplbmfbepcaaGreatM43
import Derived.Test.YtfpeplbmfbepcaaGreatM41
import Derived.Test.YtfpeplbmfbepcaaGreatM27
namespace Go.Proofs.YtfpeplbmfbepcaaGreat
open Go.RowKit
namespace Gate
noncomputable def jc (l : Lw) (b : Bk) : Bool := yC l.ts b && (yJ b && zb6 l b)
theorem zpP (ls : List Lg) (tm rs : ByteArray) : ls.any (ze5 tm rs) = jK ls tm rs := rfl
theorem zeo {l : Lw} {b : Bk} (h : yC l.ts b = false) : jc l b = false := by unfold jc; rw [h]; rfl
theorem zd0 {l : Lw} {b : Bk} (h : yJ b = false) : jc l b = false := by unfold jc; rw [h]; simp
theorem zmX {l : Lw} {b : Bk} (h : zb6 l b = false) : jc l b = false := by unfold jc; rw [h]; simp
theorem zl3 {b : Bk} (h : b.ps.all (yK b.ls b.tick) = true) : ∀ i (h : i < b.ps.length), 0 <= b.ps[i].am /\ b.ps[i].am <= 1000000 := fun i hi => by
  have h4 := List.all_eq_true.1 h _ (List.getElem_mem hi)
  unfold yK within at h4
  simp only [Bool.and_eq_true, decide_eq_true_eq] at h4
  omega
end Gate
set_option maxRecDepth 20000 in
set_option maxHeartbeats 40000000 in
theorem zlg (l : Lw) (la lb lc : Option Addr) (lca lcb lcc : Nat) (b : Bk) (a0 a1 a2 a3 : Option Addr) (c0 c1 c2 c3 : Nat) (w : World) (hl : qB w l la lb lc) (hb : y9 w b a0 a1 a2 a3) (htk : 0 <= b.tick /\ b.tick <= 1000000) (hz : yZ b.os <= 1048576) :
    Calls Tryz.prog 62 #[.agg (l.cells la lb lc lca lcb lcc), .agg (b.cells a0 a1 a2 a3 c0 c1 c2 c3)] w fun e w' => e = .returned (.bool (Gate.jc l b)) /\ Below w.heap.size w w' := by
  have HK := hid hb
  have HL := hid hl
  have HZ := qJ hz htk
  clear hb hl hz htk
  unfold Lw.cells Bk.cells
  go_enter Tryz.func62, Tryz.ntmps62
  go_upto_region 1 with fail
  refine zbh (fun W => Below w.heap.size w W /\ W.heap[w.heap.size]? = some (.cells (lC l la lb lc lca lcb lcc) 41) /\ W.heap[w.heap.size + 1]? = some (.cells (bC b a0 a1 a2 a3 c0 c1 c2 c3) 48)) ⟨zn _ _ _, (zP _ _ _).1, (zP _ _ _).2⟩ ?_
  rintro W0 ⟨h01, h02, h03⟩
  have HB : Hid (∀ W, Below W0.heap.size W0 W -> Below w.heap.size w W /\ (∀ j, W.cell? ⟨w.heap.size, j, none⟩ = (lC l la lb lc lca lcb lcc)[j]?) /\ (∀ j, W.cell? ⟨w.heap.size + 1, j, none⟩ = (bC b a0 a1 a2 a3 c0 c1 c2 c3)[j]?)) := fun W h => ⟨h01.trans (h.mono h01.size), fun j => cell_of_block ((h.block _ (Array.getElem?_eq_some_iff.1 h02).1).trans h02), fun j => cell_of_block ((h.block _ (Array.getElem?_eq_some_iff.1 h03).1).trans h03)⟩
  clear h01 h02 h03
  have cX := (HB.out W0 (Below.refl _ _)).2.2
  by_cases hln : b.ls.length <= 10
  rotate_left
  · have HF : Hid (Gate.jc l b = false) := Gate.zeo (by unfold Gate.yC; rw [decide_eq_false hln]; rfl)
    have hg : (10 : Int) < (b.ls.length : Int) := by omega
    go_wp2_with fail
    go_ret
    exact ⟨ze HF.out.symm, (HB.out _ (Below.refl _ _)).1⟩
  have hg : decide ((10 : Int) < (b.ls.length : Int)) = false := by simp; omega
  have HLN := hid hln
  clear hln
  by_cases hpn : b.ps.length <= 24
  rotate_left
  · have HF : Hid (Gate.jc l b = false) := Gate.zd0 (by unfold Gate.yJ; rw [decide_eq_false hpn]; rfl)
    have hg2 : (24 : Int) < (b.ps.length : Int) := by omega
    go_wp2_with fail
    go_ret
    exact ⟨ze HF.out.symm, (HB.out _ (Below.refl _ _)).1⟩
  have hg2 : decide ((24 : Int) < (b.ps.length : Int)) = false := by simp; omega
  have HPN := hid hpn
  clear hpn
  go_wp2_with fail
  clear hg hg2 cX
  go_loopg [5] b.ps.length (fun gn iv wr => ∃ k : Nat, k + gn = b.ps.length /\ iv = .int .i64 k /\ Hid ((b.ps.take k).all (Gate.yK b.ls b.tick) = true /\ Gate.zaB Gate.jO b.ps k /\ Below W0.heap.size W0 wr))
  case atStart => exact ⟨0, by omega, rfl, by simp, fun i _ h => by omega, Below.refl _ _⟩
  case round =>
    obtain ⟨k, hk, rfl, HQ⟩ := hrel
    have hkn : k <= 24 := by have := HPN.out; omega
    have cX := (HB.out _ HQ.out.2.2).2.2
    have hstep : IntKind.i64.wrap ((k : Int) + 1) = ((k + 1 : Nat) : Int) := by rw [IntKind.wrap_i64]; omega
    by_cases hlt : k < b.ps.length
    · obtain ⟨g1, rfl⟩ : ∃ g, gk = g + 1 := ⟨gk - 1, by omega⟩
      obtain ⟨ob, off, rfl, hob, d0, d1, d2, d3, d4⟩ := HK.out.ps.load (HB.out _ HQ.out.2.2).1 k hlt
      have hltI : (k : Int) < (b.ps.length : Int) := by omega
      have HSm := hid (HK.out.ps.small k hlt)
      have HNo : Hid (Gate.yK b.ls b.tick b.ps[k] = false -> Gate.jc l b = false) := fun h => Gate.zd0 (by unfold Gate.yJ; rw [Gate.j6 _ _ _ hlt h]; simp)
      have HNa : Hid (∀ h0 : 0 < k, 0 <= Gate.jO (b.ps[k - 1]'(by omega)) b.ps[k] -> Gate.jc l b = false) := fun h0 h => Gate.zd0 (by unfold Gate.yJ; rw [Gate.zdr hlt h0 (Int.not_lt.2 h)]; simp)
      have HYes : Hid (Gate.yK b.ls b.tick b.ps[k] = true -> (∀ h0 : 0 < k, Gate.jO (b.ps[k - 1]'(by omega)) b.ps[k] < 0) -> (b.ps.take (k + 1)).all (Gate.yK b.ls b.tick) = true /\ Gate.zaB Gate.jO b.ps (k + 1)) := fun h h' => ⟨by rw [Gate.ql _ _ _ hlt, HQ.out.1, h]; rfl, Gate.zez HQ.out.2.1 hlt (Gate.zh1 hlt h')⟩
      obtain ⟨v, hvE⟩ : ∃ v : Pu, ∀ h0 : 0 < k, v = b.ps[k - 1]'(by omega) := by
        by_cases h0 : 0 < k
        · exact ⟨b.ps[k - 1]'(by omega), fun _ => rfl⟩
        · exact ⟨b.ps[k], fun h => absurd h h0⟩
      have HVC : Hid (∀ W, Below w.heap.size w W -> 0 < k -> W.cell? ⟨ob, off + (k - 1) * 5, none⟩ = some (.string v.dr) /\ W.cell? ⟨ob, off + (k - 1) * 5 + 1, none⟩ = some (.string v.tm) /\ W.cell? ⟨ob, off + (k - 1) * 5 + 2, none⟩ = some (.string v.rs) /\ W.cell? ⟨ob, off + (k - 1) * 5 + 3, none⟩ = some (.int .i64 v.am) /\ W.cell? ⟨ob, off + (k - 1) * 5 + 4, none⟩ = some (.int .i64 v.un)) := fun W hW h0 => by
        obtain ⟨ob', off', e', -, e0, e1, e2, e3, e4⟩ := HK.out.ps.load hW (k - 1) (by omega)
        cases e'
        rw [hvE h0]
        exact ⟨e0, e1, e2, e3, e4⟩
      have HVE := hid hvE
      clear hvE hob
      obtain ⟨u, huE⟩ : ∃ u, u = b.ps[k] := ⟨_, rfl⟩
      rw [<- huE] at d0 d1 d2 d3 d4 HSm HNo HYes
      have HNa : Hid (∀ h0 : 0 < k, 0 <= Gate.jO v u -> Gate.jc l b = false) := fun h0 h => HNa.out h0 (by rw [<- HVE.out h0, <- huE]; exact h)
      have HYes : Hid (Gate.yK b.ls b.tick u = true -> (0 < k -> Gate.jO v u < 0) -> (b.ps.take (k + 1)).all (Gate.yK b.ls b.tick) = true /\ Gate.zaB Gate.jO b.ps (k + 1)) := fun h h' => HYes.out h fun h0 => by rw [<- HVE.out h0]; exact h' h0
      clear huE HVE
      go_upto_region 7 with fail
      refine zbh (fun W => Below W0.heap.size W0 W /\ W.heap[wr.heap.size]? = some (.cells #[.string u.dr, .string u.tm, .string u.rs, .int .i64 u.am, .int .i64 u.un] 136)) ⟨HQ.out.2.2.alloc HQ.out.2.2.size _, (MapKept.heap_alloc wr _).1⟩ ?_
      rintro W5 ⟨h51, h52⟩
      obtain ⟨kP, hkP⟩ : ∃ x, x = wr.heap.size := ⟨_, rfl⟩
      rw [<- hkP] at h52 ⊢
      have HV : Hid (∀ W, Below W5.heap.size W5 W -> ((∀ j, W.cell? ⟨w.heap.size + 1, j, none⟩ = (bC b a0 a1 a2 (some ⟨ob, off, none⟩) c0 c1 c2 c3)[j]?) /\ (∀ j, W.cell? ⟨kP, j, none⟩ = (#[.string u.dr, .string u.tm, .string u.rs, .int .i64 u.am, .int .i64 u.un] : Array Value)[j]?) /\ (0 < k -> W.cell? ⟨ob, off + (k - 1) * 5, none⟩ = some (.string v.dr) /\ W.cell? ⟨ob, off + (k - 1) * 5 + 1, none⟩ = some (.string v.tm) /\ W.cell? ⟨ob, off + (k - 1) * 5 + 2, none⟩ = some (.string v.rs) /\ W.cell? ⟨ob, off + (k - 1) * 5 + 3, none⟩ = some (.int .i64 v.am) /\ W.cell? ⟨ob, off + (k - 1) * 5 + 4, none⟩ = some (.int .i64 v.un))) /\ Below W0.heap.size W0 W /\ y9 W b a0 a1 a2 (some ⟨ob, off, none⟩)) := fun W h => by
        have h5 := h51.trans (h.mono h51.size)
        have hB := HB.out _ h5
        exact ⟨⟨hB.2.2, fun j => cell_of_block ((h.block _ (Array.getElem?_eq_some_iff.1 h52).1).trans h52), HVC.out _ hB.1⟩, h5, HK.out.mono hB.1⟩
      obtain ⟨x1, hx1⟩ : ∃ x, x = (!Gate.zy u.dr || decide (Gate.zdQ (Gate.ze5 u.tm u.rs) b.ls < 0)) := ⟨_, rfl⟩
      obtain ⟨x2, hx2⟩ : ∃ x, x = (x1 || !(decide (1 <= u.am) && decide (u.am <= 1000000))) := ⟨_, rfl⟩
      obtain ⟨x3, hx3⟩ : ∃ x, x = (x2 || !(decide (b.tick <= u.un) && decide (u.un <= b.tick + 10))) := ⟨_, rfl⟩
      obtain ⟨x4, hx4⟩ : ∃ x, x = (x3 || (decide (0 < k) && decide (0 <= Gate.jO v u))) := ⟨_, rfl⟩
      have HX := zia hx1 hx2 hx3 hx4
      have hwr : IntKind.i64.wrap (b.tick + 10) = b.tick + 10 := by rw [IntKind.wrap_i64]; have := HZ.out; omega
      have hkw : IntKind.i64.wrap ((k : Int) - 1) = (k : Int) - 1 := by rw [IntKind.wrap_i64]; omega
      have HD5 := hid (show Below W5.heap.size W5 W5.drew from (Below.refl _ _).drew)
      clear h51 h52 hkP d0 d1 d2 d3 d4 HVC hx1 hx2 hx3 hx4 cX
      refine wp_region_held_drew (S := fun W => (∀ j, W.cell? ⟨w.heap.size + 1, j, none⟩ = (bC b a0 a1 a2 (some ⟨ob, off, none⟩) c0 c1 c2 c3)[j]?) /\ (∀ j, W.cell? ⟨kP, j, none⟩ = (#[.string u.dr, .string u.tm, .string u.rs, .int .i64 u.am, .int .i64 u.un] : Array Value)[j]?) /\ (0 < k -> W.cell? ⟨ob, off + (k - 1) * 5, none⟩ = some (.string v.dr) /\ W.cell? ⟨ob, off + (k - 1) * 5 + 1, none⟩ = some (.string v.tm) /\ W.cell? ⟨ob, off + (k - 1) * 5 + 2, none⟩ = some (.string v.rs) /\ W.cell? ⟨ob, off + (k - 1) * 5 + 3, none⟩ = some (.int .i64 v.am) /\ W.cell? ⟨ob, off + (k - 1) * 5 + 4, none⟩ = some (.int .i64 v.un))) (by kernel_rfl) (HV.out _ HD5.out).1 (fun hHeld => ?_)
      obtain ⟨V, hVe⟩ : ∃ x, x = W5.drew := ⟨_, rfl⟩
      rw [<- hVe] at HD5 hHeld ⊢
      clear hVe
      refine tG 0 ?_; refine tG 1 ?_
      refine cH 2 rfl fun K hK => ?_
      go_simp
      refine (zS _ _ HSm.out.dr).mono ?_
      rintro e w6 ⟨rfl, rfl⟩
      (try go_wp2_with fail)
      refine hK.out _ _ hHeld (fun hHeld => ?_)
      clear hK K
      (try simp only [Act.put, sA, s0, sS])
      refine tG 3 ?_; refine tG 4 ?_; refine sF 5 ?_; refine sF 6 ?_; refine sF 7 ?_; refine sF 8 ?_; refine sF 9 ?_
      refine cF 10 (.int .i64 (Gate.zdQ (Gate.ze5 u.tm u.rs) b.ls)) (fun W => Below W5.heap.size W5 W) (fun hg K hK => ?_) ?_ HD5.out
      · go_simp
        refine (zk2 b a0 a1 a2 (some ⟨ob, off, none⟩) c0 c1 c2 c3 _ _ _ (HV.out _ HD5.out).2.2 (by have := HLN.out; omega)).mono ?_
        rintro e w6 ⟨rfl, hb6⟩
        (try go_wp2_with fail)
        have hb6 := HD5.out.trans (hb6.mono HD5.out.size)
        first | exact ⟨rfl, hK.out _ (HV.out _ hb6).1 hb6⟩ | exact hK.out _ (HV.out _ hb6).1 hb6
      rintro w7 hw7 hHeld
      have HD6 := hid hw7
      clear hw7 HD5
      (try simp only [Act.put, sA, s0, sS])
      refine sF 11 ?_
      refine tG (v := .bool x1) 12 ?_ (hy := by intro w hSw; rw [HX.out.1]; cases h : Gate.zy u.dr <;> go_simp)
      refine tG 13 ?_; refine sF 14 ?_; refine sF 15 ?_
      refine cF 16 (.bool (decide (1 <= u.am) && decide (u.am <= 1000000))) (fun W => Below W5.heap.size W5 W) (fun hg K hK => ?_) ?_ HD6.out
      · go_simp
        refine (jJ _ _ _ _).mono ?_
        rintro e w6 ⟨rfl, rfl⟩
        (try go_wp2_with fail)
        first | exact ⟨rfl, hK.out _ hHeld HD6.out⟩ | exact hK.out _ hHeld HD6.out
      rintro w8 hw8 hHeld
      have HD7 := hid hw8
      clear hw8 HD6
      (try simp only [Act.put, sA, s0, sS])
      refine sF 17 ?_
      refine tG (v := .bool x2) 18 ?_ (hy := by intro w hSw; rw [HX.out.2.1]; cases h : x1 <;> go_simp)
      refine tG 19 ?_; refine sF 20 ?_; refine sF 21 ?_; refine sF 22 ?_; refine sF 23 ?_; refine sF 24 ?_; refine sF 25 ?_; refine sF 26 ?_
      refine cF 27 (.bool (decide (b.tick <= u.un) && decide (u.un <= b.tick + 10))) (fun W => Below W5.heap.size W5 W) (fun hg K hK => ?_) ?_ HD7.out
      · go_simp
        refine (jJ _ _ _ _).mono ?_
        rintro e w6 ⟨rfl, rfl⟩
        (try go_wp2_with fail)
        first | exact ⟨rfl, hK.out _ hHeld HD7.out⟩ | exact hK.out _ hHeld HD7.out
      rintro w9 hw9 hHeld
      have HD8 := hid hw9
      clear hw9 HD7
      (try simp only [Act.put, sA, s0, sS])
      refine sF 28 ?_
      refine tG (v := .bool x3) 29 ?_ (hy := by intro w hSw; rw [HX.out.2.2.1]; cases h : x2 <;> go_simp)
      refine tG 30 ?_; refine sF 31 ?_; refine sF 32 ?_; refine sF 33 ?_; refine sFT 34 ?_; refine sFT 35 ?_; refine sFT 36 ?_; refine sFT 37 ?_
      have hki : decide (0 < k) = true -> 0 < k /\ (0 : Int) <= (k : Int) - 1 /\ (k : Int) - 1 < (b.ps.length : Int) /\ ((k : Int) - 1).toNat = k - 1 /\ (1 : Int) <= (k : Int) := fun h => by have h := of_decide_eq_true h; omega
      have HKI := hid hki
      clear hki
      refine sFT 38 ?_ (hy := by
        intro hg hx w hSw
        obtain ⟨-, h1, h2, h3, h4⟩ := HKI.out hx
        go_simp
        try with_reducible rfl)
      refine sFT (v := .agg #[.string v.dr, .string v.tm, .string v.rs, .int .i64 v.am, .int .i64 v.un]) 39 ?_ (hy := by
        intro hg hx w hSw
        obtain ⟨h0, h1, h2, h3, h4⟩ := HKI.out hx
        obtain ⟨e0, e1, e2, e3, e4⟩ := hSw.2.2 h0
        go_simp)
      refine sFT 40 ?_
      refine cFT 41 (.int .i64 (Gate.jO v u)) (fun W => Below W5.heap.size W5 W) (fun hg hx K hK => ?_) ?_ HD8.out
      · go_simp
        refine (zjf v u _).mono ?_
        rintro e w6 ⟨rfl, hb6⟩
        (try go_wp2_with fail)
        have hb6 := HD8.out.trans (hb6.mono HD8.out.size)
        first | exact ⟨rfl, hK.out _ (HV.out _ hb6).1 hb6⟩ | exact hK.out _ (HV.out _ hb6).1 hb6
      rintro w10 hw10 hHeld
      have HD9 := hid hw10
      clear hw10 HD8
      (try simp only [Act.put, sA, s0, sS])
      refine sFT 42 ?_
      refine sF (v := .bool (decide (0 < k) && decide (0 <= Gate.jO v u))) 43 ?_ (hy := by
        intro hg w hSw
        cases h : decide (0 < k) <;> go_simp)
      refine tG (v := .bool x4) 44 ?_ (hy := by intro w hSw; rw [HX.out.2.2.2]; cases h : x3 <;> go_simp)
      refine wpAnyH_done (by kernel_rfl) ?_ _
      clear hHeld HKI
      have HPA : Hid (Gate.yK b.ls b.tick u = !x3) := by
        unfold Hid Gate.yK Gate.within
        have e : Gate.jK b.ls u.tm u.rs = !decide (Gate.zdQ (Gate.ze5 u.tm u.rs) b.ls < 0) := by
          rw [<- Gate.zpP]
          cases hq : b.ls.any (Gate.ze5 u.tm u.rs) with
          | true => rw [decide_eq_false (fun h => by have := (Gate.zfz _ _).1 h; rw [hq] at this; cases this)]; rfl
          | false => rw [decide_eq_true ((Gate.zfz _ _).2 hq)]; rfl
        rw [e, HX.out.2.2.1, HX.out.2.1, HX.out.1]
        cases Gate.zy u.dr <;> cases decide (Gate.zdQ (Gate.ze5 u.tm u.rs) b.ls < 0) <;> cases (decide (1 <= u.am) && decide (u.am <= 1000000)) <;> cases (decide (b.tick <= u.un) && decide (u.un <= b.tick + 10)) <;> rfl
      have HR9 := hid (HV.out _ HD9.out).2.1
      cases x4 with
      | true =>
        have HF : Hid (Gate.jc l b = false) := by
          cases x3 with
          | true => exact HNo.out HPA.out
          | false =>
            have h := HX.out.2.2.2.symm
            simp only [Bool.false_or, Bool.and_eq_true, decide_eq_true_eq] at h
            exact HNa.out (by omega) h.2
        go_wp2_with fail
        go_ret
        exact ⟨ze HF.out.symm, (HB.out _ HR9.out).1⟩
      | false =>
        have HY : Hid ((b.ps.take (k + 1)).all (Gate.yK b.ls b.tick) = true /\ Gate.zaB Gate.jO b.ps (k + 1)) := by
          have h := HX.out.2.2.2.symm
          simp only [Bool.or_eq_false_iff] at h
          refine HYes.out (by rw [HPA.out, h.1]; rfl) fun h0 => ?_
          have h2 := h.2
          rw [decide_eq_true (by omega : 0 < k)] at h2
          have := of_decide_eq_false h2
          omega
        go_wp2_with fail
        go_roundg g1
        case measure => omega
        case rel => exact ⟨k + 1, by omega, rfl, HY.out.1, HY.out.2, HR9.out⟩
    · have e : k = b.ps.length := by omega
      subst e
      have HAm : Hid (b.ps.all (Gate.yK b.ls b.tick) = true) := by
        have := HQ.out.1
        rwa [List.take_of_length_le (Nat.le_refl _)] at this
      have HPu : Hid (Gate.yJ b = true) := by
        unfold Hid Gate.yJ
        rw [Gate.zff HQ.out.2.1 (Nat.le_refl _), decide_eq_true HPN.out, HAm.out]; rfl
      have HQ0 := hid HQ.out.2.2
      clear HQ hlt hk hstep
      go_wp2_with fail
      clear cX
      go_loopg [7] b.ls.length (fun gn iv wr => ∃ k : Nat, k + gn = b.ls.length /\ iv = .int .i64 k /\ Hid ((b.ls.take k).all (Gate.yw l.ts) = true /\ Gate.zaB Gate.yU b.ls k /\ (b.ls.take k).all (Gate.zbr l b) = true /\ Below W0.heap.size W0 wr))
      case atStart => exact ⟨0, by omega, rfl, by simp, fun i _ h => by omega, by simp, HQ0.out⟩
      case round =>
        clear HQ0
        obtain ⟨k, hk, rfl, HQ⟩ := hrel
        have hkn' : k <= 10 := by have := HLN.out; omega
        have cX := (HB.out _ HQ.out.2.2.2).2.2
        have hstep : IntKind.i64.wrap ((k : Int) + 1) = ((k + 1 : Nat) : Int) := by rw [IntKind.wrap_i64]; omega
        by_cases hlt : k < b.ls.length
        · obtain ⟨g1, rfl⟩ : ∃ g, gk = g + 1 := ⟨gk - 1, by omega⟩
          obtain ⟨ob, off, rfl, hob, d0, d1, d2, d3⟩ := HK.out.ls.load (HB.out _ HQ.out.2.2.2).1 k hlt
          have hltI : (k : Int) < (b.ls.length : Int) := by omega
          have HSm := hid (HK.out.ls.small k hlt)
          have HNo : Hid (Gate.yw l.ts b.ls[k] = false -> Gate.jc l b = false) := fun h => Gate.zeo (by unfold Gate.yC; rw [Gate.j6 _ _ _ hlt h]; simp)
          have HNs : Hid (Gate.zbr l b b.ls[k] = false -> Gate.jc l b = false) := fun h => Gate.zmX (by unfold Gate.zb6; rw [Gate.j6 _ _ _ hlt h])
          obtain ⟨v, hvE⟩ : ∃ v : Lg, ∀ h0 : 0 < k, v = b.ls[k - 1]'(by omega) := by
            by_cases h0 : 0 < k
            · exact ⟨b.ls[k - 1]'(by omega), fun _ => rfl⟩
            · exact ⟨b.ls[k], fun h => absurd h h0⟩
          have HNa : Hid (0 < k -> 0 <= Gate.yU v b.ls[k] -> Gate.jc l b = false) := fun h0 h => Gate.zeo (by unfold Gate.yC; rw [Gate.zdr hlt h0 (Int.not_lt.2 (by rw [<- hvE h0]; exact h))]; simp)
          have HYes : Hid (Gate.yw l.ts b.ls[k] = true -> (0 < k -> Gate.yU v b.ls[k] < 0) -> Gate.zbr l b b.ls[k] = true -> (b.ls.take (k + 1)).all (Gate.yw l.ts) = true /\ Gate.zaB Gate.yU b.ls (k + 1) /\ (b.ls.take (k + 1)).all (Gate.zbr l b) = true) := fun h h' h'' => ⟨by rw [Gate.ql _ _ _ hlt, HQ.out.1, h]; rfl, Gate.zez HQ.out.2.1 hlt (Gate.zh1 hlt fun h0 => by rw [<- hvE h0]; exact h' h0), by rw [Gate.ql _ _ _ hlt, HQ.out.2.2.1, h'']; rfl⟩
          have HVC : Hid (∀ W, Below w.heap.size w W -> 0 < k -> W.cell? ⟨ob, off + (k - 1) * 4, none⟩ = some (.string v.tm) /\ W.cell? ⟨ob, off + (k - 1) * 4 + 1, none⟩ = some (.string v.rs)) := fun W hW h0 => by
            obtain ⟨ob', off', e', -, e0, e1, e2, e3⟩ := HK.out.ls.load hW (k - 1) (by omega)
            cases e'
            rw [hvE h0]
            exact ⟨e0, e1⟩
          obtain ⟨g, hgE⟩ : ∃ g, g = b.ls[k] := ⟨_, rfl⟩
          rw [<- hgE] at d0 d1 d2 d3 HSm HNo HNs HNa HYes
          clear hvE hob hgE
          go_upto_region 13 with fail
          refine zbh (fun W => Below W0.heap.size W0 W /\ W.heap[wr.heap.size]? = some (.cells #[.string g.tm, .string g.rs, .int .i64 g.mo, .int .i64 g.fr] 134)) ⟨HQ.out.2.2.2.alloc HQ.out.2.2.2.size _, (MapKept.heap_alloc wr _).1⟩ ?_
          rintro W5 ⟨h51, h52⟩
          obtain ⟨kG, hkG⟩ : ∃ x, x = wr.heap.size := ⟨_, rfl⟩
          rw [<- hkG] at h52 ⊢
          have HV : Hid (∀ W, Below W5.heap.size W5 W -> Below W0.heap.size W0 W /\ Below w.heap.size w W /\ ((∀ j, W.cell? ⟨w.heap.size, j, none⟩ = (lC l la lb lc lca lcb lcc)[j]?) /\ (∀ j, W.cell? ⟨w.heap.size + 1, j, none⟩ = (bC b a0 a1 (some ⟨ob, off, none⟩) a3 c0 c1 c2 c3)[j]?) /\ (∀ j, W.cell? ⟨kG, j, none⟩ = (#[.string g.tm, .string g.rs, .int .i64 g.mo, .int .i64 g.fr] : Array Value)[j]?))) := fun W h => by
            have h5 := h51.trans (h.mono h51.size)
            have hB := HB.out _ h5
            exact ⟨h5, hB.1, hB.2.1, hB.2.2, fun j => cell_of_block ((h.block _ (Array.getElem?_eq_some_iff.1 h52).1).trans h52)⟩
          clear h51 h52 hkG d0 d1 d2 d3 cX HQ
          have HF5 := hid (HV.out W5 (Below.refl _ _))
          obtain ⟨y, hyE⟩ : ∃ y, y = !Gate.yw l.ts g := ⟨_, rfl⟩
          have HY := hid hyE
          clear hyE
          go_cut [116] from 76 to 160 (fun vx W => vx = .bool y /\ W = W5)
          case first =>
            have cL := HF5.out.2.2.1
            have cX := HF5.out.2.2.2.1
            have cG := HF5.out.2.2.2.2
            go_wp2_with fail
            refine (zc9 _ _ l.ts g.tm _ (HL.out.ts.mono HF5.out.2.1)).mono ?_
            rintro e w6 ⟨rfl, rfl⟩
            rcases t1 : Gate.yh l.ts g.tm with _ | _
            · go_wp2_with fail
              go_meet
              case rel => exact ⟨by rw [HY.out]; unfold Gate.yw; simp [t1], rfl⟩
            go_wp2_with fail
            refine (zS g.rs _ HSm.out.rs).mono ?_
            rintro e w6 ⟨rfl, rfl⟩
            rcases t2 : Gate.zy g.rs with _ | _
            · go_wp2_with fail
              go_meet
              case rel => exact ⟨by rw [HY.out]; unfold Gate.yw; simp [t1, t2], rfl⟩
            rcases t3 : decide (g.fr < 0) with _ | _ <;> rcases t4 : decide (g.mo < g.fr) with _ | _ <;> rcases t5 : decide ((1000000 : Int) < g.mo) with _ | _ <;> (go_wp2_with fail; go_meet; case rel => exact ⟨by rw [HY.out]; unfold Gate.yw Gate.jq; rw [t1, t2]; simp only [decide_eq_false_iff_not, decide_eq_true_eq] at t3 t4 t5; simp; omega, rfl⟩)
          case rest =>
            obtain ⟨rfl, rfl⟩ := hcut
            cases y with
            | true =>
              have HF : Hid (Gate.jc l b = false) := HNo.out (by have := HY.out; revert this; cases Gate.yw l.ts g <;> simp)
              go_wp2_with fail
              go_ret
              exact ⟨ze HF.out.symm, HF5.out.2.1⟩
            | false =>
              have HLa : Hid (Gate.yw l.ts g = true) := by have := HY.out; revert this; unfold Hid; cases Gate.yw l.ts g <;> simp
              have HFr : Hid (0 <= g.fr /\ g.fr <= 1000000) := by
                have h := HLa.out
                unfold Gate.yw Gate.jq at h
                simp only [Bool.and_eq_true, decide_eq_true_eq] at h
                unfold Hid
                omega
              go_upto_region 15 with fail
              have hkw : IntKind.i64.wrap ((k : Int) - 1) = (k : Int) - 1 := by rw [IntKind.wrap_i64]; omega
              have hki : decide (0 < k) = true -> 0 < k /\ (0 : Int) <= (k : Int) - 1 /\ (k : Int) - 1 < (b.ls.length : Int) /\ ((k : Int) - 1).toNat = k - 1 /\ (1 : Int) <= (k : Int) := fun h => by have h := of_decide_eq_true h; omega
              have HKI := hid hki
              clear hki
              have HS2 : Hid (∀ W, Below wc.heap.size wc W -> (∀ j, W.cell? ⟨w.heap.size + 1, j, none⟩ = (bC b a0 a1 (some ⟨ob, off, none⟩) a3 c0 c1 c2 c3)[j]?) /\ (∀ j, W.cell? ⟨kG, j, none⟩ = (#[.string g.tm, .string g.rs, .int .i64 g.mo, .int .i64 g.fr] : Array Value)[j]?) /\ (0 < k -> W.cell? ⟨ob, off + (k - 1) * 4, none⟩ = some (.string v.tm) /\ W.cell? ⟨ob, off + (k - 1) * 4 + 1, none⟩ = some (.string v.rs))) := fun W h => ⟨(HV.out _ h).2.2.2.1, (HV.out _ h).2.2.2.2, HVC.out _ (HV.out _ h).2.1⟩
              refine wp_region_held_drew (S := fun W => (∀ j, W.cell? ⟨w.heap.size + 1, j, none⟩ = (bC b a0 a1 (some ⟨ob, off, none⟩) a3 c0 c1 c2 c3)[j]?) /\ (∀ j, W.cell? ⟨kG, j, none⟩ = (#[.string g.tm, .string g.rs, .int .i64 g.mo, .int .i64 g.fr] : Array Value)[j]?) /\ (0 < k -> W.cell? ⟨ob, off + (k - 1) * 4, none⟩ = some (.string v.tm) /\ W.cell? ⟨ob, off + (k - 1) * 4 + 1, none⟩ = some (.string v.rs))) (by kernel_rfl) (HS2.out _ (Below.refl _ _).drew) (fun hHeld => ?_)
              refine tG 0 ?_; refine tG 1 ?_; refine tG 2 ?_; refine sT 3 ?_; refine sT 4 ?_; refine sT 5 ?_; refine sT 6 ?_
              refine sT 7 ?_ (hy := by
                intro hg w hSw
                obtain ⟨-, h1, h2, h3, h4⟩ := HKI.out hg
                go_simp
                try with_reducible rfl)
              refine sT 8 ?_
              refine sT (v := .string v.tm) 9 ?_ (hy := by
                intro hg w hSw
                obtain ⟨h0, h1, h2, h3, h4⟩ := HKI.out hg
                obtain ⟨e0, e1⟩ := hSw.2.2 h0
                go_simp)
              refine sT 10 ?_; refine sT 11 ?_; refine sT 12 ?_; refine sT 13 ?_
              refine sT 14 ?_ (hy := by
                intro hg w hSw
                obtain ⟨-, h1, h2, h3, h4⟩ := HKI.out hg
                go_simp
                try with_reducible rfl)
              refine sT 15 ?_
              refine sT (v := .string v.rs) 16 ?_ (hy := by
                intro hg w hSw
                obtain ⟨h0, h1, h2, h3, h4⟩ := HKI.out hg
                obtain ⟨e0, e1⟩ := hSw.2.2 h0
                go_simp)
              refine sT 17 ?_; refine sT 18 ?_; refine sT 19 ?_; refine sT 20 ?_
              refine cT 21 (.int .i64 (Gate.yU v g)) (fun W => W = wc.drew) (fun hg K hK => ?_) ?_ rfl
              · go_simp
                refine (zgr v.tm v.rs g.tm g.rs _).mono ?_
                rintro e w6 ⟨rfl, rfl⟩
                (try go_wp2_with fail)
                first | exact ⟨rfl, hK.out _ hHeld rfl⟩ | exact hK.out _ hHeld rfl
              rintro _ rfl hHeld
              (try simp only [Act.put, sA, s0, sS])
              refine sT 22 ?_
              refine tG (v := .bool (decide (0 < k) && decide (0 <= Gate.yU v g))) 23 ?_ (hy := by intro w hSw; cases h : decide (0 < k) <;> go_simp)
              refine wpAnyH_done (by kernel_rfl) ?_ _
              clear hHeld
              rcases hT : (decide (0 < k) && decide (0 <= Gate.yU v g)) with _ | _
              rotate_left
              · have HF : Hid (Gate.jc l b = false) := by
                  simp only [Bool.and_eq_true, decide_eq_true_eq] at hT
                  exact HNa.out (by omega) hT.2
                go_wp2_with fail
                go_ret
                exact ⟨ze HF.out.symm, (HV.out _ (Below.refl _ _).drew).2.1⟩
              have HT6 : Hid (0 < k -> Gate.yU v g < 0) := fun h0 => by
                rw [decide_eq_true (by omega : 0 < k), Bool.true_and] at hT
                have := of_decide_eq_false hT
                omega
              clear hT
              go_upto_region 17 with fail
              have HD2 := hid (show Below wc.heap.size wc wc.drew.drew from (Below.refl _ _).drew.drew)
              have HUs := zfa l b g.tm g.rs HZ.out.1
              have HOs := Gate.zbZ b.ps g.tm g.rs (Gate.zl3 HAm.out) b.ps.length (Nat.le_refl _)
              have hw1 : IntKind.i64.wrap (Gate.used l b.os g.tm g.rs + Gate.out b.ps g.tm g.rs) = Gate.used l b.os g.tm g.rs + Gate.out b.ps g.tm g.rs := by rw [IntKind.wrap_i64]; have := HPN.out; unfold Gate.out; omega
              have hw2 : IntKind.i64.wrap (Gate.used l b.os g.tm g.rs + Gate.out b.ps g.tm g.rs + g.fr) = Gate.used l b.os g.tm g.rs + Gate.out b.ps g.tm g.rs + g.fr := by rw [IntKind.wrap_i64]; have := HPN.out; have := HFr.out; unfold Gate.out; omega
              clear HUs HOs HS2 HKI HVC hkw
              refine wp_region_held_drew (S := fun W => (∀ j, W.cell? ⟨w.heap.size, j, none⟩ = (lC l la lb lc lca lcb lcc)[j]?) /\ (∀ j, W.cell? ⟨w.heap.size + 1, j, none⟩ = (bC b a0 a1 (some ⟨ob, off, none⟩) a3 c0 c1 c2 c3)[j]?) /\ (∀ j, W.cell? ⟨kG, j, none⟩ = (#[.string g.tm, .string g.rs, .int .i64 g.mo, .int .i64 g.fr] : Array Value)[j]?)) (by kernel_rfl) (HV.out _ HD2.out).2.2 (fun hHeld => ?_)
              refine tG 0 ?_; refine tG 1 ?_; refine tG 2 ?_; refine tG 3 ?_; refine tG 4 ?_; refine tG 5 ?_; refine tG 7 ?_; refine tG 8 ?_; refine tG 9 ?_; refine tG 10 ?_; refine tG 11 ?_; refine tG 14 ?_; refine tG 15 ?_; refine tG 17 ?_; refine tG 18 ?_
              refine cH 6 rfl fun K hK => ?_
              go_simp
              refine (zle l la lb lc lca lcb lcc b a0 a1 _ a3 c0 c1 c2 c3 _ _ _ (HL.out.mono (HV.out _ HD2.out).2.1) (HK.out.mono (HV.out _ HD2.out).2.1) HZ.out.1).mono ?_
              rintro e w7 ⟨rfl, hb7⟩
              have H7 := hid (HD2.out.trans (hb7.mono HD2.out.size))
              clear hb7
              (try go_wp2_with fail)
              refine hK.out _ _ (HV.out _ H7.out).2.2 (fun hHeld => ?_)
              clear hK K
              (try simp only [Act.put, sA, s0, sS])
              refine cH 12 rfl fun K hK => ?_
              go_simp
              refine (zos b a0 a1 _ a3 c0 c1 c2 c3 _ _ _ (HK.out.mono (HV.out _ H7.out).2.1) (by have := HPN.out; omega) (Gate.zl3 HAm.out)).mono ?_
              rintro e w8 ⟨rfl, hb8⟩
              have H8 := hid (H7.out.trans (hb8.mono H7.out.size))
              clear hb8
              (try go_wp2_with fail)
              refine hK.out _ _ (HV.out _ H8.out).2.2 (fun hHeld => ?_)
              clear hK K
              (try simp only [Act.put, sA, s0, sS])
              refine tG 13 ?_; refine tG 16 ?_; refine tG 19 ?_
              refine wpAnyH_done (by kernel_rfl) ?_ _
              clear hHeld
              have HR8 := hid (HV.out _ H8.out)
              rcases hT : (Gate.used l b.os g.tm g.rs + Gate.out b.ps g.tm g.rs + g.fr != g.mo) with _ | _
              · have HD : Hid ((b.ls.take (k + 1)).all (Gate.yw l.ts) = true /\ Gate.zaB Gate.yU b.ls (k + 1) /\ (b.ls.take (k + 1)).all (Gate.zbr l b) = true) := HYes.out HLa.out HT6.out (by have := bne_eq_false_iff_eq.1 hT; unfold Gate.zbr Gate.sumTo; rw [decide_eq_true_eq]; unfold Gate.out at this; omega)
                go_wp2_with fail
                go_roundg g1
                case measure => omega
                case rel => exact ⟨k + 1, by omega, rfl, HD.out.1, HD.out.2.1, HD.out.2.2, HR8.out.1⟩
              · have HF : Hid (Gate.jc l b = false) := HNs.out (by have := bne_iff_ne.1 hT; unfold Gate.zbr Gate.sumTo; rw [decide_eq_false_iff_not]; unfold Gate.out at this; omega)
                go_wp2_with fail
                go_ret
                exact ⟨ze HF.out.symm, HR8.out.2.1⟩
        · have e : k = b.ls.length := by omega
          subst e
          have HE : Hid (Gate.jc l b = true) := by
            unfold Hid Gate.jc Gate.yC Gate.zb6
            have h1 := HQ.out.1
            have h2 := HQ.out.2.2.1
            rw [List.take_of_length_le (Nat.le_refl _)] at h1 h2
            rw [Gate.zff HQ.out.2.1 (Nat.le_refl _), decide_eq_true HLN.out, HPu.out, h1, h2]; rfl
          have HR := hid (HB.out _ HQ.out.2.2.2).1
          clear HQ hlt hk
          go_wp2_with fail
          go_ret
          exact ⟨ze HE.out.symm, HR.out⟩
end Go.Proofs.YtfpeplbmfbepcaaGreat
