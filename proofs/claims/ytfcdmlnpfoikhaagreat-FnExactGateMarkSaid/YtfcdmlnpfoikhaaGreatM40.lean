import Derived.Test.YtfcdmlnpfoikhaaGreatM35
import Derived.Test.YtfcdmlnpfoikhaaGreatM28
import Derived.Test.YtfcdmlnpfoikhaaGreatM02
import Derived.Deep.CutRange
namespace Go.Proofs.YtfcdmlnpfoikhaaGreat
open Go.RowKit
theorem Gate.zjz {a b : Int} : Gate.zcq a b < 0 ↔ a < b := by
  unfold Gate.zcq
  split
  · omega
  · split <;> omega
set_option maxRecDepth 20000 in
set_option maxHeartbeats 40000000 in
theorem zix (b : Bk) (a0 a1 a2 a3 : Option Addr) (c0 c1 c2 c3 : Nat) (w : World) (hb : qD w b a0 a1 a2 a3) :
    Calls Tryz.prog 59 #[.agg (b.cells a0 a1 a2 a3 c0 c1 c2 c3)] w fun e w' => e = .returned (.bool (Gate.yA b)) /\ Below w.heap.size w w' := by
  have HK := hid hb
  clear hb
  unfold Bk.cells
  go_enter Tryz.func59, Tryz.ntmps59
  go_upto_region 1 with fail
  refine za5 (fun W => Below w.heap.size w W /\ W.heap[w.heap.size]? = some (.cells (bC b a0 a1 a2 a3 c0 c1 c2 c3) 48)) ⟨(Below.refl _ _).alloc (Nat.le_refl _) _, (MapKept.heap_alloc w _).1⟩ ?_
  rintro W0 ⟨h01, h02⟩
  have HB : Hid (∀ W, Below W0.heap.size W0 W -> Below w.heap.size w W /\ (∀ j, W.cell? ⟨w.heap.size, j, none⟩ = (bC b a0 a1 a2 a3 c0 c1 c2 c3)[j]?)) := fun W h => ⟨h01.trans (h.mono h01.size), fun j => cell_of_block ((h.block _ (Array.getElem?_eq_some_iff.1 h02).1).trans h02)⟩
  clear h01 h02
  have cX := (HB.out W0 (Below.refl _ _)).2
  by_cases hln : b.gs.length <= 24
  rotate_left
  · have HF : Hid (Gate.yA b = false) := by unfold Hid Gate.yA; rw [decide_eq_false hln]; rfl
    have hg : (24 : Int) < (b.gs.length : Int) := by omega
    go_wp2_with fail
    go_ret
    exact ⟨ze HF.out.symm, (HB.out _ (Below.refl _ _)).1⟩
  have hg : decide ((24 : Int) < (b.gs.length : Int)) = false := by simp; omega
  have HLN := hid hln
  clear hln
  go_wp2_with fail
  clear hg cX
  go_loopg [3] b.gs.length (fun gn iv wr => ∃ k : Nat, k + gn = b.gs.length /\ iv = .int .i64 k /\ Hid ((b.gs.take k).all (Gate.yP b.given) = true /\ Gate.zat Gate.zbQ b.gs k /\ Below W0.heap.size W0 wr))
  case atStart => exact ⟨0, by omega, rfl, by simp, fun i _ h => by omega, Below.refl _ _⟩
  case round =>
    obtain ⟨k, hk, rfl, HQ⟩ := hrel
    have hkn : k <= 24 := by have := HLN.out; omega
    have cX := (HB.out _ HQ.out.2.2).2
    have hstep : IntKind.i64.wrap ((k : Int) + 1) = ((k + 1 : Nat) : Int) := by rw [IntKind.wrap_i64]; omega
    by_cases hlt : k < b.gs.length
    · obtain ⟨g1, rfl⟩ : ∃ g, gk = g + 1 := ⟨gk - 1, by omega⟩
      obtain ⟨ob, off, v0, q0, rfl, hob, hsm, hi0, d0, d1, d2, d3, d4, d5, d6⟩ := HK.out.gs.load (HB.out _ HQ.out.2.2).1 k hlt
      have hltI : (k : Int) < (b.gs.length : Int) := by omega
      obtain ⟨v, hvE⟩ : ∃ v : Gr, ∀ h0 : 0 < k, v = b.gs[k - 1]'(by omega) := by
        by_cases h0 : 0 < k
        · exact ⟨b.gs[k - 1]'(by omega), fun _ => rfl⟩
        · exact ⟨b.gs[k], fun h => absurd h h0⟩
      have HNo : Hid (Gate.yP b.given b.gs[k] = false -> Gate.yA b = false) := fun h => by unfold Gate.yA; rw [Gate.jX _ _ _ hlt h]; simp
      have HNa : Hid (0 < k -> 0 <= Gate.zbQ v b.gs[k] -> Gate.yA b = false) := fun h0 h => by unfold Gate.yA; rw [Gate.zda hlt h0 (Int.not_lt.2 (by rw [<- hvE h0]; exact h))]; simp
      have HYes : Hid (Gate.yP b.given b.gs[k] = true -> (0 < k -> Gate.zbQ v b.gs[k] < 0) -> (b.gs.take (k + 1)).all (Gate.yP b.given) = true /\ Gate.zat Gate.zbQ b.gs (k + 1)) := fun h h' => ⟨by rw [Gate.y9 _ _ _ hlt, HQ.out.1, h]; rfl, Gate.zec HQ.out.2.1 hlt (Gate.zhw hlt fun h0 => by rw [<- hvE h0]; exact h' h0)⟩
      have HVC : Hid (∀ W, Below w.heap.size w W -> 0 < k -> W.cell? ⟨ob, off + (k - 1) * 7, none⟩ = some (.int .i64 v.no)) := fun W hW h0 => by
        obtain ⟨ob', off', v0', q0', e', -, -, -, e0, -⟩ := HK.out.gs.load hW (k - 1) (by omega)
        cases e'
        rw [hvE h0]
        exact e0
      obtain ⟨g, hgE⟩ : ∃ g, g = b.gs[k] := ⟨_, rfl⟩
      rw [<- hgE] at d0 d1 d2 d3 d4 d5 d6 hsm hi0 HNo HNa HYes
      have HSm := jE hsm hi0
      clear hvE hob hgE hsm hi0
      go_upto_region 7 with fail
      refine za5 (fun W => Below wr.heap.size wr W /\ W.heap[wr.heap.size]? = some (.cells #[.int .i64 g.no, .string g.to, .string g.gb, .slice v0 g.r.vs.length q0, .string g.r.kd, .string g.r.tm, .string g.r.px] 128)) ⟨(Below.refl _ _).alloc (Nat.le_refl _) _, (MapKept.heap_alloc wr _).1⟩ ?_
      rintro W5 ⟨h51, h52⟩
      obtain ⟨kG, hkG⟩ : ∃ x, x = wr.heap.size := ⟨_, rfl⟩
      rw [<- hkG] at h52 ⊢
      have HV : Hid (∀ W, Below W5.heap.size W5 W -> ((∀ j, W.cell? ⟨w.heap.size, j, none⟩ = (bC b a0 (some ⟨ob, off, none⟩) a2 a3 c0 c1 c2 c3)[j]?) /\ (∀ j, W.cell? ⟨kG, j, none⟩ = (#[.int .i64 g.no, .string g.to, .string g.gb, .slice v0 g.r.vs.length q0, .string g.r.kd, .string g.r.tm, .string g.r.px] : Array Value)[j]?) /\ (0 < k -> W.cell? ⟨ob, off + (k - 1) * 7, none⟩ = some (.int .i64 v.no))) /\ Below W0.heap.size W0 W /\ yL W v0 g.r.vs) := fun W h => by
        have h5 := h51.trans (h.mono h51.size)
        have h6 := HQ.out.2.2.trans (h5.mono HQ.out.2.2.size)
        have hB := HB.out _ h6
        exact ⟨⟨hB.2, fun j => cell_of_block ((h.block _ (Array.getElem?_eq_some_iff.1 h52).1).trans h52), HVC.out _ hB.1⟩, h6, HSm.out.2.mono h5⟩
      obtain ⟨y1, hy1⟩ : ∃ x, x = (decide (1 <= g.no) && decide (g.no <= b.given)) := ⟨_, rfl⟩
      obtain ⟨x1, hx1⟩ : ∃ x, x = (!y1 || (decide (0 < k) && decide (g.no <= v.no))) := ⟨_, rfl⟩
      obtain ⟨x2, hx2⟩ : ∃ x, x = (x1 || !Gate.zy g.to) := ⟨_, rfl⟩
      obtain ⟨x3, hx3⟩ : ∃ x, x = (x2 || (!g.gb.toList.isEmpty && !Gate.zy g.gb)) := ⟨_, rfl⟩
      obtain ⟨x4, hx4⟩ : ∃ x, x = (x3 || !Gate.j3 g.r) := ⟨_, rfl⟩
      have HX := zol hy1 hx1 hx2 hx3 hx4
      have hkw : IntKind.i64.wrap ((k : Int) - 1) = (k : Int) - 1 := by rw [IntKind.wrap_i64]; omega
      have hki : decide (0 < k) = true -> 0 < k /\ (0 : Int) <= (k : Int) - 1 /\ (k : Int) - 1 < (b.gs.length : Int) /\ ((k : Int) - 1).toNat = k - 1 /\ (1 : Int) <= (k : Int) := fun h => by have h := of_decide_eq_true h; omega
      have HKI := hid hki
      have HD5 := hid (show Below W5.heap.size W5 W5.drew from (Below.refl _ _).drew)
      clear h51 h52 hkG d0 d1 d2 d3 d4 d5 d6 HVC hy1 hx1 hx2 hx3 hx4 cX hki
      refine wp_region_held_drew (S := fun W => (∀ j, W.cell? ⟨w.heap.size, j, none⟩ = (bC b a0 (some ⟨ob, off, none⟩) a2 a3 c0 c1 c2 c3)[j]?) /\ (∀ j, W.cell? ⟨kG, j, none⟩ = (#[.int .i64 g.no, .string g.to, .string g.gb, .slice v0 g.r.vs.length q0, .string g.r.kd, .string g.r.tm, .string g.r.px] : Array Value)[j]?) /\ (0 < k -> W.cell? ⟨ob, off + (k - 1) * 7, none⟩ = some (.int .i64 v.no))) (by kernel_rfl) (HV.out _ HD5.out).1 (fun hHeld => ?_)
      obtain ⟨V, hVe⟩ : ∃ x, x = W5.drew := ⟨_, rfl⟩
      rw [<- hVe] at HD5 hHeld ⊢
      clear hVe
      refine tG 0 ?_; refine tG 1 ?_; refine tG 2 ?_; refine tG 3 ?_
      refine cH 4 rfl fun K hK => ?_
      go_simp
      refine (zw HX.out.1.symm (jH _ _ _ _)).mono ?_
      rintro e w6 ⟨rfl, rfl⟩
      (try go_wp2_with fail)
      refine hK.out _ _ hHeld (fun hHeld => ?_)
      clear hK K
      (try simp only [Act.put, sA, s0, sS])
      refine tG 5 ?_; refine tG 6 ?_; refine sF 7 ?_; refine sF 8 ?_; refine sF 9 ?_; refine sFT 10 ?_; refine sFT 11 ?_; refine sFT 12 ?_; refine sFT 13 ?_
      refine sFT 14 ?_ (hy := by
        intro hg hx w hSw
        obtain ⟨-, h1, h2, h3, h4⟩ := HKI.out hx
        go_simp
        try with_reducible rfl)
      refine sFT 15 ?_
      refine sFT (v := .int .i64 v.no) 16 ?_ (hy := by
        intro hg hx w hSw
        obtain ⟨h0, h1, h2, h3, h4⟩ := HKI.out hx
        have e0 := hSw.2.2 h0
        go_simp)
      refine sFT 17 ?_; refine sFT 18 ?_; refine sFT 19 ?_
      refine sF (v := .bool (decide (0 < k) && decide (g.no <= v.no))) 20 ?_ (hy := by intro hg w hSw; cases h : decide (0 < k) <;> go_simp)
      refine tG (v := .bool x1) 21 ?_ (hy := by intro w hSw; rw [HX.out.2.1]; cases h : y1 <;> go_simp)
      refine tG 22 ?_; refine sF 23 ?_; refine sF 24 ?_
      refine cF 25 (.bool (Gate.zy g.to)) (fun W => Below W5.heap.size W5 W) (fun hg K hK => ?_) ?_ HD5.out
      · go_simp
        refine (zQ _ _ HSm.out.1.to).mono ?_
        rintro e w6 ⟨rfl, rfl⟩
        (try go_wp2_with fail)
        first | exact ⟨rfl, hK.out _ hHeld HD5.out⟩ | exact hK.out _ hHeld HD5.out
      rintro w7 hw7 hHeld
      have HD6 := hid hw7
      clear hw7 HD5
      (try simp only [Act.put, sA, s0, sS])
      refine sF 26 ?_
      refine tG (v := .bool x2) 27 ?_ (hy := by intro w hSw; rw [HX.out.2.2.1]; cases h : x1 <;> go_simp)
      refine tG 28 ?_; refine sF 29 ?_; refine sF 30 ?_; refine sF 31 ?_; refine sF 32 ?_; refine sFT 33 ?_; refine sFT 34 ?_
      refine cFT 35 (.bool (Gate.zy g.gb)) (fun W => Below W5.heap.size W5 W) (fun hg hx K hK => ?_) ?_ HD6.out
      · go_simp
        refine (zQ _ _ HSm.out.1.gb).mono ?_
        rintro e w6 ⟨rfl, rfl⟩
        (try go_wp2_with fail)
        first | exact ⟨rfl, hK.out _ hHeld HD6.out⟩ | exact hK.out _ hHeld HD6.out
      rintro w8 hw8 hHeld
      have HD7 := hid hw8
      clear hw8 HD6
      (try simp only [Act.put, sA, s0, sS])
      refine sFT 36 ?_
      refine sF (v := .bool (!g.gb.toList.isEmpty && !Gate.zy g.gb)) 37 ?_ (hy := by intro hg w hSw; cases h : g.gb.toList.isEmpty <;> go_simp)
      refine tG (v := .bool x3) 38 ?_ (hy := by intro w hSw; rw [HX.out.2.2.2.1]; cases h : x2 <;> go_simp)
      refine tG 39 ?_; refine sF 40 ?_; refine sF 41 ?_
      refine cF 42 (.bool (Gate.j3 g.r)) (fun W => Below W5.heap.size W5 W) (fun hg K hK => ?_) ?_ HD7.out
      · go_simp
        refine (zkI g.r v0 q0 _ HSm.out.1.r (HV.out _ HD7.out).2.2).mono ?_
        rintro e w6 ⟨rfl, hb6⟩
        (try go_wp2_with fail)
        have hb6 := HD7.out.trans (hb6.mono HD7.out.size)
        first | exact ⟨rfl, hK.out _ (HV.out _ hb6).1 hb6⟩ | exact hK.out _ (HV.out _ hb6).1 hb6
      rintro w9 hw9 hHeld
      have HD8 := hid hw9
      clear hw9 HD7
      (try simp only [Act.put, sA, s0, sS])
      refine sF 43 ?_
      refine tG (v := .bool x4) 44 ?_ (hy := by intro w hSw; rw [HX.out.2.2.2.2]; cases h : x3 <;> go_simp)
      refine wpAnyH_done (by kernel_rfl) ?_ _
      clear hHeld HKI
      have HGA : Hid (x4 = (!Gate.yP b.given g || (decide (0 < k) && decide (g.no <= v.no)))) := by
        unfold Hid Gate.yP Gate.within
        rw [HX.out.2.2.2.2, HX.out.2.2.2.1, HX.out.2.2.1, HX.out.2.1, HX.out.1]
        cases (decide (1 <= g.no) && decide (g.no <= b.given)) <;> cases (decide (0 < k) && decide (g.no <= v.no)) <;> cases Gate.zy g.to <;> cases g.gb.toList.isEmpty <;> cases Gate.zy g.gb <;> cases Gate.j3 g.r <;> rfl
      have HR9 := hid (HV.out _ HD8.out).2.1
      cases x4 with
      | true =>
        have HF : Hid (Gate.yA b = false) := by
          cases hq : Gate.yP b.given g with
          | false => exact HNo.out hq
          | true =>
            have h := HGA.out.symm
            rw [hq] at h
            simp only [Bool.not_true, Bool.false_or, Bool.and_eq_true, decide_eq_true_eq] at h
            exact HNa.out h.1 (Int.not_lt.1 fun h2 => by have := Gate.zjz.1 h2; omega)
        go_wp2_with fail
        go_ret
        exact ⟨ze HF.out.symm, (HB.out _ HR9.out).1⟩
      | false =>
        have HY : Hid ((b.gs.take (k + 1)).all (Gate.yP b.given) = true /\ Gate.zat Gate.zbQ b.gs (k + 1)) := by
          have h := HGA.out.symm
          simp only [Bool.or_eq_false_iff, Bool.not_eq_false'] at h
          refine HYes.out h.1 fun h0 => ?_
          have h2 := h.2
          rw [decide_eq_true h0, Bool.true_and] at h2
          exact Gate.zjz.2 (Int.not_le.1 (of_decide_eq_false h2))
        go_wp2_with fail
        go_roundg g1
        case measure => omega
        case rel => exact ⟨k + 1, by omega, rfl, HY.out.1, HY.out.2, HR9.out⟩
    · have e : k = b.gs.length := by omega
      subst e
      have HE : Hid (Gate.yA b = true) := by
        unfold Hid Gate.yA
        rw [Gate.zeQ HQ.out.2.1 (Nat.le_refl _), decide_eq_true HLN.out]
        have := HQ.out.1
        rw [List.take_of_length_le (Nat.le_refl _)] at this
        rw [this]; rfl
      have HR := hid (HB.out _ HQ.out.2.2).1
      clear HQ hlt hk
      go_wp2_with fail
      go_ret
      exact ⟨ze HE.out.symm, HR.out⟩
end Go.Proofs.YtfcdmlnpfoikhaaGreat
