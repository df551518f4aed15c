import Derived.Test.YtmfgjafdnopfbaaGreatM51
namespace Go.Proofs.YtmfgjafdnopfbaaGreat
open Go.RowKit
set_option maxRecDepth 10000 in
set_option maxHeartbeats 8000000 in
theorem zgT : zb4 := by
  intro a n cap lo r p w hV hn hp hr hlo hlw
  have HV := hid hV
  clear hV
  go_enter Tryz.func56, Tryz.ntmps56
  go_upto_region 2 with fail
  refine zn (MX lo r w (.slice (some ⟨w.heap.size, 0, none⟩) 0 0) [] (fun _ => True) p) ⟨(St.start hr hlo hlw).alloc _, fun b => zf _ _ _ _, jy lo 1000 _ _ 6 0 w #[] hlw rfl (by simp [maxLen]) (by omega) (fun j x hx => by simp at hx), (fun x hx => by cases hx), fun _ _ _ h => h, trivial⟩ ?_
  rintro W1 hW1
  have H1 := hid hW1
  clear hW1 hr
  go_wp2_with fail
  refine (zQ 7 r p W1 (by omega) (by omega) (by omega) H1.out.st.rd).mono ?_
  rintro e w2 ⟨q, rfl, hq, hr2, D2⟩
  have H2 := hid (H1.out.call hr2 D2)
  clear hr2 D2 H1
  go_wp2_with fail
  go_loopg [5, 6] q (fun k vo vn wr => ∃ (b : Option Addr) (m c p' : Nat), vo = .slice b m c /\ vn = .int .i64 (k : Int) /\ m + k <= 6 /\ p' + 20 * k <= p + 150 /\ Hid (MX lo r w (.slice b m c) [] (fun _ => True) p' wr))
  case atStart => exact ⟨_, 0, 0, p + 1, rfl, rfl, by omega, by omega, H2⟩
  case round =>
    clear H2 hq
    obtain ⟨b, m, c, p', rfl, rfl, hm, hp', HI⟩ := hrel
    obtain ⟨wo, rfl⟩ : ∃ x, x = wr := ⟨_, rfl⟩
    by_cases hgk : gk = 0 \/ n = 0
    · have hx : ¬ (0 : Int) < (gk : Int) \/ ¬ (0 : Int) < (n : Int) := by omega
      rcases hx with hx | hx
      · go_wp2_with fail
        go_ret
        exact ⟨b, m, c, rfl, HI.out.row, by omega, p', by omega, HI.out.st.rd, HI.out.st.fr, HI.out.kp⟩
      · by_cases hy : (0 : Int) < (gk : Int)
        · go_wp2_with fail
          go_ret
          exact ⟨b, m, c, rfl, HI.out.row, by omega, p', by omega, HI.out.st.rd, HI.out.st.fr, HI.out.kp⟩
        · go_wp2_with fail
          go_ret
          exact ⟨b, m, c, rfl, HI.out.row, by omega, p', by omega, HI.out.st.rd, HI.out.st.fr, HI.out.kp⟩
    obtain ⟨k, rfl⟩ : ∃ k, gk = k + 1 := ⟨gk - 1, by omega⟩
    have hkI : (0 : Int) < ((k + 1 : Nat) : Int) := by omega
    have hnI : (0 : Int) < (n : Int) := by omega
    have hk1 : IntKind.i64.wrap (((k + 1 : Nat) : Int) - 1) = (k : Int) := by rw [IntKind.wrap_i64]; omega
    go_wp2_with fail
    refine (zQ n r p' wo (by omega) (by omega) (by omega) HI.out.st.rd).mono ?_
    rintro e w3 ⟨i, rfl, hi, hr3, D3⟩
    have H3 := hid (HI.out.call hr3 D3)
    clear hr3 D3 HI
    obtain ⟨g, kd, fa, fn, fc, C, rfl, hg, hC, hCs, c0, c1, hkd, hfl⟩ := ((H3.out.kp 1000002).k _ HV.out).at hi
    have hiI : (i : Int) < (n : Int) := by omega
    clear hC hCs C
    go_upto_region 6 with fail
    refine zn (MX lo r w (.slice b m c) [(w3.heap.size, #[.string kd, .slice fa fn fc], 45)] (fun W => qp lo 1000002 W (.slice fa fn fc)) (p' + 1)) (((H3.out.alloc _).box H3.out.st.le (by decide) (MapKept.heap_alloc w3 _).1).typed ziV ((zf _ _ _ _).f _ hfl)) ?_
    rintro W4 hW4
    obtain ⟨kS, hkS⟩ : ∃ k, k = w3.heap.size := ⟨_, rfl⟩
    rw [<- hkS] at hW4 ⊢
    have H4 := hid hW4
    have cS := fun j => cell_of_block (o := j) (hW4.bx _ (List.mem_cons_self ..)).2.2
    clear hW4 hkS c0 c1 H3 hfl
    rcases Nat.eq_zero_or_pos fn with hf0 | hf0
    · subst hf0
      go_wp2_with fail
      go_roundg k
      case measure => omega
      case rel => exact ⟨b, m, c, p' + 1, rfl, rfl, by omega, by omega, H4.out.to (B' := []) H4.out.row (fun x hx => by cases hx) |>.typed (fun _ _ _ h => h) trivial⟩
    have hf0I : ((fn : Int) == 0) = false := by rw [beq_eq_false_iff_ne]; omega
    have hfn : fn <= 900 := by obtain ⟨_, _, _, e, h, -⟩ := qE.slice H4.out.ty; cases e; exact h
    obtain ⟨gf, Cf, rfl, hgf, hCf, -⟩ := qE.cell H4.out.ty hf0
    have hCn : ∀ j, j < fn -> j * 11 + 11 <= Cf.size /\ True := fun j hj => by
      obtain ⟨_, C', e, _, hC', hz, _⟩ := qE.cell H4.out.ty hj
      cases e
      rw [hCf] at hC'
      cases hC'
      exact ⟨hz, trivial⟩
    have hcell : ∀ w', w'.heap[gf]? = some (.cells Cf 63) -> qp lo 1000002 w' (.slice (some ⟨gf, 0, none⟩) fn fc) -> ∀ j, j < fn -> ∀ i, i < 11 -> ∃ x, w'.cell? ⟨gf, j * 11 + i, none⟩ = some x /\ zcd lo 1000002 w' i x := fun w' _ hf j hj => by
      obtain ⟨_, C', e, _, _, _, hc⟩ := qE.cell hf hj
      cases e
      exact hc
    replace H4 := hid (H4.out.box hgf (by decide) hCf)
    go_upto_region 7 with fail
    go_cut [8] from 16 to 127 (fun vx W => ∃ (kF : Nat) (cF : Array Value), vx = .pointer (some ⟨kF, 0, none⟩) /\ Hid (MX lo r w (.slice b m c) [(kF, cF, 63), (gf, Cf, 63), (kS, #[.string kd, .slice (some ⟨gf, 0, none⟩) fn fc], 45)] (fun W => (qp lo 1000002 W (.slice (some ⟨gf, 0, none⟩) fn fc)) /\ yD lo 1000002 W cF) (p' + 1 + 1) W))
    case first =>
      have h0 := H4.out.drew
      have hS1 := (h0.bx (kS, #[.string kd, .slice (some ⟨gf, 0, none⟩) fn fc], 45) (by simp)).2.2
      have zS := (Array.getElem?_eq_some_iff.1 hS1).1
      have zF := (Array.getElem?_eq_some_iff.1 (show W4.drew.heap[gf]? = _ from hCf)).1
      have hkr : kS ≠ r := by have := (h0.bx (kS, #[.string kd, .slice (some ⟨gf, 0, none⟩) fn fc], 45) (by simp)).1; dsimp only at this; omega
      have hgr : gf ≠ r := by omega
      have hs11 := fun (j : Nat) (hj : j < fn) => hCn j hj
      refine yV (fun w' => w'.cell? ⟨kS, 1, none⟩ = some (.slice (some ⟨gf, 0, none⟩) fn fc) /\ w'.heap[gf]? = some (.cells Cf 63)) [10] (by kernel_rfl) ⟨(cell_of_block hS1).trans rfl, hCf⟩ (fun hHeld => ?_)
      obtain ⟨V, hVe⟩ : ∃ x, x = W4.drew := ⟨_, rfl⟩
      rw [<- hVe] at h0 hS1 zS zF hHeld ⊢
      clear hVe cS
      refine tD 0 ?_; refine tD 1 ?_; refine tD 2 ?_; refine tD 3 ?_; refine tD 4 ?_; refine tD 5 ?_
      refine c2D 6 9 (fun K hK => ?_) (fun K hK => ?_)
      ·
        go_simp
        refine (zQ fn r (p' + 1) V (by omega) (by omega) (by omega) h0.st.rd).mono ?_
        rintro e w5 ⟨j, rfl, hj, hr_, D_⟩
        have hjI : (j : Int) < (fn : Int) := by omega
        have hS5 := (zH D_ zS hkr).trans hS1
        have hF5 := (zH D_ zF hgr).trans hHeld.2
        (try go_wp2_with fail)
        refine hK.out _ _ (fun _ => ⟨(cell_of_block hS5).trans rfl, hF5⟩) (fun hHeld => ?_)
        clear hK K
        (try simp only [Act.put, sA, s0, sS])
        replace hHeld := hHeld (by decide)
        obtain ⟨cs, hcs, hA, hrg⟩ := zau hF5 (hCn j hj).1 (hcell w5 hF5 ((zN hlo D_).f _ h0.ty) j hj)
        refine tD 7 ?_
        refine mD 8 (cs := cs) (b := gf) (o := j * 11) (fun w' h i v hv => by rw [cell_of_block h.2, <- cell_of_block hF5]; exact hrg i v hv) Tryz.underlying63 rfl (by rw [hcs]; kernel_rfl) ?_
        refine cD 9 fun K hK => ?_
        go_simp
        refine hK.out _ _ (fun _ => ⟨(cell_of_block ((((Below.refl _ w5).alloc (Nat.le_refl _) _).block kS (Array.getElem?_eq_some_iff.1 hS5).1).trans hS5)).trans rfl, (((Below.refl _ w5).alloc (Nat.le_refl _) _).block gf (Array.getElem?_eq_some_iff.1 hF5).1).trans hF5⟩) (fun hHeld => ?_)
        clear hK K
        (try simp only [Act.put, sA, s0, sS])
        replace hHeld := hHeld (by decide)
        refine cD 10 fun K hK => ?_
        refine wp_store_mid 63 (.tmp 8) (.tmp 44) rfl w5.heap.size 0 cs.toArray rfl rfl (zU (MapKept.heap_alloc w5 _).1 (by simp [hcs])) (by rw [List.size_toArray, hcs]; kernel_rfl) (zcG hA) ?_
        refine hK.out _ _ (fun h => absurd (by decide) h) (fun _ => ?_)
        clear hK K hHeld
        (try simp only [Act.put])
        refine yx (by kernel_rfl) ?_ _
        refine jT (MX lo r w (.slice b m c) [(w5.heap.size, cs.toArray, 63), (gf, Cf, 63), (kS, #[.string kd, .slice (some ⟨gf, 0, none⟩) fn fc], 45)] (fun W => (qp lo 1000002 W (.slice (some ⟨gf, 0, none⟩) fn fc)) /\ yD lo 1000002 W cs.toArray) (p' + 1 + 1)) (h0.field (jq D_ (qV ((Below.refl _ _).alloc (Nat.le_refl _) _))) (hr_.mono ((Below.refl _ _).alloc (Nat.le_refl _) _)) (zaK D_) (MapKept.heap_alloc w5 _).1 rfl (hA.keep (zf _ _ _ _))) ?_
        rintro WZ hWZ
        have HZ := hid hWZ
        clear hWZ hrg hA D_ hr_ h0
        go_wp2_with fail
        go_meet
        case rel => exact ⟨w5.heap.size, cs.toArray, rfl, HZ⟩
      ·
        go_simp
        refine hK.out _ _ (fun _ => ⟨(cell_of_block ((((Below.refl _ V).alloc (Nat.le_refl _) _).block kS zS).trans hS1)).trans rfl, (((Below.refl _ V).alloc (Nat.le_refl _) _).block gf zF).trans hHeld.2⟩) (fun hHeld => ?_)
        clear hK K
        (try simp only [Act.put, sA, s0, sS])
        replace hHeld := hHeld (by decide)
        refine cD 6 fun K hK => ?_
        go_simp
        refine yS (fun W => MX lo r w (.slice b m c) [(gf, Cf, 63), (kS, #[.string kd, .slice (some ⟨gf, 0, none⟩) fn fc], 45)] (fun W => qp lo 1000002 W (.slice (some ⟨gf, 0, none⟩) fn fc)) (p' + 1) W /\ W.heap[gf]? = some (.cells Cf 63) /\ (∃ C, W.heap[V.heap.size]? = some (.cells C 63) /\ C.size = 11) /\ Dr r V W) ⟨h0.alloc _, hHeld.2, ⟨_, (MapKept.heap_alloc V _).1, rfl⟩, qV ((Below.refl _ _).alloc (Nat.le_refl _) _)⟩ ?_
        rintro W5 ⟨h5, hF, ⟨C5, hC5, hC11⟩, hd5⟩
        refine (zQ fn r (p' + 1) W5 (by omega) (by omega) (by omega) h5.st.rd).mono ?_
        rintro e w6 ⟨j, rfl, hj, hr_, D_⟩
        have hjI : (j : Int) < (fn : Int) := by omega
        have hF6 := (zH D_ (Array.getElem?_eq_some_iff.1 hF).1 hgr).trans hF
        have hS6 := ((h5.call hr_ D_).bx (kS, #[.string kd, .slice (some ⟨gf, 0, none⟩) fn fc], 45) (by simp)).2.2
        have hC6 := (zH D_ (Array.getElem?_eq_some_iff.1 hC5).1 (by have := h0.st.le; omega)).trans hC5
        (try go_wp2_with fail)
        refine hK.out _ _ (fun _ => ⟨(cell_of_block hS6).trans rfl, hF6⟩) (fun hHeld => ?_)
        clear hK K
        (try simp only [Act.put, sA, s0, sS])
        replace hHeld := hHeld (by decide)
        obtain ⟨cs, hcs, hA, hrg⟩ := zau hF6 (hCn j hj).1 (hcell w6 hF6 ((h5.call hr_ D_).ty) j hj)
        refine tD 7 ?_
        refine mD 8 (cs := cs) (b := gf) (o := j * 11) (fun w' h i v hv => by rw [cell_of_block h.2, <- cell_of_block hF6]; exact hrg i v hv) Tryz.underlying63 rfl (by rw [hcs]; kernel_rfl) ?_
        refine cD 10 fun K hK => ?_
        refine wp_store_mid 63 (.tmp 8) (.tmp 44) rfl V.heap.size 0 cs.toArray rfl rfl (zU hC6 (by simp [hcs, hC11])) (by rw [List.size_toArray, hcs]; kernel_rfl) (zcG hA) ?_
        refine hK.out _ _ (fun h => absurd (by decide) h) (fun _ => ?_)
        clear hK K hHeld
        (try simp only [Act.put])
        refine yx (by kernel_rfl) ?_ _
        refine jT (MX lo r w (.slice b m c) [(V.heap.size, cs.toArray, 63), (gf, Cf, 63), (kS, #[.string kd, .slice (some ⟨gf, 0, none⟩) fn fc], 45)] (fun W => (qp lo 1000002 W (.slice (some ⟨gf, 0, none⟩) fn fc)) /\ yD lo 1000002 W cs.toArray) (p' + 1 + 1)) (h0.field (jq hd5 D_) hr_ (Nat.le_refl _) hC6 hC11 hA) ?_
        rintro WZ hWZ
        have HZ := hid hWZ
        clear hWZ hrg hA D_ hr_ h0 h5
        go_wp2_with fail
        go_meet
        case rel => exact ⟨V.heap.size, cs.toArray, rfl, HZ⟩
    case rest =>
      obtain ⟨kF, cF, rfl, H5⟩ := hcut
      obtain ⟨W5, rfl⟩ : ∃ x, x = wc := ⟨_, rfl⟩
      replace hCf := (H5.out.bx (gf, Cf, 63) (by simp)).2.2
      dsimp only at hCf
      clear H4 cS
      have cS := fun j => cell_of_block (o := j) (H5.out.bx (kS, #[.string kd, .slice (some ⟨gf, 0, none⟩) fn fc], 45) (by simp)).2.2
      go_upto_region 8 with fail
      go_cut [9] from 16 to 127 (fun vx W => ∃ (kW : Nat) (cW : Array Value), vx = .pointer (some ⟨kW, 0, none⟩) /\ Hid (MX lo r w (.slice b m c) [(kW, cW, 63), (kF, cF, 63), (gf, Cf, 63), (kS, #[.string kd, .slice (some ⟨gf, 0, none⟩) fn fc], 45)] (fun W => ((qp lo 1000002 W (.slice (some ⟨gf, 0, none⟩) fn fc)) /\ yD lo 1000002 W cF) /\ yD lo 1000002 W cW) (p' + 1 + 1 + 1) W))
      case first =>
        have h0 := H5.out.drew
        have hS1 := (h0.bx (kS, #[.string kd, .slice (some ⟨gf, 0, none⟩) fn fc], 45) (by simp)).2.2
        have zS := (Array.getElem?_eq_some_iff.1 hS1).1
        have zF := (Array.getElem?_eq_some_iff.1 (show W5.drew.heap[gf]? = _ from hCf)).1
        have hkr : kS ≠ r := by have := (h0.bx (kS, #[.string kd, .slice (some ⟨gf, 0, none⟩) fn fc], 45) (by simp)).1; dsimp only at this; omega
        have hgr : gf ≠ r := by omega
        have hs11 := fun (j : Nat) (hj : j < fn) => hCn j hj
        refine yV (fun w' => w'.cell? ⟨kS, 1, none⟩ = some (.slice (some ⟨gf, 0, none⟩) fn fc) /\ w'.heap[gf]? = some (.cells Cf 63)) [10] (by kernel_rfl) ⟨(cell_of_block hS1).trans rfl, hCf⟩ (fun hHeld => ?_)
        obtain ⟨V, hVe⟩ : ∃ x, x = W5.drew := ⟨_, rfl⟩
        rw [<- hVe] at h0 hS1 zS zF hHeld ⊢
        clear hVe cS
        refine tD 0 ?_; refine tD 1 ?_; refine tD 2 ?_; refine tD 3 ?_; refine tD 4 ?_; refine tD 5 ?_
        refine c2D 6 9 (fun K hK => ?_) (fun K hK => ?_)
        ·
          go_simp
          refine (zQ fn r (p' + 1 + 1) V (by omega) (by omega) (by omega) h0.st.rd).mono ?_
          rintro e w5 ⟨j, rfl, hj, hr_, D_⟩
          have hjI : (j : Int) < (fn : Int) := by omega
          have hS5 := (zH D_ zS hkr).trans hS1
          have hF5 := (zH D_ zF hgr).trans hHeld.2
          (try go_wp2_with fail)
          refine hK.out _ _ (fun _ => ⟨(cell_of_block hS5).trans rfl, hF5⟩) (fun hHeld => ?_)
          clear hK K
          (try simp only [Act.put, sA, s0, sS])
          replace hHeld := hHeld (by decide)
          obtain ⟨cs, hcs, hA, hrg⟩ := zau hF5 (hCn j hj).1 (hcell w5 hF5 ((zN hlo D_).f _ h0.ty.1) j hj)
          refine tD 7 ?_
          refine mD 8 (cs := cs) (b := gf) (o := j * 11) (fun w' h i v hv => by rw [cell_of_block h.2, <- cell_of_block hF5]; exact hrg i v hv) Tryz.underlying63 rfl (by rw [hcs]; kernel_rfl) ?_
          refine cD 9 fun K hK => ?_
          go_simp
          refine hK.out _ _ (fun _ => ⟨(cell_of_block ((((Below.refl _ w5).alloc (Nat.le_refl _) _).block kS (Array.getElem?_eq_some_iff.1 hS5).1).trans hS5)).trans rfl, (((Below.refl _ w5).alloc (Nat.le_refl _) _).block gf (Array.getElem?_eq_some_iff.1 hF5).1).trans hF5⟩) (fun hHeld => ?_)
          clear hK K
          (try simp only [Act.put, sA, s0, sS])
          replace hHeld := hHeld (by decide)
          refine cD 10 fun K hK => ?_
          refine wp_store_mid 63 (.tmp 9) (.tmp 53) rfl w5.heap.size 0 cs.toArray rfl rfl (zU (MapKept.heap_alloc w5 _).1 (by simp [hcs])) (by rw [List.size_toArray, hcs]; kernel_rfl) (zcG hA) ?_
          refine hK.out _ _ (fun h => absurd (by decide) h) (fun _ => ?_)
          clear hK K hHeld
          (try simp only [Act.put])
          refine yx (by kernel_rfl) ?_ _
          refine jT (MX lo r w (.slice b m c) [(w5.heap.size, cs.toArray, 63), (kF, cF, 63), (gf, Cf, 63), (kS, #[.string kd, .slice (some ⟨gf, 0, none⟩) fn fc], 45)] (fun W => ((qp lo 1000002 W (.slice (some ⟨gf, 0, none⟩) fn fc)) /\ yD lo 1000002 W cF) /\ yD lo 1000002 W cs.toArray) (p' + 1 + 1 + 1)) (h0.field (jq D_ (qV ((Below.refl _ _).alloc (Nat.le_refl _) _))) (hr_.mono ((Below.refl _ _).alloc (Nat.le_refl _) _)) (zaK D_) (MapKept.heap_alloc w5 _).1 rfl (hA.keep (zf _ _ _ _))) ?_
          rintro WZ hWZ
          have HZ := hid hWZ
          clear hWZ hrg hA D_ hr_ h0
          go_wp2_with fail
          go_meet
          case rel => exact ⟨w5.heap.size, cs.toArray, rfl, HZ⟩
        ·
          go_simp
          refine hK.out _ _ (fun _ => ⟨(cell_of_block ((((Below.refl _ V).alloc (Nat.le_refl _) _).block kS zS).trans hS1)).trans rfl, (((Below.refl _ V).alloc (Nat.le_refl _) _).block gf zF).trans hHeld.2⟩) (fun hHeld => ?_)
          clear hK K
          (try simp only [Act.put, sA, s0, sS])
          replace hHeld := hHeld (by decide)
          refine cD 6 fun K hK => ?_
          go_simp
          refine yS (fun W => MX lo r w (.slice b m c) [(kF, cF, 63), (gf, Cf, 63), (kS, #[.string kd, .slice (some ⟨gf, 0, none⟩) fn fc], 45)] (fun W => (qp lo 1000002 W (.slice (some ⟨gf, 0, none⟩) fn fc)) /\ yD lo 1000002 W cF) (p' + 1 + 1) W /\ W.heap[gf]? = some (.cells Cf 63) /\ (∃ C, W.heap[V.heap.size]? = some (.cells C 63) /\ C.size = 11) /\ Dr r V W) ⟨h0.alloc _, hHeld.2, ⟨_, (MapKept.heap_alloc V _).1, rfl⟩, qV ((Below.refl _ _).alloc (Nat.le_refl _) _)⟩ ?_
          rintro W5 ⟨h5, hF, ⟨C5, hC5, hC11⟩, hd5⟩
          refine (zQ fn r (p' + 1 + 1) W5 (by omega) (by omega) (by omega) h5.st.rd).mono ?_
          rintro e w6 ⟨j, rfl, hj, hr_, D_⟩
          have hjI : (j : Int) < (fn : Int) := by omega
          have hF6 := (zH D_ (Array.getElem?_eq_some_iff.1 hF).1 hgr).trans hF
          have hS6 := ((h5.call hr_ D_).bx (kS, #[.string kd, .slice (some ⟨gf, 0, none⟩) fn fc], 45) (by simp)).2.2
          have hC6 := (zH D_ (Array.getElem?_eq_some_iff.1 hC5).1 (by have := h0.st.le; omega)).trans hC5
          (try go_wp2_with fail)
          refine hK.out _ _ (fun _ => ⟨(cell_of_block hS6).trans rfl, hF6⟩) (fun hHeld => ?_)
          clear hK K
          (try simp only [Act.put, sA, s0, sS])
          replace hHeld := hHeld (by decide)
          obtain ⟨cs, hcs, hA, hrg⟩ := zau hF6 (hCn j hj).1 (hcell w6 hF6 ((h5.call hr_ D_).ty.1) j hj)
          refine tD 7 ?_
          refine mD 8 (cs := cs) (b := gf) (o := j * 11) (fun w' h i v hv => by rw [cell_of_block h.2, <- cell_of_block hF6]; exact hrg i v hv) Tryz.underlying63 rfl (by rw [hcs]; kernel_rfl) ?_
          refine cD 10 fun K hK => ?_
          refine wp_store_mid 63 (.tmp 9) (.tmp 53) rfl V.heap.size 0 cs.toArray rfl rfl (zU hC6 (by simp [hcs, hC11])) (by rw [List.size_toArray, hcs]; kernel_rfl) (zcG hA) ?_
          refine hK.out _ _ (fun h => absurd (by decide) h) (fun _ => ?_)
          clear hK K hHeld
          (try simp only [Act.put])
          refine yx (by kernel_rfl) ?_ _
          refine jT (MX lo r w (.slice b m c) [(V.heap.size, cs.toArray, 63), (kF, cF, 63), (gf, Cf, 63), (kS, #[.string kd, .slice (some ⟨gf, 0, none⟩) fn fc], 45)] (fun W => ((qp lo 1000002 W (.slice (some ⟨gf, 0, none⟩) fn fc)) /\ yD lo 1000002 W cF) /\ yD lo 1000002 W cs.toArray) (p' + 1 + 1 + 1)) (h0.field (jq hd5 D_) hr_ (Nat.le_refl _) hC6 hC11 hA) ?_
          rintro WZ hWZ
          have HZ := hid hWZ
          clear hWZ hrg hA D_ hr_ h0 h5
          go_wp2_with fail
          go_meet
          case rel => exact ⟨V.heap.size, cs.toArray, rfl, HZ⟩
      case rest =>
        obtain ⟨kW, cW, rfl, H6⟩ := hcut
        obtain ⟨W6, rfl⟩ : ∃ x, x = wc := ⟨_, rfl⟩
        clear H5 cS hCf
        obtain ⟨fNm, fKd, fLs, fMs, fWa, fWn, fWc, fTo, fRl, fMu, fFx, fDf, fWg, rfl, hfNm, -⟩ := id H6.out.ty.1.2
        obtain ⟨xNm, xKd, xLs, xMs, xWa, xWn, xWc, xTo, xRl, xMu, xFx, xDf, xWg, rfl, hxNm, -⟩ := id H6.out.ty.2
        have cS := fun j => cell_of_block (o := j) (H6.out.bx (kS, #[.string kd, .slice (some ⟨gf, 0, none⟩) fn fc], 45) (by simp)).2.2
        have cF := fun j => cell_of_block (o := j) (H6.out.bx (kF, #[.string fNm, .int .i64 fKd, .int .i64 fLs, .int .i64 fMs, .slice fWa fWn fWc, .string fTo, .int .i64 fRl, .bool fMu, .bool fFx, .string fDf, .string fWg], 63) (by simp)).2.2
        go_upto_region 10 with fail
        refine zn (MX lo r w (.slice b m c) [(kW, #[.string xNm, .int .i64 xKd, .int .i64 xLs, .int .i64 xMs, .slice xWa xWn xWc, .string xTo, .int .i64 xRl, .bool xMu, .bool xFx, .string xDf, .string xWg], 63), (kF, #[.string fNm, .int .i64 fKd, .int .i64 fLs, .int .i64 fMs, .slice fWa fWn fWc, .string fTo, .int .i64 fRl, .bool fMu, .bool fFx, .string fDf, .string fWg], 63), (gf, Cf, 63), (kS, #[.string kd, .slice (some ⟨gf, 0, none⟩) fn fc], 45)] (fun W => (((qp lo 1000002 W (.slice (some ⟨gf, 0, none⟩) fn fc)) /\ yD lo 1000002 W #[.string fNm, .int .i64 fKd, .int .i64 fLs, .int .i64 fMs, .slice fWa fWn fWc, .string fTo, .int .i64 fRl, .bool fMu, .bool fFx, .string fDf, .string fWg]) /\ yD lo 1000002 W #[.string xNm, .int .i64 xKd, .int .i64 xLs, .int .i64 xMs, .slice xWa xWn xWc, .string xTo, .int .i64 xRl, .bool xMu, .bool xFx, .string xDf, .string xWg]) /\ yE lo 1000004 W (.slice (some ⟨W6.heap.size, 0, none⟩) 1 1)) (p' + 1 + 1 + 1)) ((H6.out.alloc _).typed (zie H6.out.tk zd8) ⟨(H6.out.alloc _).ty, qd ⟨hkd, hfNm, by decide, by decide, by decide, by decide⟩ H6.out.st.le⟩) ?_
        rintro W7 hW7
        obtain ⟨kM, hkM⟩ : ∃ k, k = W6.heap.size := ⟨_, rfl⟩
        rw [<- hkM] at hW7 ⊢
        have H7 := hid hW7
        clear hW7 hkM H6 cS cF
        go_wp2_with fail
        refine (zQ 3 r (p' + 1 + 1 + 1) W7 (by omega) (by omega) (by omega) H7.out.st.rd).mono ?_
        rintro e w8 ⟨q8, rfl, hq8, hr_, D_⟩
        have H8 := hid (H7.out.call hr_ D_)
        clear hr_ D_ H7
        go_upto_if 61 with fail
        go_cut [] from 16 to 127 (fun W => ∃ p2, p2 <= p' + 8 /\ Hid (MX lo r w (.slice b m c) [(kW, #[.string xNm, .int .i64 xKd, .int .i64 xLs, .int .i64 xMs, .slice xWa xWn xWc, .string xTo, .int .i64 xRl, .bool xMu, .bool xFx, .string xDf, .string xWg], 63), (kF, #[.string fNm, .int .i64 fKd, .int .i64 fLs, .int .i64 fMs, .slice fWa fWn fWc, .string fTo, .int .i64 fRl, .bool fMu, .bool fFx, .string fDf, .string fWg], 63), (gf, Cf, 63), (kS, #[.string kd, .slice (some ⟨gf, 0, none⟩) fn fc], 45)] (fun W => (((qp lo 1000002 W (.slice (some ⟨gf, 0, none⟩) fn fc)) /\ yD lo 1000002 W #[.string fNm, .int .i64 fKd, .int .i64 fLs, .int .i64 fMs, .slice fWa fWn fWc, .string fTo, .int .i64 fRl, .bool fMu, .bool fFx, .string fDf, .string fWg]) /\ yD lo 1000002 W #[.string xNm, .int .i64 xKd, .int .i64 xLs, .int .i64 xMs, .slice xWa xWn xWc, .string xTo, .int .i64 xRl, .bool xMu, .bool xFx, .string xDf, .string xWg]) /\ yE lo 1000004 W (.slice (some ⟨kM, 0, none⟩) 1 1)) (p2) W))
        case first =>
          by_cases hq : 0 < q8
          · have hqI : (0 : Int) < (q8 : Int) := by omega
            have cW := fun j => cell_of_block (o := j) (H8.out.bx (kW, #[.string xNm, .int .i64 xKd, .int .i64 xLs, .int .i64 xMs, .slice xWa xWn xWc, .string xTo, .int .i64 xRl, .bool xMu, .bool xFx, .string xDf, .string xWg], 63) (by simp)).2.2
            obtain ⟨m0, m1, m2, m3, m4, m5, hM, zM, lM, hMs⟩ := yX H8.out.ty.2
            have cM := fun j => cell_of_block (o := j) hM
            have fM := fun j => za (o := j) hM
            have HM := hid hM
            clear hM
            go_upto_region 12 with fail
            refine zn (MX lo r w (.slice b m c) [(kW, #[.string xNm, .int .i64 xKd, .int .i64 xLs, .int .i64 xMs, .slice xWa xWn xWc, .string xTo, .int .i64 xRl, .bool xMu, .bool xFx, .string xDf, .string xWg], 63), (kF, #[.string fNm, .int .i64 fKd, .int .i64 fLs, .int .i64 fMs, .slice fWa fWn fWc, .string fTo, .int .i64 fRl, .bool fMu, .bool fFx, .string fDf, .string fWg], 63), (gf, Cf, 63), (kS, #[.string kd, .slice (some ⟨gf, 0, none⟩) fn fc], 45)] (fun W => (((qp lo 1000002 W (.slice (some ⟨gf, 0, none⟩) fn fc)) /\ yD lo 1000002 W #[.string fNm, .int .i64 fKd, .int .i64 fLs, .int .i64 fMs, .slice fWa fWn fWc, .string fTo, .int .i64 fRl, .bool fMu, .bool fFx, .string fDf, .string fWg]) /\ yD lo 1000002 W #[.string xNm, .int .i64 xKd, .int .i64 xLs, .int .i64 xMs, .slice xWa xWn xWc, .string xTo, .int .i64 xRl, .bool xMu, .bool xFx, .string xDf, .string xWg]) /\ yE lo 1000004 W (.slice (some ⟨kM, 0, none⟩) 1 1)) (p' + 1 + 1 + 1 + 1)) (H8.out.set lM HM.out hxNm) ?_
            rintro W9 hW9
            have H9 := hid hW9
            clear hW9 cW cM fM HM zM hMs H8
            go_wp2_with fail
            refine (zQ 4 r (p' + 1 + 1 + 1 + 1) W9 (by omega) (by omega) (by omega) H9.out.st.rd).mono ?_
            rintro e w10 ⟨q10, rfl, hq10, hr_, D_⟩
            have H10 := hid (H9.out.call hr_ D_)
            clear hr_ D_ H9
            by_cases hq2 : 0 < q10
            · have hqI2 : (0 : Int) < (q10 : Int) := by omega
              have cW := fun j => cell_of_block (o := j) (H10.out.bx (kW, #[.string xNm, .int .i64 xKd, .int .i64 xLs, .int .i64 xMs, .slice xWa xWn xWc, .string xTo, .int .i64 xRl, .bool xMu, .bool xFx, .string xDf, .string xWg], 63) (by simp)).2.2
              go_wp2_with fail
              refine (zcM #[.string xNm, .int .i64 xKd, .int .i64 xLs, .int .i64 xMs, .slice xWa xWn xWc, .string xTo, .int .i64 xRl, .bool xMu, .bool xFx, .string xDf, .string xWg] none 0 0 lo 1000002 r (p' + 1 + 1 + 1 + 1 + 1) w10 H10.out.ty.1.2 (Or.inl rfl) (by omega) (by omega) (by omega) H10.out.st.rd hlo H10.out.st.le).mono ?_
              rintro e w11 ⟨s11, p11, rfl, hs11, hp11, hr_, D_⟩
              have H11 := hid (H10.out.call hr_ D_)
              clear hr_ D_ H10 cW lM
              obtain ⟨m0, m1, m2, m3, m4, m5, hM, zM, lM, hMs⟩ := yX H11.out.ty.2
              have cM := fun j => cell_of_block (o := j) hM
              have fM := fun j => za (o := j) hM
              have HZ := hid (H11.out.set (j := 3) lM hM hs11)
              clear hM hMs
              go_wp2_with fail
              go_meet
              case rel => exact ⟨p11, by omega, HZ⟩
            · have hqI2 : ¬ (0 : Int) < (q10 : Int) := by omega
              go_wp2_with fail
              go_meet
              case rel => exact ⟨_, by omega, H10⟩
          · have hqI : ¬ (0 : Int) < (q8 : Int) := by omega
            go_wp2_with fail
            go_meet
            case rel => exact ⟨_, by omega, H8⟩
        case rest =>
          obtain ⟨p2, hp2, H12⟩ := hcut
          obtain ⟨W12, rfl⟩ : ∃ x, x = wc := ⟨_, rfl⟩
          clear H8
          go_wp2_with fail
          refine (zQ 3 r p2 W12 (by omega) (by omega) (by omega) H12.out.st.rd).mono ?_
          rintro e w13 ⟨q13, rfl, hq13, hr_, D_⟩
          have H13 := hid (H12.out.call hr_ D_)
          clear hr_ D_ H12
          go_upto_if 75 with fail
          go_cut [] from 16 to 127 (fun W => ∃ p3, p3 <= p2 + 3 /\ Hid (MX lo r w (.slice b m c) [(kW, #[.string xNm, .int .i64 xKd, .int .i64 xLs, .int .i64 xMs, .slice xWa xWn xWc, .string xTo, .int .i64 xRl, .bool xMu, .bool xFx, .string xDf, .string xWg], 63), (kF, #[.string fNm, .int .i64 fKd, .int .i64 fLs, .int .i64 fMs, .slice fWa fWn fWc, .string fTo, .int .i64 fRl, .bool fMu, .bool fFx, .string fDf, .string fWg], 63), (gf, Cf, 63), (kS, #[.string kd, .slice (some ⟨gf, 0, none⟩) fn fc], 45)] (fun W => (((qp lo 1000002 W (.slice (some ⟨gf, 0, none⟩) fn fc)) /\ yD lo 1000002 W #[.string fNm, .int .i64 fKd, .int .i64 fLs, .int .i64 fMs, .slice fWa fWn fWc, .string fTo, .int .i64 fRl, .bool fMu, .bool fFx, .string fDf, .string fWg]) /\ yD lo 1000002 W #[.string xNm, .int .i64 xKd, .int .i64 xLs, .int .i64 xMs, .slice xWa xWn xWc, .string xTo, .int .i64 xRl, .bool xMu, .bool xFx, .string xDf, .string xWg]) /\ yE lo 1000004 W (.slice (some ⟨kM, 0, none⟩) 1 1)) (p3) W))
          case first =>
            rcases Nat.eq_zero_or_pos q13 with hq | hq
            · subst hq
              go_upto_region 15 with fail
              have h0 := H13.out.drew
              have hS1 := (h0.bx (kS, #[.string kd, .slice (some ⟨gf, 0, none⟩) fn fc], 45) (by simp)).2.2
              have hC1 := (h0.bx (gf, Cf, 63) (by simp)).2.2
              have hkr : kS ≠ r := by have := (h0.bx (kS, #[.string kd, .slice (some ⟨gf, 0, none⟩) fn fc], 45) (by simp)).1; dsimp only at this; omega
              have hgr : gf ≠ r := by omega
              refine yV (fun w' => w'.cell? ⟨kS, 1, none⟩ = some (.slice (some ⟨gf, 0, none⟩) fn fc) /\ w'.heap[gf]? = some (.cells Cf 63)) [11] (by kernel_rfl) ⟨(cell_of_block hS1).trans rfl, hC1⟩ (fun hHeld => ?_)
              obtain ⟨V, hVe⟩ : ∃ x, x = w13.drew := ⟨_, rfl⟩
              rw [<- hVe] at h0 hS1 hC1 hHeld ⊢
              clear hVe
              refine tD 0 ?_; refine tD 1 ?_; refine tD 2 ?_; refine tD 3 ?_; refine tD 4 ?_; refine tD 5 ?_
              refine cD 6 fun K hK => ?_
              go_simp
              refine (zQ fn r (p2 + 1) V (by omega) (by omega) (by omega) h0.st.rd).mono ?_
              rintro e w14 ⟨j, rfl, hj, hr_, D_⟩
              have hjI : (j : Int) < (fn : Int) := by omega
              have h5 := h0.call hr_ D_
              have hS5 := (h5.bx (kS, #[.string kd, .slice (some ⟨gf, 0, none⟩) fn fc], 45) (by simp)).2.2
              have hF5 := (h5.bx (gf, Cf, 63) (by simp)).2.2
              (try go_wp2_with fail)
              refine hK.out _ _ (fun _ => ⟨(cell_of_block hS5).trans rfl, hF5⟩) (fun hHeld => ?_)
              clear hK K
              (try simp only [Act.put, sA, s0, sS])
              replace hHeld := hHeld (by decide)
              obtain ⟨x_, cx_, nj, rfl, hnj⟩ := hcell w14 hF5 h5.ty.1.1.1 j hj 0 (by omega)
              have hcj : Cf[j * 11]? = some (.string nj) := by rw [<- cx_, Nat.add_zero, cell_of_block hF5]
              have H5 := hid h5
              clear h5 h0 hS1 hC1 hS5 cx_
              refine tD 7 ?_
              refine tD 8 ?_
              refine tD (v := .string nj) 9 ?_ (hy := fun w' h => by have c := (cell_of_block (o := j * 11) h.2).trans hcj; go_simp)
              refine tD 10 ?_
              obtain ⟨m0, m1, m2, m3, m4, m5, hM, zM, lM, hMs⟩ := yX H5.out.ty.2
              have cM := fun j => cell_of_block (o := j) hM
              have fM := fun j => za (o := j) hM
              have HZ := hid (H5.out.set (j := 5) lM hM hnj)
              refine cD 11 fun K hK => ?_
              clear hM hMs
              go_simp
              (try go_wp2_with fail)
              refine hK.out _ _ (fun h => absurd (by decide) h) (fun _ => ?_)
              clear hK K hHeld
              (try simp only [Act.put, sA, s0, sS])
              refine yx (by kernel_rfl) ?_ _
              refine jT (MX lo r w (.slice b m c) [(kW, #[.string xNm, .int .i64 xKd, .int .i64 xLs, .int .i64 xMs, .slice xWa xWn xWc, .string xTo, .int .i64 xRl, .bool xMu, .bool xFx, .string xDf, .string xWg], 63), (kF, #[.string fNm, .int .i64 fKd, .int .i64 fLs, .int .i64 fMs, .slice fWa fWn fWc, .string fTo, .int .i64 fRl, .bool fMu, .bool fFx, .string fDf, .string fWg], 63), (gf, Cf, 63), (kS, #[.string kd, .slice (some ⟨gf, 0, none⟩) fn fc], 45)] (fun W => (((qp lo 1000002 W (.slice (some ⟨gf, 0, none⟩) fn fc)) /\ yD lo 1000002 W #[.string fNm, .int .i64 fKd, .int .i64 fLs, .int .i64 fMs, .slice fWa fWn fWc, .string fTo, .int .i64 fRl, .bool fMu, .bool fFx, .string fDf, .string fWg]) /\ yD lo 1000002 W #[.string xNm, .int .i64 xKd, .int .i64 xLs, .int .i64 xMs, .slice xWa xWn xWc, .string xTo, .int .i64 xRl, .bool xMu, .bool xFx, .string xDf, .string xWg]) /\ yE lo 1000004 W (.slice (some ⟨kM, 0, none⟩) 1 1)) (p2 + 1 + 1)) HZ.out ?_
              rintro WZ hWZ
              have HZ2 := hid hWZ
              clear hWZ HZ cM fM zM
              go_wp2_with fail
              go_meet
              case rel => exact ⟨_, by omega, HZ2⟩
            · have hqI : ((q13 : Int) == 0) = false := by rw [beq_eq_false_iff_ne]; omega
              have cF := fun j => cell_of_block (o := j) (H13.out.bx (kF, #[.string fNm, .int .i64 fKd, .int .i64 fLs, .int .i64 fMs, .slice fWa fWn fWc, .string fTo, .int .i64 fRl, .bool fMu, .bool fFx, .string fDf, .string fWg], 63) (by simp)).2.2
              go_wp2_with fail
              refine (zcM #[.string fNm, .int .i64 fKd, .int .i64 fLs, .int .i64 fMs, .slice fWa fWn fWc, .string fTo, .int .i64 fRl, .bool fMu, .bool fFx, .string fDf, .string fWg] none 0 0 lo 1000002 r (p2 + 1) w13 H13.out.ty.1.1.2 (Or.inl rfl) (by omega) (by omega) (by omega) H13.out.st.rd hlo H13.out.st.le).mono ?_
              rintro e w14 ⟨s14, p14, rfl, hs14, hp14, hr_, D_⟩
              have H14 := hid (H13.out.call hr_ D_)
              clear hr_ D_ H13 cF
              obtain ⟨m0, m1, m2, m3, m4, m5, hM, zM, lM, hMs⟩ := yX H14.out.ty.2
              have cM := fun j => cell_of_block (o := j) hM
              have fM := fun j => za (o := j) hM
              have HZ := hid (H14.out.set (j := 4) lM hM hs14)
              clear hM hMs
              go_wp2_with fail
              go_meet
              case rel => exact ⟨p14, by omega, HZ⟩
          case rest =>
            obtain ⟨p3, hp3, H15⟩ := hcut
            obtain ⟨W15, rfl⟩ : ∃ x, x = wc := ⟨_, rfl⟩
            clear H13
            go_upto_region 17 with fail
            go_cut [99] from 16 to 127 (fun vx W => ∃ (bb : Bool) (p4 : Nat), vx = .bool bb /\ (bb = true -> 0 < m) /\ p4 <= p3 + 1 /\ Hid (MX lo r w (.slice b m c) [(kW, #[.string xNm, .int .i64 xKd, .int .i64 xLs, .int .i64 xMs, .slice xWa xWn xWc, .string xTo, .int .i64 xRl, .bool xMu, .bool xFx, .string xDf, .string xWg], 63), (kF, #[.string fNm, .int .i64 fKd, .int .i64 fLs, .int .i64 fMs, .slice fWa fWn fWc, .string fTo, .int .i64 fRl, .bool fMu, .bool fFx, .string fDf, .string fWg], 63), (gf, Cf, 63), (kS, #[.string kd, .slice (some ⟨gf, 0, none⟩) fn fc], 45)] (fun W => (((qp lo 1000002 W (.slice (some ⟨gf, 0, none⟩) fn fc)) /\ yD lo 1000002 W #[.string fNm, .int .i64 fKd, .int .i64 fLs, .int .i64 fMs, .slice fWa fWn fWc, .string fTo, .int .i64 fRl, .bool fMu, .bool fFx, .string fDf, .string fWg]) /\ yD lo 1000002 W #[.string xNm, .int .i64 xKd, .int .i64 xLs, .int .i64 xMs, .slice xWa xWn xWc, .string xTo, .int .i64 xRl, .bool xMu, .bool xFx, .string xDf, .string xWg]) /\ yE lo 1000004 W (.slice (some ⟨kM, 0, none⟩) 1 1)) (p4) W))
            case first =>
              rcases Nat.eq_zero_or_pos m with hm0 | hm0
              · subst hm0
                go_wp2_with fail
                go_meet
                case rel => exact ⟨false, p3, rfl, (fun h => by cases h), by omega, H15⟩
              · have hmI : (0 : Int) < (m : Int) := by omega
                go_wp2_with fail
                refine (zQ 2 r p3 W15 (by omega) (by omega) (by omega) H15.out.st.rd).mono ?_
                rintro e w16 ⟨q16, rfl, hq16, hr_, D_⟩
                have H16 := hid (H15.out.call hr_ D_)
                clear hr_ D_ H15
                go_wp2_with fail
                go_meet
                case rel => exact ⟨_, p3 + 1, rfl, fun _ => hm0, by omega, H16⟩
            case rest =>
              obtain ⟨bb, p4, rfl, hbb, hp4, H17⟩ := hcut
              obtain ⟨W17, rfl⟩ : ∃ x, x = wc := ⟨_, rfl⟩
              clear H15
              go_upto_if 99 with fail
              go_cut [] from 16 to 127 (fun W => ∃ p5, p5 <= p4 + 1 /\ Hid (MX lo r w (.slice b m c) [(kW, #[.string xNm, .int .i64 xKd, .int .i64 xLs, .int .i64 xMs, .slice xWa xWn xWc, .string xTo, .int .i64 xRl, .bool xMu, .bool xFx, .string xDf, .string xWg], 63), (kF, #[.string fNm, .int .i64 fKd, .int .i64 fLs, .int .i64 fMs, .slice fWa fWn fWc, .string fTo, .int .i64 fRl, .bool fMu, .bool fFx, .string fDf, .string fWg], 63), (gf, Cf, 63), (kS, #[.string kd, .slice (some ⟨gf, 0, none⟩) fn fc], 45)] (fun W => (((qp lo 1000002 W (.slice (some ⟨gf, 0, none⟩) fn fc)) /\ yD lo 1000002 W #[.string fNm, .int .i64 fKd, .int .i64 fLs, .int .i64 fMs, .slice fWa fWn fWc, .string fTo, .int .i64 fRl, .bool fMu, .bool fFx, .string fDf, .string fWg]) /\ yD lo 1000002 W #[.string xNm, .int .i64 xKd, .int .i64 xLs, .int .i64 xMs, .slice xWa xWn xWc, .string xTo, .int .i64 xRl, .bool xMu, .bool xFx, .string xDf, .string xWg]) /\ yE lo 1000004 W (.slice (some ⟨kM, 0, none⟩) 1 1)) (p5) W))
              case first =>
                cases bb with
                | false =>
                  go_wp2_with fail
                  go_meet
                  case rel => exact ⟨_, by omega, H17⟩
                | true =>
                  have hm0 := hbb rfl
                  go_wp2_with fail
                  refine (zQ m r p4 W17 (by omega) (by omega) (by omega) H17.out.st.rd).mono ?_
                  rintro e w18 ⟨j, rfl, hj, hr_, D_⟩
                  have H18 := hid (H17.out.call hr_ D_)
                  clear hr_ D_ H17
                  have hjI : (j : Int) < (m : Int) := by omega
                  obtain ⟨g6, C6, e6, hg6, -, -, hc6⟩ := H18.out.row.cell hj
                  obtain ⟨x0, d0, t0, rfl, z0⟩ := hc6 0 (by omega)
                  obtain ⟨x1, d1, t1, rfl, z1⟩ := hc6 1 (by omega)
                  obtain ⟨x2, d2, t2, rfl, z2⟩ := hc6 2 (by omega)
                  obtain ⟨x3, d3, t3, rfl, z3⟩ := hc6 3 (by omega)
                  obtain ⟨x4, d4, t4, rfl, z4⟩ := hc6 4 (by omega)
                  obtain ⟨x5, d5, t5, rfl, z5⟩ := hc6 5 (by omega)
                  have d0 : w18.cell? ⟨g6, j * 6, none⟩ = some (.string t0) := d0
                  subst e6
                  clear hc6 C6
                  go_upto_region 19 with fail
                  obtain ⟨_, _, _, _, _, _, -, zM, -, -⟩ := yX H18.out.ty.2
                  refine zn (fun W => MX lo r w (.slice (some ⟨g6, 0, none⟩) m c) [(kW, #[.string xNm, .int .i64 xKd, .int .i64 xLs, .int .i64 xMs, .slice xWa xWn xWc, .string xTo, .int .i64 xRl, .bool xMu, .bool xFx, .string xDf, .string xWg], 63), (kF, #[.string fNm, .int .i64 fKd, .int .i64 fLs, .int .i64 fMs, .slice fWa fWn fWc, .string fTo, .int .i64 fRl, .bool fMu, .bool fFx, .string fDf, .string fWg], 63), (gf, Cf, 63), (kS, #[.string kd, .slice (some ⟨gf, 0, none⟩) fn fc], 45)] (fun W => (((qp lo 1000002 W (.slice (some ⟨gf, 0, none⟩) fn fc)) /\ yD lo 1000002 W #[.string fNm, .int .i64 fKd, .int .i64 fLs, .int .i64 fMs, .slice fWa fWn fWc, .string fTo, .int .i64 fRl, .bool fMu, .bool fFx, .string fDf, .string fWg]) /\ yD lo 1000002 W #[.string xNm, .int .i64 xKd, .int .i64 xLs, .int .i64 xMs, .slice xWa xWn xWc, .string xTo, .int .i64 xRl, .bool xMu, .bool xFx, .string xDf, .string xWg]) /\ yE lo 1000004 W (.slice (some ⟨kM, 0, none⟩) 1 1)) (p4 + 1) W /\ W.heap[w18.heap.size]? = some (.cells #[.string t0, .string t1, .string t2, .string t3, .string t4, .string t5] 56)) ⟨H18.out.alloc _, (MapKept.heap_alloc w18 _).1⟩ ?_
                  rintro W19 ⟨hW19, hQ⟩
                  obtain ⟨kQ, hkQ⟩ : ∃ k, k = w18.heap.size := ⟨_, rfl⟩
                  rw [<- hkQ] at hQ ⊢
                  have hne : kQ ≠ kM := by omega
                  have H19 := qO hW19 hQ
                  have cQ := fun j => cell_of_block (o := j) hQ
                  have cS := fun j => cell_of_block (o := j) (hW19.bx (kS, #[.string kd, .slice (some ⟨gf, 0, none⟩) fn fc], 45) (by simp)).2.2
                  clear hW19 hQ hkQ d0 d1 d2 d3 d4 d5 H18 zM
                  by_cases he : (t0.toList == kd.toList) = true
                  · obtain ⟨m0, m1, m2, m3, m4, m5, hM, zM, lM, hMs⟩ := yX H19.out.1.ty.2
                    have cM := fun j => cell_of_block (o := j) hM
                    have fM := fun j => za (o := j) hM
                    have HM := hid hM
                    clear hM
                    go_upto_region 21 with fail
                    refine zn (fun W => MX lo r w (.slice (some ⟨g6, 0, none⟩) m c) [(kW, #[.string xNm, .int .i64 xKd, .int .i64 xLs, .int .i64 xMs, .slice xWa xWn xWc, .string xTo, .int .i64 xRl, .bool xMu, .bool xFx, .string xDf, .string xWg], 63), (kF, #[.string fNm, .int .i64 fKd, .int .i64 fLs, .int .i64 fMs, .slice fWa fWn fWc, .string fTo, .int .i64 fRl, .bool fMu, .bool fFx, .string fDf, .string fWg], 63), (gf, Cf, 63), (kS, #[.string kd, .slice (some ⟨gf, 0, none⟩) fn fc], 45)] (fun W => (((qp lo 1000002 W (.slice (some ⟨gf, 0, none⟩) fn fc)) /\ yD lo 1000002 W #[.string fNm, .int .i64 fKd, .int .i64 fLs, .int .i64 fMs, .slice fWa fWn fWc, .string fTo, .int .i64 fRl, .bool fMu, .bool fFx, .string fDf, .string fWg]) /\ yD lo 1000002 W #[.string xNm, .int .i64 xKd, .int .i64 xLs, .int .i64 xMs, .slice xWa xWn xWc, .string xTo, .int .i64 xRl, .bool xMu, .bool xFx, .string xDf, .string xWg]) /\ yE lo 1000004 W (.slice (some ⟨kM, 0, none⟩) 1 1)) (p4 + 1) W /\ W.heap[kQ]? = some (.cells #[.string t0, .string t1, .string t2, .string t3, .string t4, .string t5] 56)) ⟨H19.out.1.set lM HM.out z1, (yt hne).trans H19.out.2⟩ ?_
                    rintro W20 ⟨hW20, hQ⟩
                    clear cQ cM fM HM zM hMs H19 lM cS
                    have cQ := fun j => cell_of_block (o := j) hQ
                    have H20 := hid hW20
                    clear hW20 hQ
                    obtain ⟨m0, m1, m2, m3, m4, m5, hM, zM, lM, hMs⟩ := yX H20.out.ty.2
                    have cM := fun j => cell_of_block (o := j) hM
                    have fM := fun j => za (o := j) hM
                    have HZ := hid (H20.out.set (j := 3) lM hM z4)
                    clear hM hMs
                    go_wp2_with fail
                    go_meet
                    case rel => exact ⟨_, by omega, HZ⟩
                  · have he2 : (t0.toList == kd.toList) = false := by simpa using he
                    clear he
                    go_wp2_with fail
                    go_meet
                    case rel => exact ⟨_, by omega, hid H19.out.1⟩
              case rest =>
                obtain ⟨p5, hp5, H21⟩ := hcut
                obtain ⟨W21, rfl⟩ : ∃ x, x = wc := ⟨_, rfl⟩
                clear H17
                go_upto_region 22 with fail
                go_cut [12] from 16 to 127 (fun vx W => ∃ (a9 : Option Addr) (c9 : Nat), vx = .slice a9 (m + 1) c9 /\ Hid (MX lo r w (.slice b m c) [] (fun W => yE lo 1000004 W (.slice a9 (m + 1) c9)) p5 W))
                case first =>
                  obtain ⟨m0, m1, m2, m3, m4, m5, hM, zM, lM, hMs⟩ := yX H21.out.ty.2
                  have hMd : W21.drew.heap[kM]? = _ := hM
                  have h0 := H21.out.drew
                  refine yV (fun w' => w'.heap[kM]? = some (.cells #[.string m0, .string m1, .string m2, .string m3, .string m4, .string m5] 56)) [] (by kernel_rfl) hMd (fun hHeld => ?_)
                  obtain ⟨V, hVe⟩ : ∃ x, x = W21.drew := ⟨_, rfl⟩
                  rw [<- hVe] at h0 hMd hHeld ⊢
                  clear hVe hM zM hMd
                  have X0 := hid h0
                  clear h0
                  refine tD 1 ?_
                  refine mD 3 (cs := [.string m0, .string m1, .string m2, .string m3, .string m4, .string m5]) (b := kM) (o := 0) (fun w' h => zY h) Tryz.underlying56 rfl (by kernel_rfl) ?_
                  refine c2D 0 4 (fun K hK => ?_) (fun K hK => ?_)
                  ·
                    go_simp
                    obtain ⟨v1, hv1⟩ : ∃ x, x = V.alloc (.cells #[] 56) := ⟨_, rfl⟩
                    have X1 := hid (show MX lo r w (.slice b m c) [(kW, #[.string xNm, .int .i64 xKd, .int .i64 xLs, .int .i64 xMs, .slice xWa xWn xWc, .string xTo, .int .i64 xRl, .bool xMu, .bool xFx, .string xDf, .string xWg], 63), (kF, #[.string fNm, .int .i64 fKd, .int .i64 fLs, .int .i64 fMs, .slice fWa fWn fWc, .string fTo, .int .i64 fRl, .bool fMu, .bool fFx, .string fDf, .string fWg], 63), (gf, Cf, 63), (kS, #[.string kd, .slice (some ⟨gf, 0, none⟩) fn fc], 45)] (fun W => (((qp lo 1000002 W (.slice (some ⟨gf, 0, none⟩) fn fc)) /\ yD lo 1000002 W #[.string fNm, .int .i64 fKd, .int .i64 fLs, .int .i64 fMs, .slice fWa fWn fWc, .string fTo, .int .i64 fRl, .bool fMu, .bool fFx, .string fDf, .string fWg]) /\ yD lo 1000002 W #[.string xNm, .int .i64 xKd, .int .i64 xLs, .int .i64 xMs, .slice xWa xWn xWc, .string xTo, .int .i64 xRl, .bool xMu, .bool xFx, .string xDf, .string xWg]) /\ yE lo 1000004 W (.slice (some ⟨kM, 0, none⟩) 1 1)) (p5) v1 by rw [hv1]; exact X0.out.alloc _)
                    have A1 : Hid (yE lo 1000004 v1 (.slice (some ⟨V.heap.size, 0, none⟩) 0 0)) := by rw [hv1]; exact hid (jy lo 1000 _ _ 6 0 V #[] X0.out.st.le rfl (by simp [maxLen]) (by omega) (fun j x hx => by simp at hx))
                    have hA1 : V.heap.size ≠ kM := by have := (Array.getElem?_eq_some_iff.1 hHeld).1; omega
                    have hE1 : Hid (v1.heap[V.heap.size]? = some (.cells #[] 56)) := by rw [hv1]; exact (MapKept.heap_alloc V _).1
                    (try go_wp2_with fail)
                    rw [<- hv1]
                    refine hK.out _ _ (fun _ => by rw [hv1]; exact (((Below.refl _ V).alloc (Nat.le_refl _) _).block kM (Array.getElem?_eq_some_iff.1 hHeld).1).trans hHeld) (fun hHeld => ?_)
                    clear hv1
                    clear hK K
                    (try simp only [Act.put, sA, s0, sS])
                    replace hHeld := hHeld (by decide)
                    refine c2D 2 4 (fun K hK => ?_) (fun K hK => ?_)
                    ·
                      obtain ⟨a2, c2, v2, hr2, hF2, hb2, hg2, hK2⟩ := za7 (ty := 24) A1.out (X1.out.row) (by omega) X1.out.st.le
                      rw [Nat.zero_add] at hr2 hF2
                      have hO2 : (Value.slice a2 m c2).ownBlock ≠ some kM := fun e => by
                        have hz := (Array.getElem?_eq_some_iff.1 hHeld).1
                        rcases zdG hE1.out X1.out.row (by omega) hr2 with h | h
                        · rw [h] at e; exact hA1 (Option.some.inj e)
                        · rw [h] at e; have := Option.some.inj e; omega
                      have X2 := hid (X1.out.grow hK2 hb2 hg2 (zbD A1.out))
                      have A2 : Hid (yE lo 1000004 v2 (.slice a2 m c2)) := hF2
                      refine jc hr2 rfl rfl rfl ?_
                      refine hK.out _ _ (fun _ => (hg2.block kM (Array.getElem?_eq_some_iff.1 hHeld).1 (fun e => hA1 (by cases e; rfl))).trans hHeld) (fun hHeld => ?_)
                      clear hr2 hF2 hb2 hg2 hK2
                      clear hK K
                      (try simp only [Act.put, sA, s0, sS])
                      replace hHeld := hHeld (by decide)
                      refine cD 4 fun K hK => ?_
                      go_simp
                      obtain ⟨v3, hv3⟩ : ∃ x, x = v2.alloc (.cells #[.string m0, .string m1, .string m2, .string m3, .string m4, .string m5] 56) := ⟨_, rfl⟩
                      have X3 := hid (show MX lo r w (.slice b m c) [(kW, #[.string xNm, .int .i64 xKd, .int .i64 xLs, .int .i64 xMs, .slice xWa xWn xWc, .string xTo, .int .i64 xRl, .bool xMu, .bool xFx, .string xDf, .string xWg], 63), (kF, #[.string fNm, .int .i64 fKd, .int .i64 fLs, .int .i64 fMs, .slice fWa fWn fWc, .string fTo, .int .i64 fRl, .bool fMu, .bool fFx, .string fDf, .string fWg], 63), (gf, Cf, 63), (kS, #[.string kd, .slice (some ⟨gf, 0, none⟩) fn fc], 45)] (fun W => (((qp lo 1000002 W (.slice (some ⟨gf, 0, none⟩) fn fc)) /\ yD lo 1000002 W #[.string fNm, .int .i64 fKd, .int .i64 fLs, .int .i64 fMs, .slice fWa fWn fWc, .string fTo, .int .i64 fRl, .bool fMu, .bool fFx, .string fDf, .string fWg]) /\ yD lo 1000002 W #[.string xNm, .int .i64 xKd, .int .i64 xLs, .int .i64 xMs, .slice xWa xWn xWc, .string xTo, .int .i64 xRl, .bool xMu, .bool xFx, .string xDf, .string xWg]) /\ yE lo 1000004 W (.slice (some ⟨kM, 0, none⟩) 1 1)) (p5) v3 by rw [hv3]; exact X2.out.alloc _)
                      have A3 : Hid (yE lo 1000004 v3 (.slice a2 m c2)) := by rw [hv3]; exact hid ((zf lo 1000004 _ _).m _ A2.out)
                      have B3 : Hid (yE lo 1000004 v3 (.slice (some ⟨v2.heap.size, 0, none⟩) 1 1)) := by rw [hv3]; exact hid (qd hMs.out X2.out.st.le)
                      (try go_wp2_with fail)
                      rw [<- hv3]
                      refine hK.out _ _ (fun _ => by rw [hv3]; exact (((Below.refl _ v2).alloc (Nat.le_refl _) _).block kM (Array.getElem?_eq_some_iff.1 hHeld).1).trans hHeld) (fun hHeld => ?_)
                      clear hv3
                      clear hK K
                      (try simp only [Act.put, sA, s0, sS])
                      replace hHeld := hHeld (by decide)
                      refine cD 5 fun K hK => ?_
                      obtain ⟨a4, c4, v4, hr4, hF4, hb4, hg4, hK4⟩ := za7 (ty := 24) A3.out (B3.out) (by omega) X3.out.st.le
                      have X4 := hid (X3.out.grow hK4 hb4 hg4 (zbD A3.out))
                      have A4 : Hid (yE lo 1000004 v4 (.slice a4 (m + 1) c4)) := hF4
                      refine jc hr4 rfl rfl rfl ?_
                      refine hK.out _ _ (fun _ => (hg4.block kM (Array.getElem?_eq_some_iff.1 hHeld).1 (fun e => hO2 e.symm)).trans hHeld) (fun hHeld => ?_)
                      clear hr4 hF4 hb4 hg4 hK4
                      clear hK K
                      (try simp only [Act.put, sA, s0, sS])
                      replace hHeld := hHeld (by decide)
                      refine tD 6 ?_
                      refine yx (by kernel_rfl) ?_ _
                      have HZ : Hid (MX lo r w (.slice b m c) [] (fun W => yE lo 1000004 W (.slice a4 (m + 1) c4)) p5 v4) := hid ((X4.out.to (B' := []) X4.out.row (fun x hx => by cases hx)).typed zd8 A4.out)
                      clear X4 A4
                      go_wp2_with fail
                      go_meet
                      case rel => exact ⟨a4, c4, rfl, HZ⟩
                    ·
                      go_simp
                      obtain ⟨v2, hv2⟩ : ∃ x, x = v1.alloc (.cells #[.string m0, .string m1, .string m2, .string m3, .string m4, .string m5] 56) := ⟨_, rfl⟩
                      have X2 := hid (show MX lo r w (.slice b m c) [(kW, #[.string xNm, .int .i64 xKd, .int .i64 xLs, .int .i64 xMs, .slice xWa xWn xWc, .string xTo, .int .i64 xRl, .bool xMu, .bool xFx, .string xDf, .string xWg], 63), (kF, #[.string fNm, .int .i64 fKd, .int .i64 fLs, .int .i64 fMs, .slice fWa fWn fWc, .string fTo, .int .i64 fRl, .bool fMu, .bool fFx, .string fDf, .string fWg], 63), (gf, Cf, 63), (kS, #[.string kd, .slice (some ⟨gf, 0, none⟩) fn fc], 45)] (fun W => (((qp lo 1000002 W (.slice (some ⟨gf, 0, none⟩) fn fc)) /\ yD lo 1000002 W #[.string fNm, .int .i64 fKd, .int .i64 fLs, .int .i64 fMs, .slice fWa fWn fWc, .string fTo, .int .i64 fRl, .bool fMu, .bool fFx, .string fDf, .string fWg]) /\ yD lo 1000002 W #[.string xNm, .int .i64 xKd, .int .i64 xLs, .int .i64 xMs, .slice xWa xWn xWc, .string xTo, .int .i64 xRl, .bool xMu, .bool xFx, .string xDf, .string xWg]) /\ yE lo 1000004 W (.slice (some ⟨kM, 0, none⟩) 1 1)) (p5) v2 by rw [hv2]; exact X1.out.alloc _)
                      have hE2 : Hid (v2.heap[V.heap.size]? = some (.cells #[] 56)) := by rw [hv2]; exact (((Below.refl _ v1).alloc (Nat.le_refl _) _).block _ (Array.getElem?_eq_some_iff.1 hE1.out).1).trans hE1.out
                      have A2 : Hid (yE lo 1000004 v2 (.slice (some ⟨V.heap.size, 0, none⟩) 0 0)) := by rw [hv2]; exact hid ((zf lo 1000004 _ _).m _ A1.out)
                      have B2 : Hid (yE lo 1000004 v2 (.slice (some ⟨v1.heap.size, 0, none⟩) 1 1)) := by rw [hv2]; exact hid (qd hMs.out X1.out.st.le)
                      (try go_wp2_with fail)
                      rw [<- hv2]
                      refine hK.out _ _ (fun _ => by rw [hv2]; exact (((Below.refl _ v1).alloc (Nat.le_refl _) _).block kM (Array.getElem?_eq_some_iff.1 hHeld).1).trans hHeld) (fun hHeld => ?_)
                      clear hv2
                      clear hK K
                      (try simp only [Act.put, sA, s0, sS])
                      replace hHeld := hHeld (by decide)
                      refine cD 2 fun K hK => ?_
                      obtain ⟨a3, c3, v3, hr3, hF3, hb3, hg3, hK3⟩ := za7 (ty := 24) A2.out (X2.out.row) (by omega) X2.out.st.le
                      rw [Nat.zero_add] at hr3 hF3
                      have hO3 : (Value.slice a3 m c3).ownBlock ≠ some kM := fun e => by
                        have hz := (Array.getElem?_eq_some_iff.1 hHeld).1
                        rcases zdG hE2.out X2.out.row (by omega) hr3 with h | h
                        · rw [h] at e; exact hA1 (Option.some.inj e)
                        · rw [h] at e; have := Option.some.inj e; omega
                      have X3 := hid (X2.out.grow hK3 hb3 hg3 (zbD A2.out))
                      have A3 : Hid (yE lo 1000004 v3 (.slice a3 m c3)) := hF3
                      have B3 : Hid (yE lo 1000004 v3 (.slice (some ⟨v1.heap.size, 0, none⟩) 1 1)) := hid ((hK3 1000004).m _ B2.out)
                      refine jc hr3 rfl rfl rfl ?_
                      refine hK.out _ _ (fun _ => (hg3.block kM (Array.getElem?_eq_some_iff.1 hHeld).1 (fun e => hA1 (by cases e; rfl))).trans hHeld) (fun hHeld => ?_)
                      clear hr3 hF3 hb3 hg3 hK3
                      clear hK K
                      (try simp only [Act.put, sA, s0, sS])
                      replace hHeld := hHeld (by decide)
                      refine cD 5 fun K hK => ?_
                      obtain ⟨a4, c4, v4, hr4, hF4, hb4, hg4, hK4⟩ := za7 (ty := 24) A3.out (B3.out) (by omega) X3.out.st.le
                      have X4 := hid (X3.out.grow hK4 hb4 hg4 (zbD A3.out))
                      have A4 : Hid (yE lo 1000004 v4 (.slice a4 (m + 1) c4)) := hF4
                      refine jc hr4 rfl rfl rfl ?_
                      refine hK.out _ _ (fun _ => (hg4.block kM (Array.getElem?_eq_some_iff.1 hHeld).1 (fun e => hO3 e.symm)).trans hHeld) (fun hHeld => ?_)
                      clear hr4 hF4 hb4 hg4 hK4
                      clear hK K
                      (try simp only [Act.put, sA, s0, sS])
                      replace hHeld := hHeld (by decide)
                      refine tD 6 ?_
                      refine yx (by kernel_rfl) ?_ _
                      have HZ : Hid (MX lo r w (.slice b m c) [] (fun W => yE lo 1000004 W (.slice a4 (m + 1) c4)) p5 v4) := hid ((X4.out.to (B' := []) X4.out.row (fun x hx => by cases hx)).typed zd8 A4.out)
                      clear X4 A4
                      go_wp2_with fail
                      go_meet
                      case rel => exact ⟨a4, c4, rfl, HZ⟩
                  ·
                    go_simp
                    obtain ⟨v1, hv1⟩ : ∃ x, x = V.alloc (.cells #[.string m0, .string m1, .string m2, .string m3, .string m4, .string m5] 56) := ⟨_, rfl⟩
                    have X1 := hid (show MX lo r w (.slice b m c) [(kW, #[.string xNm, .int .i64 xKd, .int .i64 xLs, .int .i64 xMs, .slice xWa xWn xWc, .string xTo, .int .i64 xRl, .bool xMu, .bool xFx, .string xDf, .string xWg], 63), (kF, #[.string fNm, .int .i64 fKd, .int .i64 fLs, .int .i64 fMs, .slice fWa fWn fWc, .string fTo, .int .i64 fRl, .bool fMu, .bool fFx, .string fDf, .string fWg], 63), (gf, Cf, 63), (kS, #[.string kd, .slice (some ⟨gf, 0, none⟩) fn fc], 45)] (fun W => (((qp lo 1000002 W (.slice (some ⟨gf, 0, none⟩) fn fc)) /\ yD lo 1000002 W #[.string fNm, .int .i64 fKd, .int .i64 fLs, .int .i64 fMs, .slice fWa fWn fWc, .string fTo, .int .i64 fRl, .bool fMu, .bool fFx, .string fDf, .string fWg]) /\ yD lo 1000002 W #[.string xNm, .int .i64 xKd, .int .i64 xLs, .int .i64 xMs, .slice xWa xWn xWc, .string xTo, .int .i64 xRl, .bool xMu, .bool xFx, .string xDf, .string xWg]) /\ yE lo 1000004 W (.slice (some ⟨kM, 0, none⟩) 1 1)) (p5) v1 by rw [hv1]; exact X0.out.alloc _)
                    have B1 : Hid (yE lo 1000004 v1 (.slice (some ⟨V.heap.size, 0, none⟩) 1 1)) := by rw [hv1]; exact hid (qd hMs.out X0.out.st.le)
                    (try go_wp2_with fail)
                    rw [<- hv1]
                    refine hK.out _ _ (fun _ => by rw [hv1]; exact (((Below.refl _ V).alloc (Nat.le_refl _) _).block kM (Array.getElem?_eq_some_iff.1 hHeld).1).trans hHeld) (fun hHeld => ?_)
                    clear hv1
                    clear hK K
                    (try simp only [Act.put, sA, s0, sS])
                    replace hHeld := hHeld (by decide)
                    refine cD 0 fun K hK => ?_
                    go_simp
                    obtain ⟨v2, hv2⟩ : ∃ x, x = v1.alloc (.cells #[] 56) := ⟨_, rfl⟩
                    have X2 := hid (show MX lo r w (.slice b m c) [(kW, #[.string xNm, .int .i64 xKd, .int .i64 xLs, .int .i64 xMs, .slice xWa xWn xWc, .string xTo, .int .i64 xRl, .bool xMu, .bool xFx, .string xDf, .string xWg], 63), (kF, #[.string fNm, .int .i64 fKd, .int .i64 fLs, .int .i64 fMs, .slice fWa fWn fWc, .string fTo, .int .i64 fRl, .bool fMu, .bool fFx, .string fDf, .string fWg], 63), (gf, Cf, 63), (kS, #[.string kd, .slice (some ⟨gf, 0, none⟩) fn fc], 45)] (fun W => (((qp lo 1000002 W (.slice (some ⟨gf, 0, none⟩) fn fc)) /\ yD lo 1000002 W #[.string fNm, .int .i64 fKd, .int .i64 fLs, .int .i64 fMs, .slice fWa fWn fWc, .string fTo, .int .i64 fRl, .bool fMu, .bool fFx, .string fDf, .string fWg]) /\ yD lo 1000002 W #[.string xNm, .int .i64 xKd, .int .i64 xLs, .int .i64 xMs, .slice xWa xWn xWc, .string xTo, .int .i64 xRl, .bool xMu, .bool xFx, .string xDf, .string xWg]) /\ yE lo 1000004 W (.slice (some ⟨kM, 0, none⟩) 1 1)) (p5) v2 by rw [hv2]; exact X1.out.alloc _)
                    have B2 : Hid (yE lo 1000004 v2 (.slice (some ⟨V.heap.size, 0, none⟩) 1 1)) := by rw [hv2]; exact hid ((zf lo 1000004 _ _).m _ B1.out)
                    have A2 : Hid (yE lo 1000004 v2 (.slice (some ⟨v1.heap.size, 0, none⟩) 0 0)) := by rw [hv2]; exact hid (jy lo 1000 _ _ 6 0 v1 #[] X1.out.st.le rfl (by simp [maxLen]) (by omega) (fun j x hx => by simp at hx))
                    have hA2 : v1.heap.size ≠ kM := by have := (Array.getElem?_eq_some_iff.1 hHeld).1; omega
                    have hE2 : Hid (v2.heap[v1.heap.size]? = some (.cells #[] 56)) := by rw [hv2]; exact (MapKept.heap_alloc v1 _).1
                    (try go_wp2_with fail)
                    rw [<- hv2]
                    refine hK.out _ _ (fun _ => by rw [hv2]; exact (((Below.refl _ v1).alloc (Nat.le_refl _) _).block kM (Array.getElem?_eq_some_iff.1 hHeld).1).trans hHeld) (fun hHeld => ?_)
                    clear hv2
                    clear hK K
                    (try simp only [Act.put, sA, s0, sS])
                    replace hHeld := hHeld (by decide)
                    refine cD 2 fun K hK => ?_
                    obtain ⟨a3, c3, v3, hr3, hF3, hb3, hg3, hK3⟩ := za7 (ty := 24) A2.out (X2.out.row) (by omega) X2.out.st.le
                    rw [Nat.zero_add] at hr3 hF3
                    have hO3 : (Value.slice a3 m c3).ownBlock ≠ some kM := fun e => by
                      have hz := (Array.getElem?_eq_some_iff.1 hHeld).1
                      rcases zdG hE2.out X2.out.row (by omega) hr3 with h | h
                      · rw [h] at e; exact hA2 (Option.some.inj e)
                      · rw [h] at e; have := Option.some.inj e; omega
                    have X3 := hid (X2.out.grow hK3 hb3 hg3 (zbD A2.out))
                    have A3 : Hid (yE lo 1000004 v3 (.slice a3 m c3)) := hF3
                    have B3 : Hid (yE lo 1000004 v3 (.slice (some ⟨V.heap.size, 0, none⟩) 1 1)) := hid ((hK3 1000004).m _ B2.out)
                    refine jc hr3 rfl rfl rfl ?_
                    refine hK.out _ _ (fun _ => (hg3.block kM (Array.getElem?_eq_some_iff.1 hHeld).1 (fun e => hA2 (by cases e; rfl))).trans hHeld) (fun hHeld => ?_)
                    clear hr3 hF3 hb3 hg3 hK3
                    clear hK K
                    (try simp only [Act.put, sA, s0, sS])
                    replace hHeld := hHeld (by decide)
                    refine cD 5 fun K hK => ?_
                    obtain ⟨a4, c4, v4, hr4, hF4, hb4, hg4, hK4⟩ := za7 (ty := 24) A3.out (B3.out) (by omega) X3.out.st.le
                    have X4 := hid (X3.out.grow hK4 hb4 hg4 (zbD A3.out))
                    have A4 : Hid (yE lo 1000004 v4 (.slice a4 (m + 1) c4)) := hF4
                    refine jc hr4 rfl rfl rfl ?_
                    refine hK.out _ _ (fun _ => (hg4.block kM (Array.getElem?_eq_some_iff.1 hHeld).1 (fun e => hO3 e.symm)).trans hHeld) (fun hHeld => ?_)
                    clear hr4 hF4 hb4 hg4 hK4
                    clear hK K
                    (try simp only [Act.put, sA, s0, sS])
                    replace hHeld := hHeld (by decide)
                    refine tD 6 ?_
                    refine yx (by kernel_rfl) ?_ _
                    have HZ : Hid (MX lo r w (.slice b m c) [] (fun W => yE lo 1000004 W (.slice a4 (m + 1) c4)) p5 v4) := hid ((X4.out.to (B' := []) X4.out.row (fun x hx => by cases hx)).typed zd8 A4.out)
                    clear X4 A4
                    go_wp2_with fail
                    go_meet
                    case rel => exact ⟨a4, c4, rfl, HZ⟩
                case rest =>
                  obtain ⟨a9, c9, rfl, H22⟩ := hcut
                  obtain ⟨W22, rfl⟩ : ∃ x, x = wc := ⟨_, rfl⟩
                  clear H21
                  obtain ⟨ss, hsl, hss⟩ := zhe ((H22.out.kp 1000002).k _ HV.out)
                  obtain ⟨ms, hml, hms, hmn⟩ := zhl H22.out.ty
                  have key := zaS (some ⟨g, 0, none⟩) a9 cap c9 ss ms W22 hss hms
                  rw [hsl, hml] at key
                  generalize Gate.qW ss ms = bb at key
                  clear hsl hss hml hms hmn ss ms
                  go_wp2_with fail
                  refine key.mono ?_
                  rintro e w23 ⟨rfl, hb⟩
                  have H23 := hid (H22.out.below hb)
                  clear key hb H22
                  cases bb with
                  | false =>
                    go_wp2_with fail
                    go_roundg k
                    case measure => omega
                    case rel => exact ⟨b, m, c, p5, rfl, rfl, by omega, by omega, H23.out.typed (fun _ _ _ h => h) trivial⟩
                  | true =>
                    go_wp2_with fail
                    go_roundg k
                    case measure => omega
                    case rel => exact ⟨a9, m + 1, c9, p5, rfl, rfl, by omega, by omega, (H23.out.to H23.out.ty (fun x hx => hx)).typed (fun _ _ _ h => h) trivial⟩
end Go.Proofs.YtmfgjafdnopfbaaGreat
