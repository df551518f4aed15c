import Derived.Test.YtmfgjafdnopfbaaGreatM46
namespace Go.Proofs.YtmfgjafdnopfbaaGreat
open Go.RowKit
theorem zjf (lo b : Nat) (w : World) (j : Nat) (x : Value) (hx : (#[.string ⟨#[107]⟩, .string ⟨#[120]⟩, .string ⟨#[]⟩, .slice none 0 0, .bool false, .slice none 0 0, .int .i64 0, .string ⟨#[106, 111, 98]⟩, .string ⟨#[106]⟩, .string ⟨#[]⟩, .slice none 0 0, .bool false, .slice none 0 0, .int .i64 0, .string ⟨#[118, 111, 108]⟩, .string ⟨#[118]⟩, .string ⟨#[]⟩, .slice none 0 0, .bool false, .slice none 0 0, .int .i64 0, .string ⟨#[98, 101, 114, 116, 104]⟩, .string ⟨#[98]⟩, .string ⟨#[]⟩, .slice none 0 0, .bool false, .slice none 0 0, .int .i64 0] : Array Value)[j]? = some x) : ObC lo b w (j % 7) x := by
  have hj : j < 28 := by have := (Array.getElem?_eq_some_iff.1 hx).1; simpa using this
  rcases j with _ | _ | _ | _ | _ | _ | _ | _ | _ | _ | _ | _ | _ | _ | _ | _ | _ | _ | _ | _ | _ | _ | _ | _ | _ | _ | _ | _ | j
  all_goals first | omega | (simp at hx; subst hx; first | exact ⟨_, rfl, by decide⟩ | exact Or.inl rfl | exact ⟨_, rfl⟩ | exact ⟨_, rfl, by omega, by omega⟩)
theorem zjc {q : Nat} (h : q < 3) : ∃ x : Int, (#[.int .i64 (-1), .int .i64 1000000, .int .i64 1000001] : Array Value)[q]? = some (.int .i64 x) /\ -1 <= x /\ x <= 1000001 := by
  rcases q with _ | _ | _ | q
  · exact ⟨_, rfl, by decide, by decide⟩
  · exact ⟨_, rfl, by decide, by decide⟩
  · exact ⟨_, rfl, by decide, by decide⟩
  · omega
set_option maxRecDepth 10000 in
set_option maxHeartbeats 8000000 in
theorem zhs (a : Option Addr) (n cap lo r p : Nat) (w : World) (hV : qM lo 1000004 w (.slice a n cap)) (hp : p <= 20000) (hr : yF w r p) (hlo : r < lo) (hlw : lo <= w.heap.size) :
    Calls Tryz.prog 32 #[.pointer (some ⟨r, 0, none⟩), .slice a n cap] w fun e w' => ∃ cs p', e = .returned (.agg cs) /\ ObA w.heap.size 1000004 w' cs /\ p' <= p + 3030 /\ yF w' r p' /\ Dr r w w' := by
  have hlt := hr.lt
  have HV := hid hV
  clear hV
  go_enter Tryz.func32, Tryz.ntmps32
  go_wp2_with fail
  refine yS (fun W => St w.heap.size r w p W /\ W.heap[w.heap.size]? = some (.cells #[.string ⟨#[]⟩, .string ⟨#[]⟩, .string ⟨#[]⟩, .slice none 0 0, .bool false, .slice none 0 0, .int .i64 0] 27) /\ Keep lo 1000004 w W /\ zh4 lo 1000004 W (.slice (some ⟨w.heap.size + 1, 0, none⟩) 4 4)) ⟨((St.start hr hlt (Nat.le_refl _)).alloc _).alloc _, (zq _ _ _).1, (zf _ _ _ _).trans (zf _ _ _ _), ?_⟩ ?_
  · have e : (w.alloc (.cells #[.string ⟨#[]⟩, .string ⟨#[]⟩, .string ⟨#[]⟩, .slice none 0 0, .bool false, .slice none 0 0, .int .i64 0] 27)).heap.size = w.heap.size + 1 := by simp
    have h := jy lo 1000 (ObC lo 1000004 ((w.alloc (.cells #[.string ⟨#[]⟩, .string ⟨#[]⟩, .string ⟨#[]⟩, .slice none 0 0, .bool false, .slice none 0 0, .int .i64 0] 27)).alloc (.cells #[.string ⟨#[107]⟩, .string ⟨#[120]⟩, .string ⟨#[]⟩, .slice none 0 0, .bool false, .slice none 0 0, .int .i64 0, .string ⟨#[106, 111, 98]⟩, .string ⟨#[106]⟩, .string ⟨#[]⟩, .slice none 0 0, .bool false, .slice none 0 0, .int .i64 0, .string ⟨#[118, 111, 108]⟩, .string ⟨#[118]⟩, .string ⟨#[]⟩, .slice none 0 0, .bool false, .slice none 0 0, .int .i64 0, .string ⟨#[98, 101, 114, 116, 104]⟩, .string ⟨#[98]⟩, .string ⟨#[]⟩, .slice none 0 0, .bool false, .slice none 0 0, .int .i64 0] 27))) 27 7 4 (w.alloc (.cells #[.string ⟨#[]⟩, .string ⟨#[]⟩, .string ⟨#[]⟩, .slice none 0 0, .bool false, .slice none 0 0, .int .i64 0] 27)) #[.string ⟨#[107]⟩, .string ⟨#[120]⟩, .string ⟨#[]⟩, .slice none 0 0, .bool false, .slice none 0 0, .int .i64 0, .string ⟨#[106, 111, 98]⟩, .string ⟨#[106]⟩, .string ⟨#[]⟩, .slice none 0 0, .bool false, .slice none 0 0, .int .i64 0, .string ⟨#[118, 111, 108]⟩, .string ⟨#[118]⟩, .string ⟨#[]⟩, .slice none 0 0, .bool false, .slice none 0 0, .int .i64 0, .string ⟨#[98, 101, 114, 116, 104]⟩, .string ⟨#[98]⟩, .string ⟨#[]⟩, .slice none 0 0, .bool false, .slice none 0 0, .int .i64 0] (by omega) (by simp) (by simp [maxLen]) (by omega) (zjf _ _ _)
    rw [e] at h
    exact h
  rintro W1 ⟨hS1, hR1, hK1, hO1⟩
  refine (zg9 a n cap lo r p (some ⟨w.heap.size + 1, 0, none⟩) 4 4 W1 (hK1.k _ HV.out) hO1 (by omega) (by omega) hS1.rd hlo (Nat.le_trans hlw hS1.le)).mono ?_
  rintro e w2 ⟨cs, p2, rfl, hA2, hp2, hr2, D2, hlen⟩
  replace hA2 := hA2.low hS1.le
  have H2 := yK (hS1.call hr2 D2) ((zH D2 (Array.getElem?_eq_some_iff.1 hR1).1 (by omega)).trans hR1) hA2
  clear hS1 hR1 hK1 hO1 hr2 D2 hr
  obtain ⟨kd, nm, tm, va, vn, vc, en, ha, hn, hc, vr, rfl, -⟩ := hA2
  have hvn := hlen va vn vc rfl
  clear hlen
  go_upto_region 2 with fail
  refine zn (fun W => OB w.heap.size 1000004 r w w.heap.size w2.heap.size p2 W /\ W.cell? ⟨w2.heap.size, 3, none⟩ = some (.slice va vn vc)) ?_ ?_
  · obtain ⟨g1, g2, g3⟩ := H2.out
    have zR := (Array.getElem?_eq_some_iff.1 g2).1
    exact ⟨⟨g1.alloc _, Nat.le_refl _, by omega, g1.le, (((Below.refl w2.heap.size w2).alloc (Nat.le_refl _) _).block _ zR).trans g2, _, (MapKept.heap_alloc w2 _).1, g3.qw (zf _ _ _ _).s⟩, zo w2 _ _ 3⟩
  rintro W2 hW2
  obtain ⟨kO, hkO⟩ : ∃ k, k = w2.heap.size := ⟨_, rfl⟩
  rw [<- hkO] at hW2 ⊢
  have F2 := hid hW2.1
  have C2 := hid hW2.2
  have e5 := hW2.1.c5
  clear hW2 H2 hkO
  go_wp2_with fail
  refine (zQ 5 r p2 W2 (by omega) (by omega) (by omega) F2.out.st.rd).mono ?_
  rintro e w3 ⟨q3, rfl, hq3, hr3, D3⟩
  have F3 := hid (F2.out.call hr3 D3)
  have C3 := hid ((World.cell?_of_block (a := ⟨kO, 3, none⟩) (zH D3 (World.block_lt_of_cell? _ _ C2.out) (show kO ≠ r by omega))).trans C2.out)
  clear hr3 D3 F2 C2
  obtain ⟨kd3, nm3, tm3, va3, vn3, vc3, en3, ha3, hn3, hc3, vr3, hC, hz3, HA3, HT3⟩ := F3.out.open
  have cO := fun j => cell_of_block (o := j) hC
  have fO := fun j => za (o := j) hC
  clear hC
  go_upto_region 3 with fail
  refine zn (fun W => OB w.heap.size 1000004 r w w.heap.size kO (p2 + 1) W /\ W.cell? ⟨kO, 3, none⟩ = some (.slice va vn vc)) ⟨F3.out.set (j := 6) (by omega) ⟨_, rfl, by omega, by omega⟩, (World.cell?_setCell_other _ _ _ _ (by simp)).trans C3.out⟩ ?_
  rintro W3 ⟨hW3, hc3⟩
  clear F3 C3 cO fO HA3 HT3 hz3
  go_wp2_with fail
  refine (zQ 9 r (p2 + 1) W3 (by omega) (by omega) (by omega) hW3.st.rd).mono ?_
  rintro e w4 ⟨q4, rfl, hq4, hr4, D4⟩
  have F4 := hid (hW3.call hr4 D4)
  have C4 := hid ((World.cell?_of_block (a := ⟨kO, 3, none⟩) (zH D4 (World.block_lt_of_cell? _ _ hc3) (show kO ≠ r by omega))).trans hc3)
  clear hr4 D4 hW3 hc3
  by_cases e0 : q4 = 0
  · subst e0
    rcases Nat.eq_zero_or_pos vn with hv0 | hv0
    · subst hv0
      obtain ⟨kd4, nm4, tm4, va4, vn4, vc4, en4, ha4, hn4, hc4, vr4, hC, hz4, HA4, HT4⟩ := F4.out.open
      have cO := fun j => cell_of_block (o := j) hC
      have fO := fun j => za (o := j) hC
      clear hC
      obtain ⟨rfl, rfl, rfl⟩ : va = va4 /\ 0 = vn4 /\ vc = vc4 := by simpa using C4.out.symm.trans (cO 3)
      go_upto_region 19 with fail
      refine zn (OB w.heap.size 1000004 r w w.heap.size kO (p2 + 1 + 1)) (F4.out) ?_
      rintro WZ h_
      have FZ := hid h_
      clear h_ F4 C4
      clear cO fO HA4 HT4 hz4
      obtain ⟨kdz, nmz, tmz, vaz, vnz, vcz, enz, haz, hnz, hcz, vrz, hC, hzz, HAz, HTz⟩ := FZ.out.open
      have cO := fun j => cell_of_block (o := j) hC
      have fO := fun j => za (o := j) hC
      clear cO fO
      refine wp_region_list ?_
      refine wpList_load_mid rfl 27 (.tmp 5) rfl kO 0 rfl _ _ (zY hC) Tryz.underlying27 rfl (by kernel_rfl) ?_
      refine wpList_store_mid rfl 27 (.tmp 4) (.tmp 79) rfl w.heap.size 0 #[.string kdz, .string nmz, .string tmz, .slice vaz vnz vcz, .bool enz, .slice haz hnz hcz, .int .i64 vrz] rfl rfl (zU FZ.out.res (by simp)) (by kernel_rfl) (by simp [Value.oneCell']) ?_
      refine wpList_nil ?_
      obtain ⟨WY, hWY⟩ : ∃ W, W = WZ.setCells w.heap.size 0 #[.string kdz, .string nmz, .string tmz, .slice vaz vnz vcz, .bool enz, .slice haz hnz hcz, .int .i64 vrz].toList := ⟨_, rfl⟩
      have hRY : WY.heap[w.heap.size]? = some (.cells #[.string kdz, .string nmz, .string tmz, .slice vaz vnz vcz, .bool enz, .slice haz hnz hcz, .int .i64 vrz] 27) := by rw [hWY]; exact zI FZ.out.res rfl
      have HX := yK (show ObA w.heap.size 1000004 WY #[.string kdz, .string nmz, .string tmz, .slice vaz vnz vcz, .bool enz, .slice haz hnz hcz, .int .i64 vrz] by rw [hWY]; exact HAz.out.qw (yj FZ.out.res (by decide) _)) (show yF WY r (p2 + 1 + 1) by rw [hWY]; exact (FZ.out.st.put FZ.out.c3 _).rd) (show Dr r w WY by rw [hWY]; exact (FZ.out.st.put FZ.out.c3 _).fr)
      rw [<- hWY]
      clear hWY FZ HAz HTz hC
      (try simp only [Act.put])
      go_wp2_with fail
      exact bodyPost_ret (v := .agg #[.string kdz, .string nmz, .string tmz, .slice vaz vnz vcz, .bool enz, .slice haz hnz hcz, .int .i64 vrz]) (results_cell_row Tryz.results32 _ _ w.heap.size 27 #[.string kdz, .string nmz, .string tmz, .slice vaz vnz vcz, .bool enz, .slice haz hnz hcz, .int .i64 vrz] _ _ rfl hRY Tryz.underlying27 rfl (by kernel_rfl)) rfl ⟨_, p2 + 1 + 1, rfl, HX.out.1, by omega, HX.out.2.1, HX.out.2.2⟩
    · have hv0I : (0 : Int) < (vn : Int) := by omega
      obtain ⟨kd4, nm4, tm4, va4, vn4, vc4, en4, ha4, hn4, hc4, vr4, hC, hz4, HA4, HT4⟩ := F4.out.open
      have cO := fun j => cell_of_block (o := j) hC
      have fO := fun j => za (o := j) hC
      clear hC
      have c4 := C4.out
      obtain ⟨rfl, rfl, rfl⟩ : va = va4 /\ vn = vn4 /\ vc = vc4 := by simpa using c4.symm.trans (cO 3)
      go_upto_region 6 with fail
      have F4d := hid F4.out.drew
      have c4d : w4.drew.cell? ⟨kO, 3, none⟩ = some (.slice va vn vc) := c4
      clear cO fO HA4 HT4 hz4
      refine yV (fun w' => w'.cell? ⟨kO, 3, none⟩ = some (.slice va vn vc)) [10] (by kernel_rfl) c4d (fun hHeld => ?_)
      refine tD 0 ?_; refine tD 1 ?_; refine tD 2 ?_; refine tD 3 ?_; refine tD 4 ?_; refine tD 5 ?_; refine tD 7 ?_
      refine cD 6 fun K hK => ?_
      go_simp
      refine (zQ vn r (p2 + 1 + 1) w4.drew (by omega) (by omega) (by omega) F4d.out.st.rd).mono ?_
      rintro e w5 ⟨q5, rfl, hq5, hr5, D5⟩
      have F5 := hid (F4d.out.call hr5 D5)
      have c5 := (World.cell?_of_block (a := ⟨kO, 3, none⟩) (zH D5 (World.block_lt_of_cell? _ _ c4d) (show kO ≠ r by omega))).trans c4d
      (try go_wp2_with fail)
      refine hK.out _ _ (fun _ => c5) (fun hHeld => ?_)
      clear hK K hr5 D5 F4d F4 C4 c4 c4d
      (try simp only [Act.put, sA, s0, sS])
      replace hHeld := hHeld (by decide)
      refine cD 8 fun K hK => ?_
      go_simp
      refine (zcK r (p2 + 1 + 1 + 1) w5 (by omega) F5.out.st.rd).mono ?_
      rintro e w6 ⟨s6, rfl, hs6, hr6, D6⟩
      have F6 := hid (F5.out.call hr6 D6)
      have c6 := (World.cell?_of_block (a := ⟨kO, 3, none⟩) (zH D6 (World.block_lt_of_cell? _ _ c5) (show kO ≠ r by omega))).trans c5
      (try go_wp2_with fail)
      refine hK.out _ _ (fun _ => c6) (fun hHeld => ?_)
      clear hK K hr6 D6 F5 c5
      (try simp only [Act.put, sA, s0, sS])
      replace hHeld := hHeld (by decide)
      obtain ⟨kd6, nm6, tm6, va6, vn6, vc6, en6, ha6, hn6, hc6, vr6, hC, hz6, HA6, HT6⟩ := F6.out.open
      have cO := fun j => cell_of_block (o := j) hC
      have fO := fun j => za (o := j) hC
      clear hC
      obtain ⟨rfl, rfl, rfl⟩ : va = va6 /\ vn = vn6 /\ vc = vc6 := by simpa using c6.symm.trans (cO 3)
      obtain ⟨gv, Cv, rfl, hgv, hCv, hCvs, hcv⟩ := HT6.out.cell hq5
      have f6 : w6.frozen? ⟨gv, q5, none⟩ = false := za hCv
      obtain ⟨x6, cx6, -⟩ := hcv 0 (by omega)
      have cx6 : w6.cell? ⟨gv, q5, none⟩ = some x6 := by simpa using cx6
      have hqI : (q5 : Int) < (vn : Int) := by omega
      clear cO fO HA6 HT6 hz6 hcv
      refine tD 9 ?_
      refine cD 10 fun K hK => ?_
      go_simp
      (try go_wp2_with fail)
      refine hK.out _ _ (fun h => absurd (by decide) h) (fun _ => ?_)
      clear hK K hHeld
      (try simp only [Act.put, sA, s0, sS])
      refine yx (by kernel_rfl) ?_ _
      have hk7 : Keep w.heap.size 1000004 w6 (w6.setCell ⟨gv, q5, none⟩ (.string s6)) := zaO hCv ⟨fun _ => ⟨s6, rfl, hs6⟩, fun e => by simp at e, fun e => by simp at e, fun e => by simp at e, fun e => by simp at e, fun e => by simp at e⟩
      have F7 := hid (F6.out.go (F6.out.st.set (o := q5) (v := .string s6) hgv) (fun k C _ hk => (yt (by rintro rfl; rw [hk] at hCv; cases hCv)).trans hk) hk7.s)
      clear hk7 F6 c6 f6 cx6 hCv hCvs
      go_upto_region 19 with fail
      refine zn (OB w.heap.size 1000004 r w w.heap.size kO (p2 + 1 + 1 + 1 + 3)) (F7.out) ?_
      rintro WZ h_
      have FZ := hid h_
      clear h_ F7
      obtain ⟨kdz, nmz, tmz, vaz, vnz, vcz, enz, haz, hnz, hcz, vrz, hC, hzz, HAz, HTz⟩ := FZ.out.open
      have cO := fun j => cell_of_block (o := j) hC
      have fO := fun j => za (o := j) hC
      clear cO fO
      refine wp_region_list ?_
      refine wpList_load_mid rfl 27 (.tmp 5) rfl kO 0 rfl _ _ (zY hC) Tryz.underlying27 rfl (by kernel_rfl) ?_
      refine wpList_store_mid rfl 27 (.tmp 4) (.tmp 79) rfl w.heap.size 0 #[.string kdz, .string nmz, .string tmz, .slice vaz vnz vcz, .bool enz, .slice haz hnz hcz, .int .i64 vrz] rfl rfl (zU FZ.out.res (by simp)) (by kernel_rfl) (by simp [Value.oneCell']) ?_
      refine wpList_nil ?_
      obtain ⟨WY, hWY⟩ : ∃ W, W = WZ.setCells w.heap.size 0 #[.string kdz, .string nmz, .string tmz, .slice vaz vnz vcz, .bool enz, .slice haz hnz hcz, .int .i64 vrz].toList := ⟨_, rfl⟩
      have hRY : WY.heap[w.heap.size]? = some (.cells #[.string kdz, .string nmz, .string tmz, .slice vaz vnz vcz, .bool enz, .slice haz hnz hcz, .int .i64 vrz] 27) := by rw [hWY]; exact zI FZ.out.res rfl
      have HX := yK (show ObA w.heap.size 1000004 WY #[.string kdz, .string nmz, .string tmz, .slice vaz vnz vcz, .bool enz, .slice haz hnz hcz, .int .i64 vrz] by rw [hWY]; exact HAz.out.qw (yj FZ.out.res (by decide) _)) (show yF WY r (p2 + 1 + 1 + 1 + 3) by rw [hWY]; exact (FZ.out.st.put FZ.out.c3 _).rd) (show Dr r w WY by rw [hWY]; exact (FZ.out.st.put FZ.out.c3 _).fr)
      rw [<- hWY]
      clear hWY FZ HAz HTz hC
      (try simp only [Act.put])
      go_wp2_with fail
      exact bodyPost_ret (v := .agg #[.string kdz, .string nmz, .string tmz, .slice vaz vnz vcz, .bool enz, .slice haz hnz hcz, .int .i64 vrz]) (results_cell_row Tryz.results32 _ _ w.heap.size 27 #[.string kdz, .string nmz, .string tmz, .slice vaz vnz vcz, .bool enz, .slice haz hnz hcz, .int .i64 vrz] _ _ rfl hRY Tryz.underlying27 rfl (by kernel_rfl)) rfl ⟨_, p2 + 1 + 1 + 1 + 3, rfl, HX.out.1, by omega, HX.out.2.1, HX.out.2.2⟩
  have n0 : ((q4 : Int) == 0) = false := by rw [beq_eq_false_iff_ne]; omega
  by_cases e1 : q4 = 1
  · subst e1
    obtain ⟨kd4, nm4, tm4, va4, vn4, vc4, en4, ha4, hn4, hc4, vr4, hC, hz4, HA4, HT4⟩ := F4.out.open
    have cO := fun j => cell_of_block (o := j) hC
    have fO := fun j => za (o := j) hC
    obtain ⟨rfl, rfl, rfl⟩ : va = va4 /\ vn = vn4 /\ vc = vc4 := by simpa using C4.out.symm.trans (cO 3)
    go_wp2_with (at_builtin; refine yM ?_)
    have hu := yH w.heap.size 1000004 w4 [⟨#[120]⟩] F4.out.st.le (by simp) (by simp [maxLen]) (by simp +decide)
    have hv := (zf w.heap.size 1000004 w4 (.cells #[.string ⟨#[120]⟩] 9)).s _ HT4.out
    obtain ⟨a9, c9, w9, hr9, hF9, hb9, ho9, hK9⟩ := zaj w.heap.size (Nat.le_refl _) (ty := 25) hv hu (by simp; omega) (show 1000004 <= 1048576 by omega) (F4.out.st.alloc _).le
    have bA := (Below.refl w4.heap.size w4).alloc (Nat.le_refl _) (.cells #[.string ⟨#[120]⟩] 9)
    have hC9 := ho9 _ _ _ ((bA.block _ hz4).trans hC) (by decide)
    have F9 := qO ((F4.out.alloc (.cells #[.string ⟨#[120]⟩] 9)).go ((F4.out.st.alloc _).down hb9) (fun k C _ hk => ho9 k C _ hk (by decide)) (hK9 1000004).s) hF9
    show wpList _ _ _ _ _ _
    refine wpList_append_run hr9 rfl rfl rfl rfl ?_
    clear hr9 hF9 hb9 ho9 hK9 hu hv bA cO fO hC
    have cO := fun j => cell_of_block (o := j) hC9
    have fO := fun j => za (o := j) hC9
    have zO := (Array.getElem?_eq_some_iff.1 hC9).1
    go_upto_region 19 with fail
    refine zn (OB w.heap.size 1000004 r w w.heap.size kO (p2 + 1 + 1)) (F9.out.1.set (j := 3) (by omega) F9.out.2) ?_
    rintro WZ h_
    have FZ := hid h_
    clear h_ F9 F4 C4 HA4 HT4 hz4 cO fO zO hC9
    obtain ⟨kdz, nmz, tmz, vaz, vnz, vcz, enz, haz, hnz, hcz, vrz, hC, hzz, HAz, HTz⟩ := FZ.out.open
    have cO := fun j => cell_of_block (o := j) hC
    have fO := fun j => za (o := j) hC
    clear cO fO
    refine wp_region_list ?_
    refine wpList_load_mid rfl 27 (.tmp 5) rfl kO 0 rfl _ _ (zY hC) Tryz.underlying27 rfl (by kernel_rfl) ?_
    refine wpList_store_mid rfl 27 (.tmp 4) (.tmp 79) rfl w.heap.size 0 #[.string kdz, .string nmz, .string tmz, .slice vaz vnz vcz, .bool enz, .slice haz hnz hcz, .int .i64 vrz] rfl rfl (zU FZ.out.res (by simp)) (by kernel_rfl) (by simp [Value.oneCell']) ?_
    refine wpList_nil ?_
    obtain ⟨WY, hWY⟩ : ∃ W, W = WZ.setCells w.heap.size 0 #[.string kdz, .string nmz, .string tmz, .slice vaz vnz vcz, .bool enz, .slice haz hnz hcz, .int .i64 vrz].toList := ⟨_, rfl⟩
    have hRY : WY.heap[w.heap.size]? = some (.cells #[.string kdz, .string nmz, .string tmz, .slice vaz vnz vcz, .bool enz, .slice haz hnz hcz, .int .i64 vrz] 27) := by rw [hWY]; exact zI FZ.out.res rfl
    have HX := yK (show ObA w.heap.size 1000004 WY #[.string kdz, .string nmz, .string tmz, .slice vaz vnz vcz, .bool enz, .slice haz hnz hcz, .int .i64 vrz] by rw [hWY]; exact HAz.out.qw (yj FZ.out.res (by decide) _)) (show yF WY r (p2 + 1 + 1) by rw [hWY]; exact (FZ.out.st.put FZ.out.c3 _).rd) (show Dr r w WY by rw [hWY]; exact (FZ.out.st.put FZ.out.c3 _).fr)
    rw [<- hWY]
    clear hWY FZ HAz HTz hC
    (try simp only [Act.put])
    go_wp2_with fail
    exact bodyPost_ret (v := .agg #[.string kdz, .string nmz, .string tmz, .slice vaz vnz vcz, .bool enz, .slice haz hnz hcz, .int .i64 vrz]) (results_cell_row Tryz.results32 _ _ w.heap.size 27 #[.string kdz, .string nmz, .string tmz, .slice vaz vnz vcz, .bool enz, .slice haz hnz hcz, .int .i64 vrz] _ _ rfl hRY Tryz.underlying27 rfl (by kernel_rfl)) rfl ⟨_, p2 + 1 + 1, rfl, HX.out.1, by omega, HX.out.2.1, HX.out.2.2⟩
  have n1 : ((q4 : Int) == 1) = false := by rw [beq_eq_false_iff_ne]; omega
  by_cases e2 : q4 = 2
  · subst e2
    go_wp2_with fail
    refine (zcK r (p2 + 1 + 1) w4 (by omega) F4.out.st.rd).mono ?_
    rintro e w5 ⟨s5, rfl, hs5, hr_, D_⟩
    have F5 := hid (F4.out.call hr_ D_)
    clear hr_ D_ F4 C4
    obtain ⟨kd5, nm5, tm5, va5, vn5, vc5, en5, ha5, hn5, hc5, vr5, hC, hz5, HA5, HT5⟩ := F5.out.open
    have cO := fun j => cell_of_block (o := j) hC
    have fO := fun j => za (o := j) hC
    clear hC
    go_upto_region 19 with fail
    refine zn (OB w.heap.size 1000004 r w w.heap.size kO (p2 + 1 + 1 + 3)) (F5.out.set (j := 1) (by omega) ⟨_, rfl, hs5⟩) ?_
    rintro WZ h_
    have FZ := hid h_
    clear h_ F5
    clear cO fO HA5 HT5 hz5
    obtain ⟨kdz, nmz, tmz, vaz, vnz, vcz, enz, haz, hnz, hcz, vrz, hC, hzz, HAz, HTz⟩ := FZ.out.open
    have cO := fun j => cell_of_block (o := j) hC
    have fO := fun j => za (o := j) hC
    clear cO fO
    refine wp_region_list ?_
    refine wpList_load_mid rfl 27 (.tmp 5) rfl kO 0 rfl _ _ (zY hC) Tryz.underlying27 rfl (by kernel_rfl) ?_
    refine wpList_store_mid rfl 27 (.tmp 4) (.tmp 79) rfl w.heap.size 0 #[.string kdz, .string nmz, .string tmz, .slice vaz vnz vcz, .bool enz, .slice haz hnz hcz, .int .i64 vrz] rfl rfl (zU FZ.out.res (by simp)) (by kernel_rfl) (by simp [Value.oneCell']) ?_
    refine wpList_nil ?_
    obtain ⟨WY, hWY⟩ : ∃ W, W = WZ.setCells w.heap.size 0 #[.string kdz, .string nmz, .string tmz, .slice vaz vnz vcz, .bool enz, .slice haz hnz hcz, .int .i64 vrz].toList := ⟨_, rfl⟩
    have hRY : WY.heap[w.heap.size]? = some (.cells #[.string kdz, .string nmz, .string tmz, .slice vaz vnz vcz, .bool enz, .slice haz hnz hcz, .int .i64 vrz] 27) := by rw [hWY]; exact zI FZ.out.res rfl
    have HX := yK (show ObA w.heap.size 1000004 WY #[.string kdz, .string nmz, .string tmz, .slice vaz vnz vcz, .bool enz, .slice haz hnz hcz, .int .i64 vrz] by rw [hWY]; exact HAz.out.qw (yj FZ.out.res (by decide) _)) (show yF WY r (p2 + 1 + 1 + 3) by rw [hWY]; exact (FZ.out.st.put FZ.out.c3 _).rd) (show Dr r w WY by rw [hWY]; exact (FZ.out.st.put FZ.out.c3 _).fr)
    rw [<- hWY]
    clear hWY FZ HAz HTz hC
    (try simp only [Act.put])
    go_wp2_with fail
    exact bodyPost_ret (v := .agg #[.string kdz, .string nmz, .string tmz, .slice vaz vnz vcz, .bool enz, .slice haz hnz hcz, .int .i64 vrz]) (results_cell_row Tryz.results32 _ _ w.heap.size 27 #[.string kdz, .string nmz, .string tmz, .slice vaz vnz vcz, .bool enz, .slice haz hnz hcz, .int .i64 vrz] _ _ rfl hRY Tryz.underlying27 rfl (by kernel_rfl)) rfl ⟨_, p2 + 1 + 1 + 3, rfl, HX.out.1, by omega, HX.out.2.1, HX.out.2.2⟩
  have n2 : ((q4 : Int) == 2) = false := by rw [beq_eq_false_iff_ne]; omega
  by_cases e3 : q4 = 3
  · subst e3
    go_wp2_with fail
    refine (qC _ 3 3 w.heap.size 6 r (p2 + 1 + 1) _ (yH w.heap.size 6 w4 [⟨#[]⟩, ⟨#[110, 111, 110, 101]⟩, ⟨#[84]⟩] F4.out.st.le (by simp) (by simp [maxLen]) (by simp +decide)) (by omega) (by omega) (by omega) (F4.out.alloc _).st.rd hlt).mono ?_
    rintro e w5 ⟨s5, rfl, hs5, hr_, D_⟩
    have F5 := hid ((F4.out.alloc _).call hr_ D_)
    clear hr_ D_ F4 C4
    obtain ⟨kd5, nm5, tm5, va5, vn5, vc5, en5, ha5, hn5, hc5, vr5, hC, hz5, HA5, HT5⟩ := F5.out.open
    have cO := fun j => cell_of_block (o := j) hC
    have fO := fun j => za (o := j) hC
    clear hC
    go_upto_region 19 with fail
    refine zn (OB w.heap.size 1000004 r w w.heap.size kO (p2 + 1 + 1 + 1)) (F5.out.set (j := 2) (by omega) ⟨_, rfl, hs5⟩) ?_
    rintro WZ h_
    have FZ := hid h_
    clear h_ F5
    clear cO fO HA5 HT5 hz5
    obtain ⟨kdz, nmz, tmz, vaz, vnz, vcz, enz, haz, hnz, hcz, vrz, hC, hzz, HAz, HTz⟩ := FZ.out.open
    have cO := fun j => cell_of_block (o := j) hC
    have fO := fun j => za (o := j) hC
    clear cO fO
    refine wp_region_list ?_
    refine wpList_load_mid rfl 27 (.tmp 5) rfl kO 0 rfl _ _ (zY hC) Tryz.underlying27 rfl (by kernel_rfl) ?_
    refine wpList_store_mid rfl 27 (.tmp 4) (.tmp 79) rfl w.heap.size 0 #[.string kdz, .string nmz, .string tmz, .slice vaz vnz vcz, .bool enz, .slice haz hnz hcz, .int .i64 vrz] rfl rfl (zU FZ.out.res (by simp)) (by kernel_rfl) (by simp [Value.oneCell']) ?_
    refine wpList_nil ?_
    obtain ⟨WY, hWY⟩ : ∃ W, W = WZ.setCells w.heap.size 0 #[.string kdz, .string nmz, .string tmz, .slice vaz vnz vcz, .bool enz, .slice haz hnz hcz, .int .i64 vrz].toList := ⟨_, rfl⟩
    have hRY : WY.heap[w.heap.size]? = some (.cells #[.string kdz, .string nmz, .string tmz, .slice vaz vnz vcz, .bool enz, .slice haz hnz hcz, .int .i64 vrz] 27) := by rw [hWY]; exact zI FZ.out.res rfl
    have HX := yK (show ObA w.heap.size 1000004 WY #[.string kdz, .string nmz, .string tmz, .slice vaz vnz vcz, .bool enz, .slice haz hnz hcz, .int .i64 vrz] by rw [hWY]; exact HAz.out.qw (yj FZ.out.res (by decide) _)) (show yF WY r (p2 + 1 + 1 + 1) by rw [hWY]; exact (FZ.out.st.put FZ.out.c3 _).rd) (show Dr r w WY by rw [hWY]; exact (FZ.out.st.put FZ.out.c3 _).fr)
    rw [<- hWY]
    clear hWY FZ HAz HTz hC
    (try simp only [Act.put])
    go_wp2_with fail
    exact bodyPost_ret (v := .agg #[.string kdz, .string nmz, .string tmz, .slice vaz vnz vcz, .bool enz, .slice haz hnz hcz, .int .i64 vrz]) (results_cell_row Tryz.results32 _ _ w.heap.size 27 #[.string kdz, .string nmz, .string tmz, .slice vaz vnz vcz, .bool enz, .slice haz hnz hcz, .int .i64 vrz] _ _ rfl hRY Tryz.underlying27 rfl (by kernel_rfl)) rfl ⟨_, p2 + 1 + 1 + 1, rfl, HX.out.1, by omega, HX.out.2.1, HX.out.2.2⟩
  have n3 : ((q4 : Int) == 3) = false := by rw [beq_eq_false_iff_ne]; omega
  by_cases e4 : q4 = 4
  · subst e4
    go_wp2_with fail
    refine yS (fun W => OB w.heap.size 1000004 r w w.heap.size kO (p2 + 1 + 1) W /\ zfa w.heap.size 1000004 W (.slice (some ⟨w4.heap.size + 1 + 1 + 1, 0, none⟩) 3 3)) ?_ ?_
    ·
      obtain ⟨y0, hy0⟩ : ∃ U, U = w4.alloc (.cells (jJ [⟨#[98]⟩, ⟨#[97]⟩]) 9) := ⟨_, rfl⟩
      have z0 : y0.heap.size = w4.heap.size + 1 := by rw [hy0]; simp
      have t0 : yR w.heap.size 1000004 y0 (.slice (some ⟨w4.heap.size, 0, none⟩) 2 2) := by rw [hy0]; exact jo w.heap.size 1000004 _ 2 w4 [⟨#[98]⟩, ⟨#[97]⟩] (rfl) rfl (by have := F4.out.st.le; omega) (by omega) (by simp [maxLen]) (by simp +decide)
      have f0 : OB w.heap.size 1000004 r w w.heap.size kO (p2 + 1 + 1) y0 := by rw [hy0]; exact F4.out.alloc _
      obtain ⟨y1, hy1⟩ : ∃ U, U = y0.alloc (.cells (jJ [⟨#[97]⟩, ⟨#[98]⟩, ⟨#[99]⟩, ⟨#[100]⟩]) 9) := ⟨_, rfl⟩
      have z1 : y1.heap.size = w4.heap.size + 1 + 1 := by rw [hy1]; simp [z0]
      have t1 : yR w.heap.size 1000004 y1 (.slice (some ⟨w4.heap.size + 1, 0, none⟩) 4 4) := by rw [hy1]; exact jo w.heap.size 1000004 _ 4 y0 [⟨#[97]⟩, ⟨#[98]⟩, ⟨#[99]⟩, ⟨#[100]⟩] (z0) rfl (by have := F4.out.st.le; omega) (by omega) (by simp [maxLen]) (by simp +decide)
      have f1 : OB w.heap.size 1000004 r w w.heap.size kO (p2 + 1 + 1) y1 := by rw [hy1]; exact f0.alloc _
      replace t0 : yR w.heap.size 1000004 y1 (.slice (some ⟨w4.heap.size, 0, none⟩) 2 2) := by rw [hy1]; exact (zf _ _ _ _).s _ t0
      obtain ⟨y2, hy2⟩ : ∃ U, U = y1.alloc (.cells (jJ [⟨#[]⟩]) 9) := ⟨_, rfl⟩
      have z2 : y2.heap.size = w4.heap.size + 1 + 1 + 1 := by rw [hy2]; simp [z1]
      have t2 : yR w.heap.size 1000004 y2 (.slice (some ⟨w4.heap.size + 1 + 1, 0, none⟩) 1 1) := by rw [hy2]; exact jo w.heap.size 1000004 _ 1 y1 [⟨#[]⟩] (z1) rfl (by have := F4.out.st.le; omega) (by omega) (by simp [maxLen]) (by simp +decide)
      have f2 : OB w.heap.size 1000004 r w w.heap.size kO (p2 + 1 + 1) y2 := by rw [hy2]; exact f1.alloc _
      replace t0 : yR w.heap.size 1000004 y2 (.slice (some ⟨w4.heap.size, 0, none⟩) 2 2) := by rw [hy2]; exact (zf _ _ _ _).s _ t0
      replace t1 : yR w.heap.size 1000004 y2 (.slice (some ⟨w4.heap.size + 1, 0, none⟩) 4 4) := by rw [hy2]; exact (zf _ _ _ _).s _ t1
      have hS := zdJ w.heap.size 1000004 (w4.heap.size + 1 + 1 + 1) 3 y2 [.slice (some ⟨w4.heap.size, 0, none⟩) 2 2, .slice (some ⟨w4.heap.size + 1, 0, none⟩) 4 4, .slice (some ⟨w4.heap.size + 1 + 1, 0, none⟩) 1 1] z2 rfl (by have := F4.out.st.le; omega) (by omega) (by simp [maxLen]) (by intro v hv; simp only [List.mem_cons, List.not_mem_nil, or_false] at hv; rcases hv with rfl | rfl | rfl <;> assumption)
      have fS := f2.alloc (.cells [.slice (some ⟨w4.heap.size, 0, none⟩) 2 2, .slice (some ⟨w4.heap.size + 1, 0, none⟩) 4 4, .slice (some ⟨w4.heap.size + 1 + 1, 0, none⟩) 1 1].toArray 25)
      rw [hy2, hy1, hy0] at hS fS
      exact ⟨fS, hS⟩
    rintro W8 ⟨hW8, hL8⟩
    refine (zQ 3 r (p2 + 1 + 1) W8 (by omega) (by omega) (by omega) hW8.st.rd).mono ?_
    rintro e w9 ⟨q9, rfl, hq9, hr_, D_⟩
    have F9 := hid (hW8.call hr_ D_)
    obtain ⟨g_, C_, e_, -, -, -, hc_⟩ := ((zN (b := 1000004) hlt D_).l _ hL8).cell hq9
    cases e_
    obtain ⟨x_, hx_, hT_⟩ := hc_ 0 (by omega)
    obtain ⟨la, ln, lc, rfl, -⟩ := qE.slice hT_
    have cL : w9.cell? ⟨w4.heap.size + 1 + 1 + 1, q9, none⟩ = some (.slice la ln lc) := by simpa using hx_
    have HT_ := hid hT_
    have hqI : (q9 : Int) < 3 := by omega
    clear hr_ D_ hW8 hL8 hc_ hx_ hT_ F4 C_ C4
    obtain ⟨kd9, nm9, tm9, va9, vn9, vc9, en9, ha9, hn9, hc9, vr9, hC, hz9, HA9, HT9⟩ := F9.out.open
    have cO := fun j => cell_of_block (o := j) hC
    have fO := fun j => za (o := j) hC
    clear hC
    go_upto_region 19 with fail
    refine zn (OB w.heap.size 1000004 r w w.heap.size kO (p2 + 1 + 1 + 1)) (F9.out.set (j := 5) (by omega) HT_.out) ?_
    rintro WZ h_
    have FZ := hid h_
    clear h_ F9 cL
    clear cO fO HA9 HT9 hz9
    obtain ⟨kdz, nmz, tmz, vaz, vnz, vcz, enz, haz, hnz, hcz, vrz, hC, hzz, HAz, HTz⟩ := FZ.out.open
    have cO := fun j => cell_of_block (o := j) hC
    have fO := fun j => za (o := j) hC
    clear cO fO
    refine wp_region_list ?_
    refine wpList_load_mid rfl 27 (.tmp 5) rfl kO 0 rfl _ _ (zY hC) Tryz.underlying27 rfl (by kernel_rfl) ?_
    refine wpList_store_mid rfl 27 (.tmp 4) (.tmp 79) rfl w.heap.size 0 #[.string kdz, .string nmz, .string tmz, .slice vaz vnz vcz, .bool enz, .slice haz hnz hcz, .int .i64 vrz] rfl rfl (zU FZ.out.res (by simp)) (by kernel_rfl) (by simp [Value.oneCell']) ?_
    refine wpList_nil ?_
    obtain ⟨WY, hWY⟩ : ∃ W, W = WZ.setCells w.heap.size 0 #[.string kdz, .string nmz, .string tmz, .slice vaz vnz vcz, .bool enz, .slice haz hnz hcz, .int .i64 vrz].toList := ⟨_, rfl⟩
    have hRY : WY.heap[w.heap.size]? = some (.cells #[.string kdz, .string nmz, .string tmz, .slice vaz vnz vcz, .bool enz, .slice haz hnz hcz, .int .i64 vrz] 27) := by rw [hWY]; exact zI FZ.out.res rfl
    have HX := yK (show ObA w.heap.size 1000004 WY #[.string kdz, .string nmz, .string tmz, .slice vaz vnz vcz, .bool enz, .slice haz hnz hcz, .int .i64 vrz] by rw [hWY]; exact HAz.out.qw (yj FZ.out.res (by decide) _)) (show yF WY r (p2 + 1 + 1 + 1) by rw [hWY]; exact (FZ.out.st.put FZ.out.c3 _).rd) (show Dr r w WY by rw [hWY]; exact (FZ.out.st.put FZ.out.c3 _).fr)
    rw [<- hWY]
    clear hWY FZ HAz HTz hC
    (try simp only [Act.put])
    go_wp2_with fail
    exact bodyPost_ret (v := .agg #[.string kdz, .string nmz, .string tmz, .slice vaz vnz vcz, .bool enz, .slice haz hnz hcz, .int .i64 vrz]) (results_cell_row Tryz.results32 _ _ w.heap.size 27 #[.string kdz, .string nmz, .string tmz, .slice vaz vnz vcz, .bool enz, .slice haz hnz hcz, .int .i64 vrz] _ _ rfl hRY Tryz.underlying27 rfl (by kernel_rfl)) rfl ⟨_, p2 + 1 + 1 + 1, rfl, HX.out.1, by omega, HX.out.2.1, HX.out.2.2⟩
  have n4 : ((q4 : Int) == 4) = false := by rw [beq_eq_false_iff_ne]; omega
  by_cases e5 : q4 = 5
  · subst e5
    go_wp2_with fail
    refine yS (fun W => OB w.heap.size 1000004 r w w.heap.size kO (p2 + 1 + 1) W /\ W.heap[w4.heap.size]? = some (.cells #[.int .i64 (-1), .int .i64 1000000, .int .i64 1000001] 3)) ⟨F4.out.alloc _, (MapKept.heap_alloc w4 _).1⟩ ?_
    rintro W4 ⟨hW4, hL4⟩
    refine (zQ 3 r (p2 + 1 + 1) W4 (by omega) (by omega) (by omega) hW4.st.rd).mono ?_
    rintro e w5 ⟨q5, rfl, hq5, hr_, D_⟩
    have F5 := hid (hW4.call hr_ D_)
    have hL5 := (zH D_ (Array.getElem?_eq_some_iff.1 hL4).1 (by have := F4.out.st.le; omega)).trans hL4
    obtain ⟨lx, hlc, hl_, hL_⟩ := zjc hq5
    have cL : w5.cell? ⟨w4.heap.size, q5, none⟩ = some (.int .i64 lx) := (cell_of_block hL5).trans hlc
    have hqI : (q5 : Int) < 3 := by omega
    clear hr_ D_ hW4 hL4 hL5 hlc F4 C4
    obtain ⟨kd5, nm5, tm5, va5, vn5, vc5, en5, ha5, hn5, hc5, vr5, hC, hz5, HA5, HT5⟩ := F5.out.open
    have cO := fun j => cell_of_block (o := j) hC
    have fO := fun j => za (o := j) hC
    clear hC
    go_upto_region 19 with fail
    refine zn (OB w.heap.size 1000004 r w w.heap.size kO (p2 + 1 + 1 + 1)) (F5.out.set (j := 6) (by omega) ⟨_, rfl, by omega, by omega⟩) ?_
    rintro WZ h_
    have FZ := hid h_
    clear h_ F5 cL
    clear cO fO HA5 HT5 hz5
    obtain ⟨kdz, nmz, tmz, vaz, vnz, vcz, enz, haz, hnz, hcz, vrz, hC, hzz, HAz, HTz⟩ := FZ.out.open
    have cO := fun j => cell_of_block (o := j) hC
    have fO := fun j => za (o := j) hC
    clear cO fO
    refine wp_region_list ?_
    refine wpList_load_mid rfl 27 (.tmp 5) rfl kO 0 rfl _ _ (zY hC) Tryz.underlying27 rfl (by kernel_rfl) ?_
    refine wpList_store_mid rfl 27 (.tmp 4) (.tmp 79) rfl w.heap.size 0 #[.string kdz, .string nmz, .string tmz, .slice vaz vnz vcz, .bool enz, .slice haz hnz hcz, .int .i64 vrz] rfl rfl (zU FZ.out.res (by simp)) (by kernel_rfl) (by simp [Value.oneCell']) ?_
    refine wpList_nil ?_
    obtain ⟨WY, hWY⟩ : ∃ W, W = WZ.setCells w.heap.size 0 #[.string kdz, .string nmz, .string tmz, .slice vaz vnz vcz, .bool enz, .slice haz hnz hcz, .int .i64 vrz].toList := ⟨_, rfl⟩
    have hRY : WY.heap[w.heap.size]? = some (.cells #[.string kdz, .string nmz, .string tmz, .slice vaz vnz vcz, .bool enz, .slice haz hnz hcz, .int .i64 vrz] 27) := by rw [hWY]; exact zI FZ.out.res rfl
    have HX := yK (show ObA w.heap.size 1000004 WY #[.string kdz, .string nmz, .string tmz, .slice vaz vnz vcz, .bool enz, .slice haz hnz hcz, .int .i64 vrz] by rw [hWY]; exact HAz.out.qw (yj FZ.out.res (by decide) _)) (show yF WY r (p2 + 1 + 1 + 1) by rw [hWY]; exact (FZ.out.st.put FZ.out.c3 _).rd) (show Dr r w WY by rw [hWY]; exact (FZ.out.st.put FZ.out.c3 _).fr)
    rw [<- hWY]
    clear hWY FZ HAz HTz hC
    (try simp only [Act.put])
    go_wp2_with fail
    exact bodyPost_ret (v := .agg #[.string kdz, .string nmz, .string tmz, .slice vaz vnz vcz, .bool enz, .slice haz hnz hcz, .int .i64 vrz]) (results_cell_row Tryz.results32 _ _ w.heap.size 27 #[.string kdz, .string nmz, .string tmz, .slice vaz vnz vcz, .bool enz, .slice haz hnz hcz, .int .i64 vrz] _ _ rfl hRY Tryz.underlying27 rfl (by kernel_rfl)) rfl ⟨_, p2 + 1 + 1 + 1, rfl, HX.out.1, by omega, HX.out.2.1, HX.out.2.2⟩
  have n5 : ((q4 : Int) == 5) = false := by rw [beq_eq_false_iff_ne]; omega
  by_cases e6 : q4 = 6
  · subst e6
    go_wp2_with fail
    refine (qC _ 3 3 w.heap.size 6 r (p2 + 1 + 1) _ (yH w.heap.size 6 w4 [⟨#[]⟩, ⟨#[110, 111, 110, 101]⟩, ⟨#[107]⟩] F4.out.st.le (by simp) (by simp [maxLen]) (by simp +decide)) (by omega) (by omega) (by omega) (F4.out.alloc _).st.rd hlt).mono ?_
    rintro e w5 ⟨s5, rfl, hs5, hr_, D_⟩
    have F5 := hid ((F4.out.alloc _).call hr_ D_)
    clear hr_ D_ F4 C4
    obtain ⟨kd5, nm5, tm5, va5, vn5, vc5, en5, ha5, hn5, hc5, vr5, hC, hz5, HA5, HT5⟩ := F5.out.open
    have cO := fun j => cell_of_block (o := j) hC
    have fO := fun j => za (o := j) hC
    clear hC
    go_upto_region 19 with fail
    refine zn (OB w.heap.size 1000004 r w w.heap.size kO (p2 + 1 + 1 + 1)) (F5.out.set (j := 0) (by omega) ⟨_, rfl, hs5⟩) ?_
    rintro WZ h_
    have FZ := hid h_
    clear h_ F5
    clear cO fO HA5 HT5 hz5
    obtain ⟨kdz, nmz, tmz, vaz, vnz, vcz, enz, haz, hnz, hcz, vrz, hC, hzz, HAz, HTz⟩ := FZ.out.open
    have cO := fun j => cell_of_block (o := j) hC
    have fO := fun j => za (o := j) hC
    clear cO fO
    refine wp_region_list ?_
    refine wpList_load_mid rfl 27 (.tmp 5) rfl kO 0 rfl _ _ (zY hC) Tryz.underlying27 rfl (by kernel_rfl) ?_
    refine wpList_store_mid rfl 27 (.tmp 4) (.tmp 79) rfl w.heap.size 0 #[.string kdz, .string nmz, .string tmz, .slice vaz vnz vcz, .bool enz, .slice haz hnz hcz, .int .i64 vrz] rfl rfl (zU FZ.out.res (by simp)) (by kernel_rfl) (by simp [Value.oneCell']) ?_
    refine wpList_nil ?_
    obtain ⟨WY, hWY⟩ : ∃ W, W = WZ.setCells w.heap.size 0 #[.string kdz, .string nmz, .string tmz, .slice vaz vnz vcz, .bool enz, .slice haz hnz hcz, .int .i64 vrz].toList := ⟨_, rfl⟩
    have hRY : WY.heap[w.heap.size]? = some (.cells #[.string kdz, .string nmz, .string tmz, .slice vaz vnz vcz, .bool enz, .slice haz hnz hcz, .int .i64 vrz] 27) := by rw [hWY]; exact zI FZ.out.res rfl
    have HX := yK (show ObA w.heap.size 1000004 WY #[.string kdz, .string nmz, .string tmz, .slice vaz vnz vcz, .bool enz, .slice haz hnz hcz, .int .i64 vrz] by rw [hWY]; exact HAz.out.qw (yj FZ.out.res (by decide) _)) (show yF WY r (p2 + 1 + 1 + 1) by rw [hWY]; exact (FZ.out.st.put FZ.out.c3 _).rd) (show Dr r w WY by rw [hWY]; exact (FZ.out.st.put FZ.out.c3 _).fr)
    rw [<- hWY]
    clear hWY FZ HAz HTz hC
    (try simp only [Act.put])
    go_wp2_with fail
    exact bodyPost_ret (v := .agg #[.string kdz, .string nmz, .string tmz, .slice vaz vnz vcz, .bool enz, .slice haz hnz hcz, .int .i64 vrz]) (results_cell_row Tryz.results32 _ _ w.heap.size 27 #[.string kdz, .string nmz, .string tmz, .slice vaz vnz vcz, .bool enz, .slice haz hnz hcz, .int .i64 vrz] _ _ rfl hRY Tryz.underlying27 rfl (by kernel_rfl)) rfl ⟨_, p2 + 1 + 1 + 1, rfl, HX.out.1, by omega, HX.out.2.1, HX.out.2.2⟩
  have n6 : ((q4 : Int) == 6) = false := by rw [beq_eq_false_iff_ne]; omega
  go_upto_region 19 with fail
  refine zn (OB w.heap.size 1000004 r w w.heap.size kO (p2 + 1 + 1)) (F4.out) ?_
  rintro WZ h_
  have FZ := hid h_
  clear h_ F4 C4
  obtain ⟨kdz, nmz, tmz, vaz, vnz, vcz, enz, haz, hnz, hcz, vrz, hC, hzz, HAz, HTz⟩ := FZ.out.open
  have cO := fun j => cell_of_block (o := j) hC
  have fO := fun j => za (o := j) hC
  clear cO fO
  refine wp_region_list ?_
  refine wpList_load_mid rfl 27 (.tmp 5) rfl kO 0 rfl _ _ (zY hC) Tryz.underlying27 rfl (by kernel_rfl) ?_
  refine wpList_store_mid rfl 27 (.tmp 4) (.tmp 79) rfl w.heap.size 0 #[.string kdz, .string nmz, .string tmz, .slice vaz vnz vcz, .bool enz, .slice haz hnz hcz, .int .i64 vrz] rfl rfl (zU FZ.out.res (by simp)) (by kernel_rfl) (by simp [Value.oneCell']) ?_
  refine wpList_nil ?_
  obtain ⟨WY, hWY⟩ : ∃ W, W = WZ.setCells w.heap.size 0 #[.string kdz, .string nmz, .string tmz, .slice vaz vnz vcz, .bool enz, .slice haz hnz hcz, .int .i64 vrz].toList := ⟨_, rfl⟩
  have hRY : WY.heap[w.heap.size]? = some (.cells #[.string kdz, .string nmz, .string tmz, .slice vaz vnz vcz, .bool enz, .slice haz hnz hcz, .int .i64 vrz] 27) := by rw [hWY]; exact zI FZ.out.res rfl
  have HX := yK (show ObA w.heap.size 1000004 WY #[.string kdz, .string nmz, .string tmz, .slice vaz vnz vcz, .bool enz, .slice haz hnz hcz, .int .i64 vrz] by rw [hWY]; exact HAz.out.qw (yj FZ.out.res (by decide) _)) (show yF WY r (p2 + 1 + 1) by rw [hWY]; exact (FZ.out.st.put FZ.out.c3 _).rd) (show Dr r w WY by rw [hWY]; exact (FZ.out.st.put FZ.out.c3 _).fr)
  rw [<- hWY]
  clear hWY FZ HAz HTz hC
  (try simp only [Act.put])
  go_wp2_with fail
  exact bodyPost_ret (v := .agg #[.string kdz, .string nmz, .string tmz, .slice vaz vnz vcz, .bool enz, .slice haz hnz hcz, .int .i64 vrz]) (results_cell_row Tryz.results32 _ _ w.heap.size 27 #[.string kdz, .string nmz, .string tmz, .slice vaz vnz vcz, .bool enz, .slice haz hnz hcz, .int .i64 vrz] _ _ rfl hRY Tryz.underlying27 rfl (by kernel_rfl)) rfl ⟨_, p2 + 1 + 1, rfl, HX.out.1, by omega, HX.out.2.1, HX.out.2.2⟩
end Go.Proofs.YtmfgjafdnopfbaaGreat
