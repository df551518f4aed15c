import Derived.Test.YtmfgjafdnopfbaaGreatM45
namespace Go.Proofs.YtmfgjafdnopfbaaGreat
open Go.RowKit
theorem last3 {x0 x1 x2 x4 x5 x6 : Value} {a : Option Addr} {n c : Nat} (h : n <= 900) : ∀ va vn vc, (#[x0, x1, x2, .slice a n c, x4, x5, x6] : Array Value)[3]? = some (.slice va vn vc) -> vn <= 900 := fun va vn vc e => by
  have e2 : Value.slice a n c = .slice va vn vc := Option.some.inj e
  cases e2
  exact h
theorem zeV (w : World) (a b c d : Obj) : Below w.heap.size w ((((w.alloc a).alloc b).alloc c).alloc d) :=
  ((((Below.refl _ _).alloc (Nat.le_refl _) _).alloc (by simp) _).alloc (by simp <;> omega) _).alloc (by simp <;> omega) _
set_option maxRecDepth 10000 in
set_option maxHeartbeats 8000000 in
theorem zg9 (a : Option Addr) (n cap lo r p : Nat) (oa : Option Addr) (on oc : Nat) (w : World) (hV : qM lo 1000004 w (.slice a n cap)) (hO : zh4 lo 1000004 w (.slice oa on oc)) (hon : on <= 900) (hp : p <= 30000) (hr : yF w r p) (hlo : r < lo) (hlw : lo <= w.heap.size) :
    Calls Tryz.prog 59 #[.pointer (some ⟨r, 0, none⟩), .slice a n cap, .agg #[.int .i64 0, .int .i64 0, .int .i64 0, .slice oa on oc, .slice none 0 0, .slice none 0 0, .slice none 0 0]] w fun e w' => ∃ cs p', e = .returned (.agg cs) /\ ObA w.heap.size 1000004 w' cs /\ p' <= p + 3010 /\ yF w' r p' /\ Dr r w w' /\ ∀ va vn vc, cs[3]? = some (.slice va vn vc) -> vn <= 900 := by
  have hlt := hr.lt
  have HV := qO hV hO
  clear hV hO
  go_enter Tryz.func59, Tryz.ntmps59
  go_upto_region 1 with fail
  refine zn (fun W => St w.heap.size r w p W /\ W.heap[w.heap.size]? = some (.cells #[.int .i64 0, .int .i64 0, .int .i64 0, .slice oa on oc, .slice none 0 0, .slice none 0 0, .slice none 0 0] 102) /\ W.heap[(w.heap.size + 1)]? = some (.cells #[.string ⟨#[]⟩, .string ⟨#[]⟩, .string ⟨#[]⟩, .slice none 0 0, .bool false, .slice none 0 0, .int .i64 0] 27) /\ Keep lo 1000004 w W) ⟨((St.start hr hlt (Nat.le_refl _)).alloc _).alloc _, (zq _ _ _).1, (zq _ _ _).2, (zf _ _ _ _).trans (zf _ _ _ _)⟩ ?_
  rintro W0 ⟨hS0, hB0, hR0, hK0⟩
  have H0 := zae hS0 hB0 hR0 hK0
  clear hS0 hB0 hR0 hK0 hr
  go_wp2_with fail
  refine (qC _ 6 6 w.heap.size 6 r p _ (yH w.heap.size 6 W0 [⟨#[98, 49]⟩, ⟨#[98, 50]⟩, ⟨#[98, 51]⟩, ⟨#[120]⟩, ⟨#[121, 45, 49]⟩, ⟨#[113, 55]⟩] H0.out.1.le (by simp) (by simp [maxLen]) (by simp +decide)) (by omega) (by omega) (by omega) (H0.out.1.alloc _).rd hlt).mono ?_
  rintro e w1 ⟨s1, rfl, hs1, hr1, D1'⟩
  have D1 := jq (qV ((Below.refl _ W0).alloc (Nat.le_refl _) _)) D1'
  have H1 := zae (H0.out.1.call hr1 D1) ((zH D1 (Array.getElem?_eq_some_iff.1 H0.out.2.1).1 (by omega)).trans H0.out.2.1) ((zH D1 (Array.getElem?_eq_some_iff.1 H0.out.2.2.1).1 (by omega)).trans H0.out.2.2.1) (H0.out.2.2.2.trans (zN hlo D1))
  clear hr1 D1 D1' H0
  go_wp2_with fail
  refine (qC _ 3 3 w.heap.size 6 r (p + 1) _ (yH w.heap.size 6 w1 [⟨#[100, 101, 118]⟩, ⟨#[108, 97, 98]⟩, ⟨#[111, 112, 115]⟩] H1.out.1.le (by simp) (by simp [maxLen]) (by simp +decide)) (by omega) (by omega) (by omega) (H1.out.1.alloc _).rd hlt).mono ?_
  rintro e w2 ⟨s2, rfl, hs2, hr2, D2'⟩
  have D2 := jq (qV ((Below.refl _ w1).alloc (Nat.le_refl _) _)) D2'
  have H2 := zae (H1.out.1.call hr2 D2) ((zH D2 (Array.getElem?_eq_some_iff.1 H1.out.2.1).1 (by omega)).trans H1.out.2.1) ((zH D2 (Array.getElem?_eq_some_iff.1 H1.out.2.2.1).1 (by omega)).trans H1.out.2.2.1) (H1.out.2.2.2.trans (zN hlo D2))
  clear hr2 D2 D2' H1
  go_upto_region 2 with fail
  refine zn (fun W => OB w.heap.size 1000004 r w (w.heap.size + 1) w2.heap.size (p + 2) W /\ W.heap[w.heap.size]? = some (.cells #[.int .i64 0, .int .i64 0, .int .i64 0, .slice oa on oc, .slice none 0 0, .slice none 0 0, .slice none 0 0] 102) /\ Keep lo 1000004 w W /\ W.cell? ⟨w2.heap.size, 3, none⟩ = some (.slice none 0 0)) ?_ ?_
  · obtain ⟨g1, g2, g3, g4⟩ := H2.out
    have zR := (Array.getElem?_eq_some_iff.1 g3).1
    have zB := (Array.getElem?_eq_some_iff.1 g2).1
    have hb := fun C => (Below.refl w2.heap.size w2).alloc (Nat.le_refl _) (.cells C 27)
    exact ⟨⟨g1.alloc _, by omega, by omega, g1.le, ((hb _).block _ zR).trans g3, _, (MapKept.heap_alloc w2 _).1, _, _, _, _, _, _, _, _, _, _, _, rfl, by decide, hs1, hs2, Or.inl rfl, Or.inl rfl, by omega⟩, ((hb _).block _ zB).trans g2, g4.trans (zf _ _ _ _), zo w2 _ _ 3⟩
  rintro W3 hW3
  obtain ⟨kO, hkO⟩ : ∃ k, k = w2.heap.size := ⟨_, rfl⟩
  rw [<- hkO] at hW3 ⊢
  have H3 := hid hW3
  clear hW3 H2 hkO
  rcases Nat.eq_zero_or_pos n with h0 | h0
  · subst h0
    go_upto_region 3 with fail
    have FZ := hid H3.out.1
    have C3 := hid H3.out.2.2.2
    clear H3
    obtain ⟨kdz, nmz, tmz, vaz, vnz, vcz, enz, haz, hnz, hcz, vrz, hC, hzz, HAz, HTz⟩ := FZ.out.open
    have cO := fun j => cell_of_block (o := j) hC
    have fO := fun j => za (o := j) hC
    have hvz : vnz <= 900 := by have e_ := (cO 3).symm.trans C3.out; simp at e_; omega
    clear cO fO C3
    refine wp_region_list ?_
    refine wpList_load_mid rfl 27 (.tmp 7) rfl kO 0 rfl _ _ (zY hC) Tryz.underlying27 rfl (by kernel_rfl) ?_
    refine wpList_store_mid rfl 27 (.tmp 6) (.tmp 21) rfl (w.heap.size + 1) 0 #[.string kdz, .string nmz, .string tmz, .slice vaz vnz vcz, .bool enz, .slice haz hnz hcz, .int .i64 vrz] rfl rfl (zU FZ.out.res (by simp)) (by kernel_rfl) (by simp [Value.oneCell']) ?_
    refine wpList_nil ?_
    obtain ⟨WY, hWY⟩ : ∃ W, W = W3.setCells (w.heap.size + 1) 0 #[.string kdz, .string nmz, .string tmz, .slice vaz vnz vcz, .bool enz, .slice haz hnz hcz, .int .i64 vrz].toList := ⟨_, rfl⟩
    have hRY : WY.heap[(w.heap.size + 1)]? = some (.cells #[.string kdz, .string nmz, .string tmz, .slice vaz vnz vcz, .bool enz, .slice haz hnz hcz, .int .i64 vrz] 27) := by rw [hWY]; exact zI FZ.out.res rfl
    have HX := yK (show ObA w.heap.size 1000004 WY #[.string kdz, .string nmz, .string tmz, .slice vaz vnz vcz, .bool enz, .slice haz hnz hcz, .int .i64 vrz] by rw [hWY]; exact HAz.out.qw (yj FZ.out.res (by decide) _)) (show yF WY r (p + 2) by rw [hWY]; exact (FZ.out.st.put FZ.out.c3 _).rd) (show Dr r w WY by rw [hWY]; exact (FZ.out.st.put FZ.out.c3 _).fr)
    rw [<- hWY]
    clear hWY FZ HAz HTz hC
    (try simp only [Act.put])
    go_wp2_with fail
    exact bodyPost_ret (v := .agg #[.string kdz, .string nmz, .string tmz, .slice vaz vnz vcz, .bool enz, .slice haz hnz hcz, .int .i64 vrz]) (results_cell_row Tryz.results59 _ _ (w.heap.size + 1) 27 #[.string kdz, .string nmz, .string tmz, .slice vaz vnz vcz, .bool enz, .slice haz hnz hcz, .int .i64 vrz] _ _ rfl hRY Tryz.underlying27 rfl (by kernel_rfl)) rfl ⟨_, p + 2, rfl, HX.out.1, by omega, HX.out.2.1, HX.out.2.2, last3 hvz⟩
  · have h0I : ((n : Int) == 0) = false := by rw [beq_eq_false_iff_ne]; omega
    have hn : n <= 1000 := by obtain ⟨_, _, _, e, h, -⟩ := HV.out.1.slice; cases e; exact h
    go_wp2_with fail
    refine (zQ n r (p + 2) W3 (by omega) (by omega) (by omega) H3.out.1.st.rd).mono ?_
    rintro e w4 ⟨k, rfl, hk, hr4, D4⟩
    have e5 := H3.out.1.c5
    have e4 := H3.out.1.c4
    have H4 := zae (H3.out.1.call hr4 D4) ((zH D4 (Array.getElem?_eq_some_iff.1 H3.out.2.1).1 (by omega)).trans H3.out.2.1) (H3.out.2.2.1.trans (zN hlo D4)) ((World.cell?_of_block (a := ⟨kO, 3, none⟩) (zH D4 (World.block_lt_of_cell? _ _ H3.out.2.2.2) (show kO ≠ r by omega))).trans H3.out.2.2.2)
    clear hr4 D4 H3
    have hkI : (k : Int) < (n : Int) := by omega
    obtain ⟨g, kd, fa, fn, fc, C, rfl, hg, -, -, c0, c1, hkd, hfl⟩ := (H4.out.2.2.1.k _ HV.out.1).at hk
    have HF := hid hfl
    clear hfl C
    have hfn : fn <= 900 := by obtain ⟨_, _, _, e, h, -⟩ := HF.out.slice; cases e; exact h
    go_upto_region 5 with fail
    refine zn (fun W => OB w.heap.size 1000004 r w (w.heap.size + 1) kO (p + 3) W /\ W.heap[w.heap.size]? = some (.cells #[.int .i64 0, .int .i64 0, .int .i64 0, .slice oa on oc, .slice none 0 0, .slice none 0 0, .slice none 0 0] 102) /\ Keep lo 1000004 w W /\ W.cell? ⟨kO, 3, none⟩ = some (.slice none 0 0) /\ W.heap[w4.heap.size]? = some (.cells #[.string kd, .slice fa fn fc] 45) /\ qp lo 1000004 W (.slice fa fn fc)) ?_ ?_
    · have hb := (Below.refl w4.heap.size w4).alloc (Nat.le_refl _) (.cells #[.string kd, .slice fa fn fc] 45)
      exact ⟨H4.out.1.alloc _, (hb.block _ (Array.getElem?_eq_some_iff.1 H4.out.2.1).1).trans H4.out.2.1, H4.out.2.2.1.trans (zf _ _ _ _), (hb.cell (p := ⟨kO, 3, none⟩) (World.block_lt_of_cell? _ _ H4.out.2.2.2)).trans H4.out.2.2.2, (MapKept.heap_alloc w4 _).1, (zf _ _ _ _).f _ HF.out⟩
    rintro W4 hW4
    obtain ⟨kS, hkS⟩ : ∃ k, k = w4.heap.size := ⟨_, rfl⟩
    rw [<- hkS] at hW4 ⊢
    have hkl : lo <= kS := by rw [hkS]; exact Nat.le_trans hlw H4.out.1.st.le
    have H4' := hid hW4
    have cS := fun j => cell_of_block (o := j) hW4.2.2.2.2.1
    have zS := (Array.getElem?_eq_some_iff.1 hW4.2.2.2.2.1).1
    clear hW4 H4 HF c0 c1 hkS
    obtain ⟨kd4, nm4, tm4, va4, vn4, vc4, en4, ha4, hn4, hc4, vr4, hC, hz4, HA4, HT4⟩ := H4'.out.1.open
    have cO := fun j => cell_of_block (o := j) hC
    have fO := fun j => za (o := j) hC
    have hC4 := hC
    clear hC
    go_upto_region 6 with fail
    refine zn (fun W => OB w.heap.size 1000004 r w (w.heap.size + 1) kO (p + 3) W /\ W.heap[w.heap.size]? = some (.cells #[.int .i64 0, .int .i64 0, .int .i64 0, .slice oa on oc, .slice none 0 0, .slice none 0 0, .slice none 0 0] 102) /\ Keep lo 1000004 w W /\ W.cell? ⟨kO, 3, none⟩ = some (.slice none 0 0) /\ W.heap[kS]? = some (.cells #[.string kd, .slice fa fn fc] 45) /\ qp lo 1000004 W (.slice fa fn fc)) ?_ ?_
    · obtain ⟨g1, g2, g3, g4, g5, g6⟩ := H4'.out
      have hk5 : Keep lo 1000004 W4 (W4.setCell ⟨kO, 0, none⟩ (.string kd)) := zaN hC4 ⟨kd, rfl, hkd⟩
      exact ⟨g1.set (j := 0) (by omega) ⟨kd, rfl, hkd⟩, (yt (by rintro rfl; rw [g2] at hC4; cases hC4)).trans g2, g3.trans hk5, (World.cell?_setCell_other _ _ _ _ (by simp)).trans g4, (yt (by rintro rfl; rw [g5] at hC4; cases hC4)).trans g5, hk5.f _ g6⟩
    rintro W5 hW5
    have H5 := hid hW5
    clear hW5 H4' cO fO HA4 HT4 hC4 cS zS hz4
    go_wp2_with fail
    go_loopw [9] (fun vk wr => ∃ (k p' vc : Nat) (va : Option Addr), vk = .int .i64 (k : Int) /\ k <= fn /\ Hid (OB w.heap.size 1000004 r w (w.heap.size + 1) kO p' wr /\ wr.heap[w.heap.size]? = some (.cells #[.int .i64 0, .int .i64 0, .int .i64 0, .slice oa on oc, .slice none 0 0, .slice none 0 0, .slice none 0 0] 102) /\ Keep lo 1000004 w wr /\ wr.cell? ⟨kO, 3, none⟩ = some (.slice va k vc) /\ wr.heap[kS]? = some (.cells #[.string kd, .slice fa fn fc] 45) /\ qp lo 1000004 wr (.slice fa fn fc)) /\ p' <= p + 3 + 3 * k) (fun vk _ => fn - (intOf vk).toNat)
    case atStart => exact ⟨0, p + 3, 0, none, rfl, by omega, H5, by omega⟩
    case round =>
      clear H5
      obtain ⟨m, p6, vc, va, rfl, hm, H6, hp6⟩ := hrel
      have cS := fun j => cell_of_block (o := j) H6.out.2.2.2.2.1
      have zS := (Array.getElem?_eq_some_iff.1 H6.out.2.2.2.2.1).1
      by_cases hmf : m < fn
      · have hmI : (m : Int) < (fn : Int) := by omega
        obtain ⟨gf, Cf, rfl, hgf, hCf, hCfs, hcf⟩ := qE.cell H6.out.2.2.2.2.2 hmf
        obtain ⟨ds, hds, hA, hrg⟩ := zau hCf hCfs hcf
        have HFA := hid hA
        obtain ⟨x7, c7, mu, rfl⟩ := hcf 7 (by omega)
        have hgfr : gf ≠ r := by omega
        clear hcf hA
        cases mu
        ·
          go_wp2_with fail
          refine (zQ 3 r p6 wr (by omega) (by omega) (by omega) H6.out.1.st.rd).mono ?_
          rintro e w7 ⟨q7, rfl, hq7, hr7, D7⟩
          have e5 := H6.out.1.c5
          have db := fun (k : Nat) (C : Array Value) (t : TypeId) (hk : wr.heap[k]? = some (.cells C t)) (hne : k ≠ r) => (zH D7 (Array.getElem?_eq_some_iff.1 hk).1 hne).trans hk
          have HCF := hid (db _ _ _ hCf hgfr)
          have hrg : w7.rangeAt gf (m * 11) ds := fun j v hv => by rw [cell_of_block HCF.out, <- cell_of_block (w := wr) hCf]; exact hrg j v hv
          have HFA := hid (HFA.out.keep (zN hlo D7))
          have H6' := zin (H6.out.1.call hr7 D7) (db _ _ _ H6.out.2.1 (by omega)) (H6.out.2.2.1.trans (zN hlo D7)) ((World.cell?_of_block (a := ⟨kO, 3, none⟩) (zH D7 (World.block_lt_of_cell? _ _ H6.out.2.2.2.1) (show kO ≠ r by omega))).trans H6.out.2.2.2.1) (db _ _ _ H6.out.2.2.2.2.1 (by omega)) ((zN hlo D7).f _ H6.out.2.2.2.2.2)
          clear hr7 D7 db H6 cS zS c7 hCf
          have cS := fun j => cell_of_block (o := j) H6'.out.2.2.2.2.1
          have zS := (Array.getElem?_eq_some_iff.1 H6'.out.2.2.2.2.1).1
          rcases Nat.eq_zero_or_pos q7 with hq | hq
          · subst hq
            have H8 := H6'
            have hsv : (⟨#[]⟩ : ByteArray).size <= 4000000 := by decide
            clear H6' 
            go_upto_region 12 with fail
            have cS := fun j => cell_of_block (o := j) H8.out.2.2.2.2.1
            obtain ⟨kd8, nm8, tm8, va8, vn8, vc8, en8, ha8, hn8, hc8, vr8, hC, hz8, HA8, HT8⟩ := H8.out.1.open
            have cO := fun j => cell_of_block (o := j) hC
            have fO := fun j => za (o := j) hC
            obtain ⟨rfl, rfl, rfl⟩ : va = va8 /\ m = vn8 /\ vc = vc8 := by simpa using H8.out.2.2.2.1.symm.trans (cO 3)
            go_wp2_with (at_builtin; refine yM ?_)
            have hu := yH w.heap.size 1000004 w7 [⟨#[]⟩] H8.out.1.st.le (by simp) (by simp [maxLen]) (by simpa using hsv)
            have hv := (zf w.heap.size 1000004 w7 (.cells #[.string ⟨#[]⟩] 9)).s _ HT8.out
            obtain ⟨a9, c9, w9, hr9, hF9, hb9, ho9, hK9⟩ := zaj lo hlw (ty := 25) hv hu (by simp; omega) (by omega) (H8.out.1.st.alloc _).le
            have bA := (Below.refl w7.heap.size w7).alloc (Nat.le_refl _) (.cells #[.string ⟨#[]⟩] 9)
            have hkeep : ∀ (k : Nat) (C : Array Value) (t : TypeId), w7.heap[k]? = some (.cells C t) -> t ≠ 9 -> w9.heap[k]? = some (.cells C t) := fun k C t hk ht => ho9 _ _ _ ((bA.block _ (Array.getElem?_eq_some_iff.1 hk).1).trans hk) ht
            obtain ⟨a9', c9', w9', hr9', hF9', -, -, hK9'⟩ := zaj w.heap.size (Nat.le_refl _) (ty := 25) hv hu (by simp; omega) (by omega) (H8.out.1.st.alloc _).le
            have hO9 := (H8.out.1.alloc (.cells #[.string ⟨#[]⟩] 9)).go ((H8.out.1.st.alloc _).down hb9) (fun k C _ hk => ho9 k C _ hk (by decide)) (fun u hu' => by have e := hr9.symm.trans hr9'; injection e with _ e2; rw [e2]; exact (hK9' 1000004).s _ hu')
            have H9 := zeY hO9 (hkeep _ _ _ H8.out.2.1 (by decide)) (H8.out.2.2.1.trans ((zf _ _ _ _).trans (hK9 1000004))) (hkeep _ _ _ H8.out.2.2.2.2.1 (by decide)) ((hK9 1000004).f _ ((zf _ _ _ _).f _ H8.out.2.2.2.2.2))
            have HF9 := hid hF9
            have hC9 := hkeep _ _ _ hC (by decide)
            show wpList _ _ _ _ _ _
            refine wpList_append_run hr9 rfl rfl rfl rfl ?_
            clear hr9 hF9 hb9 ho9 hK9 hu hv bA hkeep hO9 cO fO cS hr9' hF9' hK9'
            have cO := fun j => cell_of_block (o := j) hC9
            have fO := fun j => za (o := j) hC9
            have zO := (Array.getElem?_eq_some_iff.1 hC9).1
            go_upto_region 8 with fail
            refine zn (fun W => OB w.heap.size 1000004 r w (w.heap.size + 1) kO (p6 + 1) W /\ W.heap[w.heap.size]? = some (.cells #[.int .i64 0, .int .i64 0, .int .i64 0, .slice oa on oc, .slice none 0 0, .slice none 0 0, .slice none 0 0] 102) /\ Keep lo 1000004 w W /\ W.cell? ⟨kO, 3, none⟩ = some (.slice a9 (m + 1) c9) /\ W.heap[kS]? = some (.cells #[.string kd, .slice (some ⟨gf, 0, none⟩) fn fc] 45) /\ qp lo 1000004 W (.slice (some ⟨gf, 0, none⟩) fn fc)) ?_ ?_
            · obtain ⟨g1, g2, g3, g5, g6⟩ := H9.out
              have hk5 : Keep lo 1000004 w9 (w9.setCell ⟨kO, 3, none⟩ (.slice a9 (m + 1) c9)) := zaN hC9 (qE.low HF9.out hlw)
              exact ⟨g1.set (j := 3) (by omega) HF9.out, (yt (by rintro rfl; rw [g2] at hC9; cases hC9)).trans g2, g3.trans hk5, by rw [cell_of_block (zu hC9 _)]; rfl, (yt (by rintro rfl; rw [g5] at hC9; cases hC9)).trans g5, hk5.f _ g6⟩
            rintro W10 hW10
            have H10 := hid hW10
            clear hW10 H9 HF9 hC9 cO fO zO H8 hC HA8 HT8
            go_wp2_with fail
            exact ⟨⟨m + 1, p6 + 1, c9, a9, by go_num, by omega, H10, by omega⟩, by simp [intOf]; omega⟩
          · have hqI : (0 : Int) < (q7 : Int) := by omega
            go_upto_region 11 with fail
            have H7 := zin (H6'.out.1.drew) (show w7.drew.heap[w.heap.size]? = _ from H6'.out.2.1) (H6'.out.2.2.1.trans (yY _ _ w7)) (show w7.drew.cell? ⟨kO, 3, none⟩ = _ from H6'.out.2.2.2.1) (show w7.drew.heap[kS]? = _ from H6'.out.2.2.2.2.1) ((yY _ _ _).f _ H6'.out.2.2.2.2.2)
            have HFd := hid (HFA.out.keep (yY _ _ w7))
            have hrB : w7.drew.rangeAt w.heap.size 0 (#[.int .i64 0, .int .i64 0, .int .i64 0, .slice oa on oc, .slice none 0 0, .slice none 0 0, .slice none 0 0] : Array Value).toList := zY H7.out.2.1
            have hcS : w7.drew.cell? ⟨kS, 1, none⟩ = some (.slice (some ⟨gf, 0, none⟩) fn fc) := cell_of_block H7.out.2.2.2.2.1
            refine yV (fun w' => w'.cell? ⟨kS, 1, none⟩ = some (.slice (some ⟨gf, 0, none⟩) fn fc) /\ w'.rangeAt gf (m * 11) ds /\ w'.rangeAt w.heap.size 0 (#[.int .i64 0, .int .i64 0, .int .i64 0, .slice oa on oc, .slice none 0 0, .slice none 0 0, .slice none 0 0] : Array Value).toList) [] (by kernel_rfl) ⟨hcS, hrg, hrB⟩ (fun hHeld => ?_)
            refine tD 0 ?_; refine tD 1 ?_; refine tD 2 ?_; refine tD 3 ?_; refine tD 4 ?_
            refine mD 5 (cs := ds) (b := gf) (o := m * 11) (fun _ h => h.2.1) Tryz.underlying63 rfl (by rw [hds]; kernel_rfl) ?_
            refine mD 6 (cs := (#[.int .i64 0, .int .i64 0, .int .i64 0, .slice oa on oc, .slice none 0 0, .slice none 0 0, .slice none 0 0] : Array Value).toList) (b := w.heap.size) (o := 0) (fun _ h => h.2.2) Tryz.underlying102 rfl (by kernel_rfl) ?_
            refine cD 7 fun K hK => ?_
            go_simp
            refine (zcM ds.toArray oa on oc lo 1000004 r (p6 + 1) w7.drew HFd.out (H7.out.2.2.1.o _ HV.out.2) (by omega) (by omega) (by omega) H7.out.1.st.rd hlo (Nat.le_trans hlw H7.out.1.st.le)).mono ?_
            rintro e W8 ⟨sv, p8, rfl, hsv, hp8, hr8, D8⟩
            have db := fun (k : Nat) (C : Array Value) (t : TypeId) (hk : w7.drew.heap[k]? = some (.cells C t)) (hne : k ≠ r) => (zH D8 (Array.getElem?_eq_some_iff.1 hk).1 hne).trans hk
            have e5 := H7.out.1.c5
            have hCf8 := db _ _ _ (show w7.drew.heap[gf]? = _ from HCF.out) hgfr
            have H8 := zin (H7.out.1.call hr8 D8) (db _ _ _ H7.out.2.1 (by omega)) (H7.out.2.2.1.trans (zN hlo D8)) ((World.cell?_of_block (a := ⟨kO, 3, none⟩) (zH D8 (World.block_lt_of_cell? _ _ H7.out.2.2.2.1) (show kO ≠ r by omega))).trans H7.out.2.2.2.1) (db _ _ _ H7.out.2.2.2.2.1 (by omega)) ((zN hlo D8).f _ H7.out.2.2.2.2.2)
            have hS8 : W8.cell? ⟨kS, 1, none⟩ = some (.slice (some ⟨gf, 0, none⟩) fn fc) /\ W8.rangeAt gf (m * 11) ds /\ W8.rangeAt w.heap.size 0 (#[.int .i64 0, .int .i64 0, .int .i64 0, .slice oa on oc, .slice none 0 0, .slice none 0 0, .slice none 0 0] : Array Value).toList := ⟨cell_of_block H8.out.2.2.2.2.1, fun j v hv => by rw [cell_of_block hCf8, <- cell_of_block (w := w7.drew) (show w7.drew.heap[gf]? = _ from HCF.out)]; exact hrg j v hv, zY H8.out.2.1⟩
            (try go_wp2_with fail)
            refine hK.out _ _ (fun _ => hS8) (fun hHeld => ?_)
            clear hK K hr8 D8 db hCf8 H7 HFd hrB hcS
            (try simp only [Act.put, sA, s0, sS])
            replace hHeld := hHeld (by decide)
            refine tD 8 ?_
            refine yx (by kernel_rfl) ?_ _
            clear hHeld hS8
            go_upto_region 12 with fail
            have cS := fun j => cell_of_block (o := j) H8.out.2.2.2.2.1
            obtain ⟨kd8, nm8, tm8, va8, vn8, vc8, en8, ha8, hn8, hc8, vr8, hC, hz8, HA8, HT8⟩ := H8.out.1.open
            have cO := fun j => cell_of_block (o := j) hC
            have fO := fun j => za (o := j) hC
            obtain ⟨rfl, rfl, rfl⟩ : va = va8 /\ m = vn8 /\ vc = vc8 := by simpa using H8.out.2.2.2.1.symm.trans (cO 3)
            go_wp2_with (at_builtin; refine yM ?_)
            have hu := yH w.heap.size 1000004 W8 [sv] H8.out.1.st.le (by simp) (by simp [maxLen]) (by simpa using hsv)
            have hv := (zf w.heap.size 1000004 W8 (.cells #[.string sv] 9)).s _ HT8.out
            obtain ⟨a9, c9, w9, hr9, hF9, hb9, ho9, hK9⟩ := zaj lo hlw (ty := 25) hv hu (by simp; omega) (by omega) (H8.out.1.st.alloc _).le
            have bA := (Below.refl W8.heap.size W8).alloc (Nat.le_refl _) (.cells #[.string sv] 9)
            have hkeep : ∀ (k : Nat) (C : Array Value) (t : TypeId), W8.heap[k]? = some (.cells C t) -> t ≠ 9 -> w9.heap[k]? = some (.cells C t) := fun k C t hk ht => ho9 _ _ _ ((bA.block _ (Array.getElem?_eq_some_iff.1 hk).1).trans hk) ht
            obtain ⟨a9', c9', w9', hr9', hF9', -, -, hK9'⟩ := zaj w.heap.size (Nat.le_refl _) (ty := 25) hv hu (by simp; omega) (by omega) (H8.out.1.st.alloc _).le
            have hO9 := (H8.out.1.alloc (.cells #[.string sv] 9)).go ((H8.out.1.st.alloc _).down hb9) (fun k C _ hk => ho9 k C _ hk (by decide)) (fun u hu' => by have e := hr9.symm.trans hr9'; injection e with _ e2; rw [e2]; exact (hK9' 1000004).s _ hu')
            have H9 := zeY hO9 (hkeep _ _ _ H8.out.2.1 (by decide)) (H8.out.2.2.1.trans ((zf _ _ _ _).trans (hK9 1000004))) (hkeep _ _ _ H8.out.2.2.2.2.1 (by decide)) ((hK9 1000004).f _ ((zf _ _ _ _).f _ H8.out.2.2.2.2.2))
            have HF9 := hid hF9
            have hC9 := hkeep _ _ _ hC (by decide)
            show wpList _ _ _ _ _ _
            refine wpList_append_run hr9 rfl rfl rfl rfl ?_
            clear hr9 hF9 hb9 ho9 hK9 hu hv bA hkeep hO9 cO fO cS hr9' hF9' hK9'
            have cO := fun j => cell_of_block (o := j) hC9
            have fO := fun j => za (o := j) hC9
            have zO := (Array.getElem?_eq_some_iff.1 hC9).1
            go_upto_region 8 with fail
            refine zn (fun W => OB w.heap.size 1000004 r w (w.heap.size + 1) kO (p8) W /\ W.heap[w.heap.size]? = some (.cells #[.int .i64 0, .int .i64 0, .int .i64 0, .slice oa on oc, .slice none 0 0, .slice none 0 0, .slice none 0 0] 102) /\ Keep lo 1000004 w W /\ W.cell? ⟨kO, 3, none⟩ = some (.slice a9 (m + 1) c9) /\ W.heap[kS]? = some (.cells #[.string kd, .slice (some ⟨gf, 0, none⟩) fn fc] 45) /\ qp lo 1000004 W (.slice (some ⟨gf, 0, none⟩) fn fc)) ?_ ?_
            · obtain ⟨g1, g2, g3, g5, g6⟩ := H9.out
              have hk5 : Keep lo 1000004 w9 (w9.setCell ⟨kO, 3, none⟩ (.slice a9 (m + 1) c9)) := zaN hC9 (qE.low HF9.out hlw)
              exact ⟨g1.set (j := 3) (by omega) HF9.out, (yt (by rintro rfl; rw [g2] at hC9; cases hC9)).trans g2, g3.trans hk5, by rw [cell_of_block (zu hC9 _)]; rfl, (yt (by rintro rfl; rw [g5] at hC9; cases hC9)).trans g5, hk5.f _ g6⟩
            rintro W10 hW10
            have H10 := hid hW10
            clear hW10 H9 HF9 hC9 cO fO zO H8 hC HA8 HT8
            go_wp2_with fail
            exact ⟨⟨m + 1, p8, c9, a9, by go_num, by omega, H10, by omega⟩, by simp [intOf]; omega⟩
        ·
          have HCF := hid hCf
          clear hCf
          go_upto_region 11 with fail
          have H7 := zin (H6.out.1.drew) (show wr.drew.heap[w.heap.size]? = _ from H6.out.2.1) (H6.out.2.2.1.trans (yY _ _ wr)) (show wr.drew.cell? ⟨kO, 3, none⟩ = _ from H6.out.2.2.2.1) (show wr.drew.heap[kS]? = _ from H6.out.2.2.2.2.1) ((yY _ _ _).f _ H6.out.2.2.2.2.2)
          have HFd := hid (HFA.out.keep (yY _ _ wr))
          have hrB : wr.drew.rangeAt w.heap.size 0 (#[.int .i64 0, .int .i64 0, .int .i64 0, .slice oa on oc, .slice none 0 0, .slice none 0 0, .slice none 0 0] : Array Value).toList := zY H7.out.2.1
          have hcS : wr.drew.cell? ⟨kS, 1, none⟩ = some (.slice (some ⟨gf, 0, none⟩) fn fc) := cell_of_block H7.out.2.2.2.2.1
          refine yV (fun w' => w'.cell? ⟨kS, 1, none⟩ = some (.slice (some ⟨gf, 0, none⟩) fn fc) /\ w'.rangeAt gf (m * 11) ds /\ w'.rangeAt w.heap.size 0 (#[.int .i64 0, .int .i64 0, .int .i64 0, .slice oa on oc, .slice none 0 0, .slice none 0 0, .slice none 0 0] : Array Value).toList) [] (by kernel_rfl) ⟨hcS, hrg, hrB⟩ (fun hHeld => ?_)
          refine tD 0 ?_; refine tD 1 ?_; refine tD 2 ?_; refine tD 3 ?_; refine tD 4 ?_
          refine mD 5 (cs := ds) (b := gf) (o := m * 11) (fun _ h => h.2.1) Tryz.underlying63 rfl (by rw [hds]; kernel_rfl) ?_
          refine mD 6 (cs := (#[.int .i64 0, .int .i64 0, .int .i64 0, .slice oa on oc, .slice none 0 0, .slice none 0 0, .slice none 0 0] : Array Value).toList) (b := w.heap.size) (o := 0) (fun _ h => h.2.2) Tryz.underlying102 rfl (by kernel_rfl) ?_
          refine cD 7 fun K hK => ?_
          go_simp
          refine (zcM ds.toArray oa on oc lo 1000004 r (p6) wr.drew HFd.out (H7.out.2.2.1.o _ HV.out.2) (by omega) (by omega) (by omega) H7.out.1.st.rd hlo (Nat.le_trans hlw H7.out.1.st.le)).mono ?_
          rintro e W8 ⟨sv, p8, rfl, hsv, hp8, hr8, D8⟩
          have db := fun (k : Nat) (C : Array Value) (t : TypeId) (hk : wr.drew.heap[k]? = some (.cells C t)) (hne : k ≠ r) => (zH D8 (Array.getElem?_eq_some_iff.1 hk).1 hne).trans hk
          have e5 := H7.out.1.c5
          have hCf8 := db _ _ _ (show wr.drew.heap[gf]? = _ from HCF.out) hgfr
          have H8 := zin (H7.out.1.call hr8 D8) (db _ _ _ H7.out.2.1 (by omega)) (H7.out.2.2.1.trans (zN hlo D8)) ((World.cell?_of_block (a := ⟨kO, 3, none⟩) (zH D8 (World.block_lt_of_cell? _ _ H7.out.2.2.2.1) (show kO ≠ r by omega))).trans H7.out.2.2.2.1) (db _ _ _ H7.out.2.2.2.2.1 (by omega)) ((zN hlo D8).f _ H7.out.2.2.2.2.2)
          have hS8 : W8.cell? ⟨kS, 1, none⟩ = some (.slice (some ⟨gf, 0, none⟩) fn fc) /\ W8.rangeAt gf (m * 11) ds /\ W8.rangeAt w.heap.size 0 (#[.int .i64 0, .int .i64 0, .int .i64 0, .slice oa on oc, .slice none 0 0, .slice none 0 0, .slice none 0 0] : Array Value).toList := ⟨cell_of_block H8.out.2.2.2.2.1, fun j v hv => by rw [cell_of_block hCf8, <- cell_of_block (w := wr.drew) (show wr.drew.heap[gf]? = _ from HCF.out)]; exact hrg j v hv, zY H8.out.2.1⟩
          (try go_wp2_with fail)
          refine hK.out _ _ (fun _ => hS8) (fun hHeld => ?_)
          clear hK K hr8 D8 db hCf8 H7 HFd hrB hcS
          (try simp only [Act.put, sA, s0, sS])
          replace hHeld := hHeld (by decide)
          refine tD 8 ?_
          refine yx (by kernel_rfl) ?_ _
          clear hHeld hS8
          go_upto_region 12 with fail
          have cS := fun j => cell_of_block (o := j) H8.out.2.2.2.2.1
          obtain ⟨kd8, nm8, tm8, va8, vn8, vc8, en8, ha8, hn8, hc8, vr8, hC, hz8, HA8, HT8⟩ := H8.out.1.open
          have cO := fun j => cell_of_block (o := j) hC
          have fO := fun j => za (o := j) hC
          obtain ⟨rfl, rfl, rfl⟩ : va = va8 /\ m = vn8 /\ vc = vc8 := by simpa using H8.out.2.2.2.1.symm.trans (cO 3)
          go_wp2_with (at_builtin; refine yM ?_)
          have hu := yH w.heap.size 1000004 W8 [sv] H8.out.1.st.le (by simp) (by simp [maxLen]) (by simpa using hsv)
          have hv := (zf w.heap.size 1000004 W8 (.cells #[.string sv] 9)).s _ HT8.out
          obtain ⟨a9, c9, w9, hr9, hF9, hb9, ho9, hK9⟩ := zaj lo hlw (ty := 25) hv hu (by simp; omega) (by omega) (H8.out.1.st.alloc _).le
          have bA := (Below.refl W8.heap.size W8).alloc (Nat.le_refl _) (.cells #[.string sv] 9)
          have hkeep : ∀ (k : Nat) (C : Array Value) (t : TypeId), W8.heap[k]? = some (.cells C t) -> t ≠ 9 -> w9.heap[k]? = some (.cells C t) := fun k C t hk ht => ho9 _ _ _ ((bA.block _ (Array.getElem?_eq_some_iff.1 hk).1).trans hk) ht
          obtain ⟨a9', c9', w9', hr9', hF9', -, -, hK9'⟩ := zaj w.heap.size (Nat.le_refl _) (ty := 25) hv hu (by simp; omega) (by omega) (H8.out.1.st.alloc _).le
          have hO9 := (H8.out.1.alloc (.cells #[.string sv] 9)).go ((H8.out.1.st.alloc _).down hb9) (fun k C _ hk => ho9 k C _ hk (by decide)) (fun u hu' => by have e := hr9.symm.trans hr9'; injection e with _ e2; rw [e2]; exact (hK9' 1000004).s _ hu')
          have H9 := zeY hO9 (hkeep _ _ _ H8.out.2.1 (by decide)) (H8.out.2.2.1.trans ((zf _ _ _ _).trans (hK9 1000004))) (hkeep _ _ _ H8.out.2.2.2.2.1 (by decide)) ((hK9 1000004).f _ ((zf _ _ _ _).f _ H8.out.2.2.2.2.2))
          have HF9 := hid hF9
          have hC9 := hkeep _ _ _ hC (by decide)
          show wpList _ _ _ _ _ _
          refine wpList_append_run hr9 rfl rfl rfl rfl ?_
          clear hr9 hF9 hb9 ho9 hK9 hu hv bA hkeep hO9 cO fO cS hr9' hF9' hK9'
          have cO := fun j => cell_of_block (o := j) hC9
          have fO := fun j => za (o := j) hC9
          have zO := (Array.getElem?_eq_some_iff.1 hC9).1
          go_upto_region 8 with fail
          refine zn (fun W => OB w.heap.size 1000004 r w (w.heap.size + 1) kO (p8) W /\ W.heap[w.heap.size]? = some (.cells #[.int .i64 0, .int .i64 0, .int .i64 0, .slice oa on oc, .slice none 0 0, .slice none 0 0, .slice none 0 0] 102) /\ Keep lo 1000004 w W /\ W.cell? ⟨kO, 3, none⟩ = some (.slice a9 (m + 1) c9) /\ W.heap[kS]? = some (.cells #[.string kd, .slice (some ⟨gf, 0, none⟩) fn fc] 45) /\ qp lo 1000004 W (.slice (some ⟨gf, 0, none⟩) fn fc)) ?_ ?_
          · obtain ⟨g1, g2, g3, g5, g6⟩ := H9.out
            have hk5 : Keep lo 1000004 w9 (w9.setCell ⟨kO, 3, none⟩ (.slice a9 (m + 1) c9)) := zaN hC9 (qE.low HF9.out hlw)
            exact ⟨g1.set (j := 3) (by omega) HF9.out, (yt (by rintro rfl; rw [g2] at hC9; cases hC9)).trans g2, g3.trans hk5, by rw [cell_of_block (zu hC9 _)]; rfl, (yt (by rintro rfl; rw [g5] at hC9; cases hC9)).trans g5, hk5.f _ g6⟩
          rintro W10 hW10
          have H10 := hid hW10
          clear hW10 H9 HF9 hC9 cO fO zO H8 hC HA8 HT8
          go_wp2_with fail
          exact ⟨⟨m + 1, p8, c9, a9, by go_num, by omega, H10, by omega⟩, by simp [intOf]; omega⟩
      · have hmI : ¬ (m : Int) < (fn : Int) := by omega
        go_wp2_with fail
        refine (zQ 3 r p6 wr (by omega) (by omega) (by omega) H6.out.1.st.rd).mono ?_
        rintro e w7 ⟨q7, rfl, hq7, hr7, D7⟩
        have F7 := hid (H6.out.1.call hr7 D7)
        have e5 := H6.out.1.c5
        have C3 := hid ((World.cell?_of_block (a := ⟨kO, 3, none⟩) (zH D7 (World.block_lt_of_cell? _ _ H6.out.2.2.2.1) (show kO ≠ r by omega))).trans H6.out.2.2.2.1)
        clear hr7 D7 H6 cS zS
        by_cases c7 : q7 = 0
        · subst c7
          go_wp2_with fail
          refine yS (fun W => OB w.heap.size 1000004 r w (w.heap.size + 1) kO (p6 + 1) W /\ W.cell? ⟨kO, 3, none⟩ = some (.slice va m vc) /\ zfa w.heap.size 1000004 W (.slice (some ⟨w7.heap.size + 1 + 1 + 1, 0, none⟩) 3 3)) ?_ ?_
          ·
            obtain ⟨y0, hy0⟩ : ∃ U, U = w7.alloc (.cells (jJ [⟨#[104]⟩]) 9) := ⟨_, rfl⟩
            have z0 : y0.heap.size = w7.heap.size + 1 := by rw [hy0]; simp
            have t0 : yR w.heap.size 1000004 y0 (.slice (some ⟨w7.heap.size, 0, none⟩) 1 1) := by rw [hy0]; exact jo w.heap.size 1000004 _ 1 w7 [⟨#[104]⟩] (rfl) rfl (by have := F7.out.st.le; omega) (by omega) (by simp [maxLen]) (by simp +decide)
            have f0 : OB w.heap.size 1000004 r w (w.heap.size + 1) kO (p6 + 1) y0 := by rw [hy0]; exact F7.out.alloc _
            obtain ⟨y1, hy1⟩ : ∃ U, U = y0.alloc (.cells (jJ [⟨#[103]⟩, ⟨#[104]⟩]) 9) := ⟨_, rfl⟩
            have z1 : y1.heap.size = w7.heap.size + 1 + 1 := by rw [hy1]; simp [z0]
            have t1 : yR w.heap.size 1000004 y1 (.slice (some ⟨w7.heap.size + 1, 0, none⟩) 2 2) := by rw [hy1]; exact jo w.heap.size 1000004 _ 2 y0 [⟨#[103]⟩, ⟨#[104]⟩] (z0) rfl (by have := F7.out.st.le; omega) (by omega) (by simp [maxLen]) (by simp +decide)
            have f1 : OB w.heap.size 1000004 r w (w.heap.size + 1) kO (p6 + 1) y1 := by rw [hy1]; exact f0.alloc _
            replace t0 : yR w.heap.size 1000004 y1 (.slice (some ⟨w7.heap.size, 0, none⟩) 1 1) := by rw [hy1]; exact (zf _ _ _ _).s _ t0
            obtain ⟨y2, hy2⟩ : ∃ U, U = y1.alloc (.cells (jJ [⟨#[97]⟩, ⟨#[98]⟩, ⟨#[99]⟩]) 9) := ⟨_, rfl⟩
            have z2 : y2.heap.size = w7.heap.size + 1 + 1 + 1 := by rw [hy2]; simp [z1]
            have t2 : yR w.heap.size 1000004 y2 (.slice (some ⟨w7.heap.size + 1 + 1, 0, none⟩) 3 3) := by rw [hy2]; exact jo w.heap.size 1000004 _ 3 y1 [⟨#[97]⟩, ⟨#[98]⟩, ⟨#[99]⟩] (z1) rfl (by have := F7.out.st.le; omega) (by omega) (by simp [maxLen]) (by simp +decide)
            have f2 : OB w.heap.size 1000004 r w (w.heap.size + 1) kO (p6 + 1) y2 := by rw [hy2]; exact f1.alloc _
            replace t0 : yR w.heap.size 1000004 y2 (.slice (some ⟨w7.heap.size, 0, none⟩) 1 1) := by rw [hy2]; exact (zf _ _ _ _).s _ t0
            replace t1 : yR w.heap.size 1000004 y2 (.slice (some ⟨w7.heap.size + 1, 0, none⟩) 2 2) := by rw [hy2]; exact (zf _ _ _ _).s _ t1
            have hS := zdJ w.heap.size 1000004 (w7.heap.size + 1 + 1 + 1) 3 y2 [.slice (some ⟨w7.heap.size, 0, none⟩) 1 1, .slice (some ⟨w7.heap.size + 1, 0, none⟩) 2 2, .slice (some ⟨w7.heap.size + 1 + 1, 0, none⟩) 3 3] z2 rfl (by have := F7.out.st.le; omega) (by omega) (by simp [maxLen]) (by intro v hv; simp only [List.mem_cons, List.not_mem_nil, or_false] at hv; rcases hv with rfl | rfl | rfl <;> assumption)
            have fS := f2.alloc (.cells [.slice (some ⟨w7.heap.size, 0, none⟩) 1 1, .slice (some ⟨w7.heap.size + 1, 0, none⟩) 2 2, .slice (some ⟨w7.heap.size + 1 + 1, 0, none⟩) 3 3].toArray 25)
            rw [hy2, hy1, hy0] at hS fS
            exact ⟨fS, (Below.cell (p := ⟨kO, 3, none⟩) (zeV w7 _ _ _ _) (World.block_lt_of_cell? _ _ C3.out)).trans C3.out, hS⟩
          rintro W8 ⟨hW8, hC8, hL8⟩
          refine (zQ 3 r (p6 + 1) W8 (by omega) (by omega) (by omega) hW8.st.rd).mono ?_
          rintro e w9 ⟨q9, rfl, hq9, hr_, D_⟩
          have F9 := hid (hW8.call hr_ D_)
          have hC9 := (World.cell?_of_block (a := ⟨kO, 3, none⟩) (zH D_ (World.block_lt_of_cell? _ _ hC8) (show kO ≠ r by omega))).trans hC8
          clear C3 hC8
          obtain ⟨g_, C_, e_, -, -, -, hc_⟩ := ((zN (b := 1000004) hlt D_).l _ hL8).cell hq9
          cases e_
          obtain ⟨x_, hx_, hT_⟩ := hc_ 0 (by omega)
          obtain ⟨la, ln, lc, rfl, -⟩ := qE.slice hT_
          have cL : w9.cell? ⟨w7.heap.size + 1 + 1 + 1, q9, none⟩ = some (.slice la ln lc) := by simpa using hx_
          have HT_ := hid hT_
          have hqI : (q9 : Int) < 3 := by omega
          clear hr_ D_ hW8 hL8 hc_ hx_ hT_ F7 C_
          obtain ⟨kd9, nm9, tm9, va9, vn9, vc9, en9, ha9, hn9, hc9, vr9, hC, hz9, HA9, HT9⟩ := F9.out.open
          have cO := fun j => cell_of_block (o := j) hC
          have fO := fun j => za (o := j) hC
          clear hC
          go_upto_region 15 with fail
          refine zn (fun W => OB w.heap.size 1000004 r w (w.heap.size + 1) kO (p6 + 1 + 1) W /\ W.cell? ⟨kO, 3, none⟩ = some (.slice va m vc)) ⟨F9.out.set (j := 5) (by omega) HT_.out, (World.cell?_setCell_other _ _ _ _ (by simp)).trans hC9⟩ ?_
          rintro WZ ⟨h_, h3_⟩
          have FZ := hid h_
          have C3 := hid h3_
          clear h_ h3_ hC9 F9 cO fO HA9 HT9 HT_ cL
          obtain ⟨kdz, nmz, tmz, vaz, vnz, vcz, enz, haz, hnz, hcz, vrz, hC, hzz, HAz, HTz⟩ := FZ.out.open
          have cO := fun j => cell_of_block (o := j) hC
          have fO := fun j => za (o := j) hC
          have hvz : vnz <= 900 := by have e_ := (cO 3).symm.trans C3.out; simp at e_; omega
          clear cO fO C3
          refine wp_region_list ?_
          refine wpList_load_mid rfl 27 (.tmp 7) rfl kO 0 rfl _ _ (zY hC) Tryz.underlying27 rfl (by kernel_rfl) ?_
          refine wpList_store_mid rfl 27 (.tmp 6) (.tmp 76) rfl (w.heap.size + 1) 0 #[.string kdz, .string nmz, .string tmz, .slice vaz vnz vcz, .bool enz, .slice haz hnz hcz, .int .i64 vrz] rfl rfl (zU FZ.out.res (by simp)) (by kernel_rfl) (by simp [Value.oneCell']) ?_
          refine wpList_nil ?_
          obtain ⟨WY, hWY⟩ : ∃ W, W = WZ.setCells (w.heap.size + 1) 0 #[.string kdz, .string nmz, .string tmz, .slice vaz vnz vcz, .bool enz, .slice haz hnz hcz, .int .i64 vrz].toList := ⟨_, rfl⟩
          have hRY : WY.heap[(w.heap.size + 1)]? = some (.cells #[.string kdz, .string nmz, .string tmz, .slice vaz vnz vcz, .bool enz, .slice haz hnz hcz, .int .i64 vrz] 27) := by rw [hWY]; exact zI FZ.out.res rfl
          have HX := yK (show ObA w.heap.size 1000004 WY #[.string kdz, .string nmz, .string tmz, .slice vaz vnz vcz, .bool enz, .slice haz hnz hcz, .int .i64 vrz] by rw [hWY]; exact HAz.out.qw (yj FZ.out.res (by decide) _)) (show yF WY r (p6 + 1 + 1) by rw [hWY]; exact (FZ.out.st.put FZ.out.c3 _).rd) (show Dr r w WY by rw [hWY]; exact (FZ.out.st.put FZ.out.c3 _).fr)
          rw [<- hWY]
          clear hWY FZ HAz HTz hC
          (try simp only [Act.put])
          go_wp2_with fail
          exact bodyPost_ret (v := .agg #[.string kdz, .string nmz, .string tmz, .slice vaz vnz vcz, .bool enz, .slice haz hnz hcz, .int .i64 vrz]) (results_cell_row Tryz.results59 _ _ (w.heap.size + 1) 27 #[.string kdz, .string nmz, .string tmz, .slice vaz vnz vcz, .bool enz, .slice haz hnz hcz, .int .i64 vrz] _ _ rfl hRY Tryz.underlying27 rfl (by kernel_rfl)) rfl ⟨_, p6 + 1 + 1, rfl, HX.out.1, by omega, HX.out.2.1, HX.out.2.2, last3 hvz⟩
        · have n7 : ((q7 : Int) == 0) = false := by rw [beq_eq_false_iff_ne]; omega
          go_upto_region 15 with fail
          have FZ := F7
          clear F7
          obtain ⟨kdz, nmz, tmz, vaz, vnz, vcz, enz, haz, hnz, hcz, vrz, hC, hzz, HAz, HTz⟩ := FZ.out.open
          have cO := fun j => cell_of_block (o := j) hC
          have fO := fun j => za (o := j) hC
          have hvz : vnz <= 900 := by have e_ := (cO 3).symm.trans C3.out; simp at e_; omega
          clear cO fO C3
          refine wp_region_list ?_
          refine wpList_load_mid rfl 27 (.tmp 7) rfl kO 0 rfl _ _ (zY hC) Tryz.underlying27 rfl (by kernel_rfl) ?_
          refine wpList_store_mid rfl 27 (.tmp 6) (.tmp 76) rfl (w.heap.size + 1) 0 #[.string kdz, .string nmz, .string tmz, .slice vaz vnz vcz, .bool enz, .slice haz hnz hcz, .int .i64 vrz] rfl rfl (zU FZ.out.res (by simp)) (by kernel_rfl) (by simp [Value.oneCell']) ?_
          refine wpList_nil ?_
          obtain ⟨WY, hWY⟩ : ∃ W, W = w7.setCells (w.heap.size + 1) 0 #[.string kdz, .string nmz, .string tmz, .slice vaz vnz vcz, .bool enz, .slice haz hnz hcz, .int .i64 vrz].toList := ⟨_, rfl⟩
          have hRY : WY.heap[(w.heap.size + 1)]? = some (.cells #[.string kdz, .string nmz, .string tmz, .slice vaz vnz vcz, .bool enz, .slice haz hnz hcz, .int .i64 vrz] 27) := by rw [hWY]; exact zI FZ.out.res rfl
          have HX := yK (show ObA w.heap.size 1000004 WY #[.string kdz, .string nmz, .string tmz, .slice vaz vnz vcz, .bool enz, .slice haz hnz hcz, .int .i64 vrz] by rw [hWY]; exact HAz.out.qw (yj FZ.out.res (by decide) _)) (show yF WY r (p6 + 1) by rw [hWY]; exact (FZ.out.st.put FZ.out.c3 _).rd) (show Dr r w WY by rw [hWY]; exact (FZ.out.st.put FZ.out.c3 _).fr)
          rw [<- hWY]
          clear hWY FZ HAz HTz hC
          (try simp only [Act.put])
          go_wp2_with fail
          exact bodyPost_ret (v := .agg #[.string kdz, .string nmz, .string tmz, .slice vaz vnz vcz, .bool enz, .slice haz hnz hcz, .int .i64 vrz]) (results_cell_row Tryz.results59 _ _ (w.heap.size + 1) 27 #[.string kdz, .string nmz, .string tmz, .slice vaz vnz vcz, .bool enz, .slice haz hnz hcz, .int .i64 vrz] _ _ rfl hRY Tryz.underlying27 rfl (by kernel_rfl)) rfl ⟨_, p6 + 1, rfl, HX.out.1, by omega, HX.out.2.1, HX.out.2.2, last3 hvz⟩
end Go.Proofs.YtmfgjafdnopfbaaGreat
