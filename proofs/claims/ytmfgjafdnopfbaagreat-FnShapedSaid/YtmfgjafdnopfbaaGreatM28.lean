import Derived.Test.YtmfgjafdnopfbaaGreatM27
namespace Go.Proofs.YtmfgjafdnopfbaaGreat
open Go.RowKit
set_option maxRecDepth 10000 in
set_option maxHeartbeats 4000000 in
theorem zb8 (nm : ByteArray) (a : Option Addr) (n cap lo r p : Nat) (w : World) (hnm : nm.size <= 1000) (hk : yR lo 1000002 w (.slice a n cap)) (h1 : 1 <= n) (hp : p <= 30000) (hr : yF w r p) (hlo : r < lo) (hlw : lo <= w.heap.size) :
    Calls Tryz.prog 81 #[.pointer (some ⟨r, 0, none⟩), .string nm, .slice a n cap] w fun e w' => ∃ cs p', e = .returned (.agg cs) /\ yD lo 1000002 w' cs /\ p' <= p + 12 /\ yF w' r p' /\ Dr r w w' := by
  have hlt := hr.lt
  obtain ⟨g, Cg, rfl, hgl, hCg, -⟩ := hk.cell h1
  have HK : Hid (yR lo 1000002 w (.slice (some ⟨g, 0, none⟩) n cap)) := hk
  have HG : Hid (w.heap[g]? = some (.cells Cg 9)) := hCg
  clear hk hCg
  go_enter Tryz.func81, Tryz.ntmps81
  go_wp2_with fail
  obtain ⟨W0, hW0, hk0, hz0, hr0, D0⟩ := zhu w #[.string ByteArray.empty, .int .i64 0, .int .i64 0, .int .i64 0, .slice none 0 0, .string ByteArray.empty, .int .i64 0, .bool false, .bool false, .string ByteArray.empty, .string ByteArray.empty] 63 hr
  refine ziq hW0 ?_
  clear hW0 hr
  refine (zQ 4 r p W0 (by omega) (by omega) (by omega) hr0).mono ?_
  rintro e w1 ⟨q1, rfl, hq1, hr1, D1⟩
  go_wp2_with fail
  refine (zQ 5 r (p + 1) w1 (by omega) (by omega) (by omega) hr1).mono ?_
  rintro e w2 ⟨q2, rfl, hq2, hr2, D2⟩
  go_wp2_with fail
  refine (zQ 5 r (p + 2) w2 (by omega) (by omega) (by omega) hr2).mono ?_
  rintro e w3 ⟨q3, rfl, hq3, hr3, D3⟩
  go_wp2_with fail
  refine yS (FB lo 1000 r w w.heap.size w3.heap.size (p + 3)) ?_ ?_
  · have D := jq D1 (jq D2 D3)
    have z3 : w.heap.size < w3.heap.size := Nat.lt_of_lt_of_le hz0 (zaK D)
    have hb : Below w3.heap.size w3 (w3.alloc (.cells #[.string nm, .int .i64 (1 + (q1 : Int)), .int .i64 0, .int .i64 0, .slice none 0 0, .string ⟨#[]⟩, .int .i64 0, .bool ((q2 : Int) == 0), .bool ((q3 : Int) == 0), .string ⟨#[]⟩, .string ⟨#[]⟩] 63)) := (Below.refl _ _).alloc (Nat.le_refl _) _
    exact ⟨hr3.mono hb, jq D0 (jq D (qV hb)), hlo, hlw, Nat.le_refl _, Nat.ne_of_lt z3, Nat.le_of_lt z3, (hb.block _ z3).trans ((zH D hz0 (by omega)).trans hk0), _, (MapKept.heap_alloc w3 _).1, _, _, _, _, _, _, _, _, _, _, _, _, _, rfl, by omega, by omega, by omega, by omega, Or.inl rfl, by decide, by omega, by decide, by decide⟩
  clear hk0 hz0 hr0 D0 D1 D2 D3 hr1 hr2 hr3
  rintro W3 hW3
  obtain ⟨kF, hkF⟩ : ∃ k, k = w3.heap.size := ⟨_, rfl⟩
  rw [<- hkF] at hW3 ⊢
  clear hkF
  refine (zQ 3 r (p + 3) W3 (by omega) (by omega) (by omega) hW3.rd).mono ?_
  rintro e w4 ⟨q4, rfl, hq4, hr4, D4⟩
  have F4 := hid (hW3.call hr4 D4)
  clear hr4 D4 hW3
  obtain ⟨nm4, kd4, ls4, ms4, a4, n4, c4, to4, rl4, mu4, fx4, df4, wg4, hC, hz4, HA4, ⟨hl4, hL4⟩, ⟨hm4, hM4⟩, HT4⟩ := F4.out.open
  have cF := fun j => cell_of_block (o := j) hC
  have fF := fun j => za (o := j) hC
  clear hC
  by_cases k1 : kd4 = 1
  · subst k1
    go_wp2_with fail
    refine (zQ 3 r (p + 4) w4 (by omega) (by omega) (by omega) F4.out.rd).mono ?_
    rintro e w5 ⟨q5, rfl, hq5, hr_, D_⟩
    have F5 := hid (F4.out.call hr_ D_)
    clear hr_ D_
    clear F4
    clear cF fF HA4 HT4 hl4 hL4 hm4 hM4 hz4
    obtain ⟨nm5, kd5, ls5, ms5, a5, n5, c5, to5, rl5, mu5, fx5, df5, wg5, hC, hz5, HA5, ⟨hl5, hL5⟩, ⟨hm5, hM5⟩, HT5⟩ := F5.out.open
    have cF := fun j => cell_of_block (o := j) hC
    have fF := fun j => za (o := j) hC
    clear hC
    go_upto_region 6 with fail
    refine zn (FB lo 1000 r w w.heap.size kF (p + 5)) (F5.out.set (j := 2) (by omega) ⟨_, rfl, by omega, by omega⟩) ?_
    rintro W6 h_
    have F6 := hid h_
    clear h_
    clear F5
    clear cF fF HA5 HT5 hl5 hL5 hm5 hM5 hz5
    have F6 := hid F6.out.drew
    obtain ⟨nm6, kd6, ls6, ms6, a6, n6, c6, to6, rl6, mu6, fx6, df6, wg6, hC, hz6, HA6, ⟨hl6, hL6⟩, ⟨hm6, hM6⟩, HT6⟩ := F6.out.open
    have cF := fun j => cell_of_block (o := j) hC
    have fF := fun j => za (o := j) hC
    refine wp_region_held_drew (S := fun w' => w'.cell? ⟨kF, 2, none⟩ = some (.int .i64 ls6)) (by kernel_rfl) (cF 2) (fun hHeld => ?_)
    refine tG 0 ?_; refine tG 1 ?_; refine tG 2 ?_; refine cH 3 rfl fun K hK => ?_
    go_simp
    refine (zQ 20 r (p + 5) W6.drew (by omega) (by omega) (by omega) F6.out.rd).mono ?_
    rintro e w7 ⟨q7, rfl, hq7, hr_, D_⟩
    have F7 := hid (F6.out.call hr_ D_)
    have hC7 := (zH D_ hz6 (by have := F6.out.c1; have := F6.out.c2; have := F6.out.c5; omega)).trans hC
    clear hr_ D_ cF fF
    have cF := fun j => cell_of_block (o := j) hC7
    have fF := fun j => za (o := j) hC7
    have hz7 : kF < w7.heap.size := (Array.getElem?_eq_some_iff.1 hC7).1
    (try go_wp2_with fail)
    refine hK.out _ _ (cF 2) (fun hHeld => ?_)
    clear hK K hC
    (try simp only [Act.put, sA, s0, sS])
    have hw7 : IntKind.i64.wrap (ls6 + (q7 : Int)) = ls6 + (q7 : Int) := by rw [IntKind.wrap_i64]; omega
    refine tG 4 ?_; refine tG 5 ?_
    refine cH 6 rfl fun K hK => ?_
    go_simp
    (try go_wp2_with fail)
    refine hK.out _ _ ?_ (fun hHeld => ?_)
    · exact (World.cell?_setCell_other _ _ _ _ (by simp)).trans (cF 2)
    clear hK K
    (try simp only [Act.put, sA, s0, sS])
    refine wpAnyH_done (by kernel_rfl) ?_ _
    go_upto_region 7 with fail
    refine zn (FB lo 1100 r w w.heap.size kF (p + 6)) ((F7.out.more (by omega)).set (j := 3) (by omega) ⟨_, rfl, by omega, by omega⟩) ?_
    rintro W7 h_
    have F8 := hid h_
    clear h_
    clear cF fF HA6 HT6 hl6 hL6 hm6 hM6 hz6
    clear F7 F6 hw7 hHeld hC7 hz7
    obtain ⟨g_, C_, e_, -, -, -, hc_⟩ := ((zN hlo F8.out.dr).s _ HK.out).cell h1
    cases e_
    obtain ⟨x_, hx_, k0, rfl, hk0⟩ := hc_ 0 (by omega)
    have cK : W7.cell? ⟨g, 0, none⟩ = some (.string k0) := by simpa using hx_
    clear hc_ hx_
    have hgF : g ≠ kF := by have := F8.out.c5; have := (Array.getElem?_eq_some_iff.1 HG.out).1; omega
    obtain ⟨nm8, kd8, ls8, ms8, a8, n8, c8, to8, rl8, mu8, fx8, df8, wg8, hC, hz8, HA8, ⟨hl8, hL8⟩, ⟨hm8, hM8⟩, HT8⟩ := F8.out.open
    have cF := fun j => cell_of_block (o := j) hC
    have fF := fun j => za (o := j) hC
    clear hC
    have h1I : (0 : Int) < (n : Int) := by omega
    go_wp2_with fail
    refine (qC _ 4 4 lo 1100 r (p + 6) _ (yH lo 1100 W7 [⟨#[]⟩, ⟨#[119]⟩, ⟨#[100, 105, 115, 107]⟩, k0] (by have := zaK F8.out.dr; omega) (by simp) (by simp [maxLen]) (by simp +decide; omega)) (by omega) (by omega) (by omega) (F8.out.alloc _).rd hlo).mono ?_
    rintro e w9 ⟨s9, rfl, hs9, hr_, D_⟩
    have F9 := hid ((F8.out.alloc _).call hr_ D_)
    clear hr_ D_ F8 cK hk0
    clear cF fF HA8 HT8 hl8 hL8 hm8 hM8 hz8
    obtain ⟨nm9, kd9, ls9, ms9, a9, n9, c9, to9, rl9, mu9, fx9, df9, wg9, hC, hz9, HA9, ⟨hl9, hL9⟩, ⟨hm9, hM9⟩, HT9⟩ := F9.out.open
    have cF := fun j => cell_of_block (o := j) hC
    have fF := fun j => za (o := j) hC
    clear hC
    go_upto_region 8 with fail
    refine zn (FB lo 1100 r w w.heap.size kF (p + 7)) (F9.out.set (j := 10) (by omega) ⟨_, rfl, hs9⟩) ?_
    rintro W10 h_
    have F10 := hid h_
    clear h_
    clear F9
    clear cF fF HA9 HT9 hl9 hL9 hm9 hM9 hz9
    obtain ⟨nm10, kd10, ls10, ms10, a10, n10, c10, to10, rl10, mu10, fx10, df10, wg10, hC, hz10, HA10, ⟨hl10, hL10⟩, ⟨hm10, hM10⟩, HT10⟩ := F10.out.open
    have cF := fun j => cell_of_block (o := j) hC
    have fF := fun j => za (o := j) hC
    clear hC
    go_wp2_with fail
    refine (zQ 12 r (p + 7) W10 (by omega) (by omega) (by omega) F10.out.rd).mono ?_
    rintro e w11 ⟨q11, rfl, hq11, hr_, D_⟩
    have F11 := hid (F10.out.call hr_ D_)
    clear hr_ D_
    clear F10
    clear cF fF HA10 HT10 hl10 hL10 hm10 hM10 hz10
    obtain ⟨nm11, kd11, ls11, ms11, a11, n11, c11, to11, rl11, mu11, fx11, df11, wg11, hC, hz11, HA11, ⟨hl11, hL11⟩, ⟨hm11, hM11⟩, HT11⟩ := F11.out.open
    have cF := fun j => cell_of_block (o := j) hC
    have fF := fun j => za (o := j) hC
    clear hC
    by_cases c11 : q11 = 0
    · subst c11
      by_cases c4 : q4 = 0
      · subst c4
        go_upto_region 11 with fail
        refine zn (FB lo 1000002 r w w.heap.size kF (p + 8)) ((F11.out.more (by omega)).set (j := 3) (by omega) ⟨_, rfl, by omega, by omega⟩) ?_
        rintro W12 h_
        have F12 := hid h_
        clear h_
        clear F11
        clear cF fF HA11 HT11 hl11 hL11 hm11 hM11 hz11
        obtain ⟨nm12, kd12, ls12, ms12, a12, n12, c12, to12, rl12, mu12, fx12, df12, wg12, hC, hz12, HA12, ⟨hl12, hL12⟩, ⟨hm12, hM12⟩, HT12⟩ := F12.out.open
        have cF := fun j => cell_of_block (o := j) hC
        have fF := fun j => za (o := j) hC
        clear hC
        go_wp2_with fail
        refine (zal ls12 W12 (by omega) (by omega)).mono ?_
        rintro e w13 ⟨s13, rfl, hs13, hb_⟩
        have F13 := hid (F12.out.call (F12.out.rd.mono hb_) (qV hb_))
        clear hb_ F12
        have hs13 : s13.size <= 4000000 := by omega
        clear cF fF HA12 HT12 hl12 hL12 hm12 hM12 hz12
        obtain ⟨nm13, kd13, ls13, ms13, a13, n13, c13, to13, rl13, mu13, fx13, df13, wg13, hC, hz13, HA13, ⟨hl13, hL13⟩, ⟨hm13, hM13⟩, HT13⟩ := F13.out.open
        have cF := fun j => cell_of_block (o := j) hC
        have fF := fun j => za (o := j) hC
        clear hC
        go_upto_region 27 with fail
        refine zn (FB lo 1000002 r w w.heap.size kF (p + 8)) (F13.out.set (j := 9) (by omega) ⟨_, rfl, hs13⟩) ?_
        rintro WZ h_
        have FZ := hid h_
        clear h_
        clear F13
        clear cF fF HA13 HT13 hl13 hL13 hm13 hM13 hz13
        obtain ⟨nmz, kdz, lsz, msz, az, nz, cz, toz, rlz, muz, fxz, dfz, wgz, hC, hzz, HAz, ⟨hlz, hLz⟩, ⟨hmz, hMz⟩, HTz⟩ := FZ.out.open
        have cF := fun j => cell_of_block (o := j) hC
        have fF := fun j => za (o := j) hC
        clear cF fF
        refine wp_region_list ?_
        refine wpList_load_mid rfl 63 (.tmp 7) rfl kF 0 rfl _ _ (zY hC) Tryz.underlying63 rfl (by kernel_rfl) ?_
        refine wpList_store_mid rfl 63 (.tmp 6) (.tmp 101) rfl w.heap.size 0 #[.string nmz, .int .i64 kdz, .int .i64 lsz, .int .i64 msz, .slice az nz cz, .string toz, .int .i64 rlz, .bool muz, .bool fxz, .string dfz, .string wgz] rfl rfl (zU FZ.out.res (by simp)) (by kernel_rfl) (by simp [Value.oneCell']) ?_
        refine wpList_nil ?_
        obtain ⟨WY, hWY⟩ : ∃ W, W = WZ.setCells w.heap.size 0 #[.string nmz, .int .i64 kdz, .int .i64 lsz, .int .i64 msz, .slice az nz cz, .string toz, .int .i64 rlz, .bool muz, .bool fxz, .string dfz, .string wgz].toList := ⟨_, rfl⟩
        have hRY : WY.heap[w.heap.size]? = some (.cells #[.string nmz, .int .i64 kdz, .int .i64 lsz, .int .i64 msz, .slice az nz cz, .string toz, .int .i64 rlz, .bool muz, .bool fxz, .string dfz, .string wgz] 63) := by rw [hWY]; exact zI FZ.out.res rfl
        have HX := yK (show yD lo 1000002 WY #[.string nmz, .int .i64 kdz, .int .i64 lsz, .int .i64 msz, .slice az nz cz, .string toz, .int .i64 rlz, .bool muz, .bool fxz, .string dfz, .string wgz] by rw [hWY]; exact HAz.out.qw (yj FZ.out.res (by decide) _)) (show yF WY r (p + 8) by rw [hWY]; exact qU FZ.out.rd hlt _) (show Dr r w WY by rw [hWY]; exact qR FZ.out.dr (Nat.le_refl _) _)
        rw [<- hWY]
        clear hWY FZ HAz HTz hC
        (try simp only [Act.put])
        go_wp2_with fail
        exact bodyPost_ret (v := .agg #[.string nmz, .int .i64 kdz, .int .i64 lsz, .int .i64 msz, .slice az nz cz, .string toz, .int .i64 rlz, .bool muz, .bool fxz, .string dfz, .string wgz]) (results_cell_row Tryz.results81 _ _ w.heap.size 63 #[.string nmz, .int .i64 kdz, .int .i64 lsz, .int .i64 msz, .slice az nz cz, .string toz, .int .i64 rlz, .bool muz, .bool fxz, .string dfz, .string wgz] _ _ rfl hRY Tryz.underlying63 rfl (by kernel_rfl)) rfl ⟨_, p + 8, rfl, HX.out.1, by omega, HX.out.2.1, HX.out.2.2⟩
      · have n4 : ((q4 : Int) == 0) = false := by rw [beq_eq_false_iff_ne]; omega
        go_upto_region 27 with fail
        refine zn (FB lo 1000002 r w w.heap.size kF (p + 8)) ((F11.out.more (by omega)).set (j := 3) (by omega) ⟨_, rfl, by omega, by omega⟩) ?_
        rintro WZ h_
        have FZ := hid h_
        clear h_
        clear F11
        clear cF fF HA11 HT11 hl11 hL11 hm11 hM11 hz11
        obtain ⟨nmz, kdz, lsz, msz, az, nz, cz, toz, rlz, muz, fxz, dfz, wgz, hC, hzz, HAz, ⟨hlz, hLz⟩, ⟨hmz, hMz⟩, HTz⟩ := FZ.out.open
        have cF := fun j => cell_of_block (o := j) hC
        have fF := fun j => za (o := j) hC
        clear cF fF
        refine wp_region_list ?_
        refine wpList_load_mid rfl 63 (.tmp 7) rfl kF 0 rfl _ _ (zY hC) Tryz.underlying63 rfl (by kernel_rfl) ?_
        refine wpList_store_mid rfl 63 (.tmp 6) (.tmp 101) rfl w.heap.size 0 #[.string nmz, .int .i64 kdz, .int .i64 lsz, .int .i64 msz, .slice az nz cz, .string toz, .int .i64 rlz, .bool muz, .bool fxz, .string dfz, .string wgz] rfl rfl (zU FZ.out.res (by simp)) (by kernel_rfl) (by simp [Value.oneCell']) ?_
        refine wpList_nil ?_
        obtain ⟨WY, hWY⟩ : ∃ W, W = WZ.setCells w.heap.size 0 #[.string nmz, .int .i64 kdz, .int .i64 lsz, .int .i64 msz, .slice az nz cz, .string toz, .int .i64 rlz, .bool muz, .bool fxz, .string dfz, .string wgz].toList := ⟨_, rfl⟩
        have hRY : WY.heap[w.heap.size]? = some (.cells #[.string nmz, .int .i64 kdz, .int .i64 lsz, .int .i64 msz, .slice az nz cz, .string toz, .int .i64 rlz, .bool muz, .bool fxz, .string dfz, .string wgz] 63) := by rw [hWY]; exact zI FZ.out.res rfl
        have HX := yK (show yD lo 1000002 WY #[.string nmz, .int .i64 kdz, .int .i64 lsz, .int .i64 msz, .slice az nz cz, .string toz, .int .i64 rlz, .bool muz, .bool fxz, .string dfz, .string wgz] by rw [hWY]; exact HAz.out.qw (yj FZ.out.res (by decide) _)) (show yF WY r (p + 8) by rw [hWY]; exact qU FZ.out.rd hlt _) (show Dr r w WY by rw [hWY]; exact qR FZ.out.dr (Nat.le_refl _) _)
        rw [<- hWY]
        clear hWY FZ HAz HTz hC
        (try simp only [Act.put])
        go_wp2_with fail
        exact bodyPost_ret (v := .agg #[.string nmz, .int .i64 kdz, .int .i64 lsz, .int .i64 msz, .slice az nz cz, .string toz, .int .i64 rlz, .bool muz, .bool fxz, .string dfz, .string wgz]) (results_cell_row Tryz.results81 _ _ w.heap.size 63 #[.string nmz, .int .i64 kdz, .int .i64 lsz, .int .i64 msz, .slice az nz cz, .string toz, .int .i64 rlz, .bool muz, .bool fxz, .string dfz, .string wgz] _ _ rfl hRY Tryz.underlying63 rfl (by kernel_rfl)) rfl ⟨_, p + 8, rfl, HX.out.1, by omega, HX.out.2.1, HX.out.2.2⟩
    · have n11 : ((q11 : Int) == 0) = false := by rw [beq_eq_false_iff_ne]; omega
      by_cases c4 : q4 = 0
      · subst c4
        go_upto_region 11 with fail
        refine zn (FB lo 1000002 r w w.heap.size kF (p + 8)) (F11.out.more (by omega)) ?_
        rintro W12 h_
        have F12 := hid h_
        clear h_
        clear F11
        clear cF fF HA11 HT11 hl11 hL11 hm11 hM11 hz11
        obtain ⟨nm12, kd12, ls12, ms12, a12, n12, c12, to12, rl12, mu12, fx12, df12, wg12, hC, hz12, HA12, ⟨hl12, hL12⟩, ⟨hm12, hM12⟩, HT12⟩ := F12.out.open
        have cF := fun j => cell_of_block (o := j) hC
        have fF := fun j => za (o := j) hC
        clear hC
        go_wp2_with fail
        refine (zal ls12 W12 (by omega) (by omega)).mono ?_
        rintro e w13 ⟨s13, rfl, hs13, hb_⟩
        have F13 := hid (F12.out.call (F12.out.rd.mono hb_) (qV hb_))
        clear hb_ F12
        have hs13 : s13.size <= 4000000 := by omega
        clear cF fF HA12 HT12 hl12 hL12 hm12 hM12 hz12
        obtain ⟨nm13, kd13, ls13, ms13, a13, n13, c13, to13, rl13, mu13, fx13, df13, wg13, hC, hz13, HA13, ⟨hl13, hL13⟩, ⟨hm13, hM13⟩, HT13⟩ := F13.out.open
        have cF := fun j => cell_of_block (o := j) hC
        have fF := fun j => za (o := j) hC
        clear hC
        go_upto_region 27 with fail
        refine zn (FB lo 1000002 r w w.heap.size kF (p + 8)) (F13.out.set (j := 9) (by omega) ⟨_, rfl, hs13⟩) ?_
        rintro WZ h_
        have FZ := hid h_
        clear h_
        clear F13
        clear cF fF HA13 HT13 hl13 hL13 hm13 hM13 hz13
        obtain ⟨nmz, kdz, lsz, msz, az, nz, cz, toz, rlz, muz, fxz, dfz, wgz, hC, hzz, HAz, ⟨hlz, hLz⟩, ⟨hmz, hMz⟩, HTz⟩ := FZ.out.open
        have cF := fun j => cell_of_block (o := j) hC
        have fF := fun j => za (o := j) hC
        clear cF fF
        refine wp_region_list ?_
        refine wpList_load_mid rfl 63 (.tmp 7) rfl kF 0 rfl _ _ (zY hC) Tryz.underlying63 rfl (by kernel_rfl) ?_
        refine wpList_store_mid rfl 63 (.tmp 6) (.tmp 101) rfl w.heap.size 0 #[.string nmz, .int .i64 kdz, .int .i64 lsz, .int .i64 msz, .slice az nz cz, .string toz, .int .i64 rlz, .bool muz, .bool fxz, .string dfz, .string wgz] rfl rfl (zU FZ.out.res (by simp)) (by kernel_rfl) (by simp [Value.oneCell']) ?_
        refine wpList_nil ?_
        obtain ⟨WY, hWY⟩ : ∃ W, W = WZ.setCells w.heap.size 0 #[.string nmz, .int .i64 kdz, .int .i64 lsz, .int .i64 msz, .slice az nz cz, .string toz, .int .i64 rlz, .bool muz, .bool fxz, .string dfz, .string wgz].toList := ⟨_, rfl⟩
        have hRY : WY.heap[w.heap.size]? = some (.cells #[.string nmz, .int .i64 kdz, .int .i64 lsz, .int .i64 msz, .slice az nz cz, .string toz, .int .i64 rlz, .bool muz, .bool fxz, .string dfz, .string wgz] 63) := by rw [hWY]; exact zI FZ.out.res rfl
        have HX := yK (show yD lo 1000002 WY #[.string nmz, .int .i64 kdz, .int .i64 lsz, .int .i64 msz, .slice az nz cz, .string toz, .int .i64 rlz, .bool muz, .bool fxz, .string dfz, .string wgz] by rw [hWY]; exact HAz.out.qw (yj FZ.out.res (by decide) _)) (show yF WY r (p + 8) by rw [hWY]; exact qU FZ.out.rd hlt _) (show Dr r w WY by rw [hWY]; exact qR FZ.out.dr (Nat.le_refl _) _)
        rw [<- hWY]
        clear hWY FZ HAz HTz hC
        (try simp only [Act.put])
        go_wp2_with fail
        exact bodyPost_ret (v := .agg #[.string nmz, .int .i64 kdz, .int .i64 lsz, .int .i64 msz, .slice az nz cz, .string toz, .int .i64 rlz, .bool muz, .bool fxz, .string dfz, .string wgz]) (results_cell_row Tryz.results81 _ _ w.heap.size 63 #[.string nmz, .int .i64 kdz, .int .i64 lsz, .int .i64 msz, .slice az nz cz, .string toz, .int .i64 rlz, .bool muz, .bool fxz, .string dfz, .string wgz] _ _ rfl hRY Tryz.underlying63 rfl (by kernel_rfl)) rfl ⟨_, p + 8, rfl, HX.out.1, by omega, HX.out.2.1, HX.out.2.2⟩
      · have n4 : ((q4 : Int) == 0) = false := by rw [beq_eq_false_iff_ne]; omega
        go_upto_region 27 with fail
        refine zn (FB lo 1000002 r w w.heap.size kF (p + 8)) (F11.out.more (by omega)) ?_
        rintro WZ h_
        have FZ := hid h_
        clear h_
        clear F11
        clear cF fF HA11 HT11 hl11 hL11 hm11 hM11 hz11
        obtain ⟨nmz, kdz, lsz, msz, az, nz, cz, toz, rlz, muz, fxz, dfz, wgz, hC, hzz, HAz, ⟨hlz, hLz⟩, ⟨hmz, hMz⟩, HTz⟩ := FZ.out.open
        have cF := fun j => cell_of_block (o := j) hC
        have fF := fun j => za (o := j) hC
        clear cF fF
        refine wp_region_list ?_
        refine wpList_load_mid rfl 63 (.tmp 7) rfl kF 0 rfl _ _ (zY hC) Tryz.underlying63 rfl (by kernel_rfl) ?_
        refine wpList_store_mid rfl 63 (.tmp 6) (.tmp 101) rfl w.heap.size 0 #[.string nmz, .int .i64 kdz, .int .i64 lsz, .int .i64 msz, .slice az nz cz, .string toz, .int .i64 rlz, .bool muz, .bool fxz, .string dfz, .string wgz] rfl rfl (zU FZ.out.res (by simp)) (by kernel_rfl) (by simp [Value.oneCell']) ?_
        refine wpList_nil ?_
        obtain ⟨WY, hWY⟩ : ∃ W, W = WZ.setCells w.heap.size 0 #[.string nmz, .int .i64 kdz, .int .i64 lsz, .int .i64 msz, .slice az nz cz, .string toz, .int .i64 rlz, .bool muz, .bool fxz, .string dfz, .string wgz].toList := ⟨_, rfl⟩
        have hRY : WY.heap[w.heap.size]? = some (.cells #[.string nmz, .int .i64 kdz, .int .i64 lsz, .int .i64 msz, .slice az nz cz, .string toz, .int .i64 rlz, .bool muz, .bool fxz, .string dfz, .string wgz] 63) := by rw [hWY]; exact zI FZ.out.res rfl
        have HX := yK (show yD lo 1000002 WY #[.string nmz, .int .i64 kdz, .int .i64 lsz, .int .i64 msz, .slice az nz cz, .string toz, .int .i64 rlz, .bool muz, .bool fxz, .string dfz, .string wgz] by rw [hWY]; exact HAz.out.qw (yj FZ.out.res (by decide) _)) (show yF WY r (p + 8) by rw [hWY]; exact qU FZ.out.rd hlt _) (show Dr r w WY by rw [hWY]; exact qR FZ.out.dr (Nat.le_refl _) _)
        rw [<- hWY]
        clear hWY FZ HAz HTz hC
        (try simp only [Act.put])
        go_wp2_with fail
        exact bodyPost_ret (v := .agg #[.string nmz, .int .i64 kdz, .int .i64 lsz, .int .i64 msz, .slice az nz cz, .string toz, .int .i64 rlz, .bool muz, .bool fxz, .string dfz, .string wgz]) (results_cell_row Tryz.results81 _ _ w.heap.size 63 #[.string nmz, .int .i64 kdz, .int .i64 lsz, .int .i64 msz, .slice az nz cz, .string toz, .int .i64 rlz, .bool muz, .bool fxz, .string dfz, .string wgz] _ _ rfl hRY Tryz.underlying63 rfl (by kernel_rfl)) rfl ⟨_, p + 8, rfl, HX.out.1, by omega, HX.out.2.1, HX.out.2.2⟩
  have n1 : (kd4 == 1) = false := by rw [beq_eq_false_iff_ne]; exact k1
  by_cases k2 : kd4 = 2
  · subst k2
    clear k1
    go_wp2_with fail
    refine yS (fun W => FB lo 1000 r w w.heap.size kF (p + 4) W /\ yR lo 1000 W (.slice (some ⟨w4.heap.size, 0, none⟩) 3 3)) ⟨F4.out.alloc _, yH lo 1000 w4 [⟨#[97]⟩, ⟨#[98]⟩, ⟨#[99, 45, 49]⟩] (by have := zaK F4.out.dr; omega) (by simp) (by simp [maxLen]) (by simp +decide)⟩ ?_
    rintro W5 ⟨hF5, hT5⟩
    refine (zQ 3 r (p + 4) W5 (by omega) (by omega) (by omega) hF5.rd).mono ?_
    rintro e w6 ⟨q6, rfl, hq6, hr_, D_⟩
    have F6 := hid (hF5.call hr_ D_)
    have T6 := hid ((zN (b := 1000) hlo D_).s _ hT5)
    clear hr_ D_ hF5 hT5 F4
    clear cF fF HA4 HT4 hl4 hL4 hm4 hM4 hz4
    obtain ⟨nm6, kd6, ls6, ms6, a6, n6, c6, to6, rl6, mu6, fx6, df6, wg6, hC, hz6, HA6, ⟨hl6, hL6⟩, ⟨hm6, hM6⟩, HT6⟩ := F6.out.open
    have cF := fun j => cell_of_block (o := j) hC
    have fF := fun j => za (o := j) hC
    have hC_ := hC
    clear hC
    by_cases c4 : q4 = 0
    · subst c4
      go_upto_region 15 with fail
      refine zn (fun W => FB lo 1000 r w w.heap.size kF (p + 5) W /\ W.cell? ⟨kF, 4, none⟩ = some (.slice (some ⟨w4.heap.size, 0, none⟩) (1 + q6) 3)) ⟨F6.out.set (j := 4) (by omega) (qE.cut T6.out (by omega)), by rw [cell_of_block (zu hC_ _)]; simp⟩ ?_
      rintro W7 ⟨hF7, h47⟩
      have F7 := hid hF7
      clear hF7 F6 T6 hC_
      clear cF fF HA6 HT6 hl6 hL6 hm6 hM6 hz6
      obtain ⟨nm7, kd7, ls7, ms7, a7, n7, c7, to7, rl7, mu7, fx7, df7, wg7, hC, hz7, HA7, ⟨hl7, hL7⟩, ⟨hm7, hM7⟩, HT7⟩ := F7.out.open
      have cF := fun j => cell_of_block (o := j) hC
      have fF := fun j => za (o := j) hC
      clear hC
      obtain ⟨rfl, rfl, rfl⟩ : some ⟨w4.heap.size, 0, none⟩ = a7 /\ 1 + q6 = n7 /\ 3 = c7 := by simpa using h47.symm.trans (cF 4)
      obtain ⟨g_, C_, e_, -, -, -, hc_⟩ := HT7.out.cell (show q6 < 1 + q6 by omega)
      cases e_
      obtain ⟨x_, hx_, k0, rfl, hk0⟩ := hc_ 0 (by omega)
      have cK : W7.cell? ⟨w4.heap.size, q6, none⟩ = some (.string k0) := by simpa using hx_
      have hsub : IntKind.i64.wrap (((1 + q6 : Nat) : Int) - 1) = (q6 : Int) := by rw [IntKind.wrap_i64]; omega
      have hqI : (q6 : Int) < ((1 + q6 : Nat) : Int) := by omega
      clear hc_ hx_ h47
      go_upto_region 27 with fail
      refine zn (FB lo 1000002 r w w.heap.size kF (p + 5)) ((F7.out.more (by omega)).set (j := 9) (by omega) ⟨_, rfl, hk0⟩) ?_
      rintro WZ h_
      have FZ := hid h_
      clear h_
      clear F7 cK
      clear cF fF HA7 HT7 hl7 hL7 hm7 hM7 hz7
      obtain ⟨nmz, kdz, lsz, msz, az, nz, cz, toz, rlz, muz, fxz, dfz, wgz, hC, hzz, HAz, ⟨hlz, hLz⟩, ⟨hmz, hMz⟩, HTz⟩ := FZ.out.open
      have cF := fun j => cell_of_block (o := j) hC
      have fF := fun j => za (o := j) hC
      clear cF fF
      refine wp_region_list ?_
      refine wpList_load_mid rfl 63 (.tmp 7) rfl kF 0 rfl _ _ (zY hC) Tryz.underlying63 rfl (by kernel_rfl) ?_
      refine wpList_store_mid rfl 63 (.tmp 6) (.tmp 101) rfl w.heap.size 0 #[.string nmz, .int .i64 kdz, .int .i64 lsz, .int .i64 msz, .slice az nz cz, .string toz, .int .i64 rlz, .bool muz, .bool fxz, .string dfz, .string wgz] rfl rfl (zU FZ.out.res (by simp)) (by kernel_rfl) (by simp [Value.oneCell']) ?_
      refine wpList_nil ?_
      obtain ⟨WY, hWY⟩ : ∃ W, W = WZ.setCells w.heap.size 0 #[.string nmz, .int .i64 kdz, .int .i64 lsz, .int .i64 msz, .slice az nz cz, .string toz, .int .i64 rlz, .bool muz, .bool fxz, .string dfz, .string wgz].toList := ⟨_, rfl⟩
      have hRY : WY.heap[w.heap.size]? = some (.cells #[.string nmz, .int .i64 kdz, .int .i64 lsz, .int .i64 msz, .slice az nz cz, .string toz, .int .i64 rlz, .bool muz, .bool fxz, .string dfz, .string wgz] 63) := by rw [hWY]; exact zI FZ.out.res rfl
      have HX := yK (show yD lo 1000002 WY #[.string nmz, .int .i64 kdz, .int .i64 lsz, .int .i64 msz, .slice az nz cz, .string toz, .int .i64 rlz, .bool muz, .bool fxz, .string dfz, .string wgz] by rw [hWY]; exact HAz.out.qw (yj FZ.out.res (by decide) _)) (show yF WY r (p + 5) by rw [hWY]; exact qU FZ.out.rd hlt _) (show Dr r w WY by rw [hWY]; exact qR FZ.out.dr (Nat.le_refl _) _)
      rw [<- hWY]
      clear hWY FZ HAz HTz hC
      (try simp only [Act.put])
      go_wp2_with fail
      exact bodyPost_ret (v := .agg #[.string nmz, .int .i64 kdz, .int .i64 lsz, .int .i64 msz, .slice az nz cz, .string toz, .int .i64 rlz, .bool muz, .bool fxz, .string dfz, .string wgz]) (results_cell_row Tryz.results81 _ _ w.heap.size 63 #[.string nmz, .int .i64 kdz, .int .i64 lsz, .int .i64 msz, .slice az nz cz, .string toz, .int .i64 rlz, .bool muz, .bool fxz, .string dfz, .string wgz] _ _ rfl hRY Tryz.underlying63 rfl (by kernel_rfl)) rfl ⟨_, p + 5, rfl, HX.out.1, by omega, HX.out.2.1, HX.out.2.2⟩
    · have n4 : ((q4 : Int) == 0) = false := by rw [beq_eq_false_iff_ne]; omega
      go_upto_region 27 with fail
      refine zn (FB lo 1000002 r w w.heap.size kF (p + 5)) ((F6.out.set (j := 4) (by omega) (qE.cut T6.out (by omega))).more (by omega)) ?_
      rintro WZ h_
      have FZ := hid h_
      clear h_
      clear F6 T6 hC_
      clear cF fF HA6 HT6 hl6 hL6 hm6 hM6 hz6
      obtain ⟨nmz, kdz, lsz, msz, az, nz, cz, toz, rlz, muz, fxz, dfz, wgz, hC, hzz, HAz, ⟨hlz, hLz⟩, ⟨hmz, hMz⟩, HTz⟩ := FZ.out.open
      have cF := fun j => cell_of_block (o := j) hC
      have fF := fun j => za (o := j) hC
      clear cF fF
      refine wp_region_list ?_
      refine wpList_load_mid rfl 63 (.tmp 7) rfl kF 0 rfl _ _ (zY hC) Tryz.underlying63 rfl (by kernel_rfl) ?_
      refine wpList_store_mid rfl 63 (.tmp 6) (.tmp 101) rfl w.heap.size 0 #[.string nmz, .int .i64 kdz, .int .i64 lsz, .int .i64 msz, .slice az nz cz, .string toz, .int .i64 rlz, .bool muz, .bool fxz, .string dfz, .string wgz] rfl rfl (zU FZ.out.res (by simp)) (by kernel_rfl) (by simp [Value.oneCell']) ?_
      refine wpList_nil ?_
      obtain ⟨WY, hWY⟩ : ∃ W, W = WZ.setCells w.heap.size 0 #[.string nmz, .int .i64 kdz, .int .i64 lsz, .int .i64 msz, .slice az nz cz, .string toz, .int .i64 rlz, .bool muz, .bool fxz, .string dfz, .string wgz].toList := ⟨_, rfl⟩
      have hRY : WY.heap[w.heap.size]? = some (.cells #[.string nmz, .int .i64 kdz, .int .i64 lsz, .int .i64 msz, .slice az nz cz, .string toz, .int .i64 rlz, .bool muz, .bool fxz, .string dfz, .string wgz] 63) := by rw [hWY]; exact zI FZ.out.res rfl
      have HX := yK (show yD lo 1000002 WY #[.string nmz, .int .i64 kdz, .int .i64 lsz, .int .i64 msz, .slice az nz cz, .string toz, .int .i64 rlz, .bool muz, .bool fxz, .string dfz, .string wgz] by rw [hWY]; exact HAz.out.qw (yj FZ.out.res (by decide) _)) (show yF WY r (p + 5) by rw [hWY]; exact qU FZ.out.rd hlt _) (show Dr r w WY by rw [hWY]; exact qR FZ.out.dr (Nat.le_refl _) _)
      rw [<- hWY]
      clear hWY FZ HAz HTz hC
      (try simp only [Act.put])
      go_wp2_with fail
      exact bodyPost_ret (v := .agg #[.string nmz, .int .i64 kdz, .int .i64 lsz, .int .i64 msz, .slice az nz cz, .string toz, .int .i64 rlz, .bool muz, .bool fxz, .string dfz, .string wgz]) (results_cell_row Tryz.results81 _ _ w.heap.size 63 #[.string nmz, .int .i64 kdz, .int .i64 lsz, .int .i64 msz, .slice az nz cz, .string toz, .int .i64 rlz, .bool muz, .bool fxz, .string dfz, .string wgz] _ _ rfl hRY Tryz.underlying63 rfl (by kernel_rfl)) rfl ⟨_, p + 5, rfl, HX.out.1, by omega, HX.out.2.1, HX.out.2.2⟩
  have n2 : (kd4 == 2) = false := by rw [beq_eq_false_iff_ne]; exact k2
  by_cases k3 : kd4 = 3
  · subst k3
    clear k1 k2
    go_upto_region 18 with fail
    refine zn (FB lo 1000 r w w.heap.size kF (p + 4)) (F4.out.set (j := 2) (by omega) ⟨_, rfl, by omega, by omega⟩) ?_
    rintro W5 h_
    have F5 := hid h_
    clear h_
    clear F4
    clear cF fF HA4 HT4 hl4 hL4 hm4 hM4 hz4
    obtain ⟨nm5, kd5, ls5, ms5, a5, n5, c5, to5, rl5, mu5, fx5, df5, wg5, hC, hz5, HA5, ⟨hl5, hL5⟩, ⟨hm5, hM5⟩, HT5⟩ := F5.out.open
    have cF := fun j => cell_of_block (o := j) hC
    have fF := fun j => za (o := j) hC
    clear hC
    go_wp2_with fail
    refine (zQ 6 r (p + 4) W5 (by omega) (by omega) (by omega) F5.out.rd).mono ?_
    rintro e w6 ⟨q6, rfl, hq6, hr_, D_⟩
    have F6 := hid (F5.out.call hr_ D_)
    clear hr_ D_
    clear F5
    clear cF fF HA5 HT5 hl5 hL5 hm5 hM5 hz5
    obtain ⟨nm6, kd6, ls6, ms6, a6, n6, c6, to6, rl6, mu6, fx6, df6, wg6, hC, hz6, HA6, ⟨hl6, hL6⟩, ⟨hm6, hM6⟩, HT6⟩ := F6.out.open
    have cF := fun j => cell_of_block (o := j) hC
    have fF := fun j => za (o := j) hC
    clear hC
    go_upto_region 19 with fail
    refine zn (FB lo 1000 r w w.heap.size kF (p + 5)) (F6.out.set (j := 3) (by omega) ⟨_, rfl, by omega, by omega⟩) ?_
    rintro W7 h_
    have F7 := hid h_
    clear h_
    clear F6
    clear cF fF HA6 HT6 hl6 hL6 hm6 hM6 hz6
    obtain ⟨nm7, kd7, ls7, ms7, a7, n7, c7, to7, rl7, mu7, fx7, df7, wg7, hC, hz7, HA7, ⟨hl7, hL7⟩, ⟨hm7, hM7⟩, HT7⟩ := F7.out.open
    have cF := fun j => cell_of_block (o := j) hC
    have fF := fun j => za (o := j) hC
    clear hC
    go_wp2_with fail
    refine (zQ 8 r (p + 5) W7 (by omega) (by omega) (by omega) F7.out.rd).mono ?_
    rintro e w8 ⟨q8, rfl, hq8, hr_, D_⟩
    have F8 := hid (F7.out.call hr_ D_)
    clear hr_ D_
    clear F7
    clear cF fF HA7 HT7 hl7 hL7 hm7 hM7 hz7
    obtain ⟨nm8, kd8, ls8, ms8, a8, n8, c8, to8, rl8, mu8, fx8, df8, wg8, hC, hz8, HA8, ⟨hl8, hL8⟩, ⟨hm8, hM8⟩, HT8⟩ := F8.out.open
    have cF := fun j => cell_of_block (o := j) hC
    have fF := fun j => za (o := j) hC
    clear hC
    by_cases c8 : q8 = 0
    · subst c8
      by_cases c4 : q4 = 0
      · subst c4
        go_upto_region 27 with fail
        refine zn (FB lo 1000002 r w w.heap.size kF (p + 6)) (FB.set ((F8.out.more (b' := 1000002) (by omega)).set (j := 3) (by omega) ⟨_, rfl, by omega, by omega⟩) (j := 9) (by omega) ⟨_, rfl, by decide⟩) ?_
        rintro WZ h_
        have FZ := hid h_
        clear h_
        clear F8
        clear cF fF HA8 HT8 hl8 hL8 hm8 hM8 hz8
        obtain ⟨nmz, kdz, lsz, msz, az, nz, cz, toz, rlz, muz, fxz, dfz, wgz, hC, hzz, HAz, ⟨hlz, hLz⟩, ⟨hmz, hMz⟩, HTz⟩ := FZ.out.open
        have cF := fun j => cell_of_block (o := j) hC
        have fF := fun j => za (o := j) hC
        clear cF fF
        refine wp_region_list ?_
        refine wpList_load_mid rfl 63 (.tmp 7) rfl kF 0 rfl _ _ (zY hC) Tryz.underlying63 rfl (by kernel_rfl) ?_
        refine wpList_store_mid rfl 63 (.tmp 6) (.tmp 101) rfl w.heap.size 0 #[.string nmz, .int .i64 kdz, .int .i64 lsz, .int .i64 msz, .slice az nz cz, .string toz, .int .i64 rlz, .bool muz, .bool fxz, .string dfz, .string wgz] rfl rfl (zU FZ.out.res (by simp)) (by kernel_rfl) (by simp [Value.oneCell']) ?_
        refine wpList_nil ?_
        obtain ⟨WY, hWY⟩ : ∃ W, W = WZ.setCells w.heap.size 0 #[.string nmz, .int .i64 kdz, .int .i64 lsz, .int .i64 msz, .slice az nz cz, .string toz, .int .i64 rlz, .bool muz, .bool fxz, .string dfz, .string wgz].toList := ⟨_, rfl⟩
        have hRY : WY.heap[w.heap.size]? = some (.cells #[.string nmz, .int .i64 kdz, .int .i64 lsz, .int .i64 msz, .slice az nz cz, .string toz, .int .i64 rlz, .bool muz, .bool fxz, .string dfz, .string wgz] 63) := by rw [hWY]; exact zI FZ.out.res rfl
        have HX := yK (show yD lo 1000002 WY #[.string nmz, .int .i64 kdz, .int .i64 lsz, .int .i64 msz, .slice az nz cz, .string toz, .int .i64 rlz, .bool muz, .bool fxz, .string dfz, .string wgz] by rw [hWY]; exact HAz.out.qw (yj FZ.out.res (by decide) _)) (show yF WY r (p + 6) by rw [hWY]; exact qU FZ.out.rd hlt _) (show Dr r w WY by rw [hWY]; exact qR FZ.out.dr (Nat.le_refl _) _)
        rw [<- hWY]
        clear hWY FZ HAz HTz hC
        (try simp only [Act.put])
        go_wp2_with fail
        exact bodyPost_ret (v := .agg #[.string nmz, .int .i64 kdz, .int .i64 lsz, .int .i64 msz, .slice az nz cz, .string toz, .int .i64 rlz, .bool muz, .bool fxz, .string dfz, .string wgz]) (results_cell_row Tryz.results81 _ _ w.heap.size 63 #[.string nmz, .int .i64 kdz, .int .i64 lsz, .int .i64 msz, .slice az nz cz, .string toz, .int .i64 rlz, .bool muz, .bool fxz, .string dfz, .string wgz] _ _ rfl hRY Tryz.underlying63 rfl (by kernel_rfl)) rfl ⟨_, p + 6, rfl, HX.out.1, by omega, HX.out.2.1, HX.out.2.2⟩
      · have n4 : ((q4 : Int) == 0) = false := by rw [beq_eq_false_iff_ne]; omega
        go_upto_region 27 with fail
        refine zn (FB lo 1000002 r w w.heap.size kF (p + 6)) ((F8.out.more (b' := 1000002) (by omega)).set (j := 3) (by omega) ⟨_, rfl, by omega, by omega⟩) ?_
        rintro WZ h_
        have FZ := hid h_
        clear h_
        clear F8
        clear cF fF HA8 HT8 hl8 hL8 hm8 hM8 hz8
        obtain ⟨nmz, kdz, lsz, msz, az, nz, cz, toz, rlz, muz, fxz, dfz, wgz, hC, hzz, HAz, ⟨hlz, hLz⟩, ⟨hmz, hMz⟩, HTz⟩ := FZ.out.open
        have cF := fun j => cell_of_block (o := j) hC
        have fF := fun j => za (o := j) hC
        clear cF fF
        refine wp_region_list ?_
        refine wpList_load_mid rfl 63 (.tmp 7) rfl kF 0 rfl _ _ (zY hC) Tryz.underlying63 rfl (by kernel_rfl) ?_
        refine wpList_store_mid rfl 63 (.tmp 6) (.tmp 101) rfl w.heap.size 0 #[.string nmz, .int .i64 kdz, .int .i64 lsz, .int .i64 msz, .slice az nz cz, .string toz, .int .i64 rlz, .bool muz, .bool fxz, .string dfz, .string wgz] rfl rfl (zU FZ.out.res (by simp)) (by kernel_rfl) (by simp [Value.oneCell']) ?_
        refine wpList_nil ?_
        obtain ⟨WY, hWY⟩ : ∃ W, W = WZ.setCells w.heap.size 0 #[.string nmz, .int .i64 kdz, .int .i64 lsz, .int .i64 msz, .slice az nz cz, .string toz, .int .i64 rlz, .bool muz, .bool fxz, .string dfz, .string wgz].toList := ⟨_, rfl⟩
        have hRY : WY.heap[w.heap.size]? = some (.cells #[.string nmz, .int .i64 kdz, .int .i64 lsz, .int .i64 msz, .slice az nz cz, .string toz, .int .i64 rlz, .bool muz, .bool fxz, .string dfz, .string wgz] 63) := by rw [hWY]; exact zI FZ.out.res rfl
        have HX := yK (show yD lo 1000002 WY #[.string nmz, .int .i64 kdz, .int .i64 lsz, .int .i64 msz, .slice az nz cz, .string toz, .int .i64 rlz, .bool muz, .bool fxz, .string dfz, .string wgz] by rw [hWY]; exact HAz.out.qw (yj FZ.out.res (by decide) _)) (show yF WY r (p + 6) by rw [hWY]; exact qU FZ.out.rd hlt _) (show Dr r w WY by rw [hWY]; exact qR FZ.out.dr (Nat.le_refl _) _)
        rw [<- hWY]
        clear hWY FZ HAz HTz hC
        (try simp only [Act.put])
        go_wp2_with fail
        exact bodyPost_ret (v := .agg #[.string nmz, .int .i64 kdz, .int .i64 lsz, .int .i64 msz, .slice az nz cz, .string toz, .int .i64 rlz, .bool muz, .bool fxz, .string dfz, .string wgz]) (results_cell_row Tryz.results81 _ _ w.heap.size 63 #[.string nmz, .int .i64 kdz, .int .i64 lsz, .int .i64 msz, .slice az nz cz, .string toz, .int .i64 rlz, .bool muz, .bool fxz, .string dfz, .string wgz] _ _ rfl hRY Tryz.underlying63 rfl (by kernel_rfl)) rfl ⟨_, p + 6, rfl, HX.out.1, by omega, HX.out.2.1, HX.out.2.2⟩
    · have n8 : ((q8 : Int) == 0) = false := by rw [beq_eq_false_iff_ne]; omega
      by_cases c4 : q4 = 0
      · subst c4
        go_upto_region 27 with fail
        refine zn (FB lo 1000002 r w w.heap.size kF (p + 6)) (FB.set (F8.out.more (b' := 1000002) (by omega)) (j := 9) (by omega) ⟨_, rfl, by decide⟩) ?_
        rintro WZ h_
        have FZ := hid h_
        clear h_
        clear F8
        clear cF fF HA8 HT8 hl8 hL8 hm8 hM8 hz8
        obtain ⟨nmz, kdz, lsz, msz, az, nz, cz, toz, rlz, muz, fxz, dfz, wgz, hC, hzz, HAz, ⟨hlz, hLz⟩, ⟨hmz, hMz⟩, HTz⟩ := FZ.out.open
        have cF := fun j => cell_of_block (o := j) hC
        have fF := fun j => za (o := j) hC
        clear cF fF
        refine wp_region_list ?_
        refine wpList_load_mid rfl 63 (.tmp 7) rfl kF 0 rfl _ _ (zY hC) Tryz.underlying63 rfl (by kernel_rfl) ?_
        refine wpList_store_mid rfl 63 (.tmp 6) (.tmp 101) rfl w.heap.size 0 #[.string nmz, .int .i64 kdz, .int .i64 lsz, .int .i64 msz, .slice az nz cz, .string toz, .int .i64 rlz, .bool muz, .bool fxz, .string dfz, .string wgz] rfl rfl (zU FZ.out.res (by simp)) (by kernel_rfl) (by simp [Value.oneCell']) ?_
        refine wpList_nil ?_
        obtain ⟨WY, hWY⟩ : ∃ W, W = WZ.setCells w.heap.size 0 #[.string nmz, .int .i64 kdz, .int .i64 lsz, .int .i64 msz, .slice az nz cz, .string toz, .int .i64 rlz, .bool muz, .bool fxz, .string dfz, .string wgz].toList := ⟨_, rfl⟩
        have hRY : WY.heap[w.heap.size]? = some (.cells #[.string nmz, .int .i64 kdz, .int .i64 lsz, .int .i64 msz, .slice az nz cz, .string toz, .int .i64 rlz, .bool muz, .bool fxz, .string dfz, .string wgz] 63) := by rw [hWY]; exact zI FZ.out.res rfl
        have HX := yK (show yD lo 1000002 WY #[.string nmz, .int .i64 kdz, .int .i64 lsz, .int .i64 msz, .slice az nz cz, .string toz, .int .i64 rlz, .bool muz, .bool fxz, .string dfz, .string wgz] by rw [hWY]; exact HAz.out.qw (yj FZ.out.res (by decide) _)) (show yF WY r (p + 6) by rw [hWY]; exact qU FZ.out.rd hlt _) (show Dr r w WY by rw [hWY]; exact qR FZ.out.dr (Nat.le_refl _) _)
        rw [<- hWY]
        clear hWY FZ HAz HTz hC
        (try simp only [Act.put])
        go_wp2_with fail
        exact bodyPost_ret (v := .agg #[.string nmz, .int .i64 kdz, .int .i64 lsz, .int .i64 msz, .slice az nz cz, .string toz, .int .i64 rlz, .bool muz, .bool fxz, .string dfz, .string wgz]) (results_cell_row Tryz.results81 _ _ w.heap.size 63 #[.string nmz, .int .i64 kdz, .int .i64 lsz, .int .i64 msz, .slice az nz cz, .string toz, .int .i64 rlz, .bool muz, .bool fxz, .string dfz, .string wgz] _ _ rfl hRY Tryz.underlying63 rfl (by kernel_rfl)) rfl ⟨_, p + 6, rfl, HX.out.1, by omega, HX.out.2.1, HX.out.2.2⟩
      · have n4 : ((q4 : Int) == 0) = false := by rw [beq_eq_false_iff_ne]; omega
        go_upto_region 27 with fail
        refine zn (FB lo 1000002 r w w.heap.size kF (p + 6)) (F8.out.more (b' := 1000002) (by omega)) ?_
        rintro WZ h_
        have FZ := hid h_
        clear h_
        clear F8
        clear cF fF HA8 HT8 hl8 hL8 hm8 hM8 hz8
        obtain ⟨nmz, kdz, lsz, msz, az, nz, cz, toz, rlz, muz, fxz, dfz, wgz, hC, hzz, HAz, ⟨hlz, hLz⟩, ⟨hmz, hMz⟩, HTz⟩ := FZ.out.open
        have cF := fun j => cell_of_block (o := j) hC
        have fF := fun j => za (o := j) hC
        clear cF fF
        refine wp_region_list ?_
        refine wpList_load_mid rfl 63 (.tmp 7) rfl kF 0 rfl _ _ (zY hC) Tryz.underlying63 rfl (by kernel_rfl) ?_
        refine wpList_store_mid rfl 63 (.tmp 6) (.tmp 101) rfl w.heap.size 0 #[.string nmz, .int .i64 kdz, .int .i64 lsz, .int .i64 msz, .slice az nz cz, .string toz, .int .i64 rlz, .bool muz, .bool fxz, .string dfz, .string wgz] rfl rfl (zU FZ.out.res (by simp)) (by kernel_rfl) (by simp [Value.oneCell']) ?_
        refine wpList_nil ?_
        obtain ⟨WY, hWY⟩ : ∃ W, W = WZ.setCells w.heap.size 0 #[.string nmz, .int .i64 kdz, .int .i64 lsz, .int .i64 msz, .slice az nz cz, .string toz, .int .i64 rlz, .bool muz, .bool fxz, .string dfz, .string wgz].toList := ⟨_, rfl⟩
        have hRY : WY.heap[w.heap.size]? = some (.cells #[.string nmz, .int .i64 kdz, .int .i64 lsz, .int .i64 msz, .slice az nz cz, .string toz, .int .i64 rlz, .bool muz, .bool fxz, .string dfz, .string wgz] 63) := by rw [hWY]; exact zI FZ.out.res rfl
        have HX := yK (show yD lo 1000002 WY #[.string nmz, .int .i64 kdz, .int .i64 lsz, .int .i64 msz, .slice az nz cz, .string toz, .int .i64 rlz, .bool muz, .bool fxz, .string dfz, .string wgz] by rw [hWY]; exact HAz.out.qw (yj FZ.out.res (by decide) _)) (show yF WY r (p + 6) by rw [hWY]; exact qU FZ.out.rd hlt _) (show Dr r w WY by rw [hWY]; exact qR FZ.out.dr (Nat.le_refl _) _)
        rw [<- hWY]
        clear hWY FZ HAz HTz hC
        (try simp only [Act.put])
        go_wp2_with fail
        exact bodyPost_ret (v := .agg #[.string nmz, .int .i64 kdz, .int .i64 lsz, .int .i64 msz, .slice az nz cz, .string toz, .int .i64 rlz, .bool muz, .bool fxz, .string dfz, .string wgz]) (results_cell_row Tryz.results81 _ _ w.heap.size 63 #[.string nmz, .int .i64 kdz, .int .i64 lsz, .int .i64 msz, .slice az nz cz, .string toz, .int .i64 rlz, .bool muz, .bool fxz, .string dfz, .string wgz] _ _ rfl hRY Tryz.underlying63 rfl (by kernel_rfl)) rfl ⟨_, p + 6, rfl, HX.out.1, by omega, HX.out.2.1, HX.out.2.2⟩
  have n3 : (kd4 == 3) = false := by rw [beq_eq_false_iff_ne]; exact k3
  by_cases k4 : kd4 = 4
  · subst k4
    clear k1 k2 k3
    go_wp2_with fail
    refine (qC _ n cap lo 1000002 r (p + 4) w4 ((zN hlo F4.out.dr).s _ HK.out) h1 (by have := HK.out.slice; obtain ⟨_, _, _, e, h, -⟩ := this; cases e; omega) (by omega) F4.out.rd hlo).mono ?_
    rintro e w5 ⟨s5, rfl, hs5, hr_, D_⟩
    have F5 := hid (F4.out.call hr_ D_)
    clear hr_ D_ F4
    clear cF fF HA4 HT4 hl4 hL4 hm4 hM4 hz4
    obtain ⟨nm5, kd5, ls5, ms5, a5, n5, c5, to5, rl5, mu5, fx5, df5, wg5, hC, hz5, HA5, ⟨hl5, hL5⟩, ⟨hm5, hM5⟩, HT5⟩ := F5.out.open
    have cF := fun j => cell_of_block (o := j) hC
    have fF := fun j => za (o := j) hC
    clear hC
    go_upto_region 25 with fail
    refine zn (FB lo 1000 r w w.heap.size kF (p + 5)) (F5.out.set (j := 5) (by omega) ⟨_, rfl, hs5⟩) ?_
    rintro W6 h_
    have F6 := hid h_
    clear h_
    clear F5
    clear cF fF HA5 HT5 hl5 hL5 hm5 hM5 hz5
    obtain ⟨nm6, kd6, ls6, ms6, a6, n6, c6, to6, rl6, mu6, fx6, df6, wg6, hC, hz6, HA6, ⟨hl6, hL6⟩, ⟨hm6, hM6⟩, HT6⟩ := F6.out.open
    have cF := fun j => cell_of_block (o := j) hC
    have fF := fun j => za (o := j) hC
    clear hC
    go_wp2_with fail
    refine (zQ 3 r (p + 5) W6 (by omega) (by omega) (by omega) F6.out.rd).mono ?_
    rintro e w7 ⟨q7, rfl, hq7, hr_, D_⟩
    have F7 := hid (F6.out.call hr_ D_)
    clear hr_ D_
    clear F6
    clear cF fF HA6 HT6 hl6 hL6 hm6 hM6 hz6
    obtain ⟨nm7, kd7, ls7, ms7, a7, n7, c7, to7, rl7, mu7, fx7, df7, wg7, hC, hz7, HA7, ⟨hl7, hL7⟩, ⟨hm7, hM7⟩, HT7⟩ := F7.out.open
    have cF := fun j => cell_of_block (o := j) hC
    have fF := fun j => za (o := j) hC
    clear hC
    go_upto_region 26 with fail
    refine zn (FB lo 1000 r w w.heap.size kF (p + 6)) (F7.out.set (j := 6) (by omega) ⟨_, rfl, by omega, by omega⟩) ?_
    rintro W8 h_
    have F8 := hid h_
    clear h_
    clear F7
    clear cF fF HA7 HT7 hl7 hL7 hm7 hM7 hz7
    obtain ⟨nm8, kd8, ls8, ms8, a8, n8, c8, to8, rl8, mu8, fx8, df8, wg8, hC, hz8, HA8, ⟨hl8, hL8⟩, ⟨hm8, hM8⟩, HT8⟩ := F8.out.open
    have cF := fun j => cell_of_block (o := j) hC
    have fF := fun j => za (o := j) hC
    clear hC
    cases mu8
    ·
      go_upto_region 27 with fail
      refine zn (FB lo 1000002 r w w.heap.size kF (p + 6)) (FB.set (F8.out.more (by omega)) (j := 7) (by omega) ⟨_, rfl⟩) ?_
      rintro WZ h_
      have FZ := hid h_
      clear h_
      clear F8
      clear cF fF HA8 HT8 hl8 hL8 hm8 hM8 hz8
      obtain ⟨nmz, kdz, lsz, msz, az, nz, cz, toz, rlz, muz, fxz, dfz, wgz, hC, hzz, HAz, ⟨hlz, hLz⟩, ⟨hmz, hMz⟩, HTz⟩ := FZ.out.open
      have cF := fun j => cell_of_block (o := j) hC
      have fF := fun j => za (o := j) hC
      clear cF fF
      refine wp_region_list ?_
      refine wpList_load_mid rfl 63 (.tmp 7) rfl kF 0 rfl _ _ (zY hC) Tryz.underlying63 rfl (by kernel_rfl) ?_
      refine wpList_store_mid rfl 63 (.tmp 6) (.tmp 101) rfl w.heap.size 0 #[.string nmz, .int .i64 kdz, .int .i64 lsz, .int .i64 msz, .slice az nz cz, .string toz, .int .i64 rlz, .bool muz, .bool fxz, .string dfz, .string wgz] rfl rfl (zU FZ.out.res (by simp)) (by kernel_rfl) (by simp [Value.oneCell']) ?_
      refine wpList_nil ?_
      obtain ⟨WY, hWY⟩ : ∃ W, W = WZ.setCells w.heap.size 0 #[.string nmz, .int .i64 kdz, .int .i64 lsz, .int .i64 msz, .slice az nz cz, .string toz, .int .i64 rlz, .bool muz, .bool fxz, .string dfz, .string wgz].toList := ⟨_, rfl⟩
      have hRY : WY.heap[w.heap.size]? = some (.cells #[.string nmz, .int .i64 kdz, .int .i64 lsz, .int .i64 msz, .slice az nz cz, .string toz, .int .i64 rlz, .bool muz, .bool fxz, .string dfz, .string wgz] 63) := by rw [hWY]; exact zI FZ.out.res rfl
      have HX := yK (show yD lo 1000002 WY #[.string nmz, .int .i64 kdz, .int .i64 lsz, .int .i64 msz, .slice az nz cz, .string toz, .int .i64 rlz, .bool muz, .bool fxz, .string dfz, .string wgz] by rw [hWY]; exact HAz.out.qw (yj FZ.out.res (by decide) _)) (show yF WY r (p + 6) by rw [hWY]; exact qU FZ.out.rd hlt _) (show Dr r w WY by rw [hWY]; exact qR FZ.out.dr (Nat.le_refl _) _)
      rw [<- hWY]
      clear hWY FZ HAz HTz hC
      (try simp only [Act.put])
      go_wp2_with fail
      exact bodyPost_ret (v := .agg #[.string nmz, .int .i64 kdz, .int .i64 lsz, .int .i64 msz, .slice az nz cz, .string toz, .int .i64 rlz, .bool muz, .bool fxz, .string dfz, .string wgz]) (results_cell_row Tryz.results81 _ _ w.heap.size 63 #[.string nmz, .int .i64 kdz, .int .i64 lsz, .int .i64 msz, .slice az nz cz, .string toz, .int .i64 rlz, .bool muz, .bool fxz, .string dfz, .string wgz] _ _ rfl hRY Tryz.underlying63 rfl (by kernel_rfl)) rfl ⟨_, p + 6, rfl, HX.out.1, by omega, HX.out.2.1, HX.out.2.2⟩
    ·
      by_cases cr : rl8 = 2
      · subst cr
        go_upto_region 27 with fail
        refine zn (FB lo 1000002 r w w.heap.size kF (p + 6)) (FB.set (F8.out.more (by omega)) (j := 7) (by omega) ⟨_, rfl⟩) ?_
        rintro WZ h_
        have FZ := hid h_
        clear h_
        clear F8
        clear cF fF HA8 HT8 hl8 hL8 hm8 hM8 hz8
        obtain ⟨nmz, kdz, lsz, msz, az, nz, cz, toz, rlz, muz, fxz, dfz, wgz, hC, hzz, HAz, ⟨hlz, hLz⟩, ⟨hmz, hMz⟩, HTz⟩ := FZ.out.open
        have cF := fun j => cell_of_block (o := j) hC
        have fF := fun j => za (o := j) hC
        clear cF fF
        refine wp_region_list ?_
        refine wpList_load_mid rfl 63 (.tmp 7) rfl kF 0 rfl _ _ (zY hC) Tryz.underlying63 rfl (by kernel_rfl) ?_
        refine wpList_store_mid rfl 63 (.tmp 6) (.tmp 101) rfl w.heap.size 0 #[.string nmz, .int .i64 kdz, .int .i64 lsz, .int .i64 msz, .slice az nz cz, .string toz, .int .i64 rlz, .bool muz, .bool fxz, .string dfz, .string wgz] rfl rfl (zU FZ.out.res (by simp)) (by kernel_rfl) (by simp [Value.oneCell']) ?_
        refine wpList_nil ?_
        obtain ⟨WY, hWY⟩ : ∃ W, W = WZ.setCells w.heap.size 0 #[.string nmz, .int .i64 kdz, .int .i64 lsz, .int .i64 msz, .slice az nz cz, .string toz, .int .i64 rlz, .bool muz, .bool fxz, .string dfz, .string wgz].toList := ⟨_, rfl⟩
        have hRY : WY.heap[w.heap.size]? = some (.cells #[.string nmz, .int .i64 kdz, .int .i64 lsz, .int .i64 msz, .slice az nz cz, .string toz, .int .i64 rlz, .bool muz, .bool fxz, .string dfz, .string wgz] 63) := by rw [hWY]; exact zI FZ.out.res rfl
        have HX := yK (show yD lo 1000002 WY #[.string nmz, .int .i64 kdz, .int .i64 lsz, .int .i64 msz, .slice az nz cz, .string toz, .int .i64 rlz, .bool muz, .bool fxz, .string dfz, .string wgz] by rw [hWY]; exact HAz.out.qw (yj FZ.out.res (by decide) _)) (show yF WY r (p + 6) by rw [hWY]; exact qU FZ.out.rd hlt _) (show Dr r w WY by rw [hWY]; exact qR FZ.out.dr (Nat.le_refl _) _)
        rw [<- hWY]
        clear hWY FZ HAz HTz hC
        (try simp only [Act.put])
        go_wp2_with fail
        exact bodyPost_ret (v := .agg #[.string nmz, .int .i64 kdz, .int .i64 lsz, .int .i64 msz, .slice az nz cz, .string toz, .int .i64 rlz, .bool muz, .bool fxz, .string dfz, .string wgz]) (results_cell_row Tryz.results81 _ _ w.heap.size 63 #[.string nmz, .int .i64 kdz, .int .i64 lsz, .int .i64 msz, .slice az nz cz, .string toz, .int .i64 rlz, .bool muz, .bool fxz, .string dfz, .string wgz] _ _ rfl hRY Tryz.underlying63 rfl (by kernel_rfl)) rfl ⟨_, p + 6, rfl, HX.out.1, by omega, HX.out.2.1, HX.out.2.2⟩
      · have ncr : (rl8 == 2) = false := by rw [beq_eq_false_iff_ne]; exact cr
        go_upto_region 27 with fail
        refine zn (FB lo 1000002 r w w.heap.size kF (p + 6)) (FB.set (F8.out.more (by omega)) (j := 7) (by omega) ⟨_, rfl⟩) ?_
        rintro WZ h_
        have FZ := hid h_
        clear h_
        clear F8
        clear cF fF HA8 HT8 hl8 hL8 hm8 hM8 hz8
        obtain ⟨nmz, kdz, lsz, msz, az, nz, cz, toz, rlz, muz, fxz, dfz, wgz, hC, hzz, HAz, ⟨hlz, hLz⟩, ⟨hmz, hMz⟩, HTz⟩ := FZ.out.open
        have cF := fun j => cell_of_block (o := j) hC
        have fF := fun j => za (o := j) hC
        clear cF fF
        refine wp_region_list ?_
        refine wpList_load_mid rfl 63 (.tmp 7) rfl kF 0 rfl _ _ (zY hC) Tryz.underlying63 rfl (by kernel_rfl) ?_
        refine wpList_store_mid rfl 63 (.tmp 6) (.tmp 101) rfl w.heap.size 0 #[.string nmz, .int .i64 kdz, .int .i64 lsz, .int .i64 msz, .slice az nz cz, .string toz, .int .i64 rlz, .bool muz, .bool fxz, .string dfz, .string wgz] rfl rfl (zU FZ.out.res (by simp)) (by kernel_rfl) (by simp [Value.oneCell']) ?_
        refine wpList_nil ?_
        obtain ⟨WY, hWY⟩ : ∃ W, W = WZ.setCells w.heap.size 0 #[.string nmz, .int .i64 kdz, .int .i64 lsz, .int .i64 msz, .slice az nz cz, .string toz, .int .i64 rlz, .bool muz, .bool fxz, .string dfz, .string wgz].toList := ⟨_, rfl⟩
        have hRY : WY.heap[w.heap.size]? = some (.cells #[.string nmz, .int .i64 kdz, .int .i64 lsz, .int .i64 msz, .slice az nz cz, .string toz, .int .i64 rlz, .bool muz, .bool fxz, .string dfz, .string wgz] 63) := by rw [hWY]; exact zI FZ.out.res rfl
        have HX := yK (show yD lo 1000002 WY #[.string nmz, .int .i64 kdz, .int .i64 lsz, .int .i64 msz, .slice az nz cz, .string toz, .int .i64 rlz, .bool muz, .bool fxz, .string dfz, .string wgz] by rw [hWY]; exact HAz.out.qw (yj FZ.out.res (by decide) _)) (show yF WY r (p + 6) by rw [hWY]; exact qU FZ.out.rd hlt _) (show Dr r w WY by rw [hWY]; exact qR FZ.out.dr (Nat.le_refl _) _)
        rw [<- hWY]
        clear hWY FZ HAz HTz hC
        (try simp only [Act.put])
        go_wp2_with fail
        exact bodyPost_ret (v := .agg #[.string nmz, .int .i64 kdz, .int .i64 lsz, .int .i64 msz, .slice az nz cz, .string toz, .int .i64 rlz, .bool muz, .bool fxz, .string dfz, .string wgz]) (results_cell_row Tryz.results81 _ _ w.heap.size 63 #[.string nmz, .int .i64 kdz, .int .i64 lsz, .int .i64 msz, .slice az nz cz, .string toz, .int .i64 rlz, .bool muz, .bool fxz, .string dfz, .string wgz] _ _ rfl hRY Tryz.underlying63 rfl (by kernel_rfl)) rfl ⟨_, p + 6, rfl, HX.out.1, by omega, HX.out.2.1, HX.out.2.2⟩
  have n4k : (kd4 == 4) = false := by rw [beq_eq_false_iff_ne]; exact k4
  go_upto_region 27 with fail
  refine zn (FB lo 1000002 r w w.heap.size kF (p + 4)) (F4.out.more (by omega)) ?_
  rintro WZ h_
  have FZ := hid h_
  clear h_
  clear F4
  clear cF fF HA4 HT4 hl4 hL4 hm4 hM4 hz4
  obtain ⟨nmz, kdz, lsz, msz, az, nz, cz, toz, rlz, muz, fxz, dfz, wgz, hC, hzz, HAz, ⟨hlz, hLz⟩, ⟨hmz, hMz⟩, HTz⟩ := FZ.out.open
  have cF := fun j => cell_of_block (o := j) hC
  have fF := fun j => za (o := j) hC
  clear cF fF
  refine wp_region_list ?_
  refine wpList_load_mid rfl 63 (.tmp 7) rfl kF 0 rfl _ _ (zY hC) Tryz.underlying63 rfl (by kernel_rfl) ?_
  refine wpList_store_mid rfl 63 (.tmp 6) (.tmp 101) rfl w.heap.size 0 #[.string nmz, .int .i64 kdz, .int .i64 lsz, .int .i64 msz, .slice az nz cz, .string toz, .int .i64 rlz, .bool muz, .bool fxz, .string dfz, .string wgz] rfl rfl (zU FZ.out.res (by simp)) (by kernel_rfl) (by simp [Value.oneCell']) ?_
  refine wpList_nil ?_
  obtain ⟨WY, hWY⟩ : ∃ W, W = WZ.setCells w.heap.size 0 #[.string nmz, .int .i64 kdz, .int .i64 lsz, .int .i64 msz, .slice az nz cz, .string toz, .int .i64 rlz, .bool muz, .bool fxz, .string dfz, .string wgz].toList := ⟨_, rfl⟩
  have hRY : WY.heap[w.heap.size]? = some (.cells #[.string nmz, .int .i64 kdz, .int .i64 lsz, .int .i64 msz, .slice az nz cz, .string toz, .int .i64 rlz, .bool muz, .bool fxz, .string dfz, .string wgz] 63) := by rw [hWY]; exact zI FZ.out.res rfl
  have HX := yK (show yD lo 1000002 WY #[.string nmz, .int .i64 kdz, .int .i64 lsz, .int .i64 msz, .slice az nz cz, .string toz, .int .i64 rlz, .bool muz, .bool fxz, .string dfz, .string wgz] by rw [hWY]; exact HAz.out.qw (yj FZ.out.res (by decide) _)) (show yF WY r (p + 4) by rw [hWY]; exact qU FZ.out.rd hlt _) (show Dr r w WY by rw [hWY]; exact qR FZ.out.dr (Nat.le_refl _) _)
  rw [<- hWY]
  clear hWY FZ HAz HTz hC
  (try simp only [Act.put])
  go_wp2_with fail
  exact bodyPost_ret (v := .agg #[.string nmz, .int .i64 kdz, .int .i64 lsz, .int .i64 msz, .slice az nz cz, .string toz, .int .i64 rlz, .bool muz, .bool fxz, .string dfz, .string wgz]) (results_cell_row Tryz.results81 _ _ w.heap.size 63 #[.string nmz, .int .i64 kdz, .int .i64 lsz, .int .i64 msz, .slice az nz cz, .string toz, .int .i64 rlz, .bool muz, .bool fxz, .string dfz, .string wgz] _ _ rfl hRY Tryz.underlying63 rfl (by kernel_rfl)) rfl ⟨_, p + 4, rfl, HX.out.1, by omega, HX.out.2.1, HX.out.2.2⟩
end Go.Proofs.YtmfgjafdnopfbaaGreat
