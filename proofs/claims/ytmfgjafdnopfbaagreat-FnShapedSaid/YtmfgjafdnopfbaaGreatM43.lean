import Derived.Test.YtmfgjafdnopfbaaGreatM42
namespace Go.Proofs.YtmfgjafdnopfbaaGreat
open Go.RowKit
theorem jo (lo b g n : Nat) (w : World) (ss : List ByteArray) (hg : w.heap.size = g) (hn : ss.length = n) (hlo : lo <= w.heap.size) (hl : n <= 1000) (hm : n <= maxLen) (hsm : ∀ s ∈ ss, s.size <= 4000000) : yR lo b (w.alloc (.cells (jJ ss) 9)) (.slice (some ⟨g, 0, none⟩) n n) := by
  subst hg
  subst hn
  exact yH lo b w ss hlo hl hm hsm
theorem zdJ (lo b g n : Nat) (w : World) (vs : List Value) (hg : w.heap.size = g) (hn : vs.length = n) (hlo : lo <= w.heap.size) (hl : n <= 1000) (hm : n <= maxLen) (h : ∀ v ∈ vs, yR lo b w v) : zfa lo b (w.alloc (.cells vs.toArray 25)) (.slice (some ⟨g, 0, none⟩) n n) := by
  subst hg
  refine jy lo 1000 _ _ 1 n w vs.toArray hlo (by simpa using hn) hm hl fun j x hx => (zf _ _ _ _).s _ (h x ?_)
  simp at hx
  exact List.mem_of_getElem? hx
theorem zjh {q : Nat} (h : q < 6) : ∃ x : Int, (#[.int .i64 0, .int .i64 1, .int .i64 41, .int .i64 1000000, .int .i64 1000001, .int .i64 (-1)] : Array Value)[q]? = some (.int .i64 x) /\ -1 <= x /\ x <= 1000001 := by
  rcases q with _ | _ | _ | _ | _ | _ | q
  · exact ⟨_, rfl, by decide, by decide⟩
  · exact ⟨_, rfl, by decide, by decide⟩
  · exact ⟨_, rfl, by decide, by decide⟩
  · exact ⟨_, rfl, by decide, by decide⟩
  · exact ⟨_, rfl, by decide, by decide⟩
  · exact ⟨_, rfl, by decide, by decide⟩
  · omega
set_option maxRecDepth 10000 in
set_option maxHeartbeats 4000000 in
theorem zdF (cs : Array Value) (lo r p : Nat) (w : World) (hA : yD lo 1000002 w cs) (hp : p <= 30000) (hr : yF w r p) (hlo : r < lo) (hlw : lo <= w.heap.size) :
    Calls Tryz.prog 84 #[.pointer (some ⟨r, 0, none⟩), .agg cs] w fun e w' => ∃ cs' p', e = .returned (.agg cs') /\ yD lo 1000004 w' cs' /\ p' <= p + 4 /\ yF w' r p' /\ Dr r w w' := by
  have hlt := hr.lt
  have HA := hid hA
  obtain ⟨nm, kd, ls, ms, wa, wn, wc, to, rl, mu, fx, df, wg, rfl, -⟩ := hA
  go_enter Tryz.func84, Tryz.ntmps84
  go_wp2_with fail
  refine yS (FB lo 1000002 r w (w.heap.size + 1) w.heap.size p) ?_ ?_
  · have hb := yC w (.cells #[.string nm, .int .i64 kd, .int .i64 ls, .int .i64 ms, .slice wa wn wc, .string to, .int .i64 rl, .bool mu, .bool fx, .string df, .string wg] 63) (.cells #[.string ⟨#[]⟩, .int .i64 0, .int .i64 0, .int .i64 0, .slice none 0 0, .string ⟨#[]⟩, .int .i64 0, .bool false, .bool false, .string ⟨#[]⟩, .string ⟨#[]⟩] 63)
    exact ⟨hr.mono hb, qV hb, hlo, hlw, by omega, by omega, Nat.le_refl _, (zq _ _ _).2, _, (zq _ _ _).1, HA.out.keep (yO hb)⟩
  rintro W0 hW0
  clear HA hr
  refine (zQ 11 r p W0 (by omega) (by omega) (by omega) hW0.rd).mono ?_
  rintro e w4 ⟨q4, rfl, hq4, hr4, D4⟩
  have F4 := hid (hW0.call hr4 D4)
  clear hr4 D4 hW0
  obtain ⟨nm4, kd4, ls4, ms4, a4, n4, c4, to4, rl4, mu4, fx4, df4, wg4, hC, hz4, HA4, ⟨hl4, hL4⟩, ⟨hm4, hM4⟩, HT4⟩ := F4.out.open
  have cF := fun j => cell_of_block (o := j) hC
  have fF := fun j => za (o := j) hC
  clear hC
  by_cases e0 : q4 = 0
  · subst e0
    go_wp2_with fail
    refine (qC _ 4 4 lo 1000002 r (p + 1) _ (yH lo 1000002 w4 [⟨#[]⟩, ⟨#[65]⟩, ⟨#[102, 48]⟩, ⟨#[102, 49]⟩] (by have := zaK F4.out.dr; omega) (by simp) (by simp [maxLen]) (by simp +decide)) (by omega) (by omega) (by omega) (F4.out.alloc _).rd hlo).mono ?_
    rintro e w5 ⟨s5, rfl, hs5, hr_, D_⟩
    have F5 := hid ((F4.out.alloc _).call hr_ D_)
    clear hr_ D_ F4
    clear cF fF HA4 HT4 hl4 hL4 hm4 hM4 hz4
    obtain ⟨nm5, kd5, ls5, ms5, a5, n5, c5, to5, rl5, mu5, fx5, df5, wg5, hC, hz5, HA5, ⟨hl5, hL5⟩, ⟨hm5, hM5⟩, HT5⟩ := F5.out.open
    have cF := fun j => cell_of_block (o := j) hC
    have fF := fun j => za (o := j) hC
    clear hC
    go_upto_region 23 with fail
    refine zn (FB lo 1000004 r w (w.heap.size + 1) w.heap.size (p + 2)) (FB.more (F5.out.set (j := 0) (by omega) ⟨_, rfl, hs5⟩) (by omega)) ?_
    rintro WZ h_
    have FZ := hid h_
    clear h_
    clear F5
    clear cF fF HA5 HT5 hl5 hL5 hm5 hM5 hz5
    obtain ⟨nmz, kdz, lsz, msz, az, nz, cz, toz, rlz, muz, fxz, dfz, wgz, hC, hzz, HAz, ⟨hlz, hLz⟩, ⟨hmz, hMz⟩, HTz⟩ := FZ.out.open
    have cF := fun j => cell_of_block (o := j) hC
    have fF := fun j => za (o := j) hC
    clear cF fF
    refine wp_region_list ?_
    refine wpList_load_mid rfl 63 (.tmp 3) rfl w.heap.size 0 rfl _ _ (zY hC) Tryz.underlying63 rfl (by kernel_rfl) ?_
    refine wpList_store_mid rfl 63 (.tmp 4) (.tmp 82) rfl (w.heap.size + 1) 0 #[.string nmz, .int .i64 kdz, .int .i64 lsz, .int .i64 msz, .slice az nz cz, .string toz, .int .i64 rlz, .bool muz, .bool fxz, .string dfz, .string wgz] rfl rfl (zU FZ.out.res (by simp)) (by kernel_rfl) (by simp [Value.oneCell']) ?_
    refine wpList_nil ?_
    obtain ⟨WY, hWY⟩ : ∃ W, W = WZ.setCells (w.heap.size + 1) 0 #[.string nmz, .int .i64 kdz, .int .i64 lsz, .int .i64 msz, .slice az nz cz, .string toz, .int .i64 rlz, .bool muz, .bool fxz, .string dfz, .string wgz].toList := ⟨_, rfl⟩
    have hRY : WY.heap[(w.heap.size + 1)]? = some (.cells #[.string nmz, .int .i64 kdz, .int .i64 lsz, .int .i64 msz, .slice az nz cz, .string toz, .int .i64 rlz, .bool muz, .bool fxz, .string dfz, .string wgz] 63) := by rw [hWY]; exact zI FZ.out.res rfl
    have HX := yK (show yD lo 1000004 WY #[.string nmz, .int .i64 kdz, .int .i64 lsz, .int .i64 msz, .slice az nz cz, .string toz, .int .i64 rlz, .bool muz, .bool fxz, .string dfz, .string wgz] by rw [hWY]; exact HAz.out.qw (yj FZ.out.res (by decide) _)) (show yF WY r (p + 2) by rw [hWY]; exact qU FZ.out.rd (by omega) _) (show Dr r w WY by rw [hWY]; exact qR FZ.out.dr (by omega) _)
    rw [<- hWY]
    clear hWY FZ HAz HTz hC
    (try simp only [Act.put])
    go_wp2_with fail
    exact bodyPost_ret (v := .agg #[.string nmz, .int .i64 kdz, .int .i64 lsz, .int .i64 msz, .slice az nz cz, .string toz, .int .i64 rlz, .bool muz, .bool fxz, .string dfz, .string wgz]) (results_cell_row Tryz.results84 _ _ (w.heap.size + 1) 63 #[.string nmz, .int .i64 kdz, .int .i64 lsz, .int .i64 msz, .slice az nz cz, .string toz, .int .i64 rlz, .bool muz, .bool fxz, .string dfz, .string wgz] _ _ rfl hRY Tryz.underlying63 rfl (by kernel_rfl)) rfl ⟨_, p + 2, rfl, HX.out.1, by omega, HX.out.2.1, HX.out.2.2⟩
  have n0 : ((q4 : Int) == 0) = false := by rw [beq_eq_false_iff_ne]; omega
  by_cases e1 : q4 = 1
  · subst e1
    go_wp2_with fail
    refine (zQ 7 r (p + 1) w4 (by omega) (by omega) (by omega) F4.out.rd).mono ?_
    rintro e w5 ⟨q5, rfl, hq5, hr_, D_⟩
    have F5 := hid (F4.out.call hr_ D_)
    clear hr_ D_
    clear F4
    clear cF fF HA4 HT4 hl4 hL4 hm4 hM4 hz4
    obtain ⟨nm5, kd5, ls5, ms5, a5, n5, c5, to5, rl5, mu5, fx5, df5, wg5, hC, hz5, HA5, ⟨hl5, hL5⟩, ⟨hm5, hM5⟩, HT5⟩ := F5.out.open
    have cF := fun j => cell_of_block (o := j) hC
    have fF := fun j => za (o := j) hC
    clear hC
    have hs_ : IntKind.i64.wrap ((q5 : Int) - 1) = (q5 : Int) - 1 := by rw [IntKind.wrap_i64]; omega
    go_upto_region 23 with fail
    refine zn (FB lo 1000004 r w (w.heap.size + 1) w.heap.size (p + 2)) (FB.more (F5.out.set (j := 1) (by omega) ⟨_, rfl, by omega, by omega⟩) (by omega)) ?_
    rintro WZ h_
    have FZ := hid h_
    clear h_
    clear F5
    clear cF fF HA5 HT5 hl5 hL5 hm5 hM5 hz5
    obtain ⟨nmz, kdz, lsz, msz, az, nz, cz, toz, rlz, muz, fxz, dfz, wgz, hC, hzz, HAz, ⟨hlz, hLz⟩, ⟨hmz, hMz⟩, HTz⟩ := FZ.out.open
    have cF := fun j => cell_of_block (o := j) hC
    have fF := fun j => za (o := j) hC
    clear cF fF
    refine wp_region_list ?_
    refine wpList_load_mid rfl 63 (.tmp 3) rfl w.heap.size 0 rfl _ _ (zY hC) Tryz.underlying63 rfl (by kernel_rfl) ?_
    refine wpList_store_mid rfl 63 (.tmp 4) (.tmp 82) rfl (w.heap.size + 1) 0 #[.string nmz, .int .i64 kdz, .int .i64 lsz, .int .i64 msz, .slice az nz cz, .string toz, .int .i64 rlz, .bool muz, .bool fxz, .string dfz, .string wgz] rfl rfl (zU FZ.out.res (by simp)) (by kernel_rfl) (by simp [Value.oneCell']) ?_
    refine wpList_nil ?_
    obtain ⟨WY, hWY⟩ : ∃ W, W = WZ.setCells (w.heap.size + 1) 0 #[.string nmz, .int .i64 kdz, .int .i64 lsz, .int .i64 msz, .slice az nz cz, .string toz, .int .i64 rlz, .bool muz, .bool fxz, .string dfz, .string wgz].toList := ⟨_, rfl⟩
    have hRY : WY.heap[(w.heap.size + 1)]? = some (.cells #[.string nmz, .int .i64 kdz, .int .i64 lsz, .int .i64 msz, .slice az nz cz, .string toz, .int .i64 rlz, .bool muz, .bool fxz, .string dfz, .string wgz] 63) := by rw [hWY]; exact zI FZ.out.res rfl
    have HX := yK (show yD lo 1000004 WY #[.string nmz, .int .i64 kdz, .int .i64 lsz, .int .i64 msz, .slice az nz cz, .string toz, .int .i64 rlz, .bool muz, .bool fxz, .string dfz, .string wgz] by rw [hWY]; exact HAz.out.qw (yj FZ.out.res (by decide) _)) (show yF WY r (p + 2) by rw [hWY]; exact qU FZ.out.rd (by omega) _) (show Dr r w WY by rw [hWY]; exact qR FZ.out.dr (by omega) _)
    rw [<- hWY]
    clear hWY FZ HAz HTz hC
    (try simp only [Act.put])
    go_wp2_with fail
    exact bodyPost_ret (v := .agg #[.string nmz, .int .i64 kdz, .int .i64 lsz, .int .i64 msz, .slice az nz cz, .string toz, .int .i64 rlz, .bool muz, .bool fxz, .string dfz, .string wgz]) (results_cell_row Tryz.results84 _ _ (w.heap.size + 1) 63 #[.string nmz, .int .i64 kdz, .int .i64 lsz, .int .i64 msz, .slice az nz cz, .string toz, .int .i64 rlz, .bool muz, .bool fxz, .string dfz, .string wgz] _ _ rfl hRY Tryz.underlying63 rfl (by kernel_rfl)) rfl ⟨_, p + 2, rfl, HX.out.1, by omega, HX.out.2.1, HX.out.2.2⟩
  have n1 : ((q4 : Int) == 1) = false := by rw [beq_eq_false_iff_ne]; omega
  by_cases e2 : q4 = 2
  · subst e2
    go_wp2_with fail
    refine (zQ 4 r (p + 1) w4 (by omega) (by omega) (by omega) F4.out.rd).mono ?_
    rintro e w5 ⟨q5, rfl, hq5, hr_, D_⟩
    have F5 := hid (F4.out.call hr_ D_)
    clear hr_ D_
    clear F4
    clear cF fF HA4 HT4 hl4 hL4 hm4 hM4 hz4
    obtain ⟨nm5, kd5, ls5, ms5, a5, n5, c5, to5, rl5, mu5, fx5, df5, wg5, hC, hz5, HA5, ⟨hl5, hL5⟩, ⟨hm5, hM5⟩, HT5⟩ := F5.out.open
    have cF := fun j => cell_of_block (o := j) hC
    have fF := fun j => za (o := j) hC
    clear hC
    have hs_ : IntKind.i64.wrap ((q5 : Int) - 1) = (q5 : Int) - 1 := by rw [IntKind.wrap_i64]; omega
    go_upto_region 23 with fail
    refine zn (FB lo 1000004 r w (w.heap.size + 1) w.heap.size (p + 2)) (FB.more (F5.out.set (j := 2) (by omega) ⟨_, rfl, by omega, by omega⟩) (by omega)) ?_
    rintro WZ h_
    have FZ := hid h_
    clear h_
    clear F5
    clear cF fF HA5 HT5 hl5 hL5 hm5 hM5 hz5
    obtain ⟨nmz, kdz, lsz, msz, az, nz, cz, toz, rlz, muz, fxz, dfz, wgz, hC, hzz, HAz, ⟨hlz, hLz⟩, ⟨hmz, hMz⟩, HTz⟩ := FZ.out.open
    have cF := fun j => cell_of_block (o := j) hC
    have fF := fun j => za (o := j) hC
    clear cF fF
    refine wp_region_list ?_
    refine wpList_load_mid rfl 63 (.tmp 3) rfl w.heap.size 0 rfl _ _ (zY hC) Tryz.underlying63 rfl (by kernel_rfl) ?_
    refine wpList_store_mid rfl 63 (.tmp 4) (.tmp 82) rfl (w.heap.size + 1) 0 #[.string nmz, .int .i64 kdz, .int .i64 lsz, .int .i64 msz, .slice az nz cz, .string toz, .int .i64 rlz, .bool muz, .bool fxz, .string dfz, .string wgz] rfl rfl (zU FZ.out.res (by simp)) (by kernel_rfl) (by simp [Value.oneCell']) ?_
    refine wpList_nil ?_
    obtain ⟨WY, hWY⟩ : ∃ W, W = WZ.setCells (w.heap.size + 1) 0 #[.string nmz, .int .i64 kdz, .int .i64 lsz, .int .i64 msz, .slice az nz cz, .string toz, .int .i64 rlz, .bool muz, .bool fxz, .string dfz, .string wgz].toList := ⟨_, rfl⟩
    have hRY : WY.heap[(w.heap.size + 1)]? = some (.cells #[.string nmz, .int .i64 kdz, .int .i64 lsz, .int .i64 msz, .slice az nz cz, .string toz, .int .i64 rlz, .bool muz, .bool fxz, .string dfz, .string wgz] 63) := by rw [hWY]; exact zI FZ.out.res rfl
    have HX := yK (show yD lo 1000004 WY #[.string nmz, .int .i64 kdz, .int .i64 lsz, .int .i64 msz, .slice az nz cz, .string toz, .int .i64 rlz, .bool muz, .bool fxz, .string dfz, .string wgz] by rw [hWY]; exact HAz.out.qw (yj FZ.out.res (by decide) _)) (show yF WY r (p + 2) by rw [hWY]; exact qU FZ.out.rd (by omega) _) (show Dr r w WY by rw [hWY]; exact qR FZ.out.dr (by omega) _)
    rw [<- hWY]
    clear hWY FZ HAz HTz hC
    (try simp only [Act.put])
    go_wp2_with fail
    exact bodyPost_ret (v := .agg #[.string nmz, .int .i64 kdz, .int .i64 lsz, .int .i64 msz, .slice az nz cz, .string toz, .int .i64 rlz, .bool muz, .bool fxz, .string dfz, .string wgz]) (results_cell_row Tryz.results84 _ _ (w.heap.size + 1) 63 #[.string nmz, .int .i64 kdz, .int .i64 lsz, .int .i64 msz, .slice az nz cz, .string toz, .int .i64 rlz, .bool muz, .bool fxz, .string dfz, .string wgz] _ _ rfl hRY Tryz.underlying63 rfl (by kernel_rfl)) rfl ⟨_, p + 2, rfl, HX.out.1, by omega, HX.out.2.1, HX.out.2.2⟩
  have n2 : ((q4 : Int) == 2) = false := by rw [beq_eq_false_iff_ne]; omega
  by_cases e3 : q4 = 3
  · subst e3
    go_wp2_with fail
    refine yS (fun W => FB lo 1000002 r w (w.heap.size + 1) w.heap.size (p + 1) W /\ W.heap[w4.heap.size]? = some (.cells #[.int .i64 0, .int .i64 1, .int .i64 41, .int .i64 1000000, .int .i64 1000001, .int .i64 (-1)] 3)) ⟨F4.out.alloc _, (MapKept.heap_alloc w4 _).1⟩ ?_
    rintro W4 ⟨hW4, hL4⟩
    refine (zQ 6 r (p + 1) W4 (by omega) (by omega) (by omega) hW4.rd).mono ?_
    rintro e w5 ⟨q5, rfl, hq5, hr_, D_⟩
    have F5 := hid (hW4.call hr_ D_)
    have hL5 := (zH D_ (Array.getElem?_eq_some_iff.1 hL4).1 (by have := zaK F4.out.dr; omega)).trans hL4
    obtain ⟨lx, hlc, hl_, hL_⟩ := zjh hq5
    have cL : w5.cell? ⟨w4.heap.size, q5, none⟩ = some (.int .i64 lx) := (cell_of_block hL5).trans hlc
    have hqI : (q5 : Int) < 6 := by omega
    clear hr_ D_ hW4 hL4 hL5 hlc F4
    clear cF fF HA4 HT4 hl4 hL4 hm4 hM4 hz4
    obtain ⟨nm5, kd5, ls5, ms5, a5, n5, c5, to5, rl5, mu5, fx5, df5, wg5, hC, hz5, HA5, ⟨hl5, hL5⟩, ⟨hm5, hM5⟩, HT5⟩ := F5.out.open
    have cF := fun j => cell_of_block (o := j) hC
    have fF := fun j => za (o := j) hC
    clear hC
    go_upto_region 23 with fail
    refine zn (FB lo 1000004 r w (w.heap.size + 1) w.heap.size (p + 2)) (FB.more (F5.out.set (j := 3) (by omega) ⟨_, rfl, by omega, by omega⟩) (by omega)) ?_
    rintro WZ h_
    have FZ := hid h_
    clear h_
    clear F5
    clear cF fF HA5 HT5 hl5 hL5 hm5 hM5 hz5
    obtain ⟨nmz, kdz, lsz, msz, az, nz, cz, toz, rlz, muz, fxz, dfz, wgz, hC, hzz, HAz, ⟨hlz, hLz⟩, ⟨hmz, hMz⟩, HTz⟩ := FZ.out.open
    have cF := fun j => cell_of_block (o := j) hC
    have fF := fun j => za (o := j) hC
    clear cF fF
    refine wp_region_list ?_
    refine wpList_load_mid rfl 63 (.tmp 3) rfl w.heap.size 0 rfl _ _ (zY hC) Tryz.underlying63 rfl (by kernel_rfl) ?_
    refine wpList_store_mid rfl 63 (.tmp 4) (.tmp 82) rfl (w.heap.size + 1) 0 #[.string nmz, .int .i64 kdz, .int .i64 lsz, .int .i64 msz, .slice az nz cz, .string toz, .int .i64 rlz, .bool muz, .bool fxz, .string dfz, .string wgz] rfl rfl (zU FZ.out.res (by simp)) (by kernel_rfl) (by simp [Value.oneCell']) ?_
    refine wpList_nil ?_
    obtain ⟨WY, hWY⟩ : ∃ W, W = WZ.setCells (w.heap.size + 1) 0 #[.string nmz, .int .i64 kdz, .int .i64 lsz, .int .i64 msz, .slice az nz cz, .string toz, .int .i64 rlz, .bool muz, .bool fxz, .string dfz, .string wgz].toList := ⟨_, rfl⟩
    have hRY : WY.heap[(w.heap.size + 1)]? = some (.cells #[.string nmz, .int .i64 kdz, .int .i64 lsz, .int .i64 msz, .slice az nz cz, .string toz, .int .i64 rlz, .bool muz, .bool fxz, .string dfz, .string wgz] 63) := by rw [hWY]; exact zI FZ.out.res rfl
    have HX := yK (show yD lo 1000004 WY #[.string nmz, .int .i64 kdz, .int .i64 lsz, .int .i64 msz, .slice az nz cz, .string toz, .int .i64 rlz, .bool muz, .bool fxz, .string dfz, .string wgz] by rw [hWY]; exact HAz.out.qw (yj FZ.out.res (by decide) _)) (show yF WY r (p + 2) by rw [hWY]; exact qU FZ.out.rd (by omega) _) (show Dr r w WY by rw [hWY]; exact qR FZ.out.dr (by omega) _)
    rw [<- hWY]
    clear hWY FZ HAz HTz hC
    (try simp only [Act.put])
    go_wp2_with fail
    exact bodyPost_ret (v := .agg #[.string nmz, .int .i64 kdz, .int .i64 lsz, .int .i64 msz, .slice az nz cz, .string toz, .int .i64 rlz, .bool muz, .bool fxz, .string dfz, .string wgz]) (results_cell_row Tryz.results84 _ _ (w.heap.size + 1) 63 #[.string nmz, .int .i64 kdz, .int .i64 lsz, .int .i64 msz, .slice az nz cz, .string toz, .int .i64 rlz, .bool muz, .bool fxz, .string dfz, .string wgz] _ _ rfl hRY Tryz.underlying63 rfl (by kernel_rfl)) rfl ⟨_, p + 2, rfl, HX.out.1, by omega, HX.out.2.1, HX.out.2.2⟩
  have n3 : ((q4 : Int) == 3) = false := by rw [beq_eq_false_iff_ne]; omega
  by_cases e4 : q4 = 4
  · subst e4
    go_wp2_with fail
    refine yS (fun W => FB lo 1000002 r w (w.heap.size + 1) w.heap.size (p + 1) W /\ zfa lo 1000002 W (.slice (some ⟨w4.heap.size + 1 + 1 + 1 + 1 + 1 + 1, 0, none⟩) 6 6)) ?_ ?_
    ·
      obtain ⟨y0, hy0⟩ : ∃ U, U = w4.alloc (.cells (jJ []) 9) := ⟨_, rfl⟩
      have z0 : y0.heap.size = w4.heap.size + 1 := by rw [hy0]; simp
      have t0 : yR lo 1000002 y0 (.slice (some ⟨w4.heap.size, 0, none⟩) 0 0) := by rw [hy0]; exact jo lo 1000002 _ 0 w4 [] (rfl) rfl (by have := zaK F4.out.dr; omega) (by omega) (by simp [maxLen]) (by simp +decide)
      have f0 : FB lo 1000002 r w (w.heap.size + 1) w.heap.size (p + 1) y0 := by rw [hy0]; exact F4.out.alloc _
      obtain ⟨y1, hy1⟩ : ∃ U, U = y0.alloc (.cells (jJ [⟨#[98]⟩, ⟨#[97]⟩]) 9) := ⟨_, rfl⟩
      have z1 : y1.heap.size = w4.heap.size + 1 + 1 := by rw [hy1]; simp [z0]
      have t1 : yR lo 1000002 y1 (.slice (some ⟨w4.heap.size + 1, 0, none⟩) 2 2) := by rw [hy1]; exact jo lo 1000002 _ 2 y0 [⟨#[98]⟩, ⟨#[97]⟩] (z0) rfl (by have := zaK F4.out.dr; omega) (by omega) (by simp [maxLen]) (by simp +decide)
      have f1 : FB lo 1000002 r w (w.heap.size + 1) w.heap.size (p + 1) y1 := by rw [hy1]; exact f0.alloc _
      replace t0 : yR lo 1000002 y1 (.slice (some ⟨w4.heap.size, 0, none⟩) 0 0) := by rw [hy1]; exact (zf _ _ _ _).s _ t0
      obtain ⟨y2, hy2⟩ : ∃ U, U = y1.alloc (.cells (jJ [⟨#[97]⟩, ⟨#[97]⟩]) 9) := ⟨_, rfl⟩
      have z2 : y2.heap.size = w4.heap.size + 1 + 1 + 1 := by rw [hy2]; simp [z1]
      have t2 : yR lo 1000002 y2 (.slice (some ⟨w4.heap.size + 1 + 1, 0, none⟩) 2 2) := by rw [hy2]; exact jo lo 1000002 _ 2 y1 [⟨#[97]⟩, ⟨#[97]⟩] (z1) rfl (by have := zaK F4.out.dr; omega) (by omega) (by simp [maxLen]) (by simp +decide)
      have f2 : FB lo 1000002 r w (w.heap.size + 1) w.heap.size (p + 1) y2 := by rw [hy2]; exact f1.alloc _
      replace t0 : yR lo 1000002 y2 (.slice (some ⟨w4.heap.size, 0, none⟩) 0 0) := by rw [hy2]; exact (zf _ _ _ _).s _ t0
      replace t1 : yR lo 1000002 y2 (.slice (some ⟨w4.heap.size + 1, 0, none⟩) 2 2) := by rw [hy2]; exact (zf _ _ _ _).s _ t1
      obtain ⟨y3, hy3⟩ : ∃ U, U = y2.alloc (.cells (jJ [⟨#[97]⟩, ⟨#[98]⟩, ⟨#[99]⟩, ⟨#[100]⟩, ⟨#[101]⟩, ⟨#[102]⟩]) 9) := ⟨_, rfl⟩
      have z3 : y3.heap.size = w4.heap.size + 1 + 1 + 1 + 1 := by rw [hy3]; simp [z2]
      have t3 : yR lo 1000002 y3 (.slice (some ⟨w4.heap.size + 1 + 1 + 1, 0, none⟩) 6 6) := by rw [hy3]; exact jo lo 1000002 _ 6 y2 [⟨#[97]⟩, ⟨#[98]⟩, ⟨#[99]⟩, ⟨#[100]⟩, ⟨#[101]⟩, ⟨#[102]⟩] (z2) rfl (by have := zaK F4.out.dr; omega) (by omega) (by simp [maxLen]) (by simp +decide)
      have f3 : FB lo 1000002 r w (w.heap.size + 1) w.heap.size (p + 1) y3 := by rw [hy3]; exact f2.alloc _
      replace t0 : yR lo 1000002 y3 (.slice (some ⟨w4.heap.size, 0, none⟩) 0 0) := by rw [hy3]; exact (zf _ _ _ _).s _ t0
      replace t1 : yR lo 1000002 y3 (.slice (some ⟨w4.heap.size + 1, 0, none⟩) 2 2) := by rw [hy3]; exact (zf _ _ _ _).s _ t1
      replace t2 : yR lo 1000002 y3 (.slice (some ⟨w4.heap.size + 1 + 1, 0, none⟩) 2 2) := by rw [hy3]; exact (zf _ _ _ _).s _ t2
      obtain ⟨y4, hy4⟩ : ∃ U, U = y3.alloc (.cells (jJ [⟨#[97]⟩, ⟨#[98]⟩, ⟨#[99]⟩, ⟨#[100]⟩, ⟨#[101]⟩, ⟨#[102]⟩, ⟨#[103]⟩]) 9) := ⟨_, rfl⟩
      have z4 : y4.heap.size = w4.heap.size + 1 + 1 + 1 + 1 + 1 := by rw [hy4]; simp [z3]
      have t4 : yR lo 1000002 y4 (.slice (some ⟨w4.heap.size + 1 + 1 + 1 + 1, 0, none⟩) 7 7) := by rw [hy4]; exact jo lo 1000002 _ 7 y3 [⟨#[97]⟩, ⟨#[98]⟩, ⟨#[99]⟩, ⟨#[100]⟩, ⟨#[101]⟩, ⟨#[102]⟩, ⟨#[103]⟩] (z3) rfl (by have := zaK F4.out.dr; omega) (by omega) (by simp [maxLen]) (by simp +decide)
      have f4 : FB lo 1000002 r w (w.heap.size + 1) w.heap.size (p + 1) y4 := by rw [hy4]; exact f3.alloc _
      replace t0 : yR lo 1000002 y4 (.slice (some ⟨w4.heap.size, 0, none⟩) 0 0) := by rw [hy4]; exact (zf _ _ _ _).s _ t0
      replace t1 : yR lo 1000002 y4 (.slice (some ⟨w4.heap.size + 1, 0, none⟩) 2 2) := by rw [hy4]; exact (zf _ _ _ _).s _ t1
      replace t2 : yR lo 1000002 y4 (.slice (some ⟨w4.heap.size + 1 + 1, 0, none⟩) 2 2) := by rw [hy4]; exact (zf _ _ _ _).s _ t2
      replace t3 : yR lo 1000002 y4 (.slice (some ⟨w4.heap.size + 1 + 1 + 1, 0, none⟩) 6 6) := by rw [hy4]; exact (zf _ _ _ _).s _ t3
      obtain ⟨y5, hy5⟩ : ∃ U, U = y4.alloc (.cells (jJ [⟨#[65]⟩]) 9) := ⟨_, rfl⟩
      have z5 : y5.heap.size = w4.heap.size + 1 + 1 + 1 + 1 + 1 + 1 := by rw [hy5]; simp [z4]
      have t5 : yR lo 1000002 y5 (.slice (some ⟨w4.heap.size + 1 + 1 + 1 + 1 + 1, 0, none⟩) 1 1) := by rw [hy5]; exact jo lo 1000002 _ 1 y4 [⟨#[65]⟩] (z4) rfl (by have := zaK F4.out.dr; omega) (by omega) (by simp [maxLen]) (by simp +decide)
      have f5 : FB lo 1000002 r w (w.heap.size + 1) w.heap.size (p + 1) y5 := by rw [hy5]; exact f4.alloc _
      replace t0 : yR lo 1000002 y5 (.slice (some ⟨w4.heap.size, 0, none⟩) 0 0) := by rw [hy5]; exact (zf _ _ _ _).s _ t0
      replace t1 : yR lo 1000002 y5 (.slice (some ⟨w4.heap.size + 1, 0, none⟩) 2 2) := by rw [hy5]; exact (zf _ _ _ _).s _ t1
      replace t2 : yR lo 1000002 y5 (.slice (some ⟨w4.heap.size + 1 + 1, 0, none⟩) 2 2) := by rw [hy5]; exact (zf _ _ _ _).s _ t2
      replace t3 : yR lo 1000002 y5 (.slice (some ⟨w4.heap.size + 1 + 1 + 1, 0, none⟩) 6 6) := by rw [hy5]; exact (zf _ _ _ _).s _ t3
      replace t4 : yR lo 1000002 y5 (.slice (some ⟨w4.heap.size + 1 + 1 + 1 + 1, 0, none⟩) 7 7) := by rw [hy5]; exact (zf _ _ _ _).s _ t4
      have hS := zdJ lo 1000002 (w4.heap.size + 1 + 1 + 1 + 1 + 1 + 1) 6 y5 [.slice (some ⟨w4.heap.size, 0, none⟩) 0 0, .slice (some ⟨w4.heap.size + 1, 0, none⟩) 2 2, .slice (some ⟨w4.heap.size + 1 + 1, 0, none⟩) 2 2, .slice (some ⟨w4.heap.size + 1 + 1 + 1, 0, none⟩) 6 6, .slice (some ⟨w4.heap.size + 1 + 1 + 1 + 1, 0, none⟩) 7 7, .slice (some ⟨w4.heap.size + 1 + 1 + 1 + 1 + 1, 0, none⟩) 1 1] z5 rfl (by have := zaK F4.out.dr; omega) (by omega) (by simp [maxLen]) (by intro v hv; simp only [List.mem_cons, List.not_mem_nil, or_false] at hv; rcases hv with rfl | rfl | rfl | rfl | rfl | rfl <;> assumption)
      have fS := f5.alloc (.cells [.slice (some ⟨w4.heap.size, 0, none⟩) 0 0, .slice (some ⟨w4.heap.size + 1, 0, none⟩) 2 2, .slice (some ⟨w4.heap.size + 1 + 1, 0, none⟩) 2 2, .slice (some ⟨w4.heap.size + 1 + 1 + 1, 0, none⟩) 6 6, .slice (some ⟨w4.heap.size + 1 + 1 + 1 + 1, 0, none⟩) 7 7, .slice (some ⟨w4.heap.size + 1 + 1 + 1 + 1 + 1, 0, none⟩) 1 1].toArray 25)
      rw [hy5, hy4, hy3, hy2, hy1, hy0] at hS fS
      exact ⟨fS, hS⟩
    rintro W4 ⟨hW4, hL4⟩
    refine (zQ 6 r (p + 1) W4 (by omega) (by omega) (by omega) hW4.rd).mono ?_
    rintro e w5 ⟨q5, rfl, hq5, hr_, D_⟩
    have F5 := hid (hW4.call hr_ D_)
    obtain ⟨g_, C_, e_, -, -, -, hc_⟩ := ((zN (b := 1000002) hlo D_).l _ hL4).cell hq5
    cases e_
    obtain ⟨x_, hx_, hT_⟩ := hc_ 0 (by omega)
    obtain ⟨la, ln, lc, rfl, -⟩ := qE.slice hT_
    have cL : w5.cell? ⟨w4.heap.size + 1 + 1 + 1 + 1 + 1 + 1, q5, none⟩ = some (.slice la ln lc) := by simpa using hx_
    have HT_ := hid hT_
    have hqI : (q5 : Int) < 6 := by omega
    clear hr_ D_ hW4 hL4 hc_ hx_ hT_ F4 C_
    clear cF fF HA4 HT4 hl4 hL4 hm4 hM4 hz4
    obtain ⟨nm5, kd5, ls5, ms5, a5, n5, c5, to5, rl5, mu5, fx5, df5, wg5, hC, hz5, HA5, ⟨hl5, hL5⟩, ⟨hm5, hM5⟩, HT5⟩ := F5.out.open
    have cF := fun j => cell_of_block (o := j) hC
    have fF := fun j => za (o := j) hC
    clear hC
    go_upto_region 23 with fail
    refine zn (FB lo 1000004 r w (w.heap.size + 1) w.heap.size (p + 2)) (FB.more (F5.out.set (j := 4) (by omega) HT_.out) (by omega)) ?_
    rintro WZ h_
    have FZ := hid h_
    clear h_
    clear F5
    clear cF fF HA5 HT5 hl5 hL5 hm5 hM5 hz5
    obtain ⟨nmz, kdz, lsz, msz, az, nz, cz, toz, rlz, muz, fxz, dfz, wgz, hC, hzz, HAz, ⟨hlz, hLz⟩, ⟨hmz, hMz⟩, HTz⟩ := FZ.out.open
    have cF := fun j => cell_of_block (o := j) hC
    have fF := fun j => za (o := j) hC
    clear cF fF
    refine wp_region_list ?_
    refine wpList_load_mid rfl 63 (.tmp 3) rfl w.heap.size 0 rfl _ _ (zY hC) Tryz.underlying63 rfl (by kernel_rfl) ?_
    refine wpList_store_mid rfl 63 (.tmp 4) (.tmp 82) rfl (w.heap.size + 1) 0 #[.string nmz, .int .i64 kdz, .int .i64 lsz, .int .i64 msz, .slice az nz cz, .string toz, .int .i64 rlz, .bool muz, .bool fxz, .string dfz, .string wgz] rfl rfl (zU FZ.out.res (by simp)) (by kernel_rfl) (by simp [Value.oneCell']) ?_
    refine wpList_nil ?_
    obtain ⟨WY, hWY⟩ : ∃ W, W = WZ.setCells (w.heap.size + 1) 0 #[.string nmz, .int .i64 kdz, .int .i64 lsz, .int .i64 msz, .slice az nz cz, .string toz, .int .i64 rlz, .bool muz, .bool fxz, .string dfz, .string wgz].toList := ⟨_, rfl⟩
    have hRY : WY.heap[(w.heap.size + 1)]? = some (.cells #[.string nmz, .int .i64 kdz, .int .i64 lsz, .int .i64 msz, .slice az nz cz, .string toz, .int .i64 rlz, .bool muz, .bool fxz, .string dfz, .string wgz] 63) := by rw [hWY]; exact zI FZ.out.res rfl
    have HX := yK (show yD lo 1000004 WY #[.string nmz, .int .i64 kdz, .int .i64 lsz, .int .i64 msz, .slice az nz cz, .string toz, .int .i64 rlz, .bool muz, .bool fxz, .string dfz, .string wgz] by rw [hWY]; exact HAz.out.qw (yj FZ.out.res (by decide) _)) (show yF WY r (p + 2) by rw [hWY]; exact qU FZ.out.rd (by omega) _) (show Dr r w WY by rw [hWY]; exact qR FZ.out.dr (by omega) _)
    rw [<- hWY]
    clear hWY FZ HAz HTz hC
    (try simp only [Act.put])
    go_wp2_with fail
    exact bodyPost_ret (v := .agg #[.string nmz, .int .i64 kdz, .int .i64 lsz, .int .i64 msz, .slice az nz cz, .string toz, .int .i64 rlz, .bool muz, .bool fxz, .string dfz, .string wgz]) (results_cell_row Tryz.results84 _ _ (w.heap.size + 1) 63 #[.string nmz, .int .i64 kdz, .int .i64 lsz, .int .i64 msz, .slice az nz cz, .string toz, .int .i64 rlz, .bool muz, .bool fxz, .string dfz, .string wgz] _ _ rfl hRY Tryz.underlying63 rfl (by kernel_rfl)) rfl ⟨_, p + 2, rfl, HX.out.1, by omega, HX.out.2.1, HX.out.2.2⟩
  have n4 : ((q4 : Int) == 4) = false := by rw [beq_eq_false_iff_ne]; omega
  by_cases e5 : q4 = 5
  · subst e5
    go_wp2_with fail
    refine (qC _ 3 3 lo 1000002 r (p + 1) _ (yH lo 1000002 w4 [⟨#[]⟩, ⟨#[107]⟩, ⟨#[110, 111, 110, 101]⟩] (by have := zaK F4.out.dr; omega) (by simp) (by simp [maxLen]) (by simp +decide)) (by omega) (by omega) (by omega) (F4.out.alloc _).rd hlo).mono ?_
    rintro e w5 ⟨s5, rfl, hs5, hr_, D_⟩
    have F5 := hid ((F4.out.alloc _).call hr_ D_)
    clear hr_ D_ F4
    clear cF fF HA4 HT4 hl4 hL4 hm4 hM4 hz4
    obtain ⟨nm5, kd5, ls5, ms5, a5, n5, c5, to5, rl5, mu5, fx5, df5, wg5, hC, hz5, HA5, ⟨hl5, hL5⟩, ⟨hm5, hM5⟩, HT5⟩ := F5.out.open
    have cF := fun j => cell_of_block (o := j) hC
    have fF := fun j => za (o := j) hC
    clear hC
    go_upto_region 23 with fail
    refine zn (FB lo 1000004 r w (w.heap.size + 1) w.heap.size (p + 2)) (FB.more (F5.out.set (j := 5) (by omega) ⟨_, rfl, hs5⟩) (by omega)) ?_
    rintro WZ h_
    have FZ := hid h_
    clear h_
    clear F5
    clear cF fF HA5 HT5 hl5 hL5 hm5 hM5 hz5
    obtain ⟨nmz, kdz, lsz, msz, az, nz, cz, toz, rlz, muz, fxz, dfz, wgz, hC, hzz, HAz, ⟨hlz, hLz⟩, ⟨hmz, hMz⟩, HTz⟩ := FZ.out.open
    have cF := fun j => cell_of_block (o := j) hC
    have fF := fun j => za (o := j) hC
    clear cF fF
    refine wp_region_list ?_
    refine wpList_load_mid rfl 63 (.tmp 3) rfl w.heap.size 0 rfl _ _ (zY hC) Tryz.underlying63 rfl (by kernel_rfl) ?_
    refine wpList_store_mid rfl 63 (.tmp 4) (.tmp 82) rfl (w.heap.size + 1) 0 #[.string nmz, .int .i64 kdz, .int .i64 lsz, .int .i64 msz, .slice az nz cz, .string toz, .int .i64 rlz, .bool muz, .bool fxz, .string dfz, .string wgz] rfl rfl (zU FZ.out.res (by simp)) (by kernel_rfl) (by simp [Value.oneCell']) ?_
    refine wpList_nil ?_
    obtain ⟨WY, hWY⟩ : ∃ W, W = WZ.setCells (w.heap.size + 1) 0 #[.string nmz, .int .i64 kdz, .int .i64 lsz, .int .i64 msz, .slice az nz cz, .string toz, .int .i64 rlz, .bool muz, .bool fxz, .string dfz, .string wgz].toList := ⟨_, rfl⟩
    have hRY : WY.heap[(w.heap.size + 1)]? = some (.cells #[.string nmz, .int .i64 kdz, .int .i64 lsz, .int .i64 msz, .slice az nz cz, .string toz, .int .i64 rlz, .bool muz, .bool fxz, .string dfz, .string wgz] 63) := by rw [hWY]; exact zI FZ.out.res rfl
    have HX := yK (show yD lo 1000004 WY #[.string nmz, .int .i64 kdz, .int .i64 lsz, .int .i64 msz, .slice az nz cz, .string toz, .int .i64 rlz, .bool muz, .bool fxz, .string dfz, .string wgz] by rw [hWY]; exact HAz.out.qw (yj FZ.out.res (by decide) _)) (show yF WY r (p + 2) by rw [hWY]; exact qU FZ.out.rd (by omega) _) (show Dr r w WY by rw [hWY]; exact qR FZ.out.dr (by omega) _)
    rw [<- hWY]
    clear hWY FZ HAz HTz hC
    (try simp only [Act.put])
    go_wp2_with fail
    exact bodyPost_ret (v := .agg #[.string nmz, .int .i64 kdz, .int .i64 lsz, .int .i64 msz, .slice az nz cz, .string toz, .int .i64 rlz, .bool muz, .bool fxz, .string dfz, .string wgz]) (results_cell_row Tryz.results84 _ _ (w.heap.size + 1) 63 #[.string nmz, .int .i64 kdz, .int .i64 lsz, .int .i64 msz, .slice az nz cz, .string toz, .int .i64 rlz, .bool muz, .bool fxz, .string dfz, .string wgz] _ _ rfl hRY Tryz.underlying63 rfl (by kernel_rfl)) rfl ⟨_, p + 2, rfl, HX.out.1, by omega, HX.out.2.1, HX.out.2.2⟩
  have n5 : ((q4 : Int) == 5) = false := by rw [beq_eq_false_iff_ne]; omega
  by_cases e6 : q4 = 6
  · subst e6
    go_wp2_with fail
    refine (zQ 6 r (p + 1) w4 (by omega) (by omega) (by omega) F4.out.rd).mono ?_
    rintro e w5 ⟨q5, rfl, hq5, hr_, D_⟩
    have F5 := hid (F4.out.call hr_ D_)
    clear hr_ D_
    clear F4
    clear cF fF HA4 HT4 hl4 hL4 hm4 hM4 hz4
    obtain ⟨nm5, kd5, ls5, ms5, a5, n5, c5, to5, rl5, mu5, fx5, df5, wg5, hC, hz5, HA5, ⟨hl5, hL5⟩, ⟨hm5, hM5⟩, HT5⟩ := F5.out.open
    have cF := fun j => cell_of_block (o := j) hC
    have fF := fun j => za (o := j) hC
    clear hC
    have hs_ : IntKind.i64.wrap ((q5 : Int) - 1) = (q5 : Int) - 1 := by rw [IntKind.wrap_i64]; omega
    go_upto_region 23 with fail
    refine zn (FB lo 1000004 r w (w.heap.size + 1) w.heap.size (p + 2)) (FB.more (F5.out.set (j := 6) (by omega) ⟨_, rfl, by omega, by omega⟩) (by omega)) ?_
    rintro WZ h_
    have FZ := hid h_
    clear h_
    clear F5
    clear cF fF HA5 HT5 hl5 hL5 hm5 hM5 hz5
    obtain ⟨nmz, kdz, lsz, msz, az, nz, cz, toz, rlz, muz, fxz, dfz, wgz, hC, hzz, HAz, ⟨hlz, hLz⟩, ⟨hmz, hMz⟩, HTz⟩ := FZ.out.open
    have cF := fun j => cell_of_block (o := j) hC
    have fF := fun j => za (o := j) hC
    clear cF fF
    refine wp_region_list ?_
    refine wpList_load_mid rfl 63 (.tmp 3) rfl w.heap.size 0 rfl _ _ (zY hC) Tryz.underlying63 rfl (by kernel_rfl) ?_
    refine wpList_store_mid rfl 63 (.tmp 4) (.tmp 82) rfl (w.heap.size + 1) 0 #[.string nmz, .int .i64 kdz, .int .i64 lsz, .int .i64 msz, .slice az nz cz, .string toz, .int .i64 rlz, .bool muz, .bool fxz, .string dfz, .string wgz] rfl rfl (zU FZ.out.res (by simp)) (by kernel_rfl) (by simp [Value.oneCell']) ?_
    refine wpList_nil ?_
    obtain ⟨WY, hWY⟩ : ∃ W, W = WZ.setCells (w.heap.size + 1) 0 #[.string nmz, .int .i64 kdz, .int .i64 lsz, .int .i64 msz, .slice az nz cz, .string toz, .int .i64 rlz, .bool muz, .bool fxz, .string dfz, .string wgz].toList := ⟨_, rfl⟩
    have hRY : WY.heap[(w.heap.size + 1)]? = some (.cells #[.string nmz, .int .i64 kdz, .int .i64 lsz, .int .i64 msz, .slice az nz cz, .string toz, .int .i64 rlz, .bool muz, .bool fxz, .string dfz, .string wgz] 63) := by rw [hWY]; exact zI FZ.out.res rfl
    have HX := yK (show yD lo 1000004 WY #[.string nmz, .int .i64 kdz, .int .i64 lsz, .int .i64 msz, .slice az nz cz, .string toz, .int .i64 rlz, .bool muz, .bool fxz, .string dfz, .string wgz] by rw [hWY]; exact HAz.out.qw (yj FZ.out.res (by decide) _)) (show yF WY r (p + 2) by rw [hWY]; exact qU FZ.out.rd (by omega) _) (show Dr r w WY by rw [hWY]; exact qR FZ.out.dr (by omega) _)
    rw [<- hWY]
    clear hWY FZ HAz HTz hC
    (try simp only [Act.put])
    go_wp2_with fail
    exact bodyPost_ret (v := .agg #[.string nmz, .int .i64 kdz, .int .i64 lsz, .int .i64 msz, .slice az nz cz, .string toz, .int .i64 rlz, .bool muz, .bool fxz, .string dfz, .string wgz]) (results_cell_row Tryz.results84 _ _ (w.heap.size + 1) 63 #[.string nmz, .int .i64 kdz, .int .i64 lsz, .int .i64 msz, .slice az nz cz, .string toz, .int .i64 rlz, .bool muz, .bool fxz, .string dfz, .string wgz] _ _ rfl hRY Tryz.underlying63 rfl (by kernel_rfl)) rfl ⟨_, p + 2, rfl, HX.out.1, by omega, HX.out.2.1, HX.out.2.2⟩
  have n6 : ((q4 : Int) == 6) = false := by rw [beq_eq_false_iff_ne]; omega
  by_cases e7 : q4 = 7
  · subst e7
    go_wp2_with fail
    refine (zcK r (p + 1) w4 (by omega) F4.out.rd).mono ?_
    rintro e w5 ⟨s5, rfl, hs5, hr_, D_⟩
    have F5 := hid (F4.out.call hr_ D_)
    clear hr_ D_
    clear F4
    clear cF fF HA4 HT4 hl4 hL4 hm4 hM4 hz4
    obtain ⟨nm5, kd5, ls5, ms5, a5, n5, c5, to5, rl5, mu5, fx5, df5, wg5, hC, hz5, HA5, ⟨hl5, hL5⟩, ⟨hm5, hM5⟩, HT5⟩ := F5.out.open
    have cF := fun j => cell_of_block (o := j) hC
    have fF := fun j => za (o := j) hC
    clear hC
    go_upto_region 23 with fail
    refine zn (FB lo 1000004 r w (w.heap.size + 1) w.heap.size (p + 4)) (FB.more (F5.out.set (j := 9) (by omega) ⟨_, rfl, hs5⟩) (by omega)) ?_
    rintro WZ h_
    have FZ := hid h_
    clear h_
    clear F5
    clear cF fF HA5 HT5 hl5 hL5 hm5 hM5 hz5
    obtain ⟨nmz, kdz, lsz, msz, az, nz, cz, toz, rlz, muz, fxz, dfz, wgz, hC, hzz, HAz, ⟨hlz, hLz⟩, ⟨hmz, hMz⟩, HTz⟩ := FZ.out.open
    have cF := fun j => cell_of_block (o := j) hC
    have fF := fun j => za (o := j) hC
    clear cF fF
    refine wp_region_list ?_
    refine wpList_load_mid rfl 63 (.tmp 3) rfl w.heap.size 0 rfl _ _ (zY hC) Tryz.underlying63 rfl (by kernel_rfl) ?_
    refine wpList_store_mid rfl 63 (.tmp 4) (.tmp 82) rfl (w.heap.size + 1) 0 #[.string nmz, .int .i64 kdz, .int .i64 lsz, .int .i64 msz, .slice az nz cz, .string toz, .int .i64 rlz, .bool muz, .bool fxz, .string dfz, .string wgz] rfl rfl (zU FZ.out.res (by simp)) (by kernel_rfl) (by simp [Value.oneCell']) ?_
    refine wpList_nil ?_
    obtain ⟨WY, hWY⟩ : ∃ W, W = WZ.setCells (w.heap.size + 1) 0 #[.string nmz, .int .i64 kdz, .int .i64 lsz, .int .i64 msz, .slice az nz cz, .string toz, .int .i64 rlz, .bool muz, .bool fxz, .string dfz, .string wgz].toList := ⟨_, rfl⟩
    have hRY : WY.heap[(w.heap.size + 1)]? = some (.cells #[.string nmz, .int .i64 kdz, .int .i64 lsz, .int .i64 msz, .slice az nz cz, .string toz, .int .i64 rlz, .bool muz, .bool fxz, .string dfz, .string wgz] 63) := by rw [hWY]; exact zI FZ.out.res rfl
    have HX := yK (show yD lo 1000004 WY #[.string nmz, .int .i64 kdz, .int .i64 lsz, .int .i64 msz, .slice az nz cz, .string toz, .int .i64 rlz, .bool muz, .bool fxz, .string dfz, .string wgz] by rw [hWY]; exact HAz.out.qw (yj FZ.out.res (by decide) _)) (show yF WY r (p + 4) by rw [hWY]; exact qU FZ.out.rd (by omega) _) (show Dr r w WY by rw [hWY]; exact qR FZ.out.dr (by omega) _)
    rw [<- hWY]
    clear hWY FZ HAz HTz hC
    (try simp only [Act.put])
    go_wp2_with fail
    exact bodyPost_ret (v := .agg #[.string nmz, .int .i64 kdz, .int .i64 lsz, .int .i64 msz, .slice az nz cz, .string toz, .int .i64 rlz, .bool muz, .bool fxz, .string dfz, .string wgz]) (results_cell_row Tryz.results84 _ _ (w.heap.size + 1) 63 #[.string nmz, .int .i64 kdz, .int .i64 lsz, .int .i64 msz, .slice az nz cz, .string toz, .int .i64 rlz, .bool muz, .bool fxz, .string dfz, .string wgz] _ _ rfl hRY Tryz.underlying63 rfl (by kernel_rfl)) rfl ⟨_, p + 4, rfl, HX.out.1, by omega, HX.out.2.1, HX.out.2.2⟩
  have n7 : ((q4 : Int) == 7) = false := by rw [beq_eq_false_iff_ne]; omega
  by_cases e8 : q4 = 8
  · subst e8
    go_wp2_with fail
    refine (qC _ 3 3 lo 1000002 r (p + 1) _ (yH lo 1000002 w4 [⟨#[]⟩, ⟨#[119]⟩, ⟨#[87]⟩] (by have := zaK F4.out.dr; omega) (by simp) (by simp [maxLen]) (by simp +decide)) (by omega) (by omega) (by omega) (F4.out.alloc _).rd hlo).mono ?_
    rintro e w5 ⟨s5, rfl, hs5, hr_, D_⟩
    have F5 := hid ((F4.out.alloc _).call hr_ D_)
    clear hr_ D_ F4
    clear cF fF HA4 HT4 hl4 hL4 hm4 hM4 hz4
    obtain ⟨nm5, kd5, ls5, ms5, a5, n5, c5, to5, rl5, mu5, fx5, df5, wg5, hC, hz5, HA5, ⟨hl5, hL5⟩, ⟨hm5, hM5⟩, HT5⟩ := F5.out.open
    have cF := fun j => cell_of_block (o := j) hC
    have fF := fun j => za (o := j) hC
    clear hC
    go_upto_region 23 with fail
    refine zn (FB lo 1000004 r w (w.heap.size + 1) w.heap.size (p + 2)) (FB.more (F5.out.set (j := 10) (by omega) ⟨_, rfl, hs5⟩) (by omega)) ?_
    rintro WZ h_
    have FZ := hid h_
    clear h_
    clear F5
    clear cF fF HA5 HT5 hl5 hL5 hm5 hM5 hz5
    obtain ⟨nmz, kdz, lsz, msz, az, nz, cz, toz, rlz, muz, fxz, dfz, wgz, hC, hzz, HAz, ⟨hlz, hLz⟩, ⟨hmz, hMz⟩, HTz⟩ := FZ.out.open
    have cF := fun j => cell_of_block (o := j) hC
    have fF := fun j => za (o := j) hC
    clear cF fF
    refine wp_region_list ?_
    refine wpList_load_mid rfl 63 (.tmp 3) rfl w.heap.size 0 rfl _ _ (zY hC) Tryz.underlying63 rfl (by kernel_rfl) ?_
    refine wpList_store_mid rfl 63 (.tmp 4) (.tmp 82) rfl (w.heap.size + 1) 0 #[.string nmz, .int .i64 kdz, .int .i64 lsz, .int .i64 msz, .slice az nz cz, .string toz, .int .i64 rlz, .bool muz, .bool fxz, .string dfz, .string wgz] rfl rfl (zU FZ.out.res (by simp)) (by kernel_rfl) (by simp [Value.oneCell']) ?_
    refine wpList_nil ?_
    obtain ⟨WY, hWY⟩ : ∃ W, W = WZ.setCells (w.heap.size + 1) 0 #[.string nmz, .int .i64 kdz, .int .i64 lsz, .int .i64 msz, .slice az nz cz, .string toz, .int .i64 rlz, .bool muz, .bool fxz, .string dfz, .string wgz].toList := ⟨_, rfl⟩
    have hRY : WY.heap[(w.heap.size + 1)]? = some (.cells #[.string nmz, .int .i64 kdz, .int .i64 lsz, .int .i64 msz, .slice az nz cz, .string toz, .int .i64 rlz, .bool muz, .bool fxz, .string dfz, .string wgz] 63) := by rw [hWY]; exact zI FZ.out.res rfl
    have HX := yK (show yD lo 1000004 WY #[.string nmz, .int .i64 kdz, .int .i64 lsz, .int .i64 msz, .slice az nz cz, .string toz, .int .i64 rlz, .bool muz, .bool fxz, .string dfz, .string wgz] by rw [hWY]; exact HAz.out.qw (yj FZ.out.res (by decide) _)) (show yF WY r (p + 2) by rw [hWY]; exact qU FZ.out.rd (by omega) _) (show Dr r w WY by rw [hWY]; exact qR FZ.out.dr (by omega) _)
    rw [<- hWY]
    clear hWY FZ HAz HTz hC
    (try simp only [Act.put])
    go_wp2_with fail
    exact bodyPost_ret (v := .agg #[.string nmz, .int .i64 kdz, .int .i64 lsz, .int .i64 msz, .slice az nz cz, .string toz, .int .i64 rlz, .bool muz, .bool fxz, .string dfz, .string wgz]) (results_cell_row Tryz.results84 _ _ (w.heap.size + 1) 63 #[.string nmz, .int .i64 kdz, .int .i64 lsz, .int .i64 msz, .slice az nz cz, .string toz, .int .i64 rlz, .bool muz, .bool fxz, .string dfz, .string wgz] _ _ rfl hRY Tryz.underlying63 rfl (by kernel_rfl)) rfl ⟨_, p + 2, rfl, HX.out.1, by omega, HX.out.2.1, HX.out.2.2⟩
  have n8 : ((q4 : Int) == 8) = false := by rw [beq_eq_false_iff_ne]; omega
  by_cases e9 : q4 = 9
  · subst e9
    go_upto_region 23 with fail
    refine zn (FB lo 1000004 r w (w.heap.size + 1) w.heap.size (p + 1)) (FB.more (F4.out.set (j := 7) (by omega) ⟨_, rfl⟩) (by omega)) ?_
    rintro WZ h_
    have FZ := hid h_
    clear h_
    clear F4
    clear cF fF HA4 HT4 hl4 hL4 hm4 hM4 hz4
    obtain ⟨nmz, kdz, lsz, msz, az, nz, cz, toz, rlz, muz, fxz, dfz, wgz, hC, hzz, HAz, ⟨hlz, hLz⟩, ⟨hmz, hMz⟩, HTz⟩ := FZ.out.open
    have cF := fun j => cell_of_block (o := j) hC
    have fF := fun j => za (o := j) hC
    clear cF fF
    refine wp_region_list ?_
    refine wpList_load_mid rfl 63 (.tmp 3) rfl w.heap.size 0 rfl _ _ (zY hC) Tryz.underlying63 rfl (by kernel_rfl) ?_
    refine wpList_store_mid rfl 63 (.tmp 4) (.tmp 82) rfl (w.heap.size + 1) 0 #[.string nmz, .int .i64 kdz, .int .i64 lsz, .int .i64 msz, .slice az nz cz, .string toz, .int .i64 rlz, .bool muz, .bool fxz, .string dfz, .string wgz] rfl rfl (zU FZ.out.res (by simp)) (by kernel_rfl) (by simp [Value.oneCell']) ?_
    refine wpList_nil ?_
    obtain ⟨WY, hWY⟩ : ∃ W, W = WZ.setCells (w.heap.size + 1) 0 #[.string nmz, .int .i64 kdz, .int .i64 lsz, .int .i64 msz, .slice az nz cz, .string toz, .int .i64 rlz, .bool muz, .bool fxz, .string dfz, .string wgz].toList := ⟨_, rfl⟩
    have hRY : WY.heap[(w.heap.size + 1)]? = some (.cells #[.string nmz, .int .i64 kdz, .int .i64 lsz, .int .i64 msz, .slice az nz cz, .string toz, .int .i64 rlz, .bool muz, .bool fxz, .string dfz, .string wgz] 63) := by rw [hWY]; exact zI FZ.out.res rfl
    have HX := yK (show yD lo 1000004 WY #[.string nmz, .int .i64 kdz, .int .i64 lsz, .int .i64 msz, .slice az nz cz, .string toz, .int .i64 rlz, .bool muz, .bool fxz, .string dfz, .string wgz] by rw [hWY]; exact HAz.out.qw (yj FZ.out.res (by decide) _)) (show yF WY r (p + 1) by rw [hWY]; exact qU FZ.out.rd (by omega) _) (show Dr r w WY by rw [hWY]; exact qR FZ.out.dr (by omega) _)
    rw [<- hWY]
    clear hWY FZ HAz HTz hC
    (try simp only [Act.put])
    go_wp2_with fail
    exact bodyPost_ret (v := .agg #[.string nmz, .int .i64 kdz, .int .i64 lsz, .int .i64 msz, .slice az nz cz, .string toz, .int .i64 rlz, .bool muz, .bool fxz, .string dfz, .string wgz]) (results_cell_row Tryz.results84 _ _ (w.heap.size + 1) 63 #[.string nmz, .int .i64 kdz, .int .i64 lsz, .int .i64 msz, .slice az nz cz, .string toz, .int .i64 rlz, .bool muz, .bool fxz, .string dfz, .string wgz] _ _ rfl hRY Tryz.underlying63 rfl (by kernel_rfl)) rfl ⟨_, p + 1, rfl, HX.out.1, by omega, HX.out.2.1, HX.out.2.2⟩
  have n9 : ((q4 : Int) == 9) = false := by rw [beq_eq_false_iff_ne]; omega
  go_upto_region 2 with fail
  have F6 := hid F4.out.drew
  clear F4
  clear cF fF HA4 HT4 hl4 hL4 hm4 hM4 hz4
  obtain ⟨nm6, kd6, ls6, ms6, a6, n6, c6, to6, rl6, mu6, fx6, df6, wg6, hC, hz6, HA6, ⟨hl6, hL6⟩, ⟨hm6, hM6⟩, HT6⟩ := F6.out.open
  have cF := fun j => cell_of_block (o := j) hC
  have fF := fun j => za (o := j) hC
  refine wp_region_held_drew (S := fun w' => w'.cell? ⟨w.heap.size, 3, none⟩ = some (.int .i64 ms6)) (by kernel_rfl) (cF 3) (fun hHeld => ?_)
  refine tG 0 ?_; refine tG 1 ?_; refine tG 2 ?_; refine cH 3 rfl fun K hK => ?_
  go_simp
  refine (zQ 2 r (p + 1) w4.drew (by omega) (by omega) (by omega) F6.out.rd).mono ?_
  rintro e w7 ⟨q7, rfl, hq7, hr_, D_⟩
  have F7 := hid (F6.out.call hr_ D_)
  have hC7 := (zH D_ hz6 (by omega)).trans hC
  clear hr_ D_ cF fF
  have cF := fun j => cell_of_block (o := j) hC7
  have fF := fun j => za (o := j) hC7
  have hz7 : w.heap.size < w7.heap.size := (Array.getElem?_eq_some_iff.1 hC7).1
  (try go_wp2_with fail)
  refine hK.out _ _ (cF 3) (fun hHeld => ?_)
  clear hK K hC
  (try simp only [Act.put, sA, s0, sS])
  have hw7 : IntKind.i64.wrap (ms6 + (q7 : Int)) = ms6 + (q7 : Int) := by rw [IntKind.wrap_i64]; omega
  refine tG 4 ?_; refine tG 5 ?_
  refine cH 6 rfl fun K hK => ?_
  go_simp
  (try go_wp2_with fail)
  refine hK.out _ _ ?_ (fun hHeld => ?_)
  · exact (World.cell?_setCell_other _ _ _ _ (by simp)).trans (cF 3)
  clear hK K
  (try simp only [Act.put, sA, s0, sS])
  refine wpAnyH_done (by kernel_rfl) ?_ _
  go_upto_region 23 with fail
  refine zn (FB lo 1000004 r w (w.heap.size + 1) w.heap.size (p + 2)) ((F7.out.more (by omega)).set (j := 2) (by omega) ⟨_, rfl, by omega, by omega⟩) ?_
  rintro WZ h_
  have FZ := hid h_
  clear h_
  clear F7
  obtain ⟨nmz, kdz, lsz, msz, az, nz, cz, toz, rlz, muz, fxz, dfz, wgz, hC, hzz, HAz, ⟨hlz, hLz⟩, ⟨hmz, hMz⟩, HTz⟩ := FZ.out.open
  have cF := fun j => cell_of_block (o := j) hC
  have fF := fun j => za (o := j) hC
  clear cF fF
  refine wp_region_list ?_
  refine wpList_load_mid rfl 63 (.tmp 3) rfl w.heap.size 0 rfl _ _ (zY hC) Tryz.underlying63 rfl (by kernel_rfl) ?_
  refine wpList_store_mid rfl 63 (.tmp 4) (.tmp 82) rfl (w.heap.size + 1) 0 #[.string nmz, .int .i64 kdz, .int .i64 lsz, .int .i64 msz, .slice az nz cz, .string toz, .int .i64 rlz, .bool muz, .bool fxz, .string dfz, .string wgz] rfl rfl (zU FZ.out.res (by simp)) (by kernel_rfl) (by simp [Value.oneCell']) ?_
  refine wpList_nil ?_
  obtain ⟨WY, hWY⟩ : ∃ W, W = WZ.setCells (w.heap.size + 1) 0 #[.string nmz, .int .i64 kdz, .int .i64 lsz, .int .i64 msz, .slice az nz cz, .string toz, .int .i64 rlz, .bool muz, .bool fxz, .string dfz, .string wgz].toList := ⟨_, rfl⟩
  have hRY : WY.heap[(w.heap.size + 1)]? = some (.cells #[.string nmz, .int .i64 kdz, .int .i64 lsz, .int .i64 msz, .slice az nz cz, .string toz, .int .i64 rlz, .bool muz, .bool fxz, .string dfz, .string wgz] 63) := by rw [hWY]; exact zI FZ.out.res rfl
  have HX := yK (show yD lo 1000004 WY #[.string nmz, .int .i64 kdz, .int .i64 lsz, .int .i64 msz, .slice az nz cz, .string toz, .int .i64 rlz, .bool muz, .bool fxz, .string dfz, .string wgz] by rw [hWY]; exact HAz.out.qw (yj FZ.out.res (by decide) _)) (show yF WY r (p + 2) by rw [hWY]; exact qU FZ.out.rd (by omega) _) (show Dr r w WY by rw [hWY]; exact qR FZ.out.dr (by omega) _)
  rw [<- hWY]
  clear hWY FZ HAz HTz hC
  (try simp only [Act.put])
  go_wp2_with fail
  exact bodyPost_ret (v := .agg #[.string nmz, .int .i64 kdz, .int .i64 lsz, .int .i64 msz, .slice az nz cz, .string toz, .int .i64 rlz, .bool muz, .bool fxz, .string dfz, .string wgz]) (results_cell_row Tryz.results84 _ _ (w.heap.size + 1) 63 #[.string nmz, .int .i64 kdz, .int .i64 lsz, .int .i64 msz, .slice az nz cz, .string toz, .int .i64 rlz, .bool muz, .bool fxz, .string dfz, .string wgz] _ _ rfl hRY Tryz.underlying63 rfl (by kernel_rfl)) rfl ⟨_, p + 2, rfl, HX.out.1, by omega, HX.out.2.1, HX.out.2.2⟩
end Go.Proofs.YtmfgjafdnopfbaaGreat
