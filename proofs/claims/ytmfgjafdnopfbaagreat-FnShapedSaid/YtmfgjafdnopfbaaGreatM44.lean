import Derived.Test.YtmfgjafdnopfbaaGreatM43
namespace Go.Proofs.YtmfgjafdnopfbaaGreat
open Go.RowKit
theorem qM.at {lo b : Nat} {w : World} {a : Option Addr} {n cap i : Nat} (h : qM lo b w (.slice a n cap)) (hi : i < n) : ∃ g kd fa fn fc C, a = some ⟨g, 0, none⟩ /\ lo <= g /\ w.heap[g]? = some (.cells C 45) /\ i * 2 + 2 <= C.size /\ w.cell? ⟨g, i * 2, none⟩ = some (.string kd) /\ w.cell? ⟨g, i * 2 + 1, none⟩ = some (.slice fa fn fc) /\ kd.size <= 4000000 /\ qp lo b w (.slice fa fn fc) := by
  obtain ⟨g, C, rfl, h1, h2, h3, h4⟩ := qE.cell h hi
  obtain ⟨x0, c0, kd, rfl, hk⟩ := h4 0 (by omega)
  obtain ⟨x1, c1, hf⟩ := h4 1 (by omega)
  have hf : qp lo b w x1 := hf
  obtain ⟨fa, fn, fc, rfl, -⟩ := hf.slice
  exact ⟨g, kd, fa, fn, fc, C, rfl, h1, h2, h3, c0, c1, hk, hf⟩
theorem zbZ {lo b : Nat} {w : World} {k o : Nat} {v : Value} {C : Array Value} (hk : w.heap[k]? = some (.cells C 45)) (h : zd3 lo b w (o % 2) v) : Keep lo b w (w.setCell ⟨k, o, none⟩ v) :=
  zaO hk ⟨fun e => by simp at e, fun e => by simp at e, fun _ => h, fun e => by simp at e, fun e => by simp at e, fun e => by simp at e⟩
theorem zau {lo b : Nat} {w : World} {g i : Nat} {C : Array Value} (hC : w.heap[g]? = some (.cells C 63)) (hs : i * 11 + 11 <= C.size) (h : ∀ j, j < 11 -> ∃ x, w.cell? ⟨g, i * 11 + j, none⟩ = some x /\ zcd lo b w j x) : ∃ cs : List Value, cs.length = 11 /\ yD lo b w cs.toArray /\ w.rangeAt g (i * 11) cs := by
  refine ⟨(C.toList.drop (i * 11)).take 11, by simp; omega, zfU (by simp; omega) fun j x hx => ?_, fun j v hv => ?_⟩
  · have hj : j < 11 := by have := (Array.getElem?_eq_some_iff.1 hx).1; simp at this; omega
    obtain ⟨y, hy, hf⟩ := h j hj
    have e : x = y := by
      rw [cell_of_block hC] at hy
      simp [hj, List.getElem?_drop] at hx
      have : some x = some y := by rw [<- hx, <- hy]
      exact Option.some.inj this
    rw [e]; exact hf
  · rw [cell_of_block hC]
    rw [List.getElem?_take] at hv
    split at hv
    · rw [List.getElem?_drop] at hv
      simpa using hv
    · cases hv
theorem zcG {lo b : Nat} {w : World} {cs : Array Value} (h : yD lo b w cs) : cs.all (·.oneCell') = true := by
  obtain ⟨nm, kd, ls, ms, a, n, c, to, rl, mu, fx, df, wg, rfl, -⟩ := h
  simp [Value.oneCell']
def zfl (lo r p : Nat) (w : World) (e : Ending) (w' : World) : Prop := ∃ (a : Option Addr) (n cap p' : Nat), e = .returned (.slice a n cap) /\ qM lo 1000004 w' (.slice a n cap) /\ n <= 1001 /\ p' <= p + 60 /\ yF w' r p' /\ Below lo (clr r w) (clr r w') /\ ∀ v, yE lo 1000002 w v -> yE lo 1000004 w' v
theorem za6 {lo r p p' : Nat} {w w' : World} {a : Option Addr} {n cap : Nat} (hS : St lo r w p' w') (hK : Keep lo 1000002 w w') (hV : qM lo 1000002 w' (.slice a n cap)) (hn : n <= 1001) (hp : p' <= p + 60) : zfl lo r p w (.returned (.slice a n cap)) w' :=
  ⟨a, n, cap, p', rfl, zaB (by omega) hV, hn, hp, hS.rd, hS.fr, fun v hv => hK.m v hv⟩
set_option maxRecDepth 10000 in
set_option maxHeartbeats 8000000 in
theorem zbp (a : Option Addr) (n cap lo r p : Nat) (w : World) (hV : qM lo 1000002 w (.slice a n cap)) (hn : n <= 900) (hp : p <= 20000) (hr : yF w r p) (hlo : r < lo) (hlw : lo <= w.heap.size) :
    Calls Tryz.prog 57 #[.pointer (some ⟨r, 0, none⟩), .slice a n cap] w (zfl lo r p w) := by
  have HV := hid hV
  clear hV
  go_enter Tryz.func57, Tryz.ntmps57
  go_upto_region 2 with fail
  refine zn (fun W => St lo r w p W /\ Keep lo 1000002 w W /\ qM lo 1000002 W (.slice (some ⟨w.heap.size, 0, none⟩) 0 0)) ⟨(St.start hr hlo hlw).alloc _, zf _ _ _ _, jy lo 1000 _ _ 2 0 w #[] hlw rfl (by simp [maxLen]) (by omega) (fun j x hx => by simp at hx)⟩ ?_
  rintro W1 hW1
  have H1 := hid hW1
  clear hW1 hr
  go_wp2_with fail
  go_loopw [5, 6] (fun vo vi wr => ∃ (b : Option Addr) (i c : Nat), vo = .slice b i c /\ vi = .int .i64 (i : Int) /\ i <= n /\ Hid (qM lo 1000002 wr (.slice b i c) /\ Keep lo 1000002 w wr /\ St lo r w p wr)) (fun _ vi _ => n - (intOf vi).toNat)
  case atStart => exact ⟨_, 0, 0, rfl, rfl, by omega, ⟨H1.out.2.2, H1.out.2.1, H1.out.1⟩⟩
  case round =>
    clear H1
    obtain ⟨ba, i, bc, rfl, rfl, hi, HI⟩ := hrel
    by_cases hin : i < n
    · have hiI : (i : Int) < (n : Int) := by omega
      obtain ⟨g, kd, fa, fn, fc, C, rfl, hg, hC, hCs, c0, c1, hkd, hfl⟩ := (HI.out.2.1.k _ HV.out).at hin
      have HF := hid hfl
      clear hfl hC hCs C
      go_upto_region 6 with fail
      refine zn (fun W => St lo r w p W /\ Keep lo 1000002 wr W /\ W.heap[wr.heap.size]? = some (.cells #[.string kd, .slice fa fn fc] 45)) ⟨HI.out.2.2.alloc _, zf _ _ _ _, (MapKept.heap_alloc wr _).1⟩ ?_
      rintro W2 ⟨hS2, hK2, hB2⟩
      obtain ⟨kS, hkS⟩ : ∃ k, k = wr.heap.size := ⟨_, rfl⟩
      rw [<- hkS] at hB2 ⊢
      have hkl : lo <= kS := by rw [hkS]; exact HI.out.2.2.le
      have H2 := yK hS2 hK2 hB2
      have cS := fun j => cell_of_block (o := j) hB2
      have zS := (Array.getElem?_eq_some_iff.1 hB2).1
      clear hS2 hK2 hB2 hkS c0 c1
      go_wp2_with (at_builtin; refine yM ?_)
      have hfn : fn <= 900 := by obtain ⟨_, _, _, e, h, -⟩ := HF.out.slice; cases e; exact h
      have hv : qp lo 1000002 (W2.alloc (.cells #[] 63)) (.slice (some ⟨W2.heap.size, 0, none⟩) 0 0) := jy lo 900 _ _ 11 0 W2 #[] H2.out.1.le rfl (by simp [maxLen]) (by omega) (fun j x hx => by simp at hx)
      have hu := (zf lo 1000002 W2 (.cells #[] 63)).f _ (H2.out.2.1.f _ HF.out)
      have hB3 := (((Below.refl _ W2).alloc (Nat.le_refl _) (.cells #[] 63)).block kS zS).trans H2.out.2.2
      obtain ⟨a4, c4, w4, hr4, hK4, hF4, hb4, ho4⟩ := zdg (ty := 34) hv hu (by omega) (by omega) (H2.out.1.alloc _).le
      have hB4 := ho4 _ _ _ hB3 (by decide)
      have H4 := zae ((H2.out.1.alloc _).down hb4) (H2.out.2.1.trans ((zf _ _ _ _).trans hK4)) hB4 hF4
      show wpList _ _ _ _ _ _
      refine wpList_append_run hr4 rfl rfl rfl rfl ?_
      have cS4 := fun j => cell_of_block (o := j) hB4
      have fS4 := fun j => za (o := j) hB4
      have zS4 := (Array.getElem?_eq_some_iff.1 hB4).1
      clear hr4 hK4 hF4 hb4 ho4 hu hv hB3 hB4 cS zS H2
      go_upto_region 7 with fail
      rw [Nat.zero_add] at H4
      refine zn (fun W => St lo r w p W /\ Keep lo 1000002 wr W /\ W.heap[kS]? = some (.cells #[.string kd, .slice a4 fn c4] 45) /\ qp lo 1000002 W (.slice a4 fn c4)) ⟨H4.out.1.set hkl, H4.out.2.1.trans (zbZ H4.out.2.2.1 H4.out.2.2.2), by rw [zu H4.out.2.2.1]; simp, (zbZ (o := 1) H4.out.2.2.1 H4.out.2.2.2).f _ H4.out.2.2.2⟩ ?_
      rintro W5 hW5
      have H5 := hid hW5
      have cS := fun j => cell_of_block (o := j) hW5.2.2.1
      have zS := (Array.getElem?_eq_some_iff.1 hW5.2.2.1).1
      clear hW5 H4 cS4 fS4 zS4
      go_wp2_with (at_builtin; refine yM ?_)
      have hu := jU hkd H5.out.2.2.2 H5.out.1.le (by omega)
      have hv := (zf lo 1000002 W5 (.cells #[.string kd, .slice a4 fn c4] 45)).k _ (H5.out.2.1.k _ HI.out.1)
      obtain ⟨a6, c6, w6, hr6, hK6, hF6, hb6, -⟩ := zch (ty := 23) hv hu (by omega) (by omega) (H5.out.1.alloc _).le
      have H6 := yK hF6 (HI.out.2.1.trans (H5.out.2.1.trans ((zf _ _ _ _).trans hK6))) ((H5.out.1.alloc _).down hb6)
      show wpList _ _ _ _ _ _
      refine wpList_append_run hr6 rfl rfl rfl rfl ?_
      clear hr6 hK6 hF6 hb6 hu hv cS
      go_wp2_with fail
      exact ⟨⟨a6, i + 1, c6, rfl, by go_num, by omega, H6⟩, by simp [intOf]; omega⟩
    · have hiI : ¬ (i : Int) < (n : Int) := by omega
      obtain rfl : i = n := by omega
      rcases Nat.eq_zero_or_pos i with h0 | h0
      · subst h0
        go_wp2_with fail
        refine (qC _ 3 3 lo 1000002 r p _ (yH lo 1000002 wr [⟨#[]⟩, ⟨#[75]⟩, ⟨#[107]⟩] HI.out.2.2.le (by simp) (by simp [maxLen]) (by simp +decide)) (by omega) (by omega) (by omega) (HI.out.2.2.alloc _).rd hlo).mono ?_
        rintro e w5 ⟨s5, rfl, hs5, hr_, D_⟩
        have H5 := qO ((HI.out.2.2.alloc _).call hr_ D_) (HI.out.2.1.trans ((zf _ _ _ _).trans (zN hlo D_)))
        clear hr_ D_
        go_wp2_with fail
        go_ret
        exact za6 (H5.out.1.alloc _) (H5.out.2.trans (zf _ _ _ _)) (jU (v := .slice none 0 0) hs5 (Or.inl rfl) H5.out.1.le (by omega)) (by omega) (by omega)
      · have h0I : ((i : Int) == 0) = false := by rw [beq_eq_false_iff_ne]; omega
        go_wp2_with fail
        refine (zQ i r p wr (by omega) (by omega) (by omega) HI.out.2.2.rd).mono ?_
        rintro e w2 ⟨k, rfl, hk, hr2, D2⟩
        have H2 := yK ((zN hlo D2).k _ HI.out.1) (HI.out.2.1.trans (zN hlo D2)) (HI.out.2.2.call hr2 D2)
        clear hr2 D2 HI
        go_wp2_with fail
        refine (zQ 6 r (p + 1) w2 (by omega) (by omega) (by omega) H2.out.2.2.rd).mono ?_
        rintro e w3 ⟨q, rfl, hq, hr3, D3⟩
        have H3 := yK ((zN hlo D3).k _ H2.out.1) (H2.out.2.1.trans (zN hlo D3)) (H2.out.2.2.call hr3 D3)
        clear hr3 D3 H2
        have hkI : (k : Int) < (i : Int) := by omega
        by_cases e0 : q = 0
        · subst e0
          go_wp2_with fail
          refine (qC _ 4 4 lo 1000002 r (p + 1 + 1) _ (yH lo 1000002 w3 [⟨#[]⟩, ⟨#[75]⟩, ⟨#[107]⟩, ⟨#[122, 122]⟩] H3.out.2.2.le (by simp) (by simp [maxLen]) (by simp +decide)) (by omega) (by omega) (by omega) (H3.out.2.2.alloc _).rd hlo).mono ?_
          rintro e w5 ⟨s5, rfl, hs5, hr_, D_⟩
          have H5 := yK ((zN hlo D_).k _ ((zf _ _ _ _).k _ H3.out.1)) (H3.out.2.1.trans ((zf _ _ _ _).trans (zN hlo D_))) ((H3.out.2.2.alloc _).call hr_ D_)
          clear hr_ D_ H3
          obtain ⟨g, kd, fa, fn, fc, C, rfl, hg, hC, hCs, c0, c1, hkd, hfl⟩ := H5.out.1.at hk
          have f0 : w5.frozen? ⟨g, k * 2, none⟩ = false := za hC
          have HK6 := hid (zbZ (lo := lo) (b := 1000002) (o := k * 2) (v := .string s5) hC (by rw [Nat.mul_mod_left]; exact ⟨s5, rfl, hs5⟩))
          clear hC hCs C hfl c1
          go_wp2_with fail
          go_ret
          exact za6 (H5.out.2.2.set hg) (H5.out.2.1.trans HK6.out) (HK6.out.k _ H5.out.1) (by omega) (by omega)
        have n0 : ((q : Int) == 0) = false := by rw [beq_eq_false_iff_ne]; omega
        by_cases e1 : q = 1
        · subst e1
          obtain ⟨g, kd, fa, fn, fc, C, rfl, hg, hC, hCs, c0, c1, hkd, hfl⟩ := H3.out.1.at h0
          have c0 : w3.cell? ⟨g, 0, none⟩ = some (.string kd) := by simpa using c0
          have c1 : w3.cell? ⟨g, 1, none⟩ = some (.slice fa fn fc) := by simpa using c1
          have h0J : (0 : Int) < (i : Int) := by omega
          have hu := hid (jU hkd hfl H3.out.2.2.le (by omega))
          have hv := hid ((zf lo 1000002 w3 (.cells #[.string kd, .slice fa fn fc] 45)).k _ H3.out.1)
          clear hC hCs C hfl
          go_wp2_with (at_builtin; refine yM ?_)
          obtain ⟨a6, c6, w6, hr6, hK6, hF6, hb6, -⟩ := zch (ty := 23) hv.out hu.out (by omega) (by omega) (H3.out.2.2.alloc _).le
          have H6 := yK hF6 (H3.out.2.1.trans ((zf _ _ _ _).trans hK6)) ((H3.out.2.2.alloc _).down hb6)
          show wpList _ _ _ _ _ _
          refine wpList_append_run hr6 rfl rfl rfl rfl ?_
          clear hr6 hK6 hF6 hb6 hu hv
          go_wp2_with fail
          go_ret
          exact za6 H6.out.2.2 H6.out.2.1 H6.out.1 (by omega) (by omega)
        have n1 : ((q : Int) == 1) = false := by rw [beq_eq_false_iff_ne]; omega
        by_cases e2 : q = 2
        · subst e2
          clear e0 e1
          go_wp2_with fail
          go_loopw [5] (fun vo wr => ∃ (b : Option Addr) (m c p' : Nat), vo = .slice b m c /\ m <= 1000 /\ Hid (qM lo 1000002 wr (.slice b m c) /\ Keep lo 1000002 w wr /\ St lo r w p' wr) /\ p' + (8 - m) <= p + 2 + 8 /\ p' <= p + 2 + 8) (fun vo _ => 8 - (match vo with | .slice _ m _ => m | _ => 0))
          case atStart => exact ⟨_, i, _, p + 2, rfl, by omega, H3, by omega, by omega⟩
          case round =>
            clear H3
            obtain ⟨ba, m, bc, p4, rfl, hm, H4, hp4, hp4'⟩ := hrel
            go_wp2_with fail
            refine (zQ 2 r p4 wr (by omega) (by omega) (by omega) H4.out.2.2.rd).mono ?_
            rintro e w5 ⟨q5, rfl, hq5, hr5, D5⟩
            have H5 := yK ((zN hlo D5).k _ H4.out.1) (H4.out.2.1.trans (zN hlo D5)) (H4.out.2.2.call hr5 D5)
            clear hr5 D5 H4
            by_cases hlt : m < 6 + q5
            · have hltI : (m : Int) < 6 + (q5 : Int) := by omega
              go_wp2_with fail
              refine (zal (m : Int) w5 (by omega) (by omega)).mono ?_
              rintro e w6 ⟨s6, rfl, hs6, hb6⟩
              have H6 := yK ((yO hb6).k _ H5.out.1) (H5.out.2.1.trans (yO hb6)) (H5.out.2.2.below hb6)
              clear hb6 H5
              have hs6n : ¬ 9223372036854775807 < 2 + s6.size := by omega
              have hs7 : (⟨#[122, 122]⟩ ++ s6 : ByteArray).size <= 4000000 := by rw [ByteArray.size_append]; have : (⟨#[122, 122]⟩ : ByteArray).size = 2 := rfl; omega
              go_wp2_with (at_builtin; refine yM ?_)
              have hu := jU (v := .slice none 0 0) hs7 (Or.inl rfl) H6.out.2.2.le (show 1 <= 1000002 by omega)
              have hv := (zf lo 1000002 w6 (.cells #[.string (⟨#[122, 122]⟩ ++ s6), .slice none 0 0] 45)).k _ H6.out.1
              obtain ⟨a8, c8, w8, hr8, hK8, hF8, hb8, -⟩ := zch (ty := 23) hv hu (by omega) (by omega) (H6.out.2.2.alloc _).le
              have H8 := yK hF8 (H6.out.2.1.trans ((zf _ _ _ _).trans hK8)) ((H6.out.2.2.alloc _).down hb8)
              show wpList _ _ _ _ _ _
              refine wpList_append_run hr8 rfl rfl rfl rfl ?_
              clear hr8 hK8 hF8 hb8 hu hv
              go_wp2_with fail
              exact ⟨⟨a8, m + 1, c8, p4 + 1, rfl, by omega, H8, by omega, by omega⟩, by simp; omega⟩
            · have hltI : ¬ (m : Int) < 6 + (q5 : Int) := by omega
              go_wp2_with fail
              go_ret
              exact za6 H5.out.2.2 H5.out.2.1 H5.out.1 (by omega) (by omega)
        have n2 : ((q : Int) == 2) = false := by rw [beq_eq_false_iff_ne]; omega
        by_cases e3 : q = 3
        · subst e3
          clear e0 e1 e2
          obtain ⟨g, kd, fa, fn, fc, C, rfl, hg, hC, -, -, c1, -, -⟩ := H3.out.1.at hk
          have hgr : g ≠ r := by omega
          have c1' := hid c1
          clear hC C c1
          go_wp2_with fail
          go_loopw [] (fun wr => ∃ (fa : Option Addr) (fn fc p' : Nat), Hid (qM lo 1000002 wr (.slice (some ⟨g, 0, none⟩) i bc) /\ Keep lo 1000002 w wr /\ St lo r w p' wr /\ wr.cell? ⟨g, k * 2 + 1, none⟩ = some (.slice fa fn fc)) /\ p' + (8 - fn) <= p + 10 /\ p' <= p + 10) (fun wr => 8 - (match wr.cell? ⟨g, k * 2 + 1, none⟩ with | some (.slice _ m _) => m | _ => 0))
          case atStart => exact ⟨fa, fn, fc, p + 2, ⟨H3.out.1, H3.out.2.1, H3.out.2.2, c1'.out⟩, by omega, by omega⟩
          case round =>
            clear H3 c1' fn fc fa
            obtain ⟨fa, fn, fc, p4, H4, hp4, hp4'⟩ := hrel
            go_upto_region 23 with fail
            have c4 : wr.drew.cell? ⟨g, k * 2 + 1, none⟩ = some (.slice fa fn fc) := H4.out.2.2.2
            have H4d := yK ((yY _ _ _).k _ H4.out.1) (H4.out.2.1.trans (yY _ _ wr)) H4.out.2.2.1.drew
            refine wp_region_held_drew (S := fun w' => w'.cell? ⟨g, k * 2 + 1, none⟩ = some (.slice fa fn fc)) (by kernel_rfl) c4 (fun hHeld => ?_)
            refine tG 0 ?_; refine tG 1 ?_; refine tG 2 ?_; refine tG 3 ?_; refine tG 4 ?_; refine tG 5 ?_; refine tG 6 ?_
            refine cH 7 rfl fun K hK => ?_
            go_simp
            refine (zQ 2 r p4 wr.drew (by omega) (by omega) (by omega) H4d.out.2.2.rd).mono ?_
            rintro e w5 ⟨q5, rfl, hq5, hr5, D5⟩
            have c5 : w5.cell? ⟨g, k * 2 + 1, none⟩ = some (.slice fa fn fc) := (World.cell?_of_block (a := ⟨g, k * 2 + 1, none⟩) (zH D5 (World.block_lt_of_cell? _ _ c4) hgr)).trans c4
            have H5 := zae ((zN hlo D5).k _ H4d.out.1) (H4d.out.2.1.trans (zN hlo D5)) (H4d.out.2.2.call hr5 D5) c5
            (try go_wp2_with fail)
            refine hK.out _ _ c5 (fun hHeld => ?_)
            clear hK K hr5 D5 H4d c4
            (try simp only [Act.put, sA, s0, sS])
            have hw8 : IntKind.i64.wrap (6 + (q5 : Int)) = 6 + (q5 : Int) := by rw [IntKind.wrap_i64]; omega
            by_cases hlt : fn < 6 + q5
            · have hltI : (fn : Int) < 6 + (q5 : Int) := by omega
              refine tG 8 ?_; refine tG 9 ?_
              refine wpAnyH_done (by kernel_rfl) ?_ _
              clear hHeld
              go_upto_region 24 with fail
              obtain ⟨g', kd, fa', fn', fc', C, e1, hg', hC, hCs, -, c1, -, hfl⟩ := H5.out.1.at hk
              cases e1
              obtain ⟨rfl, rfl, rfl⟩ : fa' = fa /\ fn' = fn /\ fc' = fc := by simpa using c1.symm.trans c5
              have hC5 : w5.drew.heap[g]? = some (.cells C 45) := hC
              have hcC : C[k * 2 + 1]? = some (.slice fa' fn' fc') := by rw [<- c5, cell_of_block hC]
              have H5d := zae ((yY _ _ _).k _ H5.out.1) (H5.out.2.1.trans (yY _ _ w5)) H5.out.2.2.1.drew ((yY _ _ _).f _ hfl)
              clear hfl
              refine yV (fun w' => w'.cell? ⟨g, k * 2 + 1, none⟩ = some (.slice fa' fn' fc')) [20] (by kernel_rfl) c5 (fun hHeld => ?_)
              refine tD 0 ?_; refine tD 1 ?_; refine tD 2 ?_; refine tD 3 ?_; refine tD 4 ?_; refine tD 5 ?_; refine tD 6 ?_; refine tD 7 ?_; refine tD 8 ?_; refine tD 9 ?_; refine tD 10 ?_; refine tD 11 ?_; refine tD 12 ?_
              refine cD 13 fun K hK => ?_
              go_simp
              refine (zal (fn' : Int) w5.drew (by omega) (by omega)).mono ?_
              rintro e w6 ⟨s6, rfl, hs6, hb6⟩
              have hC6 := (hb6.block g (Array.getElem?_eq_some_iff.1 hC5).1).trans hC5
              have H6 := zae ((yO hb6).k _ H5d.out.1) (H5d.out.2.1.trans (yO hb6)) (H5d.out.2.2.1.below hb6) ((yO hb6).f _ H5d.out.2.2.2)
              (try go_wp2_with fail)
              refine hK.out _ _ (fun _ => (cell_of_block hC6).trans hcC) (fun hHeld => ?_)
              clear hK K H5d hb6 H5 hC5
              (try simp only [Act.put, sA, s0, sS])
              replace hHeld := hHeld (by decide)
              have hs6n : ¬ 9223372036854775807 < 1 + s6.size := by omega
              have hs7 : (⟨#[103]⟩ ++ s6 : ByteArray).size <= 4000000 := by rw [ByteArray.size_append]; have : (⟨#[103]⟩ : ByteArray).size = 1 := rfl; omega
              refine tD 14 ?_; refine tD 15 ?_
              refine cD 16 fun K hK => ?_
              go_simp
              have hA7 : yD lo 1000002 w6 #[.string (⟨#[103]⟩ ++ s6), .int .i64 3, .int .i64 1, .int .i64 1, .slice none 0 0, .string ⟨#[]⟩, .int .i64 0, .bool false, .bool false, .string ⟨#[]⟩, .string ⟨#[]⟩] := ⟨_, _, _, _, _, _, _, _, _, _, _, _, _, rfl, hs7, by omega, by omega, by omega, Or.inl rfl, by decide, by omega, by decide, by decide⟩
              obtain ⟨w8, hw8⟩ : ∃ x, x = w6.alloc (.cells #[.string (⟨#[103]⟩ ++ s6), .int .i64 3, .int .i64 1, .int .i64 1, .slice none 0 0, .string ⟨#[]⟩, .int .i64 0, .bool false, .bool false, .string ⟨#[]⟩, .string ⟨#[]⟩] 63) := ⟨_, rfl⟩
              have hC8 : w8.heap[g]? = some (.cells C 45) := by rw [hw8]; exact (((Below.refl _ w6).alloc (Nat.le_refl _) _).block g (Array.getElem?_eq_some_iff.1 hC6).1).trans hC6
              have H8 := zeY (show qM lo 1000002 w8 _ by rw [hw8]; exact (zf _ _ _ _).k _ H6.out.1) (show Keep lo 1000002 w w8 by rw [hw8]; exact H6.out.2.1.trans (zf _ _ _ _)) (show St lo r w (p4 + 1) w8 by rw [hw8]; exact H6.out.2.2.1.alloc _) (show qp lo 1000002 w8 (.slice fa' fn' fc') by rw [hw8]; exact (zf _ _ _ _).f _ H6.out.2.2.2) (show qp lo 1000002 w8 (.slice (some ⟨w6.heap.size, 0, none⟩) 1 1) by rw [hw8]; exact zbS hA7 H6.out.2.2.1.le (by omega))
              (try go_wp2_with fail)
              rw [<- hw8]
              refine hK.out _ _ (fun _ => (cell_of_block hC8).trans hcC) (fun hHeld => ?_)
              clear hK K hw8 H6 hC6 hA7
              (try simp only [Act.put, sA, s0, sS])
              replace hHeld := hHeld (by decide)
              obtain ⟨a9, c9, w9, hr9, hK9, hF9, hb9, ho9⟩ := zdg (ty := 34) H8.out.2.2.2.1 H8.out.2.2.2.2 (by omega) (by omega) H8.out.2.2.1.le
              have hC9 := ho9 _ _ _ hC8 (by decide)
              have H9 := zae (hK9.k _ H8.out.1) (H8.out.2.1.trans hK9) (H8.out.2.2.1.down hb9) hF9
              refine cD 17 fun K hK => ?_
              refine jc hr9 rfl rfl rfl ?_
              refine hK.out _ _ (fun _ => (cell_of_block hC9).trans hcC) (fun hHeld => ?_)
              clear hK K hr9 hK9 hF9 hb9 ho9 H8 hC8
              (try simp only [Act.put, sA, s0, sS])
              replace hHeld := hHeld (by decide)
              have f9 : w9.frozen? ⟨g, k * 2 + 1, none⟩ = false := za hC9
              refine cD 18 fun K hK => ?_
              go_simp
              refine hK.out _ _ (fun _ => (cell_of_block hC9).trans hcC) (fun hHeld => ?_)
              clear hK K
              (try simp only [Act.put, sA, s0, sS])
              replace hHeld := hHeld (by decide)
              refine tD 19 ?_
              refine cD 20 fun K hK => ?_
              go_simp
              (try go_wp2_with fail)
              refine hK.out _ _ (fun h => absurd (by decide) h) (fun _ => ?_)
              clear hK K
              (try simp only [Act.put, sA, s0, sS])
              refine yx (by kernel_rfl) ?_ _
              have hK10 : Keep lo 1000002 w9 (w9.setCell ⟨g, k * 2 + 1, none⟩ (.slice a9 (fn' + 1) c9)) := zbZ hC9 (by rw [show (k * 2 + 1) % 2 = 1 by omega]; exact H9.out.2.2.2)
              have c10 : (w9.setCell ⟨g, k * 2 + 1, none⟩ (.slice a9 (fn' + 1) c9)).cell? ⟨g, k * 2 + 1, none⟩ = some (.slice a9 (fn' + 1) c9) := by rw [cell_of_block (zu hC9 _), Array.getElem?_setIfInBounds, if_pos rfl, if_pos (by omega)]
              have H10 := zae (hK10.k _ H9.out.1) (H9.out.2.1.trans hK10) (H9.out.2.2.1.set (o := k * 2 + 1) (v := .slice a9 (fn' + 1) c9) hg) c10
              have cw := hid H4.out.2.2.2
              clear H9 hK10 c10 hHeld hcC hC9 f9 hC H4
              go_wp2_with fail
              exact ⟨⟨a9, fn' + 1, c9, p4 + 1, H10, by omega, by omega⟩, by rw [H10.out.2.2.2, cw.out]; simp; omega⟩
            · have hltI : ¬ (fn : Int) < 6 + (q5 : Int) := by omega
              refine tG 8 ?_; refine tG 9 ?_
              refine wpAnyH_done (by kernel_rfl) ?_ _
              go_wp2_with fail
              go_ret
              exact za6 H5.out.2.2.1 H5.out.2.1 H5.out.1 (by omega) (by omega)
        have n3 : ((q : Int) == 3) = false := by rw [beq_eq_false_iff_ne]; omega
        clear e0 e1 e2 e3
        obtain ⟨g, kd, fa, fn, fc, C, rfl, hg, hC, -, -, c1, -, hfl⟩ := H3.out.1.at hk
        have hgr : g ≠ r := by omega
        have HF := hid hfl
        clear hfl
        rcases Nat.eq_zero_or_pos fn with hf0 | hf0
        · subst hf0
          clear hC C
          go_wp2_with fail
          go_ret
          exact za6 H3.out.2.2 H3.out.2.1 H3.out.1 (by omega) (by omega)
        · have hf0I : (0 : Int) < (fn : Int) := by omega
          have hfn : fn <= 1048576 := by obtain ⟨_, _, _, e, h, -⟩ := HF.out.slice; cases e; omega
          go_wp2_with fail
          refine (zQ fn r (p + 1 + 1) w3 (by omega) hfn (by omega) H3.out.2.2.rd).mono ?_
          rintro e w5 ⟨m, rfl, hm, hr5, D5⟩
          have hC5 := (zH D5 (Array.getElem?_eq_some_iff.1 hC).1 hgr).trans hC
          have c5 : w5.cell? ⟨g, k * 2 + 1, none⟩ = some (.slice fa fn fc) := (cell_of_block hC5).trans ((cell_of_block hC).symm.trans c1)
          obtain ⟨gf, Cf, rfl, hgf, hCf, hCfs, hcf⟩ := qE.cell ((zN hlo D5).f _ HF.out) hm
          have hgfr : gf ≠ r := by omega
          have H5 := yK ((zN hlo D5).k _ H3.out.1) (H3.out.2.1.trans (zN hlo D5)) (H3.out.2.2.call hr5 D5)
          obtain ⟨cs, hcs, hA, hrg⟩ := zau hCf hCfs hcf
          have HA := hid ((hA.keep (yY _ _ _)))
          have HR := qO (show w5.drew.heap[g]? = _ from hC5) (show w5.drew.heap[gf]? = _ from hCf)
          have hmI : (m : Int) < (fn : Int) := by omega
          have hcC : C[k * 2 + 1]? = some (.slice (some ⟨gf, 0, none⟩) fn fc) := by rw [<- c5, cell_of_block hC5]
          clear hr5 D5 c1 HF hcf hC
          go_upto_region 14 with fail
          have H5d := yK ((yY _ _ _).k _ H5.out.1) (H5.out.2.1.trans (yY _ _ w5)) H5.out.2.2.drew
          refine yV (fun w' => w'.cell? ⟨g, k * 2 + 1, none⟩ = some (.slice (some ⟨gf, 0, none⟩) fn fc) /\ w'.rangeAt gf (m * 11) cs) [17] (by kernel_rfl) ⟨c5, hrg⟩ (fun hHeld => ?_)
          refine tD 0 ?_; refine tD 1 ?_; refine tD 2 ?_; refine tD 3 ?_; refine tD 4 ?_; refine tD 5 ?_; refine tD 6 ?_; refine tD 7 ?_; refine tD 8 ?_; refine tD 9 ?_; refine tD 10 ?_; refine tD 11 ?_; refine tD 12 ?_; refine tD 13 ?_
          refine mD 14 (cs := cs) (b := gf) (o := m * 11) (fun _ h => h.2) Tryz.underlying63 rfl (by rw [hcs]; kernel_rfl) ?_
          refine cD 15 fun K hK => ?_
          go_simp
          refine (zdF cs.toArray lo r (p + 1 + 1 + 1) w5.drew HA.out (by omega) H5d.out.2.2.rd hlo H5d.out.2.2.le).mono ?_
          rintro e w6 ⟨ds, p6, rfl, hA6, hp6, hr6, D6⟩
          have hC6 := (zH D6 (Array.getElem?_eq_some_iff.1 HR.out.1).1 hgr).trans HR.out.1
          have hCf6 := (zH D6 (Array.getElem?_eq_some_iff.1 HR.out.2).1 hgfr).trans HR.out.2
          have H6 := zae ((zN hlo D6).k _ H5d.out.1) (H5d.out.2.1.trans (zN hlo D6)) (H5d.out.2.2.call hr6 D6) hA6
          have hS6 : w6.cell? ⟨g, k * 2 + 1, none⟩ = some (.slice (some ⟨gf, 0, none⟩) fn fc) /\ w6.rangeAt gf (m * 11) cs := ⟨(cell_of_block hC6).trans hcC, fun j v hv => by rw [cell_of_block hCf6, <- cell_of_block (w := w5) hCf]; exact hrg j v hv⟩
          have hds := hA6.cell.1
          (try go_wp2_with fail)
          refine hK.out _ _ (fun _ => hS6) (fun hHeld => ?_)
          clear hK K hr6 D6 H5d H5 HA
          (try simp only [Act.put, sA, s0, sS])
          replace hHeld := hHeld (by decide)
          refine tD 16 ?_
          refine cD 17 fun K hK => ?_
          refine wp_store_mid 63 (.tmp 75) (.tmp 74) rfl gf (m * 11) ds rfl rfl (zU hCf6 (by omega)) (by rw [hds]; kernel_rfl) (zcG hA6) ?_
          refine hK.out _ _ (fun h => absurd (by decide) h) (fun _ => ?_)
          clear hK K hHeld
          have hK7 : Keep lo 1000004 w6 (w6.setCells gf (m * 11) ds.toList) := (ziX hCf6 (by simp; omega) fun j x hx => ⟨fun e => by simp at e, fun _ => by
            have hj : j < 11 := by have := (List.getElem?_eq_some_iff.1 hx).1; simp at this; omega
            rw [show (m * 11 + j) % 11 = j by omega]
            exact H6.out.2.2.2.cell.2 j x (by simpa using hx), fun e => by simp at e, fun e => by simp at e, fun e => by simp at e, fun e => by simp at e⟩).keep
          have H7 := yK (hK7.k _ (zaB (by omega) H6.out.1)) (H6.out.2.2.1.put (o := m * 11) hgf ds.toList) (fun v (hv : yE lo 1000002 w v) => hK7.m _ (H6.out.2.1.m _ hv))
          clear hK7 H6 hS6 hCf6 hC6 hrg hCf hC5 c5
          (try simp only [Act.put])
          refine yx (by kernel_rfl) ?_ _
          obtain ⟨W8, hW8⟩ : ∃ x, x = w6.setCells gf (m * 11) ds.toList := ⟨_, rfl⟩
          rw [<- hW8] at H7 ⊢
          clear hW8 hA6
          go_wp2_with fail
          go_ret
          exact ⟨_, i, bc, p6, rfl, H7.out.1, by omega, by omega, H7.out.2.1.rd, H7.out.2.1.fr, H7.out.2.2⟩
end Go.Proofs.YtmfgjafdnopfbaaGreat
