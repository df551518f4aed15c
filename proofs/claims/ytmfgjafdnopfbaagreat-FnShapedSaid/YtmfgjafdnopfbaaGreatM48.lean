import Derived.Test.YtmfgjafdnopfbaaGreatM47
namespace Go.Proofs.YtmfgjafdnopfbaaGreat
open Go.RowKit
theorem yX {lo b k : Nat} {w : World} (h : yE lo b w (.slice (some ⟨k, 0, none⟩) 1 1)) : ∃ s0 s1 s2 s3 s4 s5 : ByteArray, w.heap[k]? = some (.cells #[.string s0, .string s1, .string s2, .string s3, .string s4, .string s5] 56) /\ k < w.heap.size /\ lo <= k /\ Hid (s0.size <= 4000000 /\ s1.size <= 4000000 /\ s2.size <= 4000000 /\ s3.size <= 4000000 /\ s4.size <= 4000000 /\ s5.size <= 4000000) := by
  rcases h with h | ⟨g, n, cap, C, h1, h2, h3, h4, h5, h6, h7, h8⟩
  · cases h
  · cases h1
    have h0 : C.size = 6 := h4
    have hg : ∀ j (hj : j < 6), zbM (C[j]'(by omega)) := fun j hj => h8 j _ (Array.getElem?_eq_getElem (by omega))
    have e : C = #[C[0], C[1], C[2], C[3], C[4], C[5]] := by
      apply Array.ext
      · simpa using h0
      · intro i h1 h2
        have h3 : i < 6 := by omega
        rcases i with _ | _ | _ | _ | _ | _ | i <;> first | rfl | omega
    obtain ⟨s0, e0, z0⟩ := hg 0 (by omega)
    obtain ⟨s1, e1, z1⟩ := hg 1 (by omega)
    obtain ⟨s2, e2, z2⟩ := hg 2 (by omega)
    obtain ⟨s3, e3, z3⟩ := hg 3 (by omega)
    obtain ⟨s4, e4, z4⟩ := hg 4 (by omega)
    obtain ⟨s5, e5, z5⟩ := hg 5 (by omega)
    rw [e0, e1, e2, e3, e4, e5] at e
    exact ⟨s0, s1, s2, s3, s4, s5, by rw [h3, e], (Array.getElem?_eq_some_iff.1 h3).1, h2, z0, z1, z2, z3, z4, z5⟩
theorem qd {lo b : Nat} {w : World} {s0 s1 s2 s3 s4 s5 : ByteArray} (h : s0.size <= 4000000 /\ s1.size <= 4000000 /\ s2.size <= 4000000 /\ s3.size <= 4000000 /\ s4.size <= 4000000 /\ s5.size <= 4000000) (hlo : lo <= w.heap.size) : yE lo b (w.alloc (.cells #[.string s0, .string s1, .string s2, .string s3, .string s4, .string s5] 56)) (.slice (some ⟨w.heap.size, 0, none⟩) 1 1) :=
  jy lo 1000 _ _ 6 1 w _ hlo (by simp) (by simp [maxLen]) (by omega) fun j x hx => by
    obtain ⟨h0, h1, h2, h3, h4, h5⟩ := h
    rcases j with _ | _ | _ | _ | _ | _ | j <;> simp at hx <;> subst hx
    · exact ⟨_, rfl, h0⟩
    · exact ⟨_, rfl, h1⟩
    · exact ⟨_, rfl, h2⟩
    · exact ⟨_, rfl, h3⟩
    · exact ⟨_, rfl, h4⟩
    · exact ⟨_, rfl, h5⟩
theorem zfe {lo b : Nat} {w : World} {k o : Nat} {v : Value} {C : Array Value} (hk : w.heap[k]? = some (.cells C 56)) (h : zbM v) : Keep lo b w (w.setCell ⟨k, o, none⟩ v) :=
  zaO hk ⟨fun e => by simp at e, fun e => by simp at e, fun e => by simp at e, fun _ => h, fun e => by simp at e, fun e => by simp at e⟩
structure MB (lo r : Nat) (w0 : World) (k : Nat) (v : Value) (p : Nat) (w : World) : Prop where
  st : St lo r w0 p w
  kp : Keep lo 1000004 w0 w
  row : yE lo 1000004 w v
  box : yE lo 1000004 w (.slice (some ⟨k, 0, none⟩) 1 1)
theorem MB.call {lo r : Nat} {w0 : World} {k : Nat} {v : Value} {p p' : Nat} {w w' : World} (h : MB lo r w0 k v p w) (hr : yF w' r p') (hd : Dr r w w') : MB lo r w0 k v p' w' :=
  have hk : Keep lo 1000004 w w' := zN h.st.c1 hd
  ⟨h.st.call hr hd, h.kp.trans hk, hk.m _ h.row, hk.m _ h.box⟩
theorem MB.alloc {lo r : Nat} {w0 : World} {k : Nat} {v : Value} {p : Nat} {w : World} (h : MB lo r w0 k v p w) (o : Obj) : MB lo r w0 k v p (w.alloc o) :=
  h.call (h.st.alloc o).rd (qV ((Below.refl _ _).alloc (Nat.le_refl _) _))
theorem MB.set {lo r : Nat} {w0 : World} {k : Nat} {v : Value} {p : Nat} {w : World} (h : MB lo r w0 k v p w) {j : Nat} {s : ByteArray} (hs : s.size <= 4000000) : MB lo r w0 k v p (w.setCell ⟨k, j, none⟩ (.string s)) := by
  obtain ⟨_, _, _, _, _, _, hC, _, hl, _⟩ := yX h.box
  have hk : Keep lo 1000004 w (w.setCell ⟨k, j, none⟩ (.string s)) := zfe hC ⟨s, rfl, hs⟩
  exact ⟨h.st.set hl, h.kp.trans hk, hk.m _ h.row, hk.m _ h.box⟩
def zgF (lo r p c : Nat) (w : World) (e : Ending) (w' : World) : Prop := ∃ (a : Option Addr) (n cap p' : Nat), e = .returned (.slice a n cap) /\ yE lo 1000004 w' (.slice a n cap) /\ n <= 1000 /\ p' <= p + c /\ yF w' r p' /\ Below lo (clr r w) (clr r w') /\ Keep lo 1000004 w w'
theorem zav {lo r p c p' : Nat} {w w' : World} {a : Option Addr} {n cap : Nat} (hS : St lo r w p' w') (hK : Keep lo 1000004 w w') (hV : yE lo 1000004 w' (.slice a n cap)) (hp : p' <= p + c) : zgF lo r p c w (.returned (.slice a n cap)) w' := by
  obtain ⟨_, _, _, e, h, -⟩ := hV.slice
  cases e
  exact ⟨a, n, cap, p', rfl, hV, h, hp, hS.rd, hS.fr, hK⟩
set_option maxRecDepth 10000 in
set_option maxHeartbeats 8000000 in
theorem zbE (a : Option Addr) (n cap lo r p : Nat) (w : World) (hV : yE lo 1000004 w (.slice a n cap)) (hn : n <= 900) (hp : p <= 30000) (hr : yF w r p) (hlo : r < lo) (hlw : lo <= w.heap.size) :
    Calls Tryz.prog 58 #[.pointer (some ⟨r, 0, none⟩), .slice a n cap] w (zgF lo r p 20 w) := by
  go_enter Tryz.func58, Tryz.ntmps58
  go_wp2_with (at_builtin; refine yM ?_)
  have hv : yE lo 1000004 (w.alloc (.cells #[] 56)) (.slice (some ⟨w.heap.size, 0, none⟩) 0 0) := jy lo 1000 _ _ 6 0 w #[] hlw rfl (by simp [maxLen]) (by omega) (fun j x hx => by simp at hx)
  have hu := (zf lo 1000004 w (.cells #[] 56)).m _ hV
  have hS := (St.start hr hlo hlw).alloc (.cells #[] 56)
  obtain ⟨a1, c1, w1, hr1, hK1, hF1, hb1, -⟩ := zar (ty := 24) hv hu (by omega) (by omega) hS.le
  have H1 := yK (hS.down hb1) ((zf lo 1000004 w _).trans hK1) hF1
  rw [Nat.zero_add] at H1 hr1
  show wpList _ _ _ _ _ _
  refine wpList_append_run hr1 rfl rfl rfl rfl ?_
  clear hr1 hK1 hF1 hb1 hu hv hS hV hr
  rcases Nat.eq_zero_or_pos n with h0 | h0
  · subst h0
    go_wp2_with fail
    refine (qC _ 2 2 lo 6 r (p) _ (yH lo 6 w1 [⟨#[102, 48]⟩, ⟨#[102, 49]⟩] H1.out.1.le (by simp) (by simp [maxLen]) (by simp +decide)) (by omega) (by omega) (by omega) (H1.out.1.alloc _).rd hlo).mono ?_
    rintro e v1 ⟨t1, rfl, ht1, hr_, D_⟩
    have Hv1 := qO ((H1.out.1.alloc _).call hr_ D_) (H1.out.2.1.trans ((zf _ _ _ _).trans (zN (b := 1000004) hlo D_)))
    clear hr_ D_ H1
    go_wp2_with fail
    refine (qC _ 3 3 lo 6 r (p + 1) _ (yH lo 6 v1 [⟨#[]⟩, ⟨#[102, 48]⟩, ⟨#[102, 49]⟩] Hv1.out.1.le (by simp) (by simp [maxLen]) (by simp +decide)) (by omega) (by omega) (by omega) (Hv1.out.1.alloc _).rd hlo).mono ?_
    rintro e v2 ⟨t2, rfl, ht2, hr_, D_⟩
    have Hv2 := qO ((Hv1.out.1.alloc _).call hr_ D_) (Hv1.out.2.trans ((zf _ _ _ _).trans (zN (b := 1000004) hlo D_)))
    clear hr_ D_ Hv1
    go_wp2_with fail
    refine (qC _ 3 3 lo 6 r (p + 2) _ (yH lo 6 v2 [⟨#[]⟩, ⟨#[49]⟩, ⟨#[97]⟩] Hv2.out.1.le (by simp) (by simp [maxLen]) (by simp +decide)) (by omega) (by omega) (by omega) (Hv2.out.1.alloc _).rd hlo).mono ?_
    rintro e v3 ⟨t3, rfl, ht3, hr_, D_⟩
    have Hv3 := qO ((Hv2.out.1.alloc _).call hr_ D_) (Hv2.out.2.trans ((zf _ _ _ _).trans (zN (b := 1000004) hlo D_)))
    clear hr_ D_ Hv2
    go_wp2_with fail
    refine (qC _ 3 3 lo 6 r (p + 3) _ (yH lo 6 v3 [⟨#[]⟩, ⟨#[102, 48]⟩, ⟨#[102, 50]⟩] Hv3.out.1.le (by simp) (by simp [maxLen]) (by simp +decide)) (by omega) (by omega) (by omega) (Hv3.out.1.alloc _).rd hlo).mono ?_
    rintro e v4 ⟨t4, rfl, ht4, hr_, D_⟩
    have Hv4 := qO ((Hv3.out.1.alloc _).call hr_ D_) (Hv3.out.2.trans ((zf _ _ _ _).trans (zN (b := 1000004) hlo D_)))
    clear hr_ D_ Hv3
    go_wp2_with fail
    go_ret
    exact zav (Hv4.out.1.alloc _) (Hv4.out.2.trans (zf _ _ _ _)) (qd ⟨by decide, ht1, ht2, by decide, ht3, ht4⟩ Hv4.out.1.le) (by omega)
  · have h0I : ((n : Int) == 0) = false := by rw [beq_eq_false_iff_ne]; omega
    go_wp2_with fail
    refine (zQ n r p w1 (by omega) (by omega) (by omega) H1.out.1.rd).mono ?_
    rintro e w2 ⟨k, rfl, hk, hr2, D2⟩
    have H2 := yK (H1.out.1.call hr2 D2) (H1.out.2.1.trans (zN (b := 1000004) hlo D2)) ((zN (b := 1000004) hlo D2).m _ H1.out.2.2)
    clear hr2 D2 H1
    obtain ⟨g, C, rfl, hg, hC, hCs, hc⟩ := H2.out.2.2.cell hk
    obtain ⟨x0, d0, s0, rfl, z0⟩ := hc 0 (by omega)
    obtain ⟨x1, d1, s1, rfl, z1⟩ := hc 1 (by omega)
    obtain ⟨x2, d2, s2, rfl, z2⟩ := hc 2 (by omega)
    obtain ⟨x3, d3, s3, rfl, z3⟩ := hc 3 (by omega)
    obtain ⟨x4, d4, s4, rfl, z4⟩ := hc 4 (by omega)
    obtain ⟨x5, d5, s5, rfl, z5⟩ := hc 5 (by omega)
    have d0 : w2.cell? ⟨g, k * 6, none⟩ = some (.string s0) := d0
    have hkI : (k : Int) < (n : Int) := by omega
    clear hc hC hCs C
    go_upto_region 5 with fail
    refine zn (MB lo r w w2.heap.size (.slice (some ⟨g, 0, none⟩) n c1) (p + 1)) ⟨H2.out.1.alloc _, H2.out.2.1.trans (zf _ _ _ _), (zf _ _ _ _).m _ H2.out.2.2, qd ⟨z0, z1, z2, z3, z4, z5⟩ H2.out.1.le⟩ ?_
    rintro W3 hW3
    obtain ⟨kM, hkM⟩ : ∃ k, k = w2.heap.size := ⟨_, rfl⟩
    rw [<- hkM] at hW3 ⊢
    clear hkM d0 d1 d2 d3 d4 d5 z0 z1 z2 z3 z4 z5 H2
    go_wp2_with fail
    refine (zQ 8 r (p + 1) W3 (by omega) (by omega) (by omega) hW3.st.rd).mono ?_
    rintro e w4 ⟨q4, rfl, hq4, hr4, D4⟩
    have F4 := hid (hW3.call hr4 D4)
    clear hr4 D4 hW3
    by_cases e0 : q4 = 0
    · subst e0
      go_wp2_with fail
      refine (qC _ 3 3 lo 6 r (p + 1 + 1) _ (yH lo 6 w4 [⟨#[]⟩, ⟨#[110, 111, 110, 101]⟩, ⟨#[122]⟩] F4.out.st.le (by simp) (by simp [maxLen]) (by simp +decide)) (by omega) (by omega) (by omega) (F4.out.alloc _).st.rd hlo).mono ?_
      rintro e w5 ⟨u5, rfl, hu5, hr_, D_⟩
      have F5 := hid ((F4.out.alloc _).call hr_ D_)
      clear hr_ D_ F4
      obtain ⟨s50, s51, s52, s53, s54, s55, hC5, hz5, hl5, hs5⟩ := yX F5.out.box
      have cM := fun j => cell_of_block (o := j) hC5
      have fM := fun j => za (o := j) hC5
      clear hC5
      go_upto_region 25 with fail
      refine zn (MB lo r w kM (.slice (some ⟨g, 0, none⟩) n c1) (p + 1 + 1 + 1)) (F5.out.set (j := 0) hu5) ?_
      rintro WZ h_
      have FZ := hid h_
      clear h_ F5
      clear cM fM hz5 hs5
      obtain ⟨sz0, sz1, sz2, sz3, sz4, sz5, hCz, hzz, hlz, hsz⟩ := yX FZ.out.box
      have cM := fun j => cell_of_block (o := j) hCz
      have fM := fun j => za (o := j) hCz
      clear hCz
      go_wp2_with (at_builtin; refine yM ?_)
      obtain ⟨a9, c9, w9, hr9, hK9, hF9, hb9, -⟩ := zar (ty := 24) ((zf lo 1000004 WZ (.cells #[.string sz0, .string sz1, .string sz2, .string sz3, .string sz4, .string sz5] 56)).m _ FZ.out.row) (qd hsz.out FZ.out.st.le) (by omega) (by omega) (FZ.out.st.alloc _).le
      have H9 := yK ((FZ.out.st.alloc _).down hb9) (FZ.out.kp.trans ((zf _ _ _ _).trans hK9)) hF9
      show wpList _ _ _ _ _ _
      refine wpList_append_run hr9 rfl rfl rfl rfl ?_
      clear hr9 hK9 hF9 hb9 cM fM FZ
      go_wp2_with fail
      go_ret
      exact zav H9.out.1 H9.out.2.1 H9.out.2.2 (by omega)
    have n0 : ((q4 : Int) == 0) = false := by rw [beq_eq_false_iff_ne]; omega
    by_cases e1 : q4 = 1
    · subst e1
      go_wp2_with fail
      refine (qC _ 4 4 lo 6 r (p + 1 + 1) _ (yH lo 6 w4 [⟨#[]⟩, ⟨#[102, 48]⟩, ⟨#[102, 49]⟩, ⟨#[102, 57]⟩] F4.out.st.le (by simp) (by simp [maxLen]) (by simp +decide)) (by omega) (by omega) (by omega) (F4.out.alloc _).st.rd hlo).mono ?_
      rintro e w5 ⟨u5, rfl, hu5, hr_, D_⟩
      have F5 := hid ((F4.out.alloc _).call hr_ D_)
      clear hr_ D_ F4
      obtain ⟨s50, s51, s52, s53, s54, s55, hC5, hz5, hl5, hs5⟩ := yX F5.out.box
      have cM := fun j => cell_of_block (o := j) hC5
      have fM := fun j => za (o := j) hC5
      clear hC5
      go_upto_region 25 with fail
      refine zn (MB lo r w kM (.slice (some ⟨g, 0, none⟩) n c1) (p + 1 + 1 + 1)) (F5.out.set (j := 1) hu5) ?_
      rintro WZ h_
      have FZ := hid h_
      clear h_ F5
      clear cM fM hz5 hs5
      obtain ⟨sz0, sz1, sz2, sz3, sz4, sz5, hCz, hzz, hlz, hsz⟩ := yX FZ.out.box
      have cM := fun j => cell_of_block (o := j) hCz
      have fM := fun j => za (o := j) hCz
      clear hCz
      go_wp2_with (at_builtin; refine yM ?_)
      obtain ⟨a9, c9, w9, hr9, hK9, hF9, hb9, -⟩ := zar (ty := 24) ((zf lo 1000004 WZ (.cells #[.string sz0, .string sz1, .string sz2, .string sz3, .string sz4, .string sz5] 56)).m _ FZ.out.row) (qd hsz.out FZ.out.st.le) (by omega) (by omega) (FZ.out.st.alloc _).le
      have H9 := yK ((FZ.out.st.alloc _).down hb9) (FZ.out.kp.trans ((zf _ _ _ _).trans hK9)) hF9
      show wpList _ _ _ _ _ _
      refine wpList_append_run hr9 rfl rfl rfl rfl ?_
      clear hr9 hK9 hF9 hb9 cM fM FZ
      go_wp2_with fail
      go_ret
      exact zav H9.out.1 H9.out.2.1 H9.out.2.2 (by omega)
    have n1 : ((q4 : Int) == 1) = false := by rw [beq_eq_false_iff_ne]; omega
    by_cases e2 : q4 = 2
    · subst e2
      obtain ⟨s40, s41, s42, s43, s44, s45, hC4, hz4, hl4, hs4⟩ := yX F4.out.box
      have cM := fun j => cell_of_block (o := j) hC4
      have fM := fun j => za (o := j) hC4
      clear hC4
      go_wp2_with fail
      refine (qC _ 4 4 lo 6 r (p + 1 + 1) _ (yH lo 6 w4 [⟨#[]⟩, ⟨#[102, 48]⟩, ⟨#[102, 49]⟩, s41] F4.out.st.le (by simp) (by simp [maxLen]) (by intro s hs_; simp only [List.mem_cons, List.not_mem_nil, or_false] at hs_; rcases hs_ with rfl | rfl | rfl | rfl <;> first | exact hs4.out.2.1 | decide)) (by omega) (by omega) (by omega) (F4.out.alloc _).st.rd hlo).mono ?_
      rintro e w5 ⟨u5, rfl, hu5, hr_, D_⟩
      have F5 := hid ((F4.out.alloc _).call hr_ D_)
      clear hr_ D_ F4
      clear cM fM hz4 hs4
      obtain ⟨s50, s51, s52, s53, s54, s55, hC5, hz5, hl5, hs5⟩ := yX F5.out.box
      have cM := fun j => cell_of_block (o := j) hC5
      have fM := fun j => za (o := j) hC5
      clear hC5
      go_upto_region 25 with fail
      refine zn (MB lo r w kM (.slice (some ⟨g, 0, none⟩) n c1) (p + 1 + 1 + 1)) (F5.out.set (j := 2) hu5) ?_
      rintro WZ h_
      have FZ := hid h_
      clear h_ F5
      clear cM fM hz5 hs5
      obtain ⟨sz0, sz1, sz2, sz3, sz4, sz5, hCz, hzz, hlz, hsz⟩ := yX FZ.out.box
      have cM := fun j => cell_of_block (o := j) hCz
      have fM := fun j => za (o := j) hCz
      clear hCz
      go_wp2_with (at_builtin; refine yM ?_)
      obtain ⟨a9, c9, w9, hr9, hK9, hF9, hb9, -⟩ := zar (ty := 24) ((zf lo 1000004 WZ (.cells #[.string sz0, .string sz1, .string sz2, .string sz3, .string sz4, .string sz5] 56)).m _ FZ.out.row) (qd hsz.out FZ.out.st.le) (by omega) (by omega) (FZ.out.st.alloc _).le
      have H9 := yK ((FZ.out.st.alloc _).down hb9) (FZ.out.kp.trans ((zf _ _ _ _).trans hK9)) hF9
      show wpList _ _ _ _ _ _
      refine wpList_append_run hr9 rfl rfl rfl rfl ?_
      clear hr9 hK9 hF9 hb9 cM fM FZ
      go_wp2_with fail
      go_ret
      exact zav H9.out.1 H9.out.2.1 H9.out.2.2 (by omega)
    have n2 : ((q4 : Int) == 2) = false := by rw [beq_eq_false_iff_ne]; omega
    by_cases e3 : q4 = 3
    · subst e3
      go_wp2_with fail
      refine (qC _ 2 2 lo 6 r (p + 1 + 1) _ (yH lo 6 w4 [⟨#[]⟩, ⟨#[120]⟩] F4.out.st.le (by simp) (by simp [maxLen]) (by simp +decide)) (by omega) (by omega) (by omega) (F4.out.alloc _).st.rd hlo).mono ?_
      rintro e w5 ⟨u5, rfl, hu5, hr_, D_⟩
      have F5 := hid ((F4.out.alloc _).call hr_ D_)
      clear hr_ D_ F4
      obtain ⟨s50, s51, s52, s53, s54, s55, hC5, hz5, hl5, hs5⟩ := yX F5.out.box
      have cM := fun j => cell_of_block (o := j) hC5
      have fM := fun j => za (o := j) hC5
      clear hC5
      go_upto_region 25 with fail
      refine zn (MB lo r w kM (.slice (some ⟨g, 0, none⟩) n c1) (p + 1 + 1 + 1)) (F5.out.set (j := 3) hu5) ?_
      rintro WZ h_
      have FZ := hid h_
      clear h_ F5
      clear cM fM hz5 hs5
      obtain ⟨sz0, sz1, sz2, sz3, sz4, sz5, hCz, hzz, hlz, hsz⟩ := yX FZ.out.box
      have cM := fun j => cell_of_block (o := j) hCz
      have fM := fun j => za (o := j) hCz
      clear hCz
      go_wp2_with (at_builtin; refine yM ?_)
      obtain ⟨a9, c9, w9, hr9, hK9, hF9, hb9, -⟩ := zar (ty := 24) ((zf lo 1000004 WZ (.cells #[.string sz0, .string sz1, .string sz2, .string sz3, .string sz4, .string sz5] 56)).m _ FZ.out.row) (qd hsz.out FZ.out.st.le) (by omega) (by omega) (FZ.out.st.alloc _).le
      have H9 := yK ((FZ.out.st.alloc _).down hb9) (FZ.out.kp.trans ((zf _ _ _ _).trans hK9)) hF9
      show wpList _ _ _ _ _ _
      refine wpList_append_run hr9 rfl rfl rfl rfl ?_
      clear hr9 hK9 hF9 hb9 cM fM FZ
      go_wp2_with fail
      go_ret
      exact zav H9.out.1 H9.out.2.1 H9.out.2.2 (by omega)
    have n3 : ((q4 : Int) == 3) = false := by rw [beq_eq_false_iff_ne]; omega
    by_cases e4 : q4 = 4
    · subst e4
      go_wp2_with fail
      refine (zcK r (p + 1 + 1) w4 (by omega) F4.out.st.rd).mono ?_
      rintro e w5 ⟨u5, rfl, hu5, hr_, D_⟩
      have F5 := hid (F4.out.call hr_ D_)
      clear hr_ D_ F4
      obtain ⟨s50, s51, s52, s53, s54, s55, hC5, hz5, hl5, hs5⟩ := yX F5.out.box
      have cM := fun j => cell_of_block (o := j) hC5
      have fM := fun j => za (o := j) hC5
      clear hC5
      go_upto_region 25 with fail
      refine zn (MB lo r w kM (.slice (some ⟨g, 0, none⟩) n c1) (p + 1 + 1 + 3)) (F5.out.set (j := 4) hu5) ?_
      rintro WZ h_
      have FZ := hid h_
      clear h_ F5
      clear cM fM hz5 hs5
      obtain ⟨sz0, sz1, sz2, sz3, sz4, sz5, hCz, hzz, hlz, hsz⟩ := yX FZ.out.box
      have cM := fun j => cell_of_block (o := j) hCz
      have fM := fun j => za (o := j) hCz
      clear hCz
      go_wp2_with (at_builtin; refine yM ?_)
      obtain ⟨a9, c9, w9, hr9, hK9, hF9, hb9, -⟩ := zar (ty := 24) ((zf lo 1000004 WZ (.cells #[.string sz0, .string sz1, .string sz2, .string sz3, .string sz4, .string sz5] 56)).m _ FZ.out.row) (qd hsz.out FZ.out.st.le) (by omega) (by omega) (FZ.out.st.alloc _).le
      have H9 := yK ((FZ.out.st.alloc _).down hb9) (FZ.out.kp.trans ((zf _ _ _ _).trans hK9)) hF9
      show wpList _ _ _ _ _ _
      refine wpList_append_run hr9 rfl rfl rfl rfl ?_
      clear hr9 hK9 hF9 hb9 cM fM FZ
      go_wp2_with fail
      go_ret
      exact zav H9.out.1 H9.out.2.1 H9.out.2.2 (by omega)
    have n4 : ((q4 : Int) == 4) = false := by rw [beq_eq_false_iff_ne]; omega
    by_cases e5 : q4 = 5
    · subst e5
      obtain ⟨s40, s41, s42, s43, s44, s45, hC4, hz4, hl4, hs4⟩ := yX F4.out.box
      have cM := fun j => cell_of_block (o := j) hC4
      have fM := fun j => za (o := j) hC4
      clear hC4
      go_wp2_with fail
      refine (qC _ 4 4 lo 6 r (p + 1 + 1) _ (yH lo 6 w4 [⟨#[]⟩, ⟨#[102, 48]⟩, ⟨#[102, 49]⟩, s41] F4.out.st.le (by simp) (by simp [maxLen]) (by intro s hs_; simp only [List.mem_cons, List.not_mem_nil, or_false] at hs_; rcases hs_ with rfl | rfl | rfl | rfl <;> first | exact hs4.out.2.1 | decide)) (by omega) (by omega) (by omega) (F4.out.alloc _).st.rd hlo).mono ?_
      rintro e w5 ⟨u5, rfl, hu5, hr_, D_⟩
      have F5 := hid ((F4.out.alloc _).call hr_ D_)
      clear hr_ D_ F4
      clear cM fM hz4 hs4
      obtain ⟨s50, s51, s52, s53, s54, s55, hC5, hz5, hl5, hs5⟩ := yX F5.out.box
      have cM := fun j => cell_of_block (o := j) hC5
      have fM := fun j => za (o := j) hC5
      clear hC5
      go_upto_region 25 with fail
      refine zn (MB lo r w kM (.slice (some ⟨g, 0, none⟩) n c1) (p + 1 + 1 + 1)) (F5.out.set (j := 5) hu5) ?_
      rintro WZ h_
      have FZ := hid h_
      clear h_ F5
      clear cM fM hz5 hs5
      obtain ⟨sz0, sz1, sz2, sz3, sz4, sz5, hCz, hzz, hlz, hsz⟩ := yX FZ.out.box
      have cM := fun j => cell_of_block (o := j) hCz
      have fM := fun j => za (o := j) hCz
      clear hCz
      go_wp2_with (at_builtin; refine yM ?_)
      obtain ⟨a9, c9, w9, hr9, hK9, hF9, hb9, -⟩ := zar (ty := 24) ((zf lo 1000004 WZ (.cells #[.string sz0, .string sz1, .string sz2, .string sz3, .string sz4, .string sz5] 56)).m _ FZ.out.row) (qd hsz.out FZ.out.st.le) (by omega) (by omega) (FZ.out.st.alloc _).le
      have H9 := yK ((FZ.out.st.alloc _).down hb9) (FZ.out.kp.trans ((zf _ _ _ _).trans hK9)) hF9
      show wpList _ _ _ _ _ _
      refine wpList_append_run hr9 rfl rfl rfl rfl ?_
      clear hr9 hK9 hF9 hb9 cM fM FZ
      go_wp2_with fail
      go_ret
      exact zav H9.out.1 H9.out.2.1 H9.out.2.2 (by omega)
    have n5 : ((q4 : Int) == 5) = false := by rw [beq_eq_false_iff_ne]; omega
    by_cases e6 : q4 = 6
    · subst e6
      obtain ⟨s40, s41, s42, s43, s44, s45, hC4, hz4, hl4, hs4⟩ := yX F4.out.box
      have cM := fun j => cell_of_block (o := j) hC4
      have fM := fun j => za (o := j) hC4
      clear hC4
      go_upto_region 25 with fail
      refine zn (MB lo r w kM (.slice (some ⟨g, 0, none⟩) n c1) (p + 1 + 1)) ((F4.out.set (j := 2) hs4.out.2.1).set (j := 1) hs4.out.2.2.1) ?_
      rintro WZ h_
      have FZ := hid h_
      clear h_ F4
      clear cM fM hz4 hs4
      obtain ⟨sz0, sz1, sz2, sz3, sz4, sz5, hCz, hzz, hlz, hsz⟩ := yX FZ.out.box
      have cM := fun j => cell_of_block (o := j) hCz
      have fM := fun j => za (o := j) hCz
      clear hCz
      go_wp2_with (at_builtin; refine yM ?_)
      obtain ⟨a9, c9, w9, hr9, hK9, hF9, hb9, -⟩ := zar (ty := 24) ((zf lo 1000004 WZ (.cells #[.string sz0, .string sz1, .string sz2, .string sz3, .string sz4, .string sz5] 56)).m _ FZ.out.row) (qd hsz.out FZ.out.st.le) (by omega) (by omega) (FZ.out.st.alloc _).le
      have H9 := yK ((FZ.out.st.alloc _).down hb9) (FZ.out.kp.trans ((zf _ _ _ _).trans hK9)) hF9
      show wpList _ _ _ _ _ _
      refine wpList_append_run hr9 rfl rfl rfl rfl ?_
      clear hr9 hK9 hF9 hb9 cM fM FZ
      go_wp2_with fail
      go_ret
      exact zav H9.out.1 H9.out.2.1 H9.out.2.2 (by omega)
    have n6 : ((q4 : Int) == 6) = false := by rw [beq_eq_false_iff_ne]; omega
    go_wp2_with fail
    go_loopw [5] (fun vo wr => ∃ (b : Option Addr) (m c p' : Nat), vo = .slice b m c /\ m <= 900 /\ Hid (MB lo r w kM (.slice b m c) p' wr) /\ p' + (14 - m) <= p + 2 + 14 /\ p' <= p + 2 + 14) (fun vo _ => 14 - (match vo with | .slice _ m _ => m | _ => 0))
    case atStart => exact ⟨_, n, _, p + 2, rfl, by omega, F4, by omega, by omega⟩
    case round =>
      clear F4
      obtain ⟨ba, m, bc, p5, rfl, hm, F5, hp5, hp5'⟩ := hrel
      go_wp2_with fail
      refine (zQ 2 r p5 wr (by omega) (by omega) (by omega) F5.out.st.rd).mono ?_
      rintro e w6 ⟨q6, rfl, hq6, hr6, D6⟩
      have F6 := hid (F5.out.call hr6 D6)
      clear hr6 D6 F5
      by_cases hlt : m < 12 + q6
      · have hltI : (m : Int) < 12 + (q6 : Int) := by omega
        obtain ⟨sz0, sz1, sz2, sz3, sz4, sz5, hCz, hzz, hlz, hsz⟩ := yX F6.out.box
        have cM := fun j => cell_of_block (o := j) hCz
        have fM := fun j => za (o := j) hCz
        clear hCz
        go_wp2_with (at_builtin; refine yM ?_)
        obtain ⟨a9, c9, w9, hr9, hK9, hF9, hb9, -⟩ := zar (ty := 24) ((zf lo 1000004 w6 (.cells #[.string sz0, .string sz1, .string sz2, .string sz3, .string sz4, .string sz5] 56)).m _ F6.out.row) (qd hsz.out F6.out.st.le) (by omega) (by omega) (F6.out.st.alloc _).le
        have H9 : Hid (MB lo r w kM (.slice a9 (m + 1) c9) (p5 + 1) w9) := ⟨(F6.out.st.alloc _).down hb9, F6.out.kp.trans ((zf _ _ _ _).trans hK9), hF9, hK9.m _ ((zf _ _ _ _).m _ F6.out.box)⟩
        show wpList _ _ _ _ _ _
        refine wpList_append_run hr9 rfl rfl rfl rfl ?_
        clear hr9 hK9 hF9 hb9 cM fM F6
        go_wp2_with fail
        exact ⟨⟨a9, m + 1, c9, p5 + 1, rfl, by omega, H9, by omega, by omega⟩, by simp; omega⟩
      · have hltI : ¬ (m : Int) < 12 + (q6 : Int) := by omega
        go_wp2_with fail
        go_ret
        exact zav F6.out.st F6.out.kp F6.out.row (by omega)
end Go.Proofs.YtmfgjafdnopfbaaGreat
