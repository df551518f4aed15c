import Derived.Test.YtmfgjafdnopfbaaGreatM40
namespace Go.Proofs.YtmfgjafdnopfbaaGreat
open Go.RowKit
section
variable {P : Program} {ops : Array Oper} {Q : Exit -> Act -> World -> Prop} {md : Region.Mode} {S : World -> Prop}
theorem c2H (i j : Nat) {oi oj : Oper} {fuel : Nat} {listed : Array Bool} {a : Act} {w : World}
    (h1 : ∀ K : Act -> World -> Prop, Shut (∀ a w, S w -> (S w -> wpAnyH P md ops Q S fuel (listed.setIfInBounds i true) a w) -> K a w) -> Oper.wp P oi a w K Q)
    (h2 : ∀ K : Act -> World -> Prop, Shut (∀ a w, S w -> (S w -> wpAnyH P md ops Q S fuel (listed.setIfInBounds j true) a w) -> K a w) -> Oper.wp P oj a w K Q)
    (hi : nth ops.toList i = some oi := by rfl) (hj : nth ops.toList j = some oj := by rfl) (hr : Region.ready md ops listed = [i, j] := by kernel_rfl)
    (hwi : Region.wanted oi (yielded ops a.tmps) = true := by rfl) (hwj : Region.wanted oj (yielded ops a.tmps) = true := by rfl) : wpAnyH P md ops Q S (fuel + 1) listed a w :=
  wpAnyH_ready hr (by simp) (AllReadyH.cons (jZ hi) (fun K hK => by rw [if_pos hwi]; exact h1 K hK) (AllReadyH.cons (jZ hj) (fun K hK => by rw [if_pos hwj]; exact h2 K hK) AllReadyH.nil))
end
theorem ziF {q : Nat} (h : q < 3) : ∃ x : ByteArray, (#[.string ⟨#[116]⟩, .string ⟨#[126]⟩, .string ⟨#[33]⟩] : Array Value)[q]? = some (.string x) /\ x.size <= 1 := by
  rcases q with _ | _ | _ | q
  · exact ⟨_, rfl, by decide⟩
  · exact ⟨_, rfl, by decide⟩
  · exact ⟨_, rfl, by decide⟩
  · omega
theorem zi7 {q d : Int} (h0 : 0 <= q) (h1 : q <= 255) (h2 : 0 <= d) : 0 <= q * d /\ q * d <= 255 * d := ⟨Int.mul_nonneg h0 h2, Int.mul_le_mul_of_nonneg_right h1 h2⟩
set_option maxRecDepth 10000 in
set_option maxHeartbeats 4000000 in
theorem zcM (cs : Array Value) (oa : Option Addr) (on oc lo B r p : Nat) (w : World) (hA : yD lo B w cs) (hO : zh4 lo B w (.slice oa on oc)) (hB : B <= 1048570) (hon : on <= 1000) (hp : p <= 40000) (hr : yF w r p) (hlo : r < lo) (hlw : lo <= w.heap.size) :
    Calls Tryz.prog 83 #[.pointer (some ⟨r, 0, none⟩), .agg cs, .agg #[.int .i64 0, .int .i64 0, .int .i64 0, .slice oa on oc, .slice none 0 0, .slice none 0 0, .slice none 0 0]] w fun e w' => ∃ s : ByteArray, ∃ p' : Nat, e = .returned (.string s) /\ s.size <= 4000000 /\ p' <= p + 2 /\ yF w' r p' /\ Dr r w w' := by
  have hlt := hr.lt
  obtain ⟨nm, kd, ls, ms, wa, wn, wc, to, rl, mu, fx, df, wg, rfl, -, -, ⟨hl1, hl2⟩, ⟨hm1, hm2⟩, hT, -⟩ := id hA
  have HX := qO hT hO
  clear hT hO hA
  go_enter Tryz.func83, Tryz.ntmps83
  go_upto_region 1 with fail
  refine zn (fun W => St w.heap.size r w p W /\ W.heap[w.heap.size]? = some (.cells #[.string nm, .int .i64 kd, .int .i64 ls, .int .i64 ms, .slice wa wn wc, .string to, .int .i64 rl, .bool mu, .bool fx, .string df, .string wg] 63) /\ W.heap[w.heap.size + 1]? = some (.cells #[.int .i64 0, .int .i64 0, .int .i64 0, .slice oa on oc, .slice none 0 0, .slice none 0 0, .slice none 0 0] 102) /\ Keep lo B w W) ⟨((St.start hr hlt (Nat.le_refl _)).alloc _).alloc _, (zq _ _ _).1, (zq _ _ _).2, (zf _ _ _ _).trans (zf _ _ _ _)⟩ ?_
  rintro W0 ⟨hS, hC, hD, hK⟩
  have H0 := qO hS hK
  have HC := hid hC
  have HD := hid hD
  have cF := fun j => cell_of_block (o := j) hC
  have cB := fun j => cell_of_block (o := j) hD
  have zF := (Array.getElem?_eq_some_iff.1 hC).1
  have zB := (Array.getElem?_eq_some_iff.1 hD).1
  have hkr : w.heap.size ≠ r := by omega
  clear hS hK hC hD hr
  by_cases k1 : kd = 1
  · subst k1
    by_cases hgt : ls < ms
    ·
      go_upto_region 4 with fail
      have cFd : ∀ j, W0.drew.cell? ⟨w.heap.size, j, none⟩ = (#[.string nm, .int .i64 1, .int .i64 ls, .int .i64 ms, .slice wa wn wc, .string to, .int .i64 rl, .bool mu, .bool fx, .string df, .string wg] : Array Value)[j]? := cF
      have e1 : IntKind.i64.wrap (ms - ls) = ms - ls := by rw [IntKind.wrap_i64]; omega
      refine wp_region_held_drew (S := fun w' => ∀ j, w'.cell? ⟨w.heap.size, j, none⟩ = (#[.string nm, .int .i64 1, .int .i64 ls, .int .i64 ms, .slice wa wn wc, .string to, .int .i64 rl, .bool mu, .bool fx, .string df, .string wg] : Array Value)[j]?) (by kernel_rfl) cFd (fun hHeld => ?_)
      refine tG 0 ?_; refine tG 1 ?_; refine tG 2 ?_; refine tG 4 ?_; refine tG 5 ?_; refine tG 6 ?_; refine tG 7 ?_; refine tG 8 ?_
      refine cH 3 rfl fun K hK => ?_
      go_simp
      refine (zQ 256 r p W0.drew (by omega) (by omega) (by omega) H0.out.1.drew.rd).mono ?_
      rintro e w1 ⟨q, rfl, hq, hr1, D1⟩
      have hC1 := (zH D1 (show w.heap.size < W0.drew.heap.size from zF) hkr).trans (show W0.drew.heap[w.heap.size]? = _ from HC.out)
      have H1 := hid (H0.out.1.drew.call hr1 D1)
      clear hr1 D1
      (try go_wp2_with fail)
      refine hK.out _ _ (fun j => cell_of_block hC1) (fun hHeld => ?_)
      clear hK K cF cFd
      (try simp only [Act.put, sA, s0, sS])
      obtain ⟨m0, m1⟩ := zi7 (q := (q : Int)) (d := ms - ls) (by omega) (by omega) (by omega)
      have e2 : IntKind.i64.wrap ((q : Int) * (ms - ls)) = (q : Int) * (ms - ls) := by rw [IntKind.wrap_i64]; omega
      obtain ⟨M, hM⟩ : ∃ M, M = (q : Int) * (ms - ls) := ⟨_, rfl⟩
      rw [<- hM] at m0 m1 e2
      refine tG 9 ?_
      rw [<- hM]
      clear hM
      have e3 : IntKind.i64.wrap (ls + IntKind.i64.wrap (M.tdiv 255)) = ls + M / 255 := by rw [Int.tdiv_eq_ediv_of_nonneg m0, IntKind.wrap_i64, IntKind.wrap_i64]; omega
      refine tG 10 ?_; refine tG 11 ?_
      refine cH 12 rfl fun K hK => ?_
      go_simp
      refine (zal (ls + M / 255) w1 (by omega) (by omega)).mono ?_
      rintro e w2 ⟨s2, rfl, hs2, hb2⟩
      have H2 := hid (H1.out.below hb2)
      have hC2 := (hb2.block _ (Array.getElem?_eq_some_iff.1 hC1).1).trans hC1
      have hs3 : s2.size <= 4000000 := by omega
      clear hs2
      (try go_wp2_with fail)
      refine hK.out _ _ (fun j => cell_of_block hC2) (fun hHeld => ?_)
      clear hK K
      (try simp only [Act.put, sA, s0, sS])
      refine tG 13 ?_
      refine wpAnyH_done (by kernel_rfl) ?_ _
      go_wp2_with fail
      go_ret
      exact ⟨s2, p + 1, rfl, hs3, by omega, H2.out.rd, H2.out.fr⟩
    · go_wp2_with fail
      refine (zal ls W0 (by omega) (by omega)).mono ?_
      rintro e w2 ⟨s2, rfl, hs2, hb2⟩
      have H2 := hid (H0.out.1.below hb2)
      have hs3 : s2.size <= 4000000 := by omega
      clear hs2 hb2
      go_wp2_with fail
      go_ret
      exact ⟨s2, p, rfl, hs3, by omega, H2.out.rd, H2.out.fr⟩
  have n1 : (kd == 1) = false := by rw [beq_eq_false_iff_ne]; exact k1
  by_cases k2 : kd = 2
  · subst k2
    rcases Nat.eq_zero_or_pos wn with hw | hw
    · subst hw
      go_wp2_with fail
      go_ret
      exact ⟨⟨#[]⟩, p, rfl, by decide, by omega, H0.out.1.rd, H0.out.1.fr⟩
    · have hwI : ((wn : Int) == 0) = false := by rw [beq_eq_false_iff_ne]; omega
      have hwn : wn <= 1048576 := by obtain ⟨_, _, _, e, h, -⟩ := HX.out.1.slice; cases e; omega
      go_wp2_with fail
      refine (qC wa wn wc lo B r p W0 (H0.out.2.s _ HX.out.1) (by omega) hwn (by omega) H0.out.1.rd hlo).mono ?_
      rintro e w2 ⟨s2, rfl, hs2, hr2, D2⟩
      have H2 := hid (H0.out.1.call hr2 D2)
      clear hr2 D2
      go_wp2_with fail
      go_ret
      exact ⟨s2, p + 1, rfl, hs2, by omega, H2.out.rd, H2.out.fr⟩
  have n2 : (kd == 2) = false := by rw [beq_eq_false_iff_ne]; exact k2
  by_cases k3 : kd = 3
  · subst k3
    clear k1 k2
    go_upto_region 11 with fail
    have cFd : ∀ j, W0.drew.cell? ⟨w.heap.size, j, none⟩ = (#[.string nm, .int .i64 3, .int .i64 ls, .int .i64 ms, .slice wa wn wc, .string to, .int .i64 rl, .bool mu, .bool fx, .string df, .string wg] : Array Value)[j]? := cF
    have HCd := hid (show W0.drew.heap[w.heap.size]? = some (.cells #[.string nm, .int .i64 3, .int .i64 ls, .int .i64 ms, .slice wa wn wc, .string to, .int .i64 rl, .bool mu, .bool fx, .string df, .string wg] 63) from HC.out)
    have Hd := hid H0.out.1.drew
    obtain ⟨V, hV⟩ : ∃ V, V = W0.drew := ⟨_, rfl⟩
    have hVz : w.heap.size < V.heap.size := by rw [hV]; exact zF
    have e1 : IntKind.i64.wrap (IntKind.i64.wrap (ms - ls) + 1) = ms - ls + 1 := by rw [IntKind.wrap_i64, IntKind.wrap_i64]; omega
    refine wp_region_held_drew (S := fun w' => ∀ j, w'.cell? ⟨w.heap.size, j, none⟩ = (#[.string nm, .int .i64 3, .int .i64 ls, .int .i64 ms, .slice wa wn wc, .string to, .int .i64 rl, .bool mu, .bool fx, .string df, .string wg] : Array Value)[j]?) (by kernel_rfl) cFd (fun hHeld => ?_)
    rw [<- hV] at cFd HCd Hd hHeld ⊢
    clear hV H0 HC cF cB HD zF zB
    refine tG 1 ?_; refine tG 5 ?_; refine tG 6 ?_; refine tG 7 ?_; refine tG 8 ?_; refine tG 9 ?_; refine tG 10 ?_; refine tG 11 ?_; refine tG 12 ?_; refine tG 13 ?_

    refine c2H 0 2 (fun K hK => ?_) (fun K hK => ?_)
    ·
      go_simp
      obtain ⟨v1, hv1⟩ : ∃ U, U = V.alloc (.cells #[.string ⟨#[116]⟩, .string ⟨#[126]⟩, .string ⟨#[33]⟩] 9) := ⟨_, rfl⟩
      have C1 := hid (show v1.heap[w.heap.size]? = some (.cells #[.string nm, .int .i64 3, .int .i64 ls, .int .i64 ms, .slice wa wn wc, .string to, .int .i64 rl, .bool mu, .bool fx, .string df, .string wg] 63) by rw [hv1]; exact (((Below.refl _ V).alloc (Nat.le_refl _) _).block _ (Array.getElem?_eq_some_iff.1 HCd.out).1).trans HCd.out)
      have S1 := hid (show St w.heap.size r w (p) v1 by rw [hv1]; exact Hd.out.alloc _)
      have L1 := hid (show v1.heap[V.heap.size]? = some (.cells #[.string ⟨#[116]⟩, .string ⟨#[126]⟩, .string ⟨#[33]⟩] 9) by rw [hv1]; exact (MapKept.heap_alloc V _).1)
      have N1 : V.heap.size ≠ r := by have := Hd.out.le; omega
      (try go_wp2_with fail)
      rw [<- hv1]
      refine hK.out _ _ (fun j => cell_of_block C1.out) (fun hHeld => ?_)
      clear hK K hv1
      (try simp only [Act.put, sA, s0, sS])
      refine cH 2 rfl fun K hK => ?_
      go_simp
      refine (zQ 3 r (p) v1 (by omega) (by omega) (by omega) S1.out.rd).mono ?_
      rintro e v2 ⟨q2, rfl, hq2, hr_, D_⟩
      have C2 := hid ((zH D_ (Array.getElem?_eq_some_iff.1 C1.out).1 hkr).trans C1.out)
      have S2 := hid (S1.out.call hr_ D_)
      have L2 := hid ((zH D_ (Array.getElem?_eq_some_iff.1 L1.out).1 N1).trans L1.out)
      clear hr_ D_
      (try go_wp2_with fail)
      refine hK.out _ _ (fun j => cell_of_block C2.out) (fun hHeld => ?_)
      clear hK K
      (try simp only [Act.put, sA, s0, sS])
      have hqI : (q2 : Int) < 3 := by omega
      refine tG 3 ?_
      refine c2H 4 14 (fun K hK => ?_) (fun K hK => ?_)
      ·
        obtain ⟨lx, hlc, hlx⟩ := ziF hq2
        have cL : v2.cell? ⟨V.heap.size, q2, none⟩ = some (.string lx) := (cell_of_block L2.out).trans hlc
        clear hlc
        go_simp
        (try go_wp2_with fail)
        refine hK.out _ _ (fun j => cell_of_block C2.out) (fun hHeld => ?_)
        clear hK K cL
        (try simp only [Act.put, sA, s0, sS])
        refine cH 14 rfl fun K hK => ?_
        go_simp
        refine (zcp (ms - ls + 1) r (p + 1) v2 (by omega) (by omega) S2.out.rd).mono ?_
        rintro e v4 ⟨q14, rfl, hq14, hr_, D_⟩
        have C4 := hid ((zH D_ (Array.getElem?_eq_some_iff.1 C2.out).1 hkr).trans C2.out)
        have S4 := hid (S2.out.call hr_ D_)
        have L4 := hid ((zH D_ (Array.getElem?_eq_some_iff.1 L2.out).1 N1).trans L2.out)
        clear hr_ D_
        (try go_wp2_with fail)
        refine hK.out _ _ (fun j => cell_of_block C4.out) (fun hHeld => ?_)
        clear hK K
        (try simp only [Act.put, sA, s0, sS])
        have e5 : IntKind.i64.wrap (ls + (q14 : Int)) = ls + (q14 : Int) := by rw [IntKind.wrap_i64]; omega
        refine tG 15 ?_
        refine cH 16 rfl fun K hK => ?_
        go_simp
        refine (zac lx (ls + (q14 : Int)) v4 hlx (by omega) (by omega)).mono ?_
        rintro e wz ⟨tz, rfl, htz, rfl⟩
        (try go_wp2_with fail)
        refine hK.out _ _ (fun j => cell_of_block C4.out) (fun hHeld => ?_)
        clear hK K
        (try simp only [Act.put, sA, s0, sS])
        refine tG 17 ?_
        refine wpAnyH_done (by kernel_rfl) ?_ _
        go_wp2_with fail
        go_ret
        exact ⟨tz, _, rfl, by omega, Nat.le_refl _, S4.out.rd, S4.out.fr⟩
      ·
        go_simp
        refine (zcp (ms - ls + 1) r (p + 1) v2 (by omega) (by omega) S2.out.rd).mono ?_
        rintro e v5 ⟨q14, rfl, hq14, hr_, D_⟩
        have C5 := hid ((zH D_ (Array.getElem?_eq_some_iff.1 C2.out).1 hkr).trans C2.out)
        have S5 := hid (S2.out.call hr_ D_)
        have L5 := hid ((zH D_ (Array.getElem?_eq_some_iff.1 L2.out).1 N1).trans L2.out)
        clear hr_ D_
        (try go_wp2_with fail)
        refine hK.out _ _ (fun j => cell_of_block C5.out) (fun hHeld => ?_)
        clear hK K
        (try simp only [Act.put, sA, s0, sS])
        have e5 : IntKind.i64.wrap (ls + (q14 : Int)) = ls + (q14 : Int) := by rw [IntKind.wrap_i64]; omega
        refine tG 15 ?_
        refine cH 4 rfl fun K hK => ?_
        obtain ⟨lx, hlc, hlx⟩ := ziF hq2
        have cL : v5.cell? ⟨V.heap.size, q2, none⟩ = some (.string lx) := (cell_of_block L5.out).trans hlc
        clear hlc
        go_simp
        (try go_wp2_with fail)
        refine hK.out _ _ (fun j => cell_of_block C5.out) (fun hHeld => ?_)
        clear hK K cL
        (try simp only [Act.put, sA, s0, sS])
        refine cH 16 rfl fun K hK => ?_
        go_simp
        refine (zac lx (ls + (q14 : Int)) v5 hlx (by omega) (by omega)).mono ?_
        rintro e wz ⟨tz, rfl, htz, rfl⟩
        (try go_wp2_with fail)
        refine hK.out _ _ (fun j => cell_of_block C5.out) (fun hHeld => ?_)
        clear hK K
        (try simp only [Act.put, sA, s0, sS])
        refine tG 17 ?_
        refine wpAnyH_done (by kernel_rfl) ?_ _
        go_wp2_with fail
        go_ret
        exact ⟨tz, _, rfl, by omega, Nat.le_refl _, S5.out.rd, S5.out.fr⟩
    ·
      go_simp
      refine (zQ 3 r (p) V (by omega) (by omega) (by omega) Hd.out.rd).mono ?_
      rintro e v7 ⟨q2, rfl, hq2, hr_, D_⟩
      have C7 := hid ((zH D_ (Array.getElem?_eq_some_iff.1 HCd.out).1 hkr).trans HCd.out)
      have S7 := hid (Hd.out.call hr_ D_)
      clear hr_ D_
      (try go_wp2_with fail)
      refine hK.out _ _ (fun j => cell_of_block C7.out) (fun hHeld => ?_)
      clear hK K
      (try simp only [Act.put, sA, s0, sS])
      refine c2H 0 14 (fun K hK => ?_) (fun K hK => ?_)
      ·
        go_simp
        obtain ⟨v8, hv8⟩ : ∃ U, U = v7.alloc (.cells #[.string ⟨#[116]⟩, .string ⟨#[126]⟩, .string ⟨#[33]⟩] 9) := ⟨_, rfl⟩
        have C8 := hid (show v8.heap[w.heap.size]? = some (.cells #[.string nm, .int .i64 3, .int .i64 ls, .int .i64 ms, .slice wa wn wc, .string to, .int .i64 rl, .bool mu, .bool fx, .string df, .string wg] 63) by rw [hv8]; exact (((Below.refl _ v7).alloc (Nat.le_refl _) _).block _ (Array.getElem?_eq_some_iff.1 C7.out).1).trans C7.out)
        have S8 := hid (show St w.heap.size r w (p + 1) v8 by rw [hv8]; exact S7.out.alloc _)
        have L8 := hid (show v8.heap[v7.heap.size]? = some (.cells #[.string ⟨#[116]⟩, .string ⟨#[126]⟩, .string ⟨#[33]⟩] 9) by rw [hv8]; exact (MapKept.heap_alloc v7 _).1)
        have N8 : v7.heap.size ≠ r := by have := S7.out.le; omega
        (try go_wp2_with fail)
        rw [<- hv8]
        refine hK.out _ _ (fun j => cell_of_block C8.out) (fun hHeld => ?_)
        clear hK K hv8
        (try simp only [Act.put, sA, s0, sS])
        have hqI : (q2 : Int) < 3 := by omega
        refine tG 3 ?_
        refine c2H 4 14 (fun K hK => ?_) (fun K hK => ?_)
        ·
          obtain ⟨lx, hlc, hlx⟩ := ziF hq2
          have cL : v8.cell? ⟨v7.heap.size, q2, none⟩ = some (.string lx) := (cell_of_block L8.out).trans hlc
          clear hlc
          go_simp
          (try go_wp2_with fail)
          refine hK.out _ _ (fun j => cell_of_block C8.out) (fun hHeld => ?_)
          clear hK K cL
          (try simp only [Act.put, sA, s0, sS])
          refine cH 14 rfl fun K hK => ?_
          go_simp
          refine (zcp (ms - ls + 1) r (p + 1) v8 (by omega) (by omega) S8.out.rd).mono ?_
          rintro e v10 ⟨q14, rfl, hq14, hr_, D_⟩
          have C10 := hid ((zH D_ (Array.getElem?_eq_some_iff.1 C8.out).1 hkr).trans C8.out)
          have S10 := hid (S8.out.call hr_ D_)
          have L10 := hid ((zH D_ (Array.getElem?_eq_some_iff.1 L8.out).1 N8).trans L8.out)
          clear hr_ D_
          (try go_wp2_with fail)
          refine hK.out _ _ (fun j => cell_of_block C10.out) (fun hHeld => ?_)
          clear hK K
          (try simp only [Act.put, sA, s0, sS])
          have e5 : IntKind.i64.wrap (ls + (q14 : Int)) = ls + (q14 : Int) := by rw [IntKind.wrap_i64]; omega
          refine tG 15 ?_
          refine cH 16 rfl fun K hK => ?_
          go_simp
          refine (zac lx (ls + (q14 : Int)) v10 hlx (by omega) (by omega)).mono ?_
          rintro e wz ⟨tz, rfl, htz, rfl⟩
          (try go_wp2_with fail)
          refine hK.out _ _ (fun j => cell_of_block C10.out) (fun hHeld => ?_)
          clear hK K
          (try simp only [Act.put, sA, s0, sS])
          refine tG 17 ?_
          refine wpAnyH_done (by kernel_rfl) ?_ _
          go_wp2_with fail
          go_ret
          exact ⟨tz, _, rfl, by omega, Nat.le_refl _, S10.out.rd, S10.out.fr⟩
        ·
          go_simp
          refine (zcp (ms - ls + 1) r (p + 1) v8 (by omega) (by omega) S8.out.rd).mono ?_
          rintro e v11 ⟨q14, rfl, hq14, hr_, D_⟩
          have C11 := hid ((zH D_ (Array.getElem?_eq_some_iff.1 C8.out).1 hkr).trans C8.out)
          have S11 := hid (S8.out.call hr_ D_)
          have L11 := hid ((zH D_ (Array.getElem?_eq_some_iff.1 L8.out).1 N8).trans L8.out)
          clear hr_ D_
          (try go_wp2_with fail)
          refine hK.out _ _ (fun j => cell_of_block C11.out) (fun hHeld => ?_)
          clear hK K
          (try simp only [Act.put, sA, s0, sS])
          have e5 : IntKind.i64.wrap (ls + (q14 : Int)) = ls + (q14 : Int) := by rw [IntKind.wrap_i64]; omega
          refine tG 15 ?_
          refine cH 4 rfl fun K hK => ?_
          obtain ⟨lx, hlc, hlx⟩ := ziF hq2
          have cL : v11.cell? ⟨v7.heap.size, q2, none⟩ = some (.string lx) := (cell_of_block L11.out).trans hlc
          clear hlc
          go_simp
          (try go_wp2_with fail)
          refine hK.out _ _ (fun j => cell_of_block C11.out) (fun hHeld => ?_)
          clear hK K cL
          (try simp only [Act.put, sA, s0, sS])
          refine cH 16 rfl fun K hK => ?_
          go_simp
          refine (zac lx (ls + (q14 : Int)) v11 hlx (by omega) (by omega)).mono ?_
          rintro e wz ⟨tz, rfl, htz, rfl⟩
          (try go_wp2_with fail)
          refine hK.out _ _ (fun j => cell_of_block C11.out) (fun hHeld => ?_)
          clear hK K
          (try simp only [Act.put, sA, s0, sS])
          refine tG 17 ?_
          refine wpAnyH_done (by kernel_rfl) ?_ _
          go_wp2_with fail
          go_ret
          exact ⟨tz, _, rfl, by omega, Nat.le_refl _, S11.out.rd, S11.out.fr⟩
      ·
        go_simp
        refine (zcp (ms - ls + 1) r (p + 1) v7 (by omega) (by omega) S7.out.rd).mono ?_
        rintro e v13 ⟨q14, rfl, hq14, hr_, D_⟩
        have C13 := hid ((zH D_ (Array.getElem?_eq_some_iff.1 C7.out).1 hkr).trans C7.out)
        have S13 := hid (S7.out.call hr_ D_)
        clear hr_ D_
        (try go_wp2_with fail)
        refine hK.out _ _ (fun j => cell_of_block C13.out) (fun hHeld => ?_)
        clear hK K
        (try simp only [Act.put, sA, s0, sS])
        have e5 : IntKind.i64.wrap (ls + (q14 : Int)) = ls + (q14 : Int) := by rw [IntKind.wrap_i64]; omega
        refine tG 15 ?_
        refine cH 0 rfl fun K hK => ?_
        go_simp
        obtain ⟨v14, hv14⟩ : ∃ U, U = v13.alloc (.cells #[.string ⟨#[116]⟩, .string ⟨#[126]⟩, .string ⟨#[33]⟩] 9) := ⟨_, rfl⟩
        have C14 := hid (show v14.heap[w.heap.size]? = some (.cells #[.string nm, .int .i64 3, .int .i64 ls, .int .i64 ms, .slice wa wn wc, .string to, .int .i64 rl, .bool mu, .bool fx, .string df, .string wg] 63) by rw [hv14]; exact (((Below.refl _ v13).alloc (Nat.le_refl _) _).block _ (Array.getElem?_eq_some_iff.1 C13.out).1).trans C13.out)
        have S14 := hid (show St w.heap.size r w (p + 1 + 1) v14 by rw [hv14]; exact S13.out.alloc _)
        have L14 := hid (show v14.heap[v13.heap.size]? = some (.cells #[.string ⟨#[116]⟩, .string ⟨#[126]⟩, .string ⟨#[33]⟩] 9) by rw [hv14]; exact (MapKept.heap_alloc v13 _).1)
        have N14 : v13.heap.size ≠ r := by have := S13.out.le; omega
        (try go_wp2_with fail)
        rw [<- hv14]
        refine hK.out _ _ (fun j => cell_of_block C14.out) (fun hHeld => ?_)
        clear hK K hv14
        (try simp only [Act.put, sA, s0, sS])
        have hqI : (q2 : Int) < 3 := by omega
        refine tG 3 ?_
        refine cH 4 rfl fun K hK => ?_
        obtain ⟨lx, hlc, hlx⟩ := ziF hq2
        have cL : v14.cell? ⟨v13.heap.size, q2, none⟩ = some (.string lx) := (cell_of_block L14.out).trans hlc
        clear hlc
        go_simp
        (try go_wp2_with fail)
        refine hK.out _ _ (fun j => cell_of_block C14.out) (fun hHeld => ?_)
        clear hK K cL
        (try simp only [Act.put, sA, s0, sS])
        refine cH 16 rfl fun K hK => ?_
        go_simp
        refine (zac lx (ls + (q14 : Int)) v14 hlx (by omega) (by omega)).mono ?_
        rintro e wz ⟨tz, rfl, htz, rfl⟩
        (try go_wp2_with fail)
        refine hK.out _ _ (fun j => cell_of_block C14.out) (fun hHeld => ?_)
        clear hK K
        (try simp only [Act.put, sA, s0, sS])
        refine tG 17 ?_
        refine wpAnyH_done (by kernel_rfl) ?_ _
        go_wp2_with fail
        go_ret
        exact ⟨tz, _, rfl, by omega, Nat.le_refl _, S14.out.rd, S14.out.fr⟩
  have n3 : (kd == 3) = false := by rw [beq_eq_false_iff_ne]; exact k3
  go_upto_region 13 with fail
  refine zn (fun W => St w.heap.size r w p W /\ W.heap[w.heap.size]? = some (.cells #[.string nm, .int .i64 kd, .int .i64 ls, .int .i64 ms, .slice wa wn wc, .string to, .int .i64 rl, .bool mu, .bool fx, .string df, .string wg] 63) /\ W.heap[w.heap.size + 1]? = some (.cells #[.int .i64 0, .int .i64 0, .int .i64 0, .slice oa on oc, .slice none 0 0, .slice none 0 0, .slice none 0 0] 102) /\ Keep lo B w W /\ yR w.heap.size 1000 W (.slice (some ⟨W0.heap.size, 0, none⟩) 0 0)) ⟨H0.out.1.alloc _, (((Below.refl _ W0).alloc (Nat.le_refl _) _).block _ zF).trans HC.out, (((Below.refl _ W0).alloc (Nat.le_refl _) _).block _ zB).trans HD.out, H0.out.2.trans (zf _ _ _ _), jy w.heap.size 1000 _ _ 1 0 W0 #[] H0.out.1.le rfl (by simp [maxLen]) (by omega) (fun j x hx => by simp at hx)⟩ ?_
  rintro W1 hW1
  have H1 := hid hW1
  clear hW1 H0 HC HD cF cB zF zB k1 k2 k3 n1 n2 n3
  go_wp2_with fail
  go_loopw [7, 8] (fun vl vi wr => ∃ (a : Option Addr) (m cap i : Nat), vl = .slice a m cap /\ vi = .int .i64 (i : Int) /\ i <= on /\ m <= i /\ Hid (yR w.heap.size 1000 wr (.slice a m cap) /\ St w.heap.size r w p wr /\ wr.heap[w.heap.size]? = some (.cells #[.string nm, .int .i64 kd, .int .i64 ls, .int .i64 ms, .slice wa wn wc, .string to, .int .i64 rl, .bool mu, .bool fx, .string df, .string wg] 63) /\ wr.heap[w.heap.size + 1]? = some (.cells #[.int .i64 0, .int .i64 0, .int .i64 0, .slice oa on oc, .slice none 0 0, .slice none 0 0, .slice none 0 0] 102) /\ Keep lo B w wr)) (fun _ vi _ => on - (intOf vi).toNat)
  case atStart => exact ⟨_, 0, 0, 0, rfl, rfl, by omega, by omega, ⟨H1.out.2.2.2.2, H1.out.1, H1.out.2.1, H1.out.2.2.1, H1.out.2.2.2.1⟩⟩
  case round =>
    clear H1
    obtain ⟨a, m, cap, i, rfl, rfl, hi, hmi, HI⟩ := hrel
    have hC := HI.out.2.2.1
    have hD := HI.out.2.2.2.1
    have cF := fun j => cell_of_block (o := j) hC
    have cB := fun j => cell_of_block (o := j) hD
    have zF := (Array.getElem?_eq_some_iff.1 hC).1
    have zB := (Array.getElem?_eq_some_iff.1 hD).1
    clear hC hD
    by_cases hio : i < on
    · have hiI : (i : Int) < (on : Int) := by omega
      obtain ⟨g, Cg, rfl, -, -, -, hc⟩ := (HI.out.2.2.2.2.o _ HX.out.2).cell hio
      obtain ⟨x0, c0, okd, rfl, hok⟩ := hc 0 (by omega)
      obtain ⟨x1, c1, onm, rfl, hon1⟩ := hc 1 (by omega)
      have c0 : wr.cell? ⟨g, i * 7, none⟩ = some (.string okd) := c0
      clear hc Cg
      go_upto_region 16 with fail
      have cFd : ∀ j, wr.drew.cell? ⟨w.heap.size, j, none⟩ = (#[.string nm, .int .i64 kd, .int .i64 ls, .int .i64 ms, .slice wa wn wc, .string to, .int .i64 rl, .bool mu, .bool fx, .string df, .string wg] : Array Value)[j]? := cF
      have cBd : ∀ j, wr.drew.cell? ⟨w.heap.size + 1, j, none⟩ = (#[.int .i64 0, .int .i64 0, .int .i64 0, .slice (some ⟨g, 0, none⟩) on oc, .slice none 0 0, .slice none 0 0, .slice none 0 0] : Array Value)[j]? := cB
      refine wp_region_held_drew (S := fun w' => (∀ j, w'.cell? ⟨w.heap.size, j, none⟩ = (#[.string nm, .int .i64 kd, .int .i64 ls, .int .i64 ms, .slice wa wn wc, .string to, .int .i64 rl, .bool mu, .bool fx, .string df, .string wg] : Array Value)[j]?) /\ (∀ j, w'.cell? ⟨w.heap.size + 1, j, none⟩ = (#[.int .i64 0, .int .i64 0, .int .i64 0, .slice (some ⟨g, 0, none⟩) on oc, .slice none 0 0, .slice none 0 0, .slice none 0 0] : Array Value)[j]?) /\ w'.cell? ⟨g, i * 7, none⟩ = some (.string okd)) (by kernel_rfl) ⟨cFd, cBd, c0⟩ (fun hHeld => ?_)
      refine tG 0 ?_; refine tG 1 ?_; refine tG 2 ?_; refine tG 3 ?_; refine tG 4 ?_; refine tG 5 ?_; refine tG 6 ?_; refine tG 7 ?_; refine tG 8 ?_
      refine wpAnyH_done (by kernel_rfl) ?_ _
      have HId := zae ((yY w.heap.size 1000 wr).s _ HI.out.1) HI.out.2.1.drew (show wr.drew.heap[w.heap.size]? = _ /\ wr.drew.heap[w.heap.size + 1]? = _ from ⟨HI.out.2.2.1, HI.out.2.2.2.1⟩) (HI.out.2.2.2.2.trans (yY _ _ wr))
      have c1 : wr.drew.cell? ⟨g, i * 7 + 1, none⟩ = some (.string onm) := c1
      have zBd : w.heap.size + 1 < wr.drew.heap.size := zB
      clear cF cB cFd hHeld c0 HI zF zB
      cases hq : (okd.toList == to.toList)
      · go_wp2_with fail
        exact ⟨⟨a, m, cap, i + 1, rfl, by go_num, by omega, by omega, ⟨HId.out.1, HId.out.2.1, HId.out.2.2.1.1, HId.out.2.2.1.2, HId.out.2.2.2⟩⟩, by simp [intOf]; omega⟩
      · go_wp2_with (at_builtin; refine yM ?_)
        have hu := yH w.heap.size 1000 wr.drew [onm] HId.out.2.1.le (by simp) (by simp [maxLen]) (by simpa using hon1)
        have hv := (zf w.heap.size 1000 wr.drew (.cells #[.string onm] 9)).s _ HId.out.1
        obtain ⟨a6, c6, w6, hr6, hF6, hb6, ho6, hK6⟩ := zaj lo hlw (ty := 25) hv hu (by simp; omega) (by omega) (HId.out.2.1.alloc _).le
        have bA := (Below.refl wr.drew.heap.size wr.drew).alloc (Nat.le_refl _) (.cells #[.string onm] 9)
        have H6 := zeY hF6 ((HId.out.2.1.alloc _).down hb6) (ho6 _ _ _ ((bA.block _ (Array.getElem?_eq_some_iff.1 HId.out.2.2.1.1).1).trans HId.out.2.2.1.1) (by decide)) (ho6 _ _ _ ((bA.block _ (Array.getElem?_eq_some_iff.1 HId.out.2.2.1.2).1).trans HId.out.2.2.1.2) (by decide)) (HId.out.2.2.2.trans ((zf _ _ _ _).trans (hK6 B)))
        show wpList _ _ _ _ _ _
        refine wpList_append_run hr6 rfl rfl rfl rfl ?_
        clear hr6 hK6 hF6 hb6 ho6 hu hv bA cBd c1
        go_wp2_with fail
        exact ⟨⟨a6, m + 1, c6, i + 1, rfl, by go_num, by omega, by omega, H6⟩, by simp [intOf]; omega⟩
    · have hiI : ¬ (i : Int) < (on : Int) := by omega
      rcases Nat.eq_zero_or_pos m with hm | hm
      · subst hm
        go_wp2_with fail
        go_ret
        exact ⟨⟨#[]⟩, rfl, by decide, p, by omega, HI.out.2.1.rd, HI.out.2.1.fr⟩
      · have hmI : ((m : Int) == 0) = false := by rw [beq_eq_false_iff_ne]; omega
        go_wp2_with fail
        refine (qC a m cap w.heap.size 1000 r p wr HI.out.1 (by omega) (by omega) (by omega) HI.out.2.1.rd hlt).mono ?_
        rintro e w2 ⟨s2, rfl, hs2, hr2, D2⟩
        have H2 := hid (HI.out.2.1.call hr2 D2)
        clear hr2 D2
        go_wp2_with fail
        go_ret
        first | exact ⟨s2, p + 1, rfl, hs2, by omega, H2.out.rd, H2.out.fr⟩ | exact ⟨s2, rfl, hs2, p + 1, by omega, H2.out.rd, H2.out.fr⟩
end Go.Proofs.YtmfgjafdnopfbaaGreat
