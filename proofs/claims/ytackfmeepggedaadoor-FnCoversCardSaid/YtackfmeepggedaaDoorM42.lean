import Derived.Test.YtackfmeepggedaaDoorM41
import Derived.Test.YtackfmeepggedaaDoorM16
namespace Go.Proofs.YtackfmeepggedaaDoor
open Go.RowKit

set_option maxRecDepth 20000 in
set_option maxHeartbeats 16000000 in
theorem drawCovers_any (ac : Option Addr) (mc cc : Nat) (w0 : World) (hu : U8sAt w0 ac mc) (hc : mc ≤ cc) :
    Calls Tryd.prog 4 #[.slice ac mc cc] w0 fun e w' => ∃ (ts : List Tm) (rs : List Rl) (q : Rl) (ta ra qa : Option Addr) (tc rc qc : Nat), e = .returned (.tuple #[.slice ta ts.length tc, .slice ra rs.length rc, .agg (q.cells qa qc)]) ∧ TmsAt w' ta ts ∧ RlsAt w' ra rs ∧ IntsAt w' qa q.vs ∧ q.Small ∧ rs.length ≤ 17 ∧ ts.length ≤ 13 ∧ (∃ (xs : List RlE) (gq : Nat), rs = xs.map RlE.q ∧ qa = some ⟨gq, 0, none⟩ ∧ ra ≠ none ∧ RuleRow 1 w' ra rc xs ∧ RlEnt 1 w' q gq qc) ∧ Below w0.heap.size w0 w' := by
  obtain ⟨i0, hi, hz0, hz1', hz2⟩ := info_parts Tryd.infoRule
  go_enter Tryd.func4, Tryd.ntmps4
  go_wp2_with fail
  refine calls_world (fun W => W.heap[w0.heap.size]? = some (.cells #[.slice none 0 0, .string ByteArray.empty, .string ByteArray.empty, .string ByteArray.empty] 27) ∧ w0.heap.size < W.heap.size ∧ Below w0.heap.size w0 W ∧ U8sAt W ac mc) ⟨(MapKept.heap_alloc w0 _).1, by simp, (Below.refl _ _).alloc (Nat.le_refl _) _, hu.mono ((Below.refl _ _).alloc (Nat.le_refl _) _)⟩ ?_
  rintro W ⟨b4, z4, bW, uW⟩
  clear hu
  refine (l1Open_any ac mc cc W uW hc).mono ?_
  rintro e w1 ⟨rfl, hr1, b1⟩
  obtain ⟨r, hrW⟩ : ∃ r, r = W.heap.size := ⟨_, rfl⟩
  rw [← hrW] at hr1 ⊢
  have b41 := (b1.block _ z4).trans b4
  have B1 : Below w0.heap.size w0 w1 := bW.trans (b1.mono (by omega))
  have l4 : w0.heap.size < r := by omega
  clear b1 b4 bW uW z4 hrW
  have hlt := hr1.lt
  go_wp2_with fail
  refine (l4AnyTeams_any r 0 w1 (by omega) hr1).mono ?_
  rintro e w2 ⟨nt, at', ct, ss, p2, rfl, hnt, row2, hp2, hr2, D2⟩
  go_wp2_with fail
  refine (l4AnyRule_any r p2 w2 (by omega) hr2).mono ?_
  rintro e w3 ⟨⟨qv, q1, q2, q3⟩, gq, cq, p3, rfl, hq3, hp3, hr3, D3⟩
  have d2 := dr_le D2
  have d3 := dr_le D3
  have hlen := hq3.len
  dsimp only at hlen
  have C3 : Hid (RdAt w3 r p3 ∧ TeamRow (r + 1) w3 at' nt ct ss ∧ RlDrew (r + 1) w3 ⟨qv, q1, q2, q3⟩ gq cq ∧ w3.heap[w0.heap.size]? = some (.cells #[.slice none 0 0, .string ByteArray.empty, .string ByteArray.empty, .string ByteArray.empty] 27) ∧ Below w0.heap.size w0 w3) := ⟨hr3, ⟨ownsRow_low (row2.dr D3 hlt).own (by omega), row2.small⟩, rlDrew_low hq3 (by omega), (dr_block D3 (by omega) (by omega)).trans ((dr_block D2 (by omega) (by omega)).trans b41), B1.trans (dr_back (dr_trans D2 D3) (by omega) (by omega))⟩
  have hr3s : r < w3.heap.size := by omega
  clear hr1 hr2 hr3 row2 hq3 D2 D3 b41 B1
  unfold Rl.cells
  dsimp only
  go_wp2_with fail
  obtain ⟨k7, hk7⟩ : ∃ k7, k7 = w3.heap.size := ⟨_, rfl⟩
  refine calls_world (fun V => CovI r k7 w0 V p3 at' nt ct ss ⟨qv, q1, q2, q3⟩ gq cq (some ⟨k7 + 1, 0, none⟩) 0 []) ?_ ?_
  · have bV := below_2 w3 (.cells #[.slice (some ⟨gq, 0, none⟩) qv.length cq, .string q1, .string q2, .string q3] 27) (.cells #[] 27)
    have dV := dr_below (r := r) bV
    exact ⟨C3.out.1.mono bV, C3.out.2.1.dr dV (by omega), rlDrew_dr C3.out.2.2.1 dV (by omega), by rw [hk7]; exact (Below.heap_alloc _ _ _ (by simp)).trans (MapKept.heap_alloc w3 _).1, ⟨⟨rfl, Or.inr ⟨k7 + 1, 0, #[], rfl, Nat.le_refl _, by rw [hk7]; exact at_2 _ _ _, Nat.le_refl _, by simp [maxLen], rfl, rfl⟩⟩, by simp⟩, by simp, (bV.block _ (by omega)).trans C3.out.2.2.2.1, by omega, l4, C3.out.2.2.2.2.trans (bV.mono (by omega))⟩
  rw [← hk7]
  have l7 : r < k7 := by omega
  clear C3 hk7 hr3s d2 d3 hlt
  intro V HV
  refine (pick_any 5 r p3 V (by omega) (by omega) (by omega) HV.rd).mono ?_
  rintro e w4 ⟨m0, rfl, hm0, hr4, -, D4⟩
  have HC4 : Hid (CovI r k7 w0 w4 (p3 + 1) at' nt ct ss ⟨qv, q1, q2, q3⟩ gq cq (some ⟨k7 + 1, 0, none⟩) 0 []) := covI_dr HV D4 hr4
  clear HV D4 hr4
  go_wp2_with fail
  go_loopw [8, 9] (fun v i wr => ∃ (m : Nat) (a : Option Addr) (cap : Nat) (xs : List RlE) (p : Nat), m ≤ 4 ∧ xs.length + m ≤ 4 ∧ i = .int .i64 (m : Int) ∧ v = .slice a xs.length cap ∧ CovI r k7 w0 wr p at' nt ct ss ⟨qv, q1, q2, q3⟩ gq cq a cap xs ∧ p ≤ 100 + (4 - m) * 20) (fun _ i _ => (intOf i).toNat)
  case atStart => exact ⟨m0, _, _, [], p3 + 1, by omega, by simp; omega, rfl, rfl, HC4.out, by omega⟩
  case round =>
    obtain ⟨m, a, cap, xs, p, hm4, hxm, rfl, rfl, HI, hpb⟩ := hrel
    have HC0 : Hid (CovI r k7 w0 wr p at' nt ct ss ⟨qv, q1, q2, q3⟩ gq cq a cap xs) := HI
    clear HI HC4
    rcases Nat.eq_zero_or_pos m with h0 | h0
    · subst h0
      have hxl : xs.length ≤ 4 := by omega
      go_wp2_with fail
      refine (pick_any 10 r p wr (by omega) (by omega) (by omega) HC0.out.rd).mono ?_
      rintro e w5 ⟨d, rfl, hd, hr5, -, D5⟩
      have HC : Hid (CovI r k7 w0 w5 (p + 1) at' nt ct ss ⟨qv, q1, q2, q3⟩ gq cq a cap xs) := covI_dr HC0.out D5 hr5
      clear HC0 hr5 D5
      by_cases d0 : d = 0
      rotate_left
      · have nd : ((d : Int) == 0) = false := by rw [beq_eq_false_iff_ne]; omega
        go_wp2_with fail
        have E7 : w5.heap[k7]? = some (.cells #[.slice (some ⟨gq, 0, none⟩) qv.length cq, .string q1, .string q2, .string q3] 27) := HC.out.b7
        have E4 := HC.out.b4
        have c7 : ∀ j, w5.drew.cell? ⟨k7, j, none⟩ = (#[.slice (some ⟨gq, 0, none⟩) qv.length cq, .string q1, .string q2, .string q3] : Array Value)[j]? := fun j => cell_of_block (o := j) E7
        have c4 := fun j => cell_of_block (o := j) E4
        have f4 := fun j => frozen_of_block (o := j) E4
        have hk74 : w0.heap.size < k7 := by have := HC.out.l4; have := HC.out.l7; omega
        have hk47 : k7 ≠ w0.heap.size := by omega
        have hk47' : w0.heap.size ≠ k7 := by omega
        clear E7 E4
        go_region_held3 (fun w' => ∀ j, w'.cell? ⟨k7, j, none⟩ = (#[.slice (some ⟨gq, 0, none⟩) qv.length cq, .string q1, .string q2, .string q3] : Array Value)[j]?) (first | exact c7 | (intro j; exact (cell_s4 hk47 _ _ _ _).trans (c7 j))) (fail)
        go_wp2_with fail
        obtain ⟨ts, hts, htm⟩ := HC.out.tm.at (r := w0.heap.size) (by have := HC.out.l4; omega) (by omega)
        have hrl := ruleRow_at (r := w0.heap.size) HC.out.rs (by omega) (by omega)
        have hin := owns_ints (r := w0.heap.size) HC.out.rl.own (by have := HC.out.l4; omega) (by unfold maxLen; dsimp only; omega)
        refine bodyPost_ret (v := .tuple #[.slice at' nt ct, .slice a xs.length cap, .agg #[.slice (some ⟨gq, 0, none⟩) qv.length cq, .string q1, .string q2, .string q3]]) (by simp [results, Tryd.results4, go_sem, c4]) rfl ⟨ts, xs.map RlE.q, ⟨qv, q1, q2, q3⟩, at', a, some ⟨gq, 0, none⟩, ct, cap, cq, ?_, ?_, ?_, ?_, HC.out.rl.small, ?_, by omega, ⟨xs, gq, rfl, rfl, HC.out.nn, ?_, ?_⟩, ?_⟩
        · rw [hts, List.length_map]; rfl
        · exact (dr_tms (dr_four w0.heap.size w5 _ _ _ _) htm).unclr
        · exact (dr_rls (dr_four w0.heap.size w5 _ _ _ _) hrl).unclr
        · exact (dr_ints (dr_four w0.heap.size w5 _ _ _ _) hin).unclr
        · simp; omega
        · have h4 := HC.out.l4
          exact ⟨ownsRow_low (owns_dr (r := w0.heap.size) HC.out.rs.own (dr_four _ _ _ _ _ _) (by omega)) (by omega), fun y hy => ⟨(HC.out.rs.each y hy).small, (HC.out.rs.each y hy).len, ownsRow_low (owns_dr (r := w0.heap.size) (HC.out.rs.each y hy).own (dr_four _ _ _ _ _ _) (by omega)) (by omega)⟩⟩
        · have h4 := HC.out.l4
          exact ⟨HC.out.rl.small, HC.out.rl.len, ownsRow_low (owns_dr (r := w0.heap.size) HC.out.rl.own (dr_four _ _ _ _ _ _) (by omega)) (by omega)⟩
        · have h0 : w0.heap.size ≤ w0.heap.size := Nat.le_refl _
          refine Below.drew ?_
          iterate 4 refine Below.setCell ?_ h0 _
          exact HC.out.b
      · subst d0
        go_wp2_with fail
        refine (pick_any 14 r (p + 1) w5 (by omega) (by omega) (by omega) HC.out.rd).mono ?_
        rintro e w6 ⟨n0, rfl, hn0, hr6, -, D6⟩
        have HC6 : Hid (CovI r k7 w0 w6 (p + 1 + 1) at' nt ct ss ⟨qv, q1, q2, q3⟩ gq cq a cap xs) := covI_dr HC.out D6 hr6
        clear HC hr6 D6
        go_wp2_with fail
        go_loopw [8, 11] (fun v i wr => ∃ (j : Nat) (al : Option Addr) (cl : Nat) (xl : List RlE), j ≤ 13 ∧ xl.length + j ≤ 17 ∧ i = .int .i64 (j : Int) ∧ v = .slice al xl.length cl ∧ CovI r k7 w0 wr (p + 1 + 1) at' nt ct ss ⟨qv, q1, q2, q3⟩ gq cq al cl xl) (fun _ i _ => (intOf i).toNat)
        case atStart => exact ⟨n0, a, cap, xs, by omega, by omega, rfl, rfl, HC6.out⟩
        case round =>
          obtain ⟨j, al, cl, xl, hj13, hxj, rfl, rfl, HIl⟩ := hrel
          have HC : Hid (CovI r k7 w0 wr (p + 1 + 1) at' nt ct ss ⟨qv, q1, q2, q3⟩ gq cq al cl xl) := HIl
          clear HIl HC6
          rcases Nat.eq_zero_or_pos j with h1 | h1
          · subst h1
            go_wp2_with fail
            have E7 : wr.heap[k7]? = some (.cells #[.slice (some ⟨gq, 0, none⟩) qv.length cq, .string q1, .string q2, .string q3] 27) := HC.out.b7
            have E4 := HC.out.b4
            have c7 : ∀ j, wr.drew.cell? ⟨k7, j, none⟩ = (#[.slice (some ⟨gq, 0, none⟩) qv.length cq, .string q1, .string q2, .string q3] : Array Value)[j]? := fun j => cell_of_block (o := j) E7
            have c4 := fun j => cell_of_block (o := j) E4
            have f4 := fun j => frozen_of_block (o := j) E4
            have hk74 : w0.heap.size < k7 := by have := HC.out.l4; have := HC.out.l7; omega
            have hk47 : k7 ≠ w0.heap.size := by omega
            have hk47' : w0.heap.size ≠ k7 := by omega
            clear E7 E4
            go_region_held3 (fun w' => ∀ j, w'.cell? ⟨k7, j, none⟩ = (#[.slice (some ⟨gq, 0, none⟩) qv.length cq, .string q1, .string q2, .string q3] : Array Value)[j]?) (first | exact c7 | (intro j; exact (cell_s4 hk47 _ _ _ _).trans (c7 j))) (fail)
            go_wp2_with fail
            obtain ⟨ts, hts, htm⟩ := HC.out.tm.at (r := w0.heap.size) (by have := HC.out.l4; omega) (by omega)
            have hrl := ruleRow_at (r := w0.heap.size) HC.out.rs (by omega) (by omega)
            have hin := owns_ints (r := w0.heap.size) HC.out.rl.own (by have := HC.out.l4; omega) (by unfold maxLen; dsimp only; omega)
            refine bodyPost_ret (v := .tuple #[.slice at' nt ct, .slice al xl.length cl, .agg #[.slice (some ⟨gq, 0, none⟩) qv.length cq, .string q1, .string q2, .string q3]]) (by simp [results, Tryd.results4, go_sem, c4]) rfl ⟨ts, xl.map RlE.q, ⟨qv, q1, q2, q3⟩, at', al, some ⟨gq, 0, none⟩, ct, cl, cq, ?_, ?_, ?_, ?_, HC.out.rl.small, ?_, by omega, ⟨xl, gq, rfl, rfl, HC.out.nn, ?_, ?_⟩, ?_⟩
            · rw [hts, List.length_map]; rfl
            · exact (dr_tms (dr_four w0.heap.size wr _ _ _ _) htm).unclr
            · exact (dr_rls (dr_four w0.heap.size wr _ _ _ _) hrl).unclr
            · exact (dr_ints (dr_four w0.heap.size wr _ _ _ _) hin).unclr
            · simp; omega
            · have h4 := HC.out.l4
              exact ⟨ownsRow_low (owns_dr (r := w0.heap.size) HC.out.rs.own (dr_four _ _ _ _ _ _) (by omega)) (by omega), fun y hy => ⟨(HC.out.rs.each y hy).small, (HC.out.rs.each y hy).len, ownsRow_low (owns_dr (r := w0.heap.size) (HC.out.rs.each y hy).own (dr_four _ _ _ _ _ _) (by omega)) (by omega)⟩⟩
            · have h4 := HC.out.l4
              exact ⟨HC.out.rl.small, HC.out.rl.len, ownsRow_low (owns_dr (r := w0.heap.size) HC.out.rl.own (dr_four _ _ _ _ _ _) (by omega)) (by omega)⟩
            · have h0 : w0.heap.size ≤ w0.heap.size := Nat.le_refl _
              refine Below.drew ?_
              iterate 4 refine Below.setCell ?_ h0 _
              exact HC.out.b
          · have h1I : (0 : Int) < (j : Int) := by omega
            have hD := l4Dec_any (j - 1) (by omega)
            have ej : ((j - 1 : Nat) : Int) = (j : Int) - 1 := by omega
            obtain ⟨S, hS⟩ : ∃ S : ByteArray, S = ⟨(Lib.decDigits (j - 1)).toArray⟩ := ⟨_, rfl⟩
            have hSs : S.size ≤ 20 := by
              rw [hS]
              have h9 : j = 1 ∨ j = 2 ∨ j = 3 ∨ j = 4 ∨ j = 5 ∨ j = 6 ∨ j = 7 ∨ j = 8 ∨ j = 9 ∨ j = 10 ∨ j = 11 ∨ j = 12 ∨ j = 13 := by omega
              rcases h9 with rfl | rfl | rfl | rfl | rfl | rfl | rfl | rfl | rfl | rfl | rfl | rfl | rfl <;> simp [Lib.decDigits, ByteArray.size]
            have hD' : ∀ W : World, Calls Tryd.prog 16 #[.int .i64 ((j : Int) - 1)] W fun e w' => e = .returned (.string S) ∧ Below W.heap.size W w' := by
              intro W
              have h9 := hD W
              rw [ej, ← hS] at h9
              exact h9
            clear hD ej hS
            go_wp2_with fail
            refine (hD' _).mono ?_
            rintro e w7 ⟨rfl, b7⟩
            go_wp2_with fail
            refine (hD' _).mono ?_
            rintro e w8 ⟨rfl, b8⟩
            have bb := below_n b7 b8
            have h7 := (Array.getElem?_eq_some_iff.1 HC.out.b7).1
            have hk1 : (⟨#[107]⟩ : ByteArray).size = 1 := rfl
            have ht1 : (⟨#[116]⟩ : ByteArray).size = 1 := rfl
            have HX : Hid (RlEnt (k7 + 1) w8 (⟨⟨[1], (⟨#[107]⟩ : ByteArray) ++ S, (⟨#[116]⟩ : ByteArray) ++ S, ⟨#[]⟩⟩, wr.heap.size, 1⟩ : RlE).q (⟨⟨[1], (⟨#[107]⟩ : ByteArray) ++ S, (⟨#[116]⟩ : ByteArray) ++ S, ⟨#[]⟩⟩, wr.heap.size, 1⟩ : RlE).g (⟨⟨[1], (⟨#[107]⟩ : ByteArray) ++ S, (⟨#[116]⟩ : ByteArray) ++ S, ⟨#[]⟩⟩, wr.heap.size, 1⟩ : RlE).cap) := ⟨⟨by dsimp only; rw [ByteArray.size_append]; unfold maxLen; omega, by dsimp only; rw [ByteArray.size_append]; unfold maxLen; omega, by dsimp only; unfold maxLen; decide⟩, by simp, ownsRow_later (own_lit wr (k7 + 1) #[.int .i64 1] (by omega) (by simp [maxLen])) bb⟩
            have HC8 : Hid (CovI r k7 w0 w8 (p + 1 + 1) at' nt ct ss ⟨qv, q1, q2, q3⟩ gq cq al cl xl) := covI_dr HC.out (dr_below (below_a bb)) (HC.out.rd.mono (below_a bb))
            clear HC bb b7 b8
            go_wp2_with (at_builtin; refine hold_here ?_)
            show wpList _ _ _ _ _ _
            refine wpList_append_own _ rfl (.tmp 80) (.tmp 91) 24 rfl (k7 + 1) 27 i0 (.agg #[.slice none 0 0, .string ByteArray.empty, .string ByteArray.empty, .string ByteArray.empty]) 4 72 Tryd.underlying24 hi hz0 hz1' hz2 rfl (by decide) (.slice al xl.length cl) xl.length _ rfl (HC8.out.rs.own.alloc _) ⟨_, 0, none⟩ 1 1 (⟨⟨[1], (⟨#[107]⟩ : ByteArray) ++ S, (⟨#[116]⟩ : ByteArray) ++ S, ⟨#[]⟩⟩, wr.heap.size, 1⟩ : RlE).row rfl rfl (four_news _ _ _ _ _ (by first | rfl | simp)) (by intro u hu; simp [RlE.row] at hu; rcases hu with rfl | rfl | rfl | rfl <;> rfl) (by unfold maxLen; omega) (by omega) (by have := (Array.getElem?_eq_some_iff.1 HC8.out.b7).1; simp at this ⊢; omega) ?_
            intro v' w9 hown hgr hnil
            obtain ⟨g9, c9, rfl⟩ := owns_some hown (fun e => by have := (hnil.1 e).2; omega)
            have HC9 : Hid (CovI r k7 w0 w9 (p + 1 + 1) at' nt ct ss ⟨qv, q1, q2, q3⟩ gq cq (some ⟨g9, 0, none⟩) c9 (xl ++ [(⟨⟨[1], (⟨#[107]⟩ : ByteArray) ++ S, (⟨#[116]⟩ : ByteArray) ++ S, ⟨#[]⟩⟩, wr.heap.size, 1⟩ : RlE)])) := covI_more HC8.out HX.out hown (by simp) hgr
            clear hown hgr hnil HC8 HX
            go_wp2_with fail
            exact ⟨⟨j - 1, some ⟨g9, 0, none⟩, c9, xl ++ [(⟨⟨[1], (⟨#[107]⟩ : ByteArray) ++ S, (⟨#[116]⟩ : ByteArray) ++ S, ⟨#[]⟩⟩, wr.heap.size, 1⟩ : RlE)], by omega, by simp; omega, by rw [show ((j - 1 : Nat) : Int) = (j : Int) - 1 by omega], by simp, HC9.out⟩, by simp [intOf]; omega⟩
    · have h0I : (0 : Int) < (m : Int) := by omega
      go_wp2_with fail
      refine (l4AnyRule_any r p wr (by omega) HC0.out.rd).mono ?_
      rintro e w5 ⟨⟨vs, s1, s2, s3⟩, g, c, p5, rfl, hq5, hp5, hr5, D5⟩
      have hl5 := hq5.len
      dsimp only at hl5
      unfold Rl.cells
      dsimp only
      go_wp2_with fail
      obtain ⟨W5, hW5, hk5, hz5, hr6, D6⟩ := alloc_box w5 #[.slice (some ⟨g, 0, none⟩) vs.length c, .string s1, .string s2, .string s3] 27 hr5
      refine calls_eq hW5 ?_
      clear hW5 hr5
      refine (pick_any 2 r p5 W5 (by omega) (by omega) (by omega) hr6).mono ?_
      rintro e w6 ⟨d, rfl, hd, hr7, -, D7⟩
      have D57 := dr_trans D6 D7
      have DD := dr_trans D5 D57
      have k10 := (dr_block D7 hz5 (by have := HC0.out.rd.lt; have := dr_le D5; omega)).trans hk5
      have hs5 := dr_le D5
      have hs6 := dr_le D57
      have h7 := (Array.getElem?_eq_some_iff.1 HC0.out.b7).1
      have HC : Hid (CovI r k7 w0 w6 (p5 + 1) at' nt ct ss ⟨qv, q1, q2, q3⟩ gq cq a cap xs) := covI_dr HC0.out DD hr7
      have hz6 : w5.heap.size < w6.heap.size := Nat.lt_of_lt_of_le hz5 (dr_le D7)
      by_cases d0 : d = 0
      rotate_left
      · have nd : ((d : Int) == 0) = false := by rw [beq_eq_false_iff_ne]; omega
        have e10 := fun j => cell_of_block (o := j) k10
        have hx5 : RlEnt (k7 + 1) w6 ⟨vs, s1, s2, s3⟩ g c := rlEnt_of (rlDrew_low (rlDrew_dr hq5 D57 (by omega)) (by omega))
        clear HC0 hq5 hr6 hr7 D5 D6 D7 D57 DD hk5 k10
        have HX : Hid (RlEnt (k7 + 1) _ (⟨⟨vs, s1, s2, s3⟩, g, c⟩ : RlE).q (⟨⟨vs, s1, s2, s3⟩, g, c⟩ : RlE).g (⟨⟨vs, s1, s2, s3⟩, g, c⟩ : RlE).cap) := hx5
        go_wp2_with (at_builtin; refine hold_here ?_)
        show wpList _ _ _ _ _ _
        refine wpList_append_own _ rfl (.tmp 67) (.tmp 69) 24 rfl (k7 + 1) 27 i0 (.agg #[.slice none 0 0, .string ByteArray.empty, .string ByteArray.empty, .string ByteArray.empty]) 4 72 Tryd.underlying24 hi hz0 hz1' hz2 rfl (by decide) (.slice a xs.length cap) xs.length _ rfl (HC.out.rs.own.alloc _) ⟨_, 0, none⟩ 1 1 (⟨⟨vs, s1, s2, s3⟩, g, c⟩ : RlE).row rfl rfl (four_news _ _ _ _ _ (by first | rfl | simp)) (by intro u hu; simp [RlE.row] at hu; rcases hu with rfl | rfl | rfl | rfl <;> rfl) (by unfold maxLen; omega) (by omega) (by have := (Array.getElem?_eq_some_iff.1 HC.out.b7).1; simp at this ⊢; omega) ?_
        intro v' w9 hown hgr hnil
        obtain ⟨g9, c9, rfl⟩ := owns_some hown (fun e => by have := (hnil.1 e).2; omega)
        have HC9 : Hid (CovI r k7 w0 w9 (p5 + 1) at' nt ct ss ⟨qv, q1, q2, q3⟩ gq cq (some ⟨g9, 0, none⟩) c9 (xs ++ [(⟨⟨vs, s1, s2, s3⟩, g, c⟩ : RlE)])) := covI_more HC.out HX.out hown (by simp) hgr
        clear hown hgr hnil HC HX
        go_wp2_with fail
        exact ⟨⟨m - 1, some ⟨g9, 0, none⟩, c9, xs ++ [(⟨⟨vs, s1, s2, s3⟩, g, c⟩ : RlE)], (p5 + 1), by omega, by simp; omega, by rw [show ((m - 1 : Nat) : Int) = (m : Int) - 1 by omega], by simp, HC9.out, by omega⟩, by simp [intOf]; omega⟩
      · subst d0
        have b7' : w6.heap[k7]? = some (.cells #[.slice (some ⟨gq, 0, none⟩) qv.length cq, .string q1, .string q2, .string q3] 27) := HC.out.b7
        have e7 := fun j => cell_of_block (o := j) b7'
        have hpx : q3.size ≤ 1000 := HC.out.rl.px
        clear b7'
        go_wp2_with fail
        refine (l5Rule_any qv q1 q2 q3 gq cq (r + 1) w6 HC.out.rl).mono ?_
        rintro e w7 ⟨g7, c7, rfl, hq7, bb7⟩
        have k10' := (bb7.block _ hz6).trans k10
        have e10 := fun j => cell_of_block (o := j) k10'
        have f10 := fun j => frozen_of_block (o := j) k10'
        have HD : Hid (Dr r wr w7 ∧ RdAt w7 r (p5 + 1) ∧ RlDrew w6.heap.size w7 ⟨qv, q1, q2, q3⟩ g7 c7) := ⟨dr_trans DD (dr_below bb7), hr7.mono bb7, hq7⟩
        have HK : Hid (w7.heap[w5.heap.size]? = some (.cells #[.slice (some ⟨g, 0, none⟩) vs.length c, .string s1, .string s2, .string s3] 27)) := k10'
        have hz7 : w6.heap.size ≤ w7.heap.size := bb7.size
        have hrr := HC0.out.rd.lt
        clear k10 k10' hq7 hq5 bb7 e7 HC hk5 D5 D6 D7 D57 DD hr6 hr7
        unfold Rl.cells
        dsimp only
        go_wp2_with fail
        refine calls_world (fun V => V.heap[w5.heap.size]? = some (.cells #[.slice (some ⟨g7, 0, none⟩) qv.length c7, .string q1, .string q2, .string q3] 27) ∧ Dr r wr V ∧ RdAt V r (p5 + 1) ∧ RlDrew w6.heap.size V ⟨qv, q1, q2, q3⟩ g7 c7 ∧ w6.heap.size ≤ V.heap.size) ?_ ?_
        · refine ⟨?_, ?_, ?_, ⟨HD.out.2.2.small, HD.out.2.2.px, HD.out.2.2.len, ?_⟩, by simpa using hz7⟩
          · rw [heap_setCell_at (heap_setCell_at (heap_setCell_at (heap_setCell_at HK.out _) _) _) _]; simp
          · iterate 4 refine dr_set ?_ hs5
            exact HD.out.1
          · iterate 4 refine rd_set ?_ (by omega)
            exact HD.out.2.1
          · have hk : ∀ q', (Value.slice (some ⟨g7, 0, none⟩) qv.length c7).ownBlock = some q' → q' ≠ w5.heap.size := fun q' hq' => by have := (HD.out.2.2.own.lt q' hq').1; omega
            iterate 4 refine owns_set ?_ hk
            exact HD.out.2.2.own
        clear HD HK e10 f10 hz7
        rintro V ⟨kV, dV, rV, qV, zV⟩
        refine (pick_any 8 r (p5 + 1) V (by omega) (by omega) (by omega) rV).mono ?_
        rintro e w8 ⟨t, rfl, ht, hr8, -, D8⟩
        have k8 := (dr_block D8 (Nat.lt_of_lt_of_le hz6 zV) (by omega)).trans kV
        have q8 := rlDrew_dr qV D8 (by omega)
        have HE : Hid (Dr r wr w8 ∧ RdAt w8 r (p5 + 1 + 1) ∧ RlDrew w6.heap.size w8 ⟨qv, q1, q2, q3⟩ g7 c7) := ⟨dr_trans dV D8, hr8, q8⟩
        have e8 := fun j => cell_of_block (o := j) k8
        have f8 := fun j => frozen_of_block (o := j) k8
        have hg7 : ∀ q', (Value.slice (some ⟨g7, 0, none⟩) qv.length c7).ownBlock = some q' → q' ≠ w5.heap.size := fun q' hq' => by have := (q8.own.lt q' hq').1; omega
        have HG : Hid (∀ q', (Value.slice (some ⟨g7, 0, none⟩) qv.length c7).ownBlock = some q' → q' ≠ w5.heap.size) := hg7
        clear dV D8 rV qV q8 hr8 kV k8 hg7
        by_cases t0 : t = 0
        · subst t0
          have HC : Hid (CovI r k7 w0 (w8.setCell ⟨w5.heap.size, 1, none⟩ (.string ⟨#[]⟩)) (p5 + 1 + 1) at' nt ct ss ⟨qv, q1, q2, q3⟩ gq cq a cap xs) := covI_dr HC0.out (dr_set HE.out.1 hs5) (rd_set HE.out.2.1 (by omega))
          have hx8 : RlEnt (k7 + 1) (w8.setCell ⟨w5.heap.size, 1, none⟩ (.string ⟨#[]⟩)) ⟨qv, ⟨#[]⟩, q2, q3⟩ g7 c7 := ⟨⟨by first | exact HE.out.2.2.small.kd | (dsimp only; unfold maxLen; decide), by first | exact HE.out.2.2.small.tm | (dsimp only; unfold maxLen; decide), by first | exact HE.out.2.2.small.px | (dsimp only; unfold maxLen; decide) | (dsimp only; rw [ByteArray.size_append]; have : (⟨#[49]⟩ : ByteArray).size = 1 := rfl; unfold maxLen; omega)⟩, HE.out.2.2.len, ownsRow_low (owns_set (HE.out.2.2.own) HG.out) (by omega)⟩
          have HX : Hid (RlEnt (k7 + 1) _ (⟨⟨qv, ⟨#[]⟩, q2, q3⟩, g7, c7⟩ : RlE).q (⟨⟨qv, ⟨#[]⟩, q2, q3⟩, g7, c7⟩ : RlE).g (⟨⟨qv, ⟨#[]⟩, q2, q3⟩, g7, c7⟩ : RlE).cap) := hx8
          go_wp2_with (at_builtin; refine hold_here ?_)
          show wpList _ _ _ _ _ _
          refine wpList_append_own _ rfl (.tmp 67) (.tmp 69) 24 rfl (k7 + 1) 27 i0 (.agg #[.slice none 0 0, .string ByteArray.empty, .string ByteArray.empty, .string ByteArray.empty]) 4 72 Tryd.underlying24 hi hz0 hz1' hz2 rfl (by decide) (.slice a xs.length cap) xs.length _ rfl (HC.out.rs.own.alloc _) ⟨_, 0, none⟩ 1 1 (⟨⟨qv, ⟨#[]⟩, q2, q3⟩, g7, c7⟩ : RlE).row rfl rfl (four_news _ _ _ _ _ (by first | rfl | simp)) (by intro u hu; simp [RlE.row] at hu; rcases hu with rfl | rfl | rfl | rfl <;> rfl) (by unfold maxLen; omega) (by omega) (by have := (Array.getElem?_eq_some_iff.1 HC.out.b7).1; simp at this ⊢; omega) ?_
          intro v' w9 hown hgr hnil
          obtain ⟨g9, c9, rfl⟩ := owns_some hown (fun e => by have := (hnil.1 e).2; omega)
          have HC9 : Hid (CovI r k7 w0 w9 (p5 + 1 + 1) at' nt ct ss ⟨qv, q1, q2, q3⟩ gq cq (some ⟨g9, 0, none⟩) c9 (xs ++ [(⟨⟨qv, ⟨#[]⟩, q2, q3⟩, g7, c7⟩ : RlE)])) := covI_more HC.out HX.out hown (by simp) hgr
          clear hown hgr hnil HC HX HE HG
          go_wp2_with fail
          exact ⟨⟨m - 1, some ⟨g9, 0, none⟩, c9, xs ++ [(⟨⟨qv, ⟨#[]⟩, q2, q3⟩, g7, c7⟩ : RlE)], (p5 + 1 + 1), by omega, by simp; omega, by rw [show ((m - 1 : Nat) : Int) = (m : Int) - 1 by omega], by simp, HC9.out, by omega⟩, by simp [intOf]; omega⟩
        have nt0 : ((t : Int) == 0) = false := by rw [beq_eq_false_iff_ne]; omega
        by_cases t1 : t = 1
        · subst t1
          have HC : Hid (CovI r k7 w0 (w8.setCell ⟨w5.heap.size, 2, none⟩ (.string ⟨#[]⟩)) (p5 + 1 + 1) at' nt ct ss ⟨qv, q1, q2, q3⟩ gq cq a cap xs) := covI_dr HC0.out (dr_set HE.out.1 hs5) (rd_set HE.out.2.1 (by omega))
          have hx8 : RlEnt (k7 + 1) (w8.setCell ⟨w5.heap.size, 2, none⟩ (.string ⟨#[]⟩)) ⟨qv, q1, ⟨#[]⟩, q3⟩ g7 c7 := ⟨⟨by first | exact HE.out.2.2.small.kd | (dsimp only; unfold maxLen; decide), by first | exact HE.out.2.2.small.tm | (dsimp only; unfold maxLen; decide), by first | exact HE.out.2.2.small.px | (dsimp only; unfold maxLen; decide) | (dsimp only; rw [ByteArray.size_append]; have : (⟨#[49]⟩ : ByteArray).size = 1 := rfl; unfold maxLen; omega)⟩, HE.out.2.2.len, ownsRow_low (owns_set (HE.out.2.2.own) HG.out) (by omega)⟩
          have HX : Hid (RlEnt (k7 + 1) _ (⟨⟨qv, q1, ⟨#[]⟩, q3⟩, g7, c7⟩ : RlE).q (⟨⟨qv, q1, ⟨#[]⟩, q3⟩, g7, c7⟩ : RlE).g (⟨⟨qv, q1, ⟨#[]⟩, q3⟩, g7, c7⟩ : RlE).cap) := hx8
          go_wp2_with (at_builtin; refine hold_here ?_)
          show wpList _ _ _ _ _ _
          refine wpList_append_own _ rfl (.tmp 67) (.tmp 69) 24 rfl (k7 + 1) 27 i0 (.agg #[.slice none 0 0, .string ByteArray.empty, .string ByteArray.empty, .string ByteArray.empty]) 4 72 Tryd.underlying24 hi hz0 hz1' hz2 rfl (by decide) (.slice a xs.length cap) xs.length _ rfl (HC.out.rs.own.alloc _) ⟨_, 0, none⟩ 1 1 (⟨⟨qv, q1, ⟨#[]⟩, q3⟩, g7, c7⟩ : RlE).row rfl rfl (four_news _ _ _ _ _ (by first | rfl | simp)) (by intro u hu; simp [RlE.row] at hu; rcases hu with rfl | rfl | rfl | rfl <;> rfl) (by unfold maxLen; omega) (by omega) (by have := (Array.getElem?_eq_some_iff.1 HC.out.b7).1; simp at this ⊢; omega) ?_
          intro v' w9 hown hgr hnil
          obtain ⟨g9, c9, rfl⟩ := owns_some hown (fun e => by have := (hnil.1 e).2; omega)
          have HC9 : Hid (CovI r k7 w0 w9 (p5 + 1 + 1) at' nt ct ss ⟨qv, q1, q2, q3⟩ gq cq (some ⟨g9, 0, none⟩) c9 (xs ++ [(⟨⟨qv, q1, ⟨#[]⟩, q3⟩, g7, c7⟩ : RlE)])) := covI_more HC.out HX.out hown (by simp) hgr
          clear hown hgr hnil HC HX HE HG
          go_wp2_with fail
          exact ⟨⟨m - 1, some ⟨g9, 0, none⟩, c9, xs ++ [(⟨⟨qv, q1, ⟨#[]⟩, q3⟩, g7, c7⟩ : RlE)], (p5 + 1 + 1), by omega, by simp; omega, by rw [show ((m - 1 : Nat) : Int) = (m : Int) - 1 by omega], by simp, HC9.out, by omega⟩, by simp [intOf]; omega⟩
        have nt1 : ((t : Int) == 1) = false := by rw [beq_eq_false_iff_ne]; omega
        by_cases t2 : t = 2
        · subst t2
          have HC : Hid (CovI r k7 w0 (w8.setCell ⟨w5.heap.size, 3, none⟩ (.string ⟨#[]⟩)) (p5 + 1 + 1) at' nt ct ss ⟨qv, q1, q2, q3⟩ gq cq a cap xs) := covI_dr HC0.out (dr_set HE.out.1 hs5) (rd_set HE.out.2.1 (by omega))
          have hx8 : RlEnt (k7 + 1) (w8.setCell ⟨w5.heap.size, 3, none⟩ (.string ⟨#[]⟩)) ⟨qv, q1, q2, ⟨#[]⟩⟩ g7 c7 := ⟨⟨by first | exact HE.out.2.2.small.kd | (dsimp only; unfold maxLen; decide), by first | exact HE.out.2.2.small.tm | (dsimp only; unfold maxLen; decide), by first | exact HE.out.2.2.small.px | (dsimp only; unfold maxLen; decide) | (dsimp only; rw [ByteArray.size_append]; have : (⟨#[49]⟩ : ByteArray).size = 1 := rfl; unfold maxLen; omega)⟩, HE.out.2.2.len, ownsRow_low (owns_set (HE.out.2.2.own) HG.out) (by omega)⟩
          have HX : Hid (RlEnt (k7 + 1) _ (⟨⟨qv, q1, q2, ⟨#[]⟩⟩, g7, c7⟩ : RlE).q (⟨⟨qv, q1, q2, ⟨#[]⟩⟩, g7, c7⟩ : RlE).g (⟨⟨qv, q1, q2, ⟨#[]⟩⟩, g7, c7⟩ : RlE).cap) := hx8
          go_wp2_with (at_builtin; refine hold_here ?_)
          show wpList _ _ _ _ _ _
          refine wpList_append_own _ rfl (.tmp 67) (.tmp 69) 24 rfl (k7 + 1) 27 i0 (.agg #[.slice none 0 0, .string ByteArray.empty, .string ByteArray.empty, .string ByteArray.empty]) 4 72 Tryd.underlying24 hi hz0 hz1' hz2 rfl (by decide) (.slice a xs.length cap) xs.length _ rfl (HC.out.rs.own.alloc _) ⟨_, 0, none⟩ 1 1 (⟨⟨qv, q1, q2, ⟨#[]⟩⟩, g7, c7⟩ : RlE).row rfl rfl (four_news _ _ _ _ _ (by first | rfl | simp)) (by intro u hu; simp [RlE.row] at hu; rcases hu with rfl | rfl | rfl | rfl <;> rfl) (by unfold maxLen; omega) (by omega) (by have := (Array.getElem?_eq_some_iff.1 HC.out.b7).1; simp at this ⊢; omega) ?_
          intro v' w9 hown hgr hnil
          obtain ⟨g9, c9, rfl⟩ := owns_some hown (fun e => by have := (hnil.1 e).2; omega)
          have HC9 : Hid (CovI r k7 w0 w9 (p5 + 1 + 1) at' nt ct ss ⟨qv, q1, q2, q3⟩ gq cq (some ⟨g9, 0, none⟩) c9 (xs ++ [(⟨⟨qv, q1, q2, ⟨#[]⟩⟩, g7, c7⟩ : RlE)])) := covI_more HC.out HX.out hown (by simp) hgr
          clear hown hgr hnil HC HX HE HG
          go_wp2_with fail
          exact ⟨⟨m - 1, some ⟨g9, 0, none⟩, c9, xs ++ [(⟨⟨qv, q1, q2, ⟨#[]⟩⟩, g7, c7⟩ : RlE)], (p5 + 1 + 1), by omega, by simp; omega, by rw [show ((m - 1 : Nat) : Int) = (m : Int) - 1 by omega], by simp, HC9.out, by omega⟩, by simp [intOf]; omega⟩
        have nt2 : ((t : Int) == 2) = false := by rw [beq_eq_false_iff_ne]; omega
        by_cases t3 : t = 3
        · subst t3
          have hcap : qv.length ≤ c7 := owns_cap HE.out.2.2.own
          have hh0 : (0 : Int) ≤ ((qv.length : Int) + 1) / 2 := by omega
          have hh1 : (((qv.length : Int) + 1) / 2).toNat = (qv.length + 1) / 2 := by omega
          have hh2 : ((qv.length : Int) + 1) / 2 ≤ (c7 : Int) := by omega
          have hh3 : (qv.length + 1) / 2 ≤ c7 := by omega
          have hlt' : (qv.take ((qv.length + 1) / 2)).length = (qv.length + 1) / 2 := by simp; omega
          have HG2 : Hid (∀ q', (Value.slice (some ⟨g7, 0, none⟩) (qv.take ((qv.length + 1) / 2)).length c7).ownBlock = some q' → q' ≠ w5.heap.size) := fun q' hq' => HG.out q' hq'
          have e9 : (Value.slice (some ⟨g7, 0, none⟩) ((qv.length + 1) / 2) c7) = Value.slice (some ⟨g7, 0, none⟩) (qv.take ((qv.length + 1) / 2)).length c7 := by rw [hlt']
          have HC : Hid (CovI r k7 w0 (w8.setCell ⟨w5.heap.size, 0, none⟩ (.slice (some ⟨g7, 0, none⟩) (qv.take ((qv.length + 1) / 2)).length c7)) (p5 + 1 + 1) at' nt ct ss ⟨qv, q1, q2, q3⟩ gq cq a cap xs) := covI_dr HC0.out (dr_set HE.out.1 hs5) (rd_set HE.out.2.1 (by omega))
          have hx8 : RlEnt (k7 + 1) (w8.setCell ⟨w5.heap.size, 0, none⟩ (.slice (some ⟨g7, 0, none⟩) (qv.take ((qv.length + 1) / 2)).length c7)) ⟨(qv.take ((qv.length + 1) / 2)), q1, q2, q3⟩ g7 c7 := ⟨⟨by first | exact HE.out.2.2.small.kd | (dsimp only; unfold maxLen; decide), by first | exact HE.out.2.2.small.tm | (dsimp only; unfold maxLen; decide), by first | exact HE.out.2.2.small.px | (dsimp only; unfold maxLen; decide) | (dsimp only; rw [ByteArray.size_append]; have : (⟨#[49]⟩ : ByteArray).size = 1 := rfl; unfold maxLen; omega)⟩, (by have := HE.out.2.2.len; simp; omega), ownsRow_low (owns_set (owns_take HE.out.2.2.own (by omega)) HG2.out) (by omega)⟩
          have HX : Hid (RlEnt (k7 + 1) _ (⟨⟨(qv.take ((qv.length + 1) / 2)), q1, q2, q3⟩, g7, c7⟩ : RlE).q (⟨⟨(qv.take ((qv.length + 1) / 2)), q1, q2, q3⟩, g7, c7⟩ : RlE).g (⟨⟨(qv.take ((qv.length + 1) / 2)), q1, q2, q3⟩, g7, c7⟩ : RlE).cap) := hx8
          go_wp2_with (at_builtin; refine hold_here ?_)
          show wpList _ _ _ _ _ _
          refine wpList_append_own _ rfl (.tmp 67) (.tmp 69) 24 rfl (k7 + 1) 27 i0 (.agg #[.slice none 0 0, .string ByteArray.empty, .string ByteArray.empty, .string ByteArray.empty]) 4 72 Tryd.underlying24 hi hz0 hz1' hz2 rfl (by decide) (.slice a xs.length cap) xs.length _ rfl (HC.out.rs.own.alloc _) ⟨_, 0, none⟩ 1 1 (⟨⟨(qv.take ((qv.length + 1) / 2)), q1, q2, q3⟩, g7, c7⟩ : RlE).row rfl rfl (four_news _ _ _ _ _ (by first | rfl | simp)) (by intro u hu; simp [RlE.row] at hu; rcases hu with rfl | rfl | rfl | rfl <;> rfl) (by unfold maxLen; omega) (by omega) (by have := (Array.getElem?_eq_some_iff.1 HC.out.b7).1; simp at this ⊢; omega) ?_
          intro v' w9 hown hgr hnil
          obtain ⟨g9, c9, rfl⟩ := owns_some hown (fun e => by have := (hnil.1 e).2; omega)
          have HC9 : Hid (CovI r k7 w0 w9 (p5 + 1 + 1) at' nt ct ss ⟨qv, q1, q2, q3⟩ gq cq (some ⟨g9, 0, none⟩) c9 (xs ++ [(⟨⟨(qv.take ((qv.length + 1) / 2)), q1, q2, q3⟩, g7, c7⟩ : RlE)])) := covI_more HC.out HX.out hown (by simp) hgr
          clear hown hgr hnil HC HX HE HG
          go_wp2_with fail
          exact ⟨⟨m - 1, some ⟨g9, 0, none⟩, c9, xs ++ [(⟨⟨(qv.take ((qv.length + 1) / 2)), q1, q2, q3⟩, g7, c7⟩ : RlE)], (p5 + 1 + 1), by omega, by simp; omega, by rw [show ((m - 1 : Nat) : Int) = (m : Int) - 1 by omega], by simp, HC9.out, by omega⟩, by simp [intOf]; omega⟩
        have nt3 : ((t : Int) == 3) = false := by rw [beq_eq_false_iff_ne]; omega
        by_cases t4 : t = 4
        · subst t4
          have hcap : qv.length ≤ c7 := owns_cap HE.out.2.2.own
          have hh0 : (0 : Int) ≤ ((qv.length : Int) + 1) / 2 := by omega
          have hh1 : (((qv.length : Int) + 1) / 2).toNat = (qv.length + 1) / 2 := by omega
          have hh2 : ((qv.length : Int) + 1) / 2 ≤ (c7 : Int) := by omega
          have hh3 : (qv.length + 1) / 2 ≤ c7 := by omega
          have hlt' : (qv.take ((qv.length + 1) / 2)).length = (qv.length + 1) / 2 := by simp; omega
          have HG2 : Hid (∀ q', (Value.slice (some ⟨g7, 0, none⟩) (qv.take ((qv.length + 1) / 2)).length c7).ownBlock = some q' → q' ≠ w5.heap.size) := fun q' hq' => HG.out q' hq'
          have e9 : (Value.slice (some ⟨g7, 0, none⟩) ((qv.length + 1) / 2) c7) = Value.slice (some ⟨g7, 0, none⟩) (qv.take ((qv.length + 1) / 2)).length c7 := by rw [hlt']
          have HC : Hid (CovI r k7 w0 (w8.setCell ⟨w5.heap.size, 0, none⟩ (.slice (some ⟨g7, 0, none⟩) (qv.take ((qv.length + 1) / 2)).length c7)) (p5 + 1 + 1) at' nt ct ss ⟨qv, q1, q2, q3⟩ gq cq a cap xs) := covI_dr HC0.out (dr_set HE.out.1 hs5) (rd_set HE.out.2.1 (by omega))
          have hx8 : RlEnt (k7 + 1) (w8.setCell ⟨w5.heap.size, 0, none⟩ (.slice (some ⟨g7, 0, none⟩) (qv.take ((qv.length + 1) / 2)).length c7)) ⟨(qv.take ((qv.length + 1) / 2)), q1, q2, q3⟩ g7 c7 := ⟨⟨by first | exact HE.out.2.2.small.kd | (dsimp only; unfold maxLen; decide), by first | exact HE.out.2.2.small.tm | (dsimp only; unfold maxLen; decide), by first | exact HE.out.2.2.small.px | (dsimp only; unfold maxLen; decide) | (dsimp only; rw [ByteArray.size_append]; have : (⟨#[49]⟩ : ByteArray).size = 1 := rfl; unfold maxLen; omega)⟩, (by have := HE.out.2.2.len; simp; omega), ownsRow_low (owns_set (owns_take HE.out.2.2.own (by omega)) HG2.out) (by omega)⟩
          have HX : Hid (RlEnt (k7 + 1) _ (⟨⟨(qv.take ((qv.length + 1) / 2)), q1, q2, q3⟩, g7, c7⟩ : RlE).q (⟨⟨(qv.take ((qv.length + 1) / 2)), q1, q2, q3⟩, g7, c7⟩ : RlE).g (⟨⟨(qv.take ((qv.length + 1) / 2)), q1, q2, q3⟩, g7, c7⟩ : RlE).cap) := hx8
          go_wp2_with (at_builtin; refine hold_here ?_)
          show wpList _ _ _ _ _ _
          refine wpList_append_own _ rfl (.tmp 67) (.tmp 69) 24 rfl (k7 + 1) 27 i0 (.agg #[.slice none 0 0, .string ByteArray.empty, .string ByteArray.empty, .string ByteArray.empty]) 4 72 Tryd.underlying24 hi hz0 hz1' hz2 rfl (by decide) (.slice a xs.length cap) xs.length _ rfl (HC.out.rs.own.alloc _) ⟨_, 0, none⟩ 1 1 (⟨⟨(qv.take ((qv.length + 1) / 2)), q1, q2, q3⟩, g7, c7⟩ : RlE).row rfl rfl (four_news _ _ _ _ _ (by first | rfl | simp)) (by intro u hu; simp [RlE.row] at hu; rcases hu with rfl | rfl | rfl | rfl <;> rfl) (by unfold maxLen; omega) (by omega) (by have := (Array.getElem?_eq_some_iff.1 HC.out.b7).1; simp at this ⊢; omega) ?_
          intro v' w9 hown hgr hnil
          obtain ⟨g9, c9, rfl⟩ := owns_some hown (fun e => by have := (hnil.1 e).2; omega)
          have HC9 : Hid (CovI r k7 w0 w9 (p5 + 1 + 1) at' nt ct ss ⟨qv, q1, q2, q3⟩ gq cq (some ⟨g9, 0, none⟩) c9 (xs ++ [(⟨⟨(qv.take ((qv.length + 1) / 2)), q1, q2, q3⟩, g7, c7⟩ : RlE)])) := covI_more HC.out HX.out hown (by simp) hgr
          clear hown hgr hnil HC HX HE HG
          go_wp2_with fail
          exact ⟨⟨m - 1, some ⟨g9, 0, none⟩, c9, xs ++ [(⟨⟨(qv.take ((qv.length + 1) / 2)), q1, q2, q3⟩, g7, c7⟩ : RlE)], (p5 + 1 + 1), by omega, by simp; omega, by rw [show ((m - 1 : Nat) : Int) = (m : Int) - 1 by omega], by simp, HC9.out, by omega⟩, by simp [intOf]; omega⟩
        have nt4 : ((t : Int) == 4) = false := by rw [beq_eq_false_iff_ne]; omega
        by_cases t5 : t = 5
        · subst t5
          have HC : Hid (CovI r k7 w0 (w8.setCell ⟨w5.heap.size, 1, none⟩ (.string ⟨#[106, 111, 98]⟩)) (p5 + 1 + 1) at' nt ct ss ⟨qv, q1, q2, q3⟩ gq cq a cap xs) := covI_dr HC0.out (dr_set HE.out.1 hs5) (rd_set HE.out.2.1 (by omega))
          have hx8 : RlEnt (k7 + 1) (w8.setCell ⟨w5.heap.size, 1, none⟩ (.string ⟨#[106, 111, 98]⟩)) ⟨qv, ⟨#[106, 111, 98]⟩, q2, q3⟩ g7 c7 := ⟨⟨by first | exact HE.out.2.2.small.kd | (dsimp only; unfold maxLen; decide), by first | exact HE.out.2.2.small.tm | (dsimp only; unfold maxLen; decide), by first | exact HE.out.2.2.small.px | (dsimp only; unfold maxLen; decide) | (dsimp only; rw [ByteArray.size_append]; have : (⟨#[49]⟩ : ByteArray).size = 1 := rfl; unfold maxLen; omega)⟩, HE.out.2.2.len, ownsRow_low (owns_set (HE.out.2.2.own) HG.out) (by omega)⟩
          have HX : Hid (RlEnt (k7 + 1) _ (⟨⟨qv, ⟨#[106, 111, 98]⟩, q2, q3⟩, g7, c7⟩ : RlE).q (⟨⟨qv, ⟨#[106, 111, 98]⟩, q2, q3⟩, g7, c7⟩ : RlE).g (⟨⟨qv, ⟨#[106, 111, 98]⟩, q2, q3⟩, g7, c7⟩ : RlE).cap) := hx8
          go_wp2_with (at_builtin; refine hold_here ?_)
          show wpList _ _ _ _ _ _
          refine wpList_append_own _ rfl (.tmp 67) (.tmp 69) 24 rfl (k7 + 1) 27 i0 (.agg #[.slice none 0 0, .string ByteArray.empty, .string ByteArray.empty, .string ByteArray.empty]) 4 72 Tryd.underlying24 hi hz0 hz1' hz2 rfl (by decide) (.slice a xs.length cap) xs.length _ rfl (HC.out.rs.own.alloc _) ⟨_, 0, none⟩ 1 1 (⟨⟨qv, ⟨#[106, 111, 98]⟩, q2, q3⟩, g7, c7⟩ : RlE).row rfl rfl (four_news _ _ _ _ _ (by first | rfl | simp)) (by intro u hu; simp [RlE.row] at hu; rcases hu with rfl | rfl | rfl | rfl <;> rfl) (by unfold maxLen; omega) (by omega) (by have := (Array.getElem?_eq_some_iff.1 HC.out.b7).1; simp at this ⊢; omega) ?_
          intro v' w9 hown hgr hnil
          obtain ⟨g9, c9, rfl⟩ := owns_some hown (fun e => by have := (hnil.1 e).2; omega)
          have HC9 : Hid (CovI r k7 w0 w9 (p5 + 1 + 1) at' nt ct ss ⟨qv, q1, q2, q3⟩ gq cq (some ⟨g9, 0, none⟩) c9 (xs ++ [(⟨⟨qv, ⟨#[106, 111, 98]⟩, q2, q3⟩, g7, c7⟩ : RlE)])) := covI_more HC.out HX.out hown (by simp) hgr
          clear hown hgr hnil HC HX HE HG
          go_wp2_with fail
          exact ⟨⟨m - 1, some ⟨g9, 0, none⟩, c9, xs ++ [(⟨⟨qv, ⟨#[106, 111, 98]⟩, q2, q3⟩, g7, c7⟩ : RlE)], (p5 + 1 + 1), by omega, by simp; omega, by rw [show ((m - 1 : Nat) : Int) = (m : Int) - 1 by omega], by simp, HC9.out, by omega⟩, by simp [intOf]; omega⟩
        have nt5 : ((t : Int) == 5) = false := by rw [beq_eq_false_iff_ne]; omega
        by_cases t6 : t = 6
        · subst t6
          have HC : Hid (CovI r k7 w0 (w8.setCell ⟨w5.heap.size, 2, none⟩ (.string ⟨#[100, 101, 118]⟩)) (p5 + 1 + 1) at' nt ct ss ⟨qv, q1, q2, q3⟩ gq cq a cap xs) := covI_dr HC0.out (dr_set HE.out.1 hs5) (rd_set HE.out.2.1 (by omega))
          have hx8 : RlEnt (k7 + 1) (w8.setCell ⟨w5.heap.size, 2, none⟩ (.string ⟨#[100, 101, 118]⟩)) ⟨qv, q1, ⟨#[100, 101, 118]⟩, q3⟩ g7 c7 := ⟨⟨by first | exact HE.out.2.2.small.kd | (dsimp only; unfold maxLen; decide), by first | exact HE.out.2.2.small.tm | (dsimp only; unfold maxLen; decide), by first | exact HE.out.2.2.small.px | (dsimp only; unfold maxLen; decide) | (dsimp only; rw [ByteArray.size_append]; have : (⟨#[49]⟩ : ByteArray).size = 1 := rfl; unfold maxLen; omega)⟩, HE.out.2.2.len, ownsRow_low (owns_set (HE.out.2.2.own) HG.out) (by omega)⟩
          have HX : Hid (RlEnt (k7 + 1) _ (⟨⟨qv, q1, ⟨#[100, 101, 118]⟩, q3⟩, g7, c7⟩ : RlE).q (⟨⟨qv, q1, ⟨#[100, 101, 118]⟩, q3⟩, g7, c7⟩ : RlE).g (⟨⟨qv, q1, ⟨#[100, 101, 118]⟩, q3⟩, g7, c7⟩ : RlE).cap) := hx8
          go_wp2_with (at_builtin; refine hold_here ?_)
          show wpList _ _ _ _ _ _
          refine wpList_append_own _ rfl (.tmp 67) (.tmp 69) 24 rfl (k7 + 1) 27 i0 (.agg #[.slice none 0 0, .string ByteArray.empty, .string ByteArray.empty, .string ByteArray.empty]) 4 72 Tryd.underlying24 hi hz0 hz1' hz2 rfl (by decide) (.slice a xs.length cap) xs.length _ rfl (HC.out.rs.own.alloc _) ⟨_, 0, none⟩ 1 1 (⟨⟨qv, q1, ⟨#[100, 101, 118]⟩, q3⟩, g7, c7⟩ : RlE).row rfl rfl (four_news _ _ _ _ _ (by first | rfl | simp)) (by intro u hu; simp [RlE.row] at hu; rcases hu with rfl | rfl | rfl | rfl <;> rfl) (by unfold maxLen; omega) (by omega) (by have := (Array.getElem?_eq_some_iff.1 HC.out.b7).1; simp at this ⊢; omega) ?_
          intro v' w9 hown hgr hnil
          obtain ⟨g9, c9, rfl⟩ := owns_some hown (fun e => by have := (hnil.1 e).2; omega)
          have HC9 : Hid (CovI r k7 w0 w9 (p5 + 1 + 1) at' nt ct ss ⟨qv, q1, q2, q3⟩ gq cq (some ⟨g9, 0, none⟩) c9 (xs ++ [(⟨⟨qv, q1, ⟨#[100, 101, 118]⟩, q3⟩, g7, c7⟩ : RlE)])) := covI_more HC.out HX.out hown (by simp) hgr
          clear hown hgr hnil HC HX HE HG
          go_wp2_with fail
          exact ⟨⟨m - 1, some ⟨g9, 0, none⟩, c9, xs ++ [(⟨⟨qv, q1, ⟨#[100, 101, 118]⟩, q3⟩, g7, c7⟩ : RlE)], (p5 + 1 + 1), by omega, by simp; omega, by rw [show ((m - 1 : Nat) : Int) = (m : Int) - 1 by omega], by simp, HC9.out, by omega⟩, by simp [intOf]; omega⟩
        have nt6 : ((t : Int) == 6) = false := by rw [beq_eq_false_iff_ne]; omega
        by_cases t7 : t = 7
        · subst t7
          have b7' : w8.heap[k7]? = some (.cells #[.slice (some ⟨gq, 0, none⟩) qv.length cq, .string q1, .string q2, .string q3] 27) := (covI_dr HC0.out HE.out.1 HE.out.2.1).b7
          have e7 := fun j => cell_of_block (o := j) b7'
          clear b7'
          have HC : Hid (CovI r k7 w0 (w8.setCell ⟨w5.heap.size, 3, none⟩ (.string (q3 ++ (⟨#[49]⟩ : ByteArray)))) (p5 + 1 + 1) at' nt ct ss ⟨qv, q1, q2, q3⟩ gq cq a cap xs) := covI_dr HC0.out (dr_set HE.out.1 hs5) (rd_set HE.out.2.1 (by omega))
          have hx8 : RlEnt (k7 + 1) (w8.setCell ⟨w5.heap.size, 3, none⟩ (.string (q3 ++ (⟨#[49]⟩ : ByteArray)))) ⟨qv, q1, q2, (q3 ++ (⟨#[49]⟩ : ByteArray))⟩ g7 c7 := ⟨⟨by first | exact HE.out.2.2.small.kd | (dsimp only; unfold maxLen; decide), by first | exact HE.out.2.2.small.tm | (dsimp only; unfold maxLen; decide), by first | exact HE.out.2.2.small.px | (dsimp only; unfold maxLen; decide) | (dsimp only; rw [ByteArray.size_append]; have : (⟨#[49]⟩ : ByteArray).size = 1 := rfl; unfold maxLen; omega)⟩, HE.out.2.2.len, ownsRow_low (owns_set (HE.out.2.2.own) HG.out) (by omega)⟩
          have HX : Hid (RlEnt (k7 + 1) _ (⟨⟨qv, q1, q2, (q3 ++ (⟨#[49]⟩ : ByteArray))⟩, g7, c7⟩ : RlE).q (⟨⟨qv, q1, q2, (q3 ++ (⟨#[49]⟩ : ByteArray))⟩, g7, c7⟩ : RlE).g (⟨⟨qv, q1, q2, (q3 ++ (⟨#[49]⟩ : ByteArray))⟩, g7, c7⟩ : RlE).cap) := hx8
          go_wp2_with (at_builtin; refine hold_here ?_)
          show wpList _ _ _ _ _ _
          refine wpList_append_own _ rfl (.tmp 67) (.tmp 69) 24 rfl (k7 + 1) 27 i0 (.agg #[.slice none 0 0, .string ByteArray.empty, .string ByteArray.empty, .string ByteArray.empty]) 4 72 Tryd.underlying24 hi hz0 hz1' hz2 rfl (by decide) (.slice a xs.length cap) xs.length _ rfl (HC.out.rs.own.alloc _) ⟨_, 0, none⟩ 1 1 (⟨⟨qv, q1, q2, (q3 ++ (⟨#[49]⟩ : ByteArray))⟩, g7, c7⟩ : RlE).row rfl rfl (four_news _ _ _ _ _ (by first | rfl | simp)) (by intro u hu; simp [RlE.row] at hu; rcases hu with rfl | rfl | rfl | rfl <;> rfl) (by unfold maxLen; omega) (by omega) (by have := (Array.getElem?_eq_some_iff.1 HC.out.b7).1; simp at this ⊢; omega) ?_
          intro v' w9 hown hgr hnil
          obtain ⟨g9, c9, rfl⟩ := owns_some hown (fun e => by have := (hnil.1 e).2; omega)
          have HC9 : Hid (CovI r k7 w0 w9 (p5 + 1 + 1) at' nt ct ss ⟨qv, q1, q2, q3⟩ gq cq (some ⟨g9, 0, none⟩) c9 (xs ++ [(⟨⟨qv, q1, q2, (q3 ++ (⟨#[49]⟩ : ByteArray))⟩, g7, c7⟩ : RlE)])) := covI_more HC.out HX.out hown (by simp) hgr
          clear hown hgr hnil HC HX HE HG
          go_wp2_with fail
          exact ⟨⟨m - 1, some ⟨g9, 0, none⟩, c9, xs ++ [(⟨⟨qv, q1, q2, (q3 ++ (⟨#[49]⟩ : ByteArray))⟩, g7, c7⟩ : RlE)], (p5 + 1 + 1), by omega, by simp; omega, by rw [show ((m - 1 : Nat) : Int) = (m : Int) - 1 by omega], by simp, HC9.out, by omega⟩, by simp [intOf]; omega⟩
        omega

end Go.Proofs.YtackfmeepggedaaDoor
