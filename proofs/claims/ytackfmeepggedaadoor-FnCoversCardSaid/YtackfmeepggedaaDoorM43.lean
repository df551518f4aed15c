import Derived.Test.YtackfmeepggedaaDoorM42
import Derived.Test.YtackfmeepggedaaDoorM27
import Derived.Test.YtackfmeepggedaaDoorM40
import Derived.Test.YtackfmeepggedaaDoorM33
import Derived.Test.YtackfmeepggedaaDoorM03
import Derived.Test.YtackfmeepggedaaDoorM02
namespace Go.Proofs.YtackfmeepggedaaDoor
open Go.RowKit

theorem ruleRow_later {lo : Nat} {w w' : World} {a : Option Addr} {cap : Nat} {xs : List RlE} (h : RuleRow lo w a cap xs) (hb : Below w.heap.size w w') : RuleRow lo w' a cap xs :=
  ⟨ownsRow_later h.own hb, fun x hx => ⟨(h.each x hx).small, (h.each x hx).len, ownsRow_later (h.each x hx).own hb⟩⟩
theorem rules_at {w : World} {a : Option Addr} {cap : Nat} {xs : List RlE} (h : RuleRow 1 w a cap xs) (hn : xs.length ≤ 1000) : RlsAt w a (xs.map RlE.q) := (ruleRow_at (r := 0) h (by omega) hn).unclr
section
variable {P : Program} {ops : Array Oper} {Q : Exit → Act → World → Prop} {md : Region.Mode} {S : World → Prop}
/-- Two operations that may come up, each carried out first. -/
theorem step2H {i j : Nat} {oi oj : Oper} {fuel : Nat} {listed : Array Bool} {a : Act} {w : World} (hi : nth ops.toList i = some oi) (hj : nth ops.toList j = some oj)
    (hr : Region.ready md ops listed = [i, j]) (hwi : Region.wanted oi (yielded ops a.tmps) = true) (hwj : Region.wanted oj (yielded ops a.tmps) = true)
    (h1 : ∀ K : Act → World → Prop, Shut (∀ a w, S w → (S w → wpAnyH P md ops Q S fuel (listed.setIfInBounds i true) a w) → K a w) → Oper.wp P oi a w K Q)
    (h2 : ∀ K : Act → World → Prop, Shut (∀ a w, S w → (S w → wpAnyH P md ops Q S fuel (listed.setIfInBounds j true) a w) → K a w) → Oper.wp P oj a w K Q) : wpAnyH P md ops Q S (fuel + 1) listed a w :=
  wpAnyH_ready hr (by simp) (AllReadyH.cons (nth_at hi) (fun K hK => by rw [if_pos hwi]; exact h1 K hK) (AllReadyH.cons (nth_at hj) (fun K hK => by rw [if_pos hwj]; exact h2 K hK) AllReadyH.nil))
end
theorem four_news_at {w : World} {n : Nat} {x y z u : Value} {t : TypeId} (h : w.heap[n]? = some (.cells #[x, y, z, u] t)) : ∀ j v, [x, y, z, u][j]? = some v → w.cell? ((⟨n, 0, none⟩ : Addr).add j) = some v := by
  intro j v hj
  rw [Addr.add_mid, Nat.zero_add, cell_of_block h]
  simpa using hj
theorem own_empty {W : World} {g lo : Nat} {t : TypeId} (h : W.heap[g]? = some (.cells #[] t)) (hl : lo ≤ g) : W.ownsRow lo t 4 (.slice (some ⟨g, 0, none⟩) 0 0) 0 [] := ⟨rfl, Or.inr ⟨g, 0, #[], rfl, hl, h, Nat.le_refl _, by simp [maxLen], rfl, rfl⟩⟩
theorem at_1 (w : World) (a b : Obj) : ((w.alloc a).alloc b).drew.heap[w.heap.size]? = some a := (Below.heap_alloc _ _ _ (by simp)).trans (MapKept.heap_alloc w _).1
theorem at_22 (w : World) (a b : Obj) : ((w.alloc a).alloc b).drew.heap[w.heap.size + 1]? = some b := at_2 _ _ _
theorem below_22 (w : World) (a b : Obj) : Below w.heap.size w ((w.alloc a).alloc b).drew := (((Below.refl _ _).alloc (Nat.le_refl _) _).alloc (by simp) _).drew
theorem blk_at {w : World} {n : Nat} {cs : Array Value} {t : TypeId} (h : w.heap[n]? = some (.cells cs t)) : ∀ j, w.cell? ⟨n, j, none⟩ = cs[j]? := fun j => by rw [cell_of_block h]
theorem covers_at {ta : Option Addr} {tc : Nat} {ts : List Tm} {ra : Option Addr} {rc n : Nat} {rs : List Rl} {qv : List Int} {q1 q2 q3 : ByteArray} {a : Option Addr} {cap : Nat} {w : World} {O : Bool} (hO : Gate.covers ts rs ⟨qv, q1, q2, q3⟩ = O) (hw : TmsAt w ta ts) (hr : RlsAt w ra rs) (hm : (⟨qv, q1, q2, q3⟩ : Rl).Small) (hi : IntsAt w a qv) (hn : rs.length = n) :
    Calls Tryd.prog 5 #[.slice ta ts.length tc, .slice ra n rc, .agg #[.slice a qv.length cap, .string q1, .string q2, .string q3]] w fun e w' => e = .returned (.bool O) ∧ Below w.heap.size w w' := by
  subst hn
  exact as_bool hO (implCovers_any ta tc ts ra rc rs ⟨qv, q1, q2, q3⟩ a cap w hw hr hm hi)

set_option maxRecDepth 20000 in
set_option maxHeartbeats 8000000 in
theorem lawFnCovers_any (ca ma : Option Addr) (cn cc mn mcp : Nat) (w : World) (hcu : U8sAt w ca cn) (hmu : U8sAt w ma mn) (hcc : cn ≤ cc) (hmc : mn ≤ mcp) (htab : TabW w) :
    Calls Tryd.prog 3 #[.slice ca cn cc, .slice ma mn mcp] w fun e w' => e = .returned (.bool true) ∧ Below w.heap.size w w' := by
  have hl1 := hcu.len
  have hl2 := hmu.len
  unfold maxLen at hl1 hl2
  have HU : Hid (U8sAt w ca cn ∧ U8sAt w ma mn ∧ TabW w) := ⟨hcu, hmu, htab⟩
  clear hcu hmu htab
  obtain ⟨i0, hi, hz0, hz1', hz2⟩ := info_parts Tryd.infoRule
  by_cases h1 : (1048576 : Int) < (cn : Int)
  · have h1d : decide ((1048576 : Int) < (cn : Int)) = true := decide_eq_true h1
    go_enter Tryd.func3, Tryd.ntmps3
    go_wp2_with fail
    go_ret
    exact ⟨rfl, Below.refl _ _⟩
  by_cases h2 : (1048576 : Int) < (mn : Int)
  · have h1d : decide ((1048576 : Int) < (cn : Int)) = false := decide_eq_false h1
    have h2d : decide ((1048576 : Int) < (mn : Int)) = true := decide_eq_true h2
    go_enter Tryd.func3, Tryd.ntmps3
    go_wp2_with fail
    go_ret
    exact ⟨rfl, Below.refl _ _⟩
  have h1d : decide ((1048576 : Int) < (cn : Int)) = false := decide_eq_false h1
  have h2d : decide ((1048576 : Int) < (mn : Int)) = false := decide_eq_false h2
  clear h1 h2
  go_enter Tryd.func3, Tryd.ntmps3
  go_wp2_with fail
  refine (drawCovers_any ca cn cc w HU.out.1 hcc).mono ?_
  rintro e w1 ⟨ts, rs, q, ta, ra, qa, tc, rc, qc, rfl, htm, hrl, hin, hqs, hr17, ht13, ⟨xs, gq, hrx, rfl, hran, hrow, hqe⟩, b1⟩
  obtain ⟨gr, rfl⟩ : ∃ gr, ra = some ⟨gr, 0, none⟩ := by
    obtain ⟨_, ⟨h0, _⟩ | ⟨g', cp, cur, e', _⟩⟩ := id hrow.own
    · simp at h0; exact absurd h0.1 hran
    · cases e'; exact ⟨g', rfl⟩
  have HR : Hid (rs = xs.map RlE.q ∧ rs.length = xs.length) := ⟨hrx, by rw [hrx]; simp⟩
  clear hrx hran
  obtain ⟨qv, q1, q2, q3⟩ := q
  unfold Rl.cells
  dsimp only
  go_wp2_with fail
  refine calls_world (fun W => (∀ j, W.cell? ⟨w1.heap.size, j, none⟩ = (#[.slice (some ⟨gq, 0, none⟩) qv.length qc, .string q1, .string q2, .string q3] : Array Value)[j]?) ∧ w1.heap.size < W.heap.size ∧ Below w1.heap.size w1 W) ⟨box_new w1 _ _, by simp, (Below.refl _ _).alloc (Nat.le_refl _) _⟩ ?_
  rintro W ⟨hQ1, zQ1, bW⟩
  have HW : Hid (TmsAt W ta ts ∧ RlsAt W (some ⟨gr, 0, none⟩) rs ∧ IntsAt W (some ⟨gq, 0, none⟩) qv ∧ (⟨qv, q1, q2, q3⟩ : Rl).Small ∧ U8sAt W ma mn ∧ TabW W ∧ RuleRow 1 W (some ⟨gr, 0, none⟩) rc xs ∧ RlEnt 1 W ⟨qv, q1, q2, q3⟩ gq qc ∧ Below w.heap.size w W) :=
    ⟨htm.mono bW, hrl.mono bW, hin.mono bW, hqs, (HU.out.2.1.mono b1).mono bW, (HU.out.2.2.mono b1).mono bW, ruleRow_later hrow bW, ⟨hqe.small, hqe.len, ownsRow_later hqe.own bW⟩, below_n b1 bW⟩
  have D1 : Below W.heap.size W W := Below.refl _ _
  clear htm hrl hin hqs hrow hqe b1 bW HU
  obtain ⟨k1, hk1⟩ : ∃ k1, k1 = w1.heap.size := ⟨_, rfl⟩
  rw [← hk1] at hQ1 zQ1 ⊢
  clear hk1
  refine (implCovers_any ta tc ts (some ⟨gr, 0, none⟩) rc rs ⟨qv, q1, q2, q3⟩ (some ⟨gq, 0, none⟩) qc W HW.out.1 HW.out.2.1 HW.out.2.2.2.1 HW.out.2.2.1).mono ?_
  rintro e w2 ⟨rfl, b2⟩
  have D2 := below_n D1 b2
  have hQ2 := box_later hQ1 zQ1 b2
  have zQ2 := Nat.lt_of_lt_of_le zQ1 b2.size
  clear hQ1 zQ1 D1 b2
  go_wp2_with fail
  refine (uncov_any ta tc ts (some ⟨gr, 0, none⟩) rc rs ⟨qv, q1, q2, q3⟩ (some ⟨gq, 0, none⟩) qc w2 (HW.out.1.mono D2) (HW.out.2.1.mono D2) HW.out.2.2.2.1 (HW.out.2.2.1.mono D2) (HW.out.2.2.2.2.2.1.mono D2) (by omega)).mono ?_
  rintro e w3 ⟨x, ok, rfl, hxs, hok, hgood, b3⟩
  have D3 := below_n D2 b3
  have hQ3 := box_later hQ2 zQ2 b3
  have zQ3 := Nat.lt_of_lt_of_le zQ2 b3.size
  have HOK : Hid (ok = (Gate.allOk ts rs ⟨qv, q1, q2, q3⟩ && !Gate.covers ts rs ⟨qv, q1, q2, q3⟩) ∧ x.Small ∧ (ok = true → Gate.allows ts ⟨qv, q1, q2, q3⟩ x = true ∧ ∀ q ∈ rs, Gate.allows ts q x = false)) := ⟨hok, hxs, hgood⟩
  clear hQ2 zQ2 D2 b3 hok hxs hgood
  unfold Ac.cells
  go_wp2_with fail
  refine calls_world (fun V => (∀ j, V.cell? ⟨k1, j, none⟩ = (#[.slice (some ⟨gq, 0, none⟩) qv.length qc, .string q1, .string q2, .string q3] : Array Value)[j]?) ∧ (∀ j, V.cell? ⟨w3.heap.size, j, none⟩ = (#[.int .i64 x.vb, .string x.kd, .string x.tm, .string x.nm] : Array Value)[j]?) ∧ w3.heap.size < V.heap.size ∧ Below W.heap.size W V ∧ w3.heap.size ≤ V.heap.size) ?_ ?_
  · have bV : Below w3.heap.size w3 (w3.alloc (.cells #[.int .i64 x.vb, .string x.kd, .string x.tm, .string x.nm] 32)) := (Below.refl _ _).alloc (Nat.le_refl _) _
    exact ⟨box_later hQ3 zQ3 bV, box_new w3 _ _, by simp, below_n D3 bV, bV.size⟩
  rintro V ⟨hQ4, hX4, zX4, D4, zs⟩
  have zQ4 : k1 < V.heap.size := Nat.lt_of_lt_of_le zQ3 zs
  obtain ⟨k9, hk9⟩ : ∃ k9, k9 = w3.heap.size := ⟨_, rfl⟩
  rw [← hk9] at hX4 zX4 ⊢
  clear hQ3 zQ3 D3 zs hk9
  refine (specCovers_any ta tc ts (some ⟨gr, 0, none⟩) rc rs ⟨qv, q1, q2, q3⟩ (some ⟨gq, 0, none⟩) qc V (HW.out.1.mono D4) (HW.out.2.1.mono D4) HW.out.2.2.2.1 (HW.out.2.2.1.mono D4)).mono ?_
  rintro e w5 ⟨rfl, b5⟩
  have D5 := below_n D4 b5
  have hQ5 := box_later hQ4 zQ4 b5
  have zQ5 := Nat.lt_of_lt_of_le zQ4 b5.size
  have hX5 := box_later hX4 zX4 b5
  have zX5 := Nat.lt_of_lt_of_le zX4 b5.size
  clear hQ4 hX4 zQ4 zX4 D4 b5
  obtain ⟨C, hC⟩ : ∃ C, C = Gate.covers ts rs ⟨qv, q1, q2, q3⟩ := ⟨_, rfl⟩
  have hok := HOK.out.1
  have hxs := HOK.out.2.1
  have hgood := HOK.out.2.2
  clear HOK
  rw [← hC] at hok ⊢
  have hnn : (C != C) = false := by simp
  have HG : Hid (x.Small ∧ (ok = true → Gate.allows ts ⟨qv, q1, q2, q3⟩ x = true ∧ ∀ q ∈ rs, Gate.allows ts q x = false) ∧ C = Gate.covers ts rs ⟨qv, q1, q2, q3⟩) := ⟨hxs, hgood, hC⟩
  clear hxs hgood hC
  obtain ⟨O, hO⟩ : ∃ O, O = Gate.allOk ts rs ⟨qv, q1, q2, q3⟩ := ⟨_, rfl⟩
  rw [← hO] at hok
  have hway : (ok = true ∧ C = false ∧ O = true) ∨ (ok = false ∧ C = true ∧ O = true) ∨ (ok = false ∧ C = false ∧ O = false) := by
    have hCO : C = true → O = true := fun h => by
      have := HG.out.2.2
      rw [h] at this
      rw [hO]
      unfold Gate.covers at this
      cases h9 : Gate.allOk ts rs ⟨qv, q1, q2, q3⟩ with
      | true => rfl
      | false => rw [h9] at this; cases this
    cases C <;> cases O <;> simp_all
  clear hok
  have HO : Hid (O = Gate.allOk ts rs ⟨qv, q1, q2, q3⟩) := hO
  clear hO
  rcases hway with ⟨rfl, rfl, rfl⟩ | ⟨rfl, rfl, rfl⟩ | ⟨rfl, rfl, rfl⟩
  · have HA : Hid (Gate.allows ts ⟨qv, q1, q2, q3⟩ x = true) := (HG.out.2.1 rfl).1
    have HS : Hid ((rs.any fun q => Gate.allows ts q x) = false) := by
      unfold Hid
      rw [List.any_eq_false]
      intro q hq
      rw [(HG.out.2.1 rfl).2 q hq]
      simp
    go_wp2_with fail
    refine (as_bool HA.out (implAllows_any ta tc ts ⟨qv, q1, q2, q3⟩ (some ⟨gq, 0, none⟩) qc x _ (HW.out.1.mono D5) HW.out.2.2.2.1 (HW.out.2.2.1.mono D5) HG.out.1)).mono ?_
    rintro e w6 ⟨rfl, b6⟩
    have D6 := below_n D5 b6
    have hQ6 := box_later hQ5 zQ5 b6
    have zQ6 := Nat.lt_of_lt_of_le zQ5 b6.size
    have hX6 := box_later hX5 zX5 b6
    have zX6 := Nat.lt_of_lt_of_le zX5 b6.size
    clear hQ5 zQ5 hX5 zX5 D5 b6
    go_wp2_with fail
    refine (as_bool HS.out (wSome_any ta tc ts (some ⟨gr, 0, none⟩) rc rs x _ (HW.out.1.mono D6) (HW.out.2.1.mono D6) HG.out.1)).mono ?_
    rintro e w7 ⟨rfl, b7⟩
    have D7 := below_n D6 b7
    have hQ7 := box_later hQ6 zQ6 b7
    have zQ7 := Nat.lt_of_lt_of_le zQ6 b7.size
    clear hQ6 zQ6 hX6 zX6 D6 b7
    go_wp2_with fail
    have row7 := ruleRow_later HW.out.2.2.2.2.2.2.1 D7
    have hgr7 := (row7.own.lt gr rfl).2
    refine region_cut (fun A A' w' => ∃ u67 u68 u69 u70 u71 u72 u73 u74 u75, A' = ((((((((((A.put (some 67) u67).put (some 68) u68).put (some 69) u69).put (some 70) u70).put (some 71) u71).put (some 72) u72).put (some 73) u73).put (some 74) u74).put (some 75) u75).put (some 11) (.bool true)) ∧ Below w7.heap.size w7 w') ?_ ?_
    · have hQd := box_later hQ7 zQ7 (Below.refl w7.heap.size w7).drew
      have zQd : k1 < w7.drew.heap.size := zQ7
      refine wp_region_held_drew (S := fun w' => ∀ j, w'.cell? ⟨k1, j, none⟩ = (#[.slice (some ⟨gq, 0, none⟩) qv.length qc, .string q1, .string q2, .string q3] : Array Value)[j]?) (by kernel_rfl) hQd (fun hHeld => ?_)
      refine tH 0 rfl hHeld ?_ (hQ := fun _ _ _ h => by cases h.1)
      refine tH 2 rfl hHeld ?_ (hQ := fun _ _ _ h => by cases h.1)
      refine tH 4 rfl hHeld ?_ (hQ := fun _ _ _ h => by cases h.1)
      refine tH 7 rfl hHeld ?_ (hQ := fun _ _ _ h => by cases h.1)
      refine step2H (i := 1) (j := 5) rfl rfl (by kernel_rfl) rfl rfl (fun K hK => ?_) (fun K hK => ?_)
      · go_simp
        refine hK.out _ _ ?_ (fun hHeld => ?_)
        · exact box_later hQd zQd ((Below.refl w7.drew.heap.size w7.drew).alloc (Nat.le_refl _) _)
        clear hK K
        (try simp only [Act.put, sA, s0, sS])
        have own0 : (w7.alloc (.cells #[] 27)).drew.ownsRow w7.heap.size 27 4 (.slice (some ⟨w7.heap.size, 0, none⟩) 0 0) 0 [] := ⟨rfl, Or.inr ⟨w7.heap.size, 0, #[], rfl, Nat.le_refl _, (MapKept.heap_alloc w7 _).1, Nat.le_refl _, by simp [maxLen], rfl, rfl⟩⟩
        have B1 : Below w7.heap.size w7 (w7.alloc (.cells #[] 27)).drew := ((Below.refl _ _).alloc (Nat.le_refl _) _).drew
        refine step2H (i := 3) (j := 5) rfl rfl (by kernel_rfl) rfl rfl (fun K hK => ?_) (fun K hK => ?_)
        · refine wp_append_own _ (.tmp 68) (.tmp 69) 24 rfl w7.heap.size 27 i0 (.agg #[.slice none 0 0, .string ByteArray.empty, .string ByteArray.empty, .string ByteArray.empty]) 4 72 Tryd.underlying24 hi hz0 hz1' hz2 rfl (by decide) (.slice (some ⟨w7.heap.size, 0, none⟩) 0 0) 0 _ rfl own0 ⟨gr, 0, none⟩ rs.length rc (xs.flatMap RlE.row) rfl (by rw [HR.out.2]; exact row7.own.1) (fun j u hj => by rw [Addr.add_mid, Nat.zero_add, B1.cell (p := ⟨gr, j, none⟩) hgr7]; exact owns_cells row7.own j u hj) (by intro u hu; obtain ⟨y, _, hy⟩ := List.mem_flatMap.1 hu; simp [RlE.row] at hy; rcases hy with rfl | rfl | rfl | rfl <;> rfl) (by unfold maxLen; omega) (by omega) (by simp <;> omega) ?_
          intro v' w6 hown hgr hnil
          have B6 : Below w7.heap.size w7 w6 := B1.trans ((Below.refl w7.heap.size _).grown hgr (by simp <;> omega) (fun k hk => by cases hk; first | exact Nat.le_refl _ | exact Nat.le_succ _))
          rw [Nat.zero_add, List.nil_append, HR.out.2] at hown
          obtain ⟨g6, c6, rfl⟩ := owns_some hown (fun e => by have := (hnil.1 e).1; cases this)
          refine hK.out _ _ ?_ (fun hHeld => ?_)
          · exact box_later hQ7 zQ7 B6
          clear hK K hgr hnil own0 B1
          (try simp only [Act.put, sA, s0, sS])
          refine cH 5 rfl fun K hK => ?_
          go_simp
          refine hK.out _ _ ?_ (fun hHeld => ?_)
          · exact box_later hQ7 zQ7 (B6.alloc B6.size _)
          clear hK K
          (try simp only [Act.put, sA, s0, sS])
          refine cH 6 rfl fun K hK => ?_
          refine wp_append_own _ (.tmp 70) (.tmp 72) 24 rfl w7.heap.size 27 i0 (.agg #[.slice none 0 0, .string ByteArray.empty, .string ByteArray.empty, .string ByteArray.empty]) 4 72 Tryd.underlying24 hi hz0 hz1' hz2 rfl (by decide) (.slice (some ⟨g6, 0, none⟩) xs.length c6) xs.length _ rfl (hown.alloc _) ⟨w6.heap.size, 0, none⟩ 1 1 (⟨⟨qv, q1, q2, q3⟩, gq, qc⟩ : RlE).row rfl rfl (four_news _ _ _ _ _ rfl) (by intro u hu; simp [RlE.row] at hu; rcases hu with rfl | rfl | rfl | rfl <;> rfl) (by have := HR.out.2; unfold maxLen; omega) (by have := HR.out.2; omega) (by have := B6.size; simp; omega) ?_
          intro v' w8 hown8 hgr hnil
          obtain ⟨g8, c8, rfl⟩ := owns_some hown8 (fun e => by have := (hnil.1 e).2; omega)
          have B8 : Below w7.heap.size w7 w8 := Below.trans (B6.alloc B6.size _) ((Below.refl w7.heap.size _).grown hgr (by have := B6.size; simp; omega) (fun k hk => by cases hk; exact (hown.lt g6 rfl).1))
          have hq8 : RlEnt 1 w7 ⟨qv, q1, q2, q3⟩ gq qc := ⟨HW.out.2.2.2.2.2.2.2.1.small, HW.out.2.2.2.2.2.2.2.1.len, ownsRow_later HW.out.2.2.2.2.2.2.2.1.own D7⟩
          have row8 : RuleRow 1 w8 (some ⟨g8, 0, none⟩) c8 (xs ++ [(⟨⟨qv, q1, q2, q3⟩, gq, qc⟩ : RlE)]) := by
            refine ⟨ownsRow_low (base := w7.heap.size) (by rw [List.length_append, List.flatMap_append]; simpa using hown8) (by omega), fun y hy => ?_⟩
            have hy' : RlEnt 1 w7 y.q y.g y.cap := by
              rcases List.mem_append.1 hy with h9 | h9
              · exact row7.each y h9
              · rw [List.mem_singleton.1 h9]; exact hq8
            exact ⟨hy'.small, hy'.len, ownsRow_same hy'.own fun g9 hg9 => B8.block g9 (hy'.own.lt g9 hg9).2⟩
          have hR8 : RlsAt w8 (some ⟨g8, 0, none⟩) (rs ++ [⟨qv, q1, q2, q3⟩]) := by
            have h9 := rules_at row8 (by have := HR.out.2; simp; omega)
            rw [HR.out.1]
            simpa using h9
          have D8 := below_n D7 B8
          have H8 : Hid (RlsAt w8 (some ⟨g8, 0, none⟩) (rs ++ [⟨qv, q1, q2, q3⟩]) ∧ TmsAt w8 ta ts ∧ IntsAt w8 (some ⟨gq, 0, none⟩) qv) := ⟨hR8, HW.out.1.mono D8, HW.out.2.2.1.mono D8⟩
          refine hK.out _ _ ?_ (fun hHeld => ?_)
          · exact box_later hQ7 zQ7 B8
          clear hK K hgr hnil hR8 row8 hq8 D8 hown8
          (try simp only [Act.put, sA, s0, sS])
          refine cH 8 rfl fun K hK => ?_
          go_simp
          refine (covers_at (Gate.covers_self.trans HO.out.symm) H8.out.2.1 H8.out.1 HW.out.2.2.2.1 H8.out.2.2 (by have := HR.out.2; simp; omega)).mono ?_
          rintro e w9 ⟨rfl, b9⟩
          have B9 : Below w7.heap.size w7 w9 := below_n B8 b9
          (try go_wp2_with fail)
          refine hK.out _ _ ?_ (fun hHeld => ?_)
          · exact box_later hQ7 zQ7 B9
          clear hK K
          (try simp only [Act.put, sA, s0, sS])
          refine tH 9 rfl hHeld ?_ (hQ := fun _ _ _ h => by cases h.1)
          refine wpAnyH_done (by kernel_rfl) ?_ _
          exact ⟨rfl, _, _, _, _, _, _, _, _, _, rfl, B9⟩

        · go_simp
          refine hK.out _ _ ?_ (fun hHeld => ?_)
          · exact box_later hQ7 zQ7 (below_22 _ _ _)
          clear hK K own0 B1
          (try simp only [Act.put, sA, s0, sS])
          refine cH 3 rfl fun K hK => ?_
          have B2 := below_22 w7 (.cells #[] 27) (.cells #[.slice (some ⟨gq, 0, none⟩) qv.length qc, .string q1, .string q2, .string q3] 27)
          have own2 := own_empty (lo := w7.heap.size) (at_1 w7 (.cells #[] 27) (.cells #[.slice (some ⟨gq, 0, none⟩) qv.length qc, .string q1, .string q2, .string q3] 27)) (by omega)
          have hqb := at_22 w7 (.cells #[] 27) (.cells #[.slice (some ⟨gq, 0, none⟩) qv.length qc, .string q1, .string q2, .string q3] 27)
          refine wp_append_own _ (.tmp 68) (.tmp 69) 24 rfl w7.heap.size 27 i0 (.agg #[.slice none 0 0, .string ByteArray.empty, .string ByteArray.empty, .string ByteArray.empty]) 4 72 Tryd.underlying24 hi hz0 hz1' hz2 rfl (by decide) (.slice (some ⟨w7.heap.size, 0, none⟩) 0 0) 0 _ rfl own2 ⟨gr, 0, none⟩ rs.length rc (xs.flatMap RlE.row) rfl (by rw [HR.out.2]; exact row7.own.1) (fun j u hj => by rw [Addr.add_mid, Nat.zero_add, B2.cell (p := ⟨gr, j, none⟩) hgr7]; exact owns_cells row7.own j u hj) (by intro u hu; obtain ⟨y, _, hy⟩ := List.mem_flatMap.1 hu; simp [RlE.row] at hy; rcases hy with rfl | rfl | rfl | rfl <;> rfl) (by unfold maxLen; omega) (by omega) (by simp <;> omega) ?_
          intro v' w6 hown hgr hnil
          have B6 : Below w7.heap.size w7 w6 := B2.trans ((Below.refl w7.heap.size _).grown hgr (by simp <;> omega) (fun k hk => by cases hk; first | exact Nat.le_refl _ | exact Nat.le_succ _))
          rw [Nat.zero_add, List.nil_append, HR.out.2] at hown
          obtain ⟨g6, c6, rfl⟩ := owns_some hown (fun e => by have := (hnil.1 e).1; cases this)
          have hq6 := (hgr.block (w7.heap.size + 1) (by simp <;> omega) (by intro e; have e9 : some (w7.heap.size + 1) = some (w7.heap.size) := e; have := Option.some.inj e9; omega)).trans hqb
          refine hK.out _ _ ?_ (fun hHeld => ?_)
          · exact box_later hQ7 zQ7 B6
          clear hK K hgr hnil own2 B2 hqb
          (try simp only [Act.put, sA, s0, sS])
          refine cH 6 rfl fun K hK => ?_
          refine wp_append_own _ (.tmp 70) (.tmp 72) 24 rfl w7.heap.size 27 i0 (.agg #[.slice none 0 0, .string ByteArray.empty, .string ByteArray.empty, .string ByteArray.empty]) 4 72 Tryd.underlying24 hi hz0 hz1' hz2 rfl (by decide) (.slice (some ⟨g6, 0, none⟩) xs.length c6) xs.length _ rfl (hown) ⟨w7.heap.size + 1, 0, none⟩ 1 1 (⟨⟨qv, q1, q2, q3⟩, gq, qc⟩ : RlE).row rfl rfl (four_news_at hq6) (by intro u hu; simp [RlE.row] at hu; rcases hu with rfl | rfl | rfl | rfl <;> rfl) (by have := HR.out.2; unfold maxLen; omega) (by have := HR.out.2; omega) (by have := B6.size; simp; omega) ?_
          intro v' w8 hown8 hgr hnil
          obtain ⟨g8, c8, rfl⟩ := owns_some hown8 (fun e => by have := (hnil.1 e).2; omega)
          have B8 : Below w7.heap.size w7 w8 := Below.trans B6 ((Below.refl w7.heap.size _).grown hgr (by have := B6.size; simp; omega) (fun k hk => by cases hk; exact (hown.lt g6 rfl).1))
          have hq8 : RlEnt 1 w7 ⟨qv, q1, q2, q3⟩ gq qc := ⟨HW.out.2.2.2.2.2.2.2.1.small, HW.out.2.2.2.2.2.2.2.1.len, ownsRow_later HW.out.2.2.2.2.2.2.2.1.own D7⟩
          have row8 : RuleRow 1 w8 (some ⟨g8, 0, none⟩) c8 (xs ++ [(⟨⟨qv, q1, q2, q3⟩, gq, qc⟩ : RlE)]) := by
            refine ⟨ownsRow_low (base := w7.heap.size) (by rw [List.length_append, List.flatMap_append]; simpa using hown8) (by omega), fun y hy => ?_⟩
            have hy' : RlEnt 1 w7 y.q y.g y.cap := by
              rcases List.mem_append.1 hy with h9 | h9
              · exact row7.each y h9
              · rw [List.mem_singleton.1 h9]; exact hq8
            exact ⟨hy'.small, hy'.len, ownsRow_same hy'.own fun g9 hg9 => B8.block g9 (hy'.own.lt g9 hg9).2⟩
          have hR8 : RlsAt w8 (some ⟨g8, 0, none⟩) (rs ++ [⟨qv, q1, q2, q3⟩]) := by
            have h9 := rules_at row8 (by have := HR.out.2; simp; omega)
            rw [HR.out.1]
            simpa using h9
          have D8 := below_n D7 B8
          have H8 : Hid (RlsAt w8 (some ⟨g8, 0, none⟩) (rs ++ [⟨qv, q1, q2, q3⟩]) ∧ TmsAt w8 ta ts ∧ IntsAt w8 (some ⟨gq, 0, none⟩) qv) := ⟨hR8, HW.out.1.mono D8, HW.out.2.2.1.mono D8⟩
          refine hK.out _ _ ?_ (fun hHeld => ?_)
          · exact box_later hQ7 zQ7 B8
          clear hK K hgr hnil hR8 row8 hq8 D8 hown8
          (try simp only [Act.put, sA, s0, sS])
          refine cH 8 rfl fun K hK => ?_
          go_simp
          refine (covers_at (Gate.covers_self.trans HO.out.symm) H8.out.2.1 H8.out.1 HW.out.2.2.2.1 H8.out.2.2 (by have := HR.out.2; simp; omega)).mono ?_
          rintro e w9 ⟨rfl, b9⟩
          have B9 : Below w7.heap.size w7 w9 := below_n B8 b9
          (try go_wp2_with fail)
          refine hK.out _ _ ?_ (fun hHeld => ?_)
          · exact box_later hQ7 zQ7 B9
          clear hK K
          (try simp only [Act.put, sA, s0, sS])
          refine tH 9 rfl hHeld ?_ (hQ := fun _ _ _ h => by cases h.1)
          refine wpAnyH_done (by kernel_rfl) ?_ _
          exact ⟨rfl, _, _, _, _, _, _, _, _, _, rfl, B9⟩

      · go_simp
        refine hK.out _ _ ?_ (fun hHeld => ?_)
        · exact box_later hQ7 zQ7 (Below.drew ((Below.refl w7.heap.size w7).alloc (Nat.le_refl _) _))
        clear hK K
        (try simp only [Act.put, sA, s0, sS])
        refine cH 1 rfl fun K hK => ?_
        go_simp
        refine hK.out _ _ ?_ (fun hHeld => ?_)
        · exact box_later hQ7 zQ7 (below_22 _ _ _)
        clear hK K
        (try simp only [Act.put, sA, s0, sS])
        refine cH 3 rfl fun K hK => ?_
        have B2 := below_22 w7 (.cells #[.slice (some ⟨gq, 0, none⟩) qv.length qc, .string q1, .string q2, .string q3] 27) (.cells #[] 27)
        have own2 := own_empty (lo := w7.heap.size) (at_22 w7 (.cells #[.slice (some ⟨gq, 0, none⟩) qv.length qc, .string q1, .string q2, .string q3] 27) (.cells #[] 27)) (by omega)
        have hqb := at_1 w7 (.cells #[.slice (some ⟨gq, 0, none⟩) qv.length qc, .string q1, .string q2, .string q3] 27) (.cells #[] 27)
        refine wp_append_own _ (.tmp 68) (.tmp 69) 24 rfl w7.heap.size 27 i0 (.agg #[.slice none 0 0, .string ByteArray.empty, .string ByteArray.empty, .string ByteArray.empty]) 4 72 Tryd.underlying24 hi hz0 hz1' hz2 rfl (by decide) (.slice (some ⟨w7.heap.size + 1, 0, none⟩) 0 0) 0 _ rfl own2 ⟨gr, 0, none⟩ rs.length rc (xs.flatMap RlE.row) rfl (by rw [HR.out.2]; exact row7.own.1) (fun j u hj => by rw [Addr.add_mid, Nat.zero_add, B2.cell (p := ⟨gr, j, none⟩) hgr7]; exact owns_cells row7.own j u hj) (by intro u hu; obtain ⟨y, _, hy⟩ := List.mem_flatMap.1 hu; simp [RlE.row] at hy; rcases hy with rfl | rfl | rfl | rfl <;> rfl) (by unfold maxLen; omega) (by omega) (by simp <;> omega) ?_
        intro v' w6 hown hgr hnil
        have B6 : Below w7.heap.size w7 w6 := B2.trans ((Below.refl w7.heap.size _).grown hgr (by simp <;> omega) (fun k hk => by cases hk; first | exact Nat.le_refl _ | exact Nat.le_succ _))
        rw [Nat.zero_add, List.nil_append, HR.out.2] at hown
        obtain ⟨g6, c6, rfl⟩ := owns_some hown (fun e => by have := (hnil.1 e).1; cases this)
        have hq6 := (hgr.block (w7.heap.size) (by simp <;> omega) (by intro e; have e9 : some (w7.heap.size) = some (w7.heap.size + 1) := e; have := Option.some.inj e9; omega)).trans hqb
        refine hK.out _ _ ?_ (fun hHeld => ?_)
        · exact box_later hQ7 zQ7 B6
        clear hK K hgr hnil own2 B2 hqb
        (try simp only [Act.put, sA, s0, sS])
        refine cH 6 rfl fun K hK => ?_
        refine wp_append_own _ (.tmp 70) (.tmp 72) 24 rfl w7.heap.size 27 i0 (.agg #[.slice none 0 0, .string ByteArray.empty, .string ByteArray.empty, .string ByteArray.empty]) 4 72 Tryd.underlying24 hi hz0 hz1' hz2 rfl (by decide) (.slice (some ⟨g6, 0, none⟩) xs.length c6) xs.length _ rfl (hown) ⟨w7.heap.size, 0, none⟩ 1 1 (⟨⟨qv, q1, q2, q3⟩, gq, qc⟩ : RlE).row rfl rfl (four_news_at hq6) (by intro u hu; simp [RlE.row] at hu; rcases hu with rfl | rfl | rfl | rfl <;> rfl) (by have := HR.out.2; unfold maxLen; omega) (by have := HR.out.2; omega) (by have := B6.size; simp; omega) ?_
        intro v' w8 hown8 hgr hnil
        obtain ⟨g8, c8, rfl⟩ := owns_some hown8 (fun e => by have := (hnil.1 e).2; omega)
        have B8 : Below w7.heap.size w7 w8 := Below.trans B6 ((Below.refl w7.heap.size _).grown hgr (by have := B6.size; simp; omega) (fun k hk => by cases hk; exact (hown.lt g6 rfl).1))
        have hq8 : RlEnt 1 w7 ⟨qv, q1, q2, q3⟩ gq qc := ⟨HW.out.2.2.2.2.2.2.2.1.small, HW.out.2.2.2.2.2.2.2.1.len, ownsRow_later HW.out.2.2.2.2.2.2.2.1.own D7⟩
        have row8 : RuleRow 1 w8 (some ⟨g8, 0, none⟩) c8 (xs ++ [(⟨⟨qv, q1, q2, q3⟩, gq, qc⟩ : RlE)]) := by
          refine ⟨ownsRow_low (base := w7.heap.size) (by rw [List.length_append, List.flatMap_append]; simpa using hown8) (by omega), fun y hy => ?_⟩
          have hy' : RlEnt 1 w7 y.q y.g y.cap := by
            rcases List.mem_append.1 hy with h9 | h9
            · exact row7.each y h9
            · rw [List.mem_singleton.1 h9]; exact hq8
          exact ⟨hy'.small, hy'.len, ownsRow_same hy'.own fun g9 hg9 => B8.block g9 (hy'.own.lt g9 hg9).2⟩
        have hR8 : RlsAt w8 (some ⟨g8, 0, none⟩) (rs ++ [⟨qv, q1, q2, q3⟩]) := by
          have h9 := rules_at row8 (by have := HR.out.2; simp; omega)
          rw [HR.out.1]
          simpa using h9
        have D8 := below_n D7 B8
        have H8 : Hid (RlsAt w8 (some ⟨g8, 0, none⟩) (rs ++ [⟨qv, q1, q2, q3⟩]) ∧ TmsAt w8 ta ts ∧ IntsAt w8 (some ⟨gq, 0, none⟩) qv) := ⟨hR8, HW.out.1.mono D8, HW.out.2.2.1.mono D8⟩
        refine hK.out _ _ ?_ (fun hHeld => ?_)
        · exact box_later hQ7 zQ7 B8
        clear hK K hgr hnil hR8 row8 hq8 D8 hown8
        (try simp only [Act.put, sA, s0, sS])
        refine cH 8 rfl fun K hK => ?_
        go_simp
        refine (covers_at (Gate.covers_self.trans HO.out.symm) H8.out.2.1 H8.out.1 HW.out.2.2.2.1 H8.out.2.2 (by have := HR.out.2; simp; omega)).mono ?_
        rintro e w9 ⟨rfl, b9⟩
        have B9 : Below w7.heap.size w7 w9 := below_n B8 b9
        (try go_wp2_with fail)
        refine hK.out _ _ ?_ (fun hHeld => ?_)
        · exact box_later hQ7 zQ7 B9
        clear hK K
        (try simp only [Act.put, sA, s0, sS])
        refine tH 9 rfl hHeld ?_ (hQ := fun _ _ _ h => by cases h.1)
        refine wpAnyH_done (by kernel_rfl) ?_ _
        exact ⟨rfl, _, _, _, _, _, _, _, _, _, rfl, B9⟩

    rintro A' w9 ⟨u67, u68, u69, u70, u71, u72, u73, u74, u75, rfl, B9⟩
    simp only [Act.put, sA, s0, sS]
    have D9 := below_n D7 B9
    have hQ9 := box_later hQ7 zQ7 B9
    have zQ9 := Nat.lt_of_lt_of_le zQ7 B9.size
    clear hQ7 zQ7 D7 B9 row7 hgr7
    go_wp2_with fail
    refine (drawAllows_any ma mn mcp w9 (HW.out.2.2.2.2.1.mono D9) hmc).mono ?_
    rintro e w10 ⟨t0, za, zn, zc, z1, z2, z3, y, rfl, hys, b10⟩
    have HY : Hid y.Small := hys
    have D10 := below_n D9 b10
    have hQ10 := box_later hQ9 zQ9 b10
    have zQ10 := Nat.lt_of_lt_of_le zQ9 b10.size
    clear hys D9 hQ9 zQ9 b10
    unfold Ac.cells
    go_wp2_with fail
    refine calls_world (fun V => (∀ j, V.cell? ⟨k1, j, none⟩ = (#[.slice (some ⟨gq, 0, none⟩) qv.length qc, .string q1, .string q2, .string q3] : Array Value)[j]?) ∧ (∀ j, V.cell? ⟨w10.heap.size + 1, j, none⟩ = (#[.int .i64 y.vb, .string y.kd, .string y.tm, .string y.nm] : Array Value)[j]?) ∧ w10.heap.size + 1 < V.heap.size ∧ Below W.heap.size W V ∧ w10.heap.size ≤ V.heap.size) ?_ ?_
    · have bV := below_2 w10 (.cells #[.slice za zn zc, .string z1, .string z2, .string z3] 27) (.cells #[.int .i64 y.vb, .string y.kd, .string y.tm, .string y.nm] 32)
      exact ⟨box_later hQ10 zQ10 bV, blk_at (at_2 _ _ _), by simp, below_n D10 bV, bV.size⟩
    rintro V4 ⟨hQ12, hY12, zY12, D12, zs⟩
    have zQ12 : k1 < V4.heap.size := Nat.lt_of_lt_of_le zQ10 zs
    clear hQ10 zQ10 D10
    obtain ⟨k8, hk8⟩ : ∃ k8, k8 = w10.heap.size + 1 := ⟨_, rfl⟩
    rw [← hk8] at hY12 zY12 ⊢
    clear hk8 zs
    refine (drawCovers_any ma mn mcp V4 (HW.out.2.2.2.2.1.mono D12) hmc).mono ?_
    rintro e w11 ⟨ts2, os, qq, ta2, oa, qa2, tc2, oc, qc2, rfl, -, hos, -, -, -, -, -, b11⟩
    have D11 := below_n D12 b11
    have hQ11 := box_later hQ12 zQ12 b11
    have zQ11 := Nat.lt_of_lt_of_le zQ12 b11.size
    obtain ⟨pv, p1, p2, p3⟩ := qq
    clear hQ12 zQ12 D12 b11
    unfold Rl.cells
    dsimp only
    go_wp2_with fail
    have bW0 : Below w11.heap.size w11 (w11.alloc (.cells #[.slice qa2 pv.length qc2, .string p1, .string p2, .string p3] 27)) := (Below.refl _ _).alloc (Nat.le_refl _) _
    have hW9 := box_later hQ11 zQ11 bW0
    have zW9 := Nat.lt_of_lt_of_le zQ11 bW0.size
    have DD : Hid (Below W.heap.size W (w11.alloc (.cells #[.slice qa2 pv.length qc2, .string p1, .string p2, .string p3] 27)) ∧ RlsAt (w11.alloc (.cells #[.slice qa2 pv.length qc2, .string p1, .string p2, .string p3] 27)) oa os) := ⟨below_n D11 bW0, hos.mono bW0⟩
    clear hQ11 zQ11 D11 bW0 hos
    obtain ⟨W0, hW0⟩ : ∃ W0, W0 = w11.alloc (.cells #[.slice qa2 pv.length qc2, .string p1, .string p2, .string p3] 27) := ⟨_, rfl⟩
    rw [← hW0] at DD hW9 zW9 ⊢
    clear hW0
    go_loopw [18] (fun i wr => ∃ k : Nat, k ≤ rs.length ∧ i = .int .i64 k ∧ (∀ (j : Nat) (h : j < rs.length), j < k → Gate.covers ts os rs[j] = true) ∧ Below W0.heap.size W0 wr) (fun i _ => rs.length - (intOf i).toNat)
    case atStart => exact ⟨0, Nat.zero_le _, rfl, fun j _ h => absurd h (by omega), Below.refl _ _⟩
    case round =>
      obtain ⟨k, hk, rfl, hall0, hBr⟩ := hrel
      have HA : Hid (∀ (j : Nat) (h : j < rs.length), j < k → Gate.covers ts os rs[j] = true) := hall0
      clear hall0
      have Dr := below_n DD.out.1 hBr
      have hX := box_later hW9 zW9 hBr
      by_cases hlt : k < rs.length
      · obtain ⟨b, off, va, vcap, hba, hb, hsm, hI, c0, c1, c2, c3⟩ := HW.out.2.1.load Dr k hlt
        cases hba
        simp only [Nat.zero_add] at c0 c1 c2 c3
        have hltI : (k : Int) < (rs.length : Int) := by omega
        have HI : Hid (rs[k].Small ∧ IntsAt wr va rs[k].vs ∧ TmsAt wr ta ts ∧ RlsAt wr oa os ∧ Below w.heap.size w wr) := ⟨hsm, hI, HW.out.1.mono Dr, DD.out.2.mono hBr, below_n HW.out.2.2.2.2.2.2.2.2 Dr⟩
        clear hsm hI Dr
        by_cases he : Gate.covers ts os rs[k] = true
        · have HE : Hid (Gate.covers ts os rs[k] = true) := he
          clear he
          go_wp2_with fail
          refine (as_bool HE.out (implCovers_any ta tc ts oa oc os rs[k] va vcap _ HI.out.2.2.1 HI.out.2.2.2.1 HI.out.1 HI.out.2.1)).mono ?_
          rintro e w12 ⟨rfl, b12⟩
          have HB12 := below_n hBr b12
          go_wp2_with fail
          exact ⟨⟨k + 1, by omega, by go_num, fun j hj h => by
            rcases Nat.lt_or_ge j k with h9 | h9
            · exact HA.out j hj h9
            · obtain rfl : j = k := by omega
              exact HE.out, HB12⟩, by simp [intOf]; omega⟩
        · have HE : Hid (Gate.covers ts os rs[k] = false) := by simpa [Hid] using he
          clear he
          go_wp2_with fail
          refine (as_bool HE.out (implCovers_any ta tc ts oa oc os rs[k] va vcap _ HI.out.2.2.1 HI.out.2.2.2.1 HI.out.1 HI.out.2.1)).mono ?_
          rintro e w12 ⟨rfl, b12⟩
          have HB12 := below_n HI.out.2.2.2.2 b12
          go_wp2_with fail
          go_ret
          exact ⟨rfl, HB12⟩
      · have HI : Hid (TmsAt wr ta ts ∧ RlsAt wr oa os ∧ IntsAt wr (some ⟨gq, 0, none⟩) qv ∧ Below w.heap.size w wr) := ⟨HW.out.1.mono Dr, DD.out.2.mono hBr, HW.out.2.2.1.mono Dr, below_n HW.out.2.2.2.2.2.2.2.2 Dr⟩
        clear Dr
        go_wp2_with fail
        go_ret
        exact ⟨rfl, HI.out.2.2.2⟩

  · go_wp2_with fail
    have row5 := ruleRow_later HW.out.2.2.2.2.2.2.1 D5
    have hgr5 := (row5.own.lt gr rfl).2
    refine region_cut (fun A A' w' => ∃ u67 u68 u69 u70 u71 u72 u73 u74 u75, A' = ((((((((((A.put (some 67) u67).put (some 68) u68).put (some 69) u69).put (some 70) u70).put (some 71) u71).put (some 72) u72).put (some 73) u73).put (some 74) u74).put (some 75) u75).put (some 11) (.bool true)) ∧ Below w5.heap.size w5 w') ?_ ?_
    · have hQd := box_later hQ5 zQ5 (Below.refl w5.heap.size w5).drew
      have zQd : k1 < w5.drew.heap.size := zQ5
      refine wp_region_held_drew (S := fun w' => ∀ j, w'.cell? ⟨k1, j, none⟩ = (#[.slice (some ⟨gq, 0, none⟩) qv.length qc, .string q1, .string q2, .string q3] : Array Value)[j]?) (by kernel_rfl) hQd (fun hHeld => ?_)
      refine tH 0 rfl hHeld ?_ (hQ := fun _ _ _ h => by cases h.1)
      refine tH 2 rfl hHeld ?_ (hQ := fun _ _ _ h => by cases h.1)
      refine tH 4 rfl hHeld ?_ (hQ := fun _ _ _ h => by cases h.1)
      refine tH 7 rfl hHeld ?_ (hQ := fun _ _ _ h => by cases h.1)
      refine step2H (i := 1) (j := 5) rfl rfl (by kernel_rfl) rfl rfl (fun K hK => ?_) (fun K hK => ?_)
      · go_simp
        refine hK.out _ _ ?_ (fun hHeld => ?_)
        · exact box_later hQd zQd ((Below.refl w5.drew.heap.size w5.drew).alloc (Nat.le_refl _) _)
        clear hK K
        (try simp only [Act.put, sA, s0, sS])
        have own0 : (w5.alloc (.cells #[] 27)).drew.ownsRow w5.heap.size 27 4 (.slice (some ⟨w5.heap.size, 0, none⟩) 0 0) 0 [] := ⟨rfl, Or.inr ⟨w5.heap.size, 0, #[], rfl, Nat.le_refl _, (MapKept.heap_alloc w5 _).1, Nat.le_refl _, by simp [maxLen], rfl, rfl⟩⟩
        have B1 : Below w5.heap.size w5 (w5.alloc (.cells #[] 27)).drew := ((Below.refl _ _).alloc (Nat.le_refl _) _).drew
        refine step2H (i := 3) (j := 5) rfl rfl (by kernel_rfl) rfl rfl (fun K hK => ?_) (fun K hK => ?_)
        · refine wp_append_own _ (.tmp 68) (.tmp 69) 24 rfl w5.heap.size 27 i0 (.agg #[.slice none 0 0, .string ByteArray.empty, .string ByteArray.empty, .string ByteArray.empty]) 4 72 Tryd.underlying24 hi hz0 hz1' hz2 rfl (by decide) (.slice (some ⟨w5.heap.size, 0, none⟩) 0 0) 0 _ rfl own0 ⟨gr, 0, none⟩ rs.length rc (xs.flatMap RlE.row) rfl (by rw [HR.out.2]; exact row5.own.1) (fun j u hj => by rw [Addr.add_mid, Nat.zero_add, B1.cell (p := ⟨gr, j, none⟩) hgr5]; exact owns_cells row5.own j u hj) (by intro u hu; obtain ⟨y, _, hy⟩ := List.mem_flatMap.1 hu; simp [RlE.row] at hy; rcases hy with rfl | rfl | rfl | rfl <;> rfl) (by unfold maxLen; omega) (by omega) (by simp <;> omega) ?_
          intro v' w6 hown hgr hnil
          have B6 : Below w5.heap.size w5 w6 := B1.trans ((Below.refl w5.heap.size _).grown hgr (by simp <;> omega) (fun k hk => by cases hk; first | exact Nat.le_refl _ | exact Nat.le_succ _))
          rw [Nat.zero_add, List.nil_append, HR.out.2] at hown
          obtain ⟨g6, c6, rfl⟩ := owns_some hown (fun e => by have := (hnil.1 e).1; cases this)
          refine hK.out _ _ ?_ (fun hHeld => ?_)
          · exact box_later hQ5 zQ5 B6
          clear hK K hgr hnil own0 B1
          (try simp only [Act.put, sA, s0, sS])
          refine cH 5 rfl fun K hK => ?_
          go_simp
          refine hK.out _ _ ?_ (fun hHeld => ?_)
          · exact box_later hQ5 zQ5 (B6.alloc B6.size _)
          clear hK K
          (try simp only [Act.put, sA, s0, sS])
          refine cH 6 rfl fun K hK => ?_
          refine wp_append_own _ (.tmp 70) (.tmp 72) 24 rfl w5.heap.size 27 i0 (.agg #[.slice none 0 0, .string ByteArray.empty, .string ByteArray.empty, .string ByteArray.empty]) 4 72 Tryd.underlying24 hi hz0 hz1' hz2 rfl (by decide) (.slice (some ⟨g6, 0, none⟩) xs.length c6) xs.length _ rfl (hown.alloc _) ⟨w6.heap.size, 0, none⟩ 1 1 (⟨⟨qv, q1, q2, q3⟩, gq, qc⟩ : RlE).row rfl rfl (four_news _ _ _ _ _ rfl) (by intro u hu; simp [RlE.row] at hu; rcases hu with rfl | rfl | rfl | rfl <;> rfl) (by have := HR.out.2; unfold maxLen; omega) (by have := HR.out.2; omega) (by have := B6.size; simp; omega) ?_
          intro v' w8 hown8 hgr hnil
          obtain ⟨g8, c8, rfl⟩ := owns_some hown8 (fun e => by have := (hnil.1 e).2; omega)
          have B8 : Below w5.heap.size w5 w8 := Below.trans (B6.alloc B6.size _) ((Below.refl w5.heap.size _).grown hgr (by have := B6.size; simp; omega) (fun k hk => by cases hk; exact (hown.lt g6 rfl).1))
          have hq8 : RlEnt 1 w5 ⟨qv, q1, q2, q3⟩ gq qc := ⟨HW.out.2.2.2.2.2.2.2.1.small, HW.out.2.2.2.2.2.2.2.1.len, ownsRow_later HW.out.2.2.2.2.2.2.2.1.own D5⟩
          have row8 : RuleRow 1 w8 (some ⟨g8, 0, none⟩) c8 (xs ++ [(⟨⟨qv, q1, q2, q3⟩, gq, qc⟩ : RlE)]) := by
            refine ⟨ownsRow_low (base := w5.heap.size) (by rw [List.length_append, List.flatMap_append]; simpa using hown8) (by omega), fun y hy => ?_⟩
            have hy' : RlEnt 1 w5 y.q y.g y.cap := by
              rcases List.mem_append.1 hy with h9 | h9
              · exact row5.each y h9
              · rw [List.mem_singleton.1 h9]; exact hq8
            exact ⟨hy'.small, hy'.len, ownsRow_same hy'.own fun g9 hg9 => B8.block g9 (hy'.own.lt g9 hg9).2⟩
          have hR8 : RlsAt w8 (some ⟨g8, 0, none⟩) (rs ++ [⟨qv, q1, q2, q3⟩]) := by
            have h9 := rules_at row8 (by have := HR.out.2; simp; omega)
            rw [HR.out.1]
            simpa using h9
          have D8 := below_n D5 B8
          have H8 : Hid (RlsAt w8 (some ⟨g8, 0, none⟩) (rs ++ [⟨qv, q1, q2, q3⟩]) ∧ TmsAt w8 ta ts ∧ IntsAt w8 (some ⟨gq, 0, none⟩) qv) := ⟨hR8, HW.out.1.mono D8, HW.out.2.2.1.mono D8⟩
          refine hK.out _ _ ?_ (fun hHeld => ?_)
          · exact box_later hQ5 zQ5 B8
          clear hK K hgr hnil hR8 row8 hq8 D8 hown8
          (try simp only [Act.put, sA, s0, sS])
          refine cH 8 rfl fun K hK => ?_
          go_simp
          refine (covers_at (Gate.covers_self.trans HO.out.symm) H8.out.2.1 H8.out.1 HW.out.2.2.2.1 H8.out.2.2 (by have := HR.out.2; simp; omega)).mono ?_
          rintro e w9 ⟨rfl, b9⟩
          have B9 : Below w5.heap.size w5 w9 := below_n B8 b9
          (try go_wp2_with fail)
          refine hK.out _ _ ?_ (fun hHeld => ?_)
          · exact box_later hQ5 zQ5 B9
          clear hK K
          (try simp only [Act.put, sA, s0, sS])
          refine tH 9 rfl hHeld ?_ (hQ := fun _ _ _ h => by cases h.1)
          refine wpAnyH_done (by kernel_rfl) ?_ _
          exact ⟨rfl, _, _, _, _, _, _, _, _, _, rfl, B9⟩

        · go_simp
          refine hK.out _ _ ?_ (fun hHeld => ?_)
          · exact box_later hQ5 zQ5 (below_22 _ _ _)
          clear hK K own0 B1
          (try simp only [Act.put, sA, s0, sS])
          refine cH 3 rfl fun K hK => ?_
          have B2 := below_22 w5 (.cells #[] 27) (.cells #[.slice (some ⟨gq, 0, none⟩) qv.length qc, .string q1, .string q2, .string q3] 27)
          have own2 := own_empty (lo := w5.heap.size) (at_1 w5 (.cells #[] 27) (.cells #[.slice (some ⟨gq, 0, none⟩) qv.length qc, .string q1, .string q2, .string q3] 27)) (by omega)
          have hqb := at_22 w5 (.cells #[] 27) (.cells #[.slice (some ⟨gq, 0, none⟩) qv.length qc, .string q1, .string q2, .string q3] 27)
          refine wp_append_own _ (.tmp 68) (.tmp 69) 24 rfl w5.heap.size 27 i0 (.agg #[.slice none 0 0, .string ByteArray.empty, .string ByteArray.empty, .string ByteArray.empty]) 4 72 Tryd.underlying24 hi hz0 hz1' hz2 rfl (by decide) (.slice (some ⟨w5.heap.size, 0, none⟩) 0 0) 0 _ rfl own2 ⟨gr, 0, none⟩ rs.length rc (xs.flatMap RlE.row) rfl (by rw [HR.out.2]; exact row5.own.1) (fun j u hj => by rw [Addr.add_mid, Nat.zero_add, B2.cell (p := ⟨gr, j, none⟩) hgr5]; exact owns_cells row5.own j u hj) (by intro u hu; obtain ⟨y, _, hy⟩ := List.mem_flatMap.1 hu; simp [RlE.row] at hy; rcases hy with rfl | rfl | rfl | rfl <;> rfl) (by unfold maxLen; omega) (by omega) (by simp <;> omega) ?_
          intro v' w6 hown hgr hnil
          have B6 : Below w5.heap.size w5 w6 := B2.trans ((Below.refl w5.heap.size _).grown hgr (by simp <;> omega) (fun k hk => by cases hk; first | exact Nat.le_refl _ | exact Nat.le_succ _))
          rw [Nat.zero_add, List.nil_append, HR.out.2] at hown
          obtain ⟨g6, c6, rfl⟩ := owns_some hown (fun e => by have := (hnil.1 e).1; cases this)
          have hq6 := (hgr.block (w5.heap.size + 1) (by simp <;> omega) (by intro e; have e9 : some (w5.heap.size + 1) = some (w5.heap.size) := e; have := Option.some.inj e9; omega)).trans hqb
          refine hK.out _ _ ?_ (fun hHeld => ?_)
          · exact box_later hQ5 zQ5 B6
          clear hK K hgr hnil own2 B2 hqb
          (try simp only [Act.put, sA, s0, sS])
          refine cH 6 rfl fun K hK => ?_
          refine wp_append_own _ (.tmp 70) (.tmp 72) 24 rfl w5.heap.size 27 i0 (.agg #[.slice none 0 0, .string ByteArray.empty, .string ByteArray.empty, .string ByteArray.empty]) 4 72 Tryd.underlying24 hi hz0 hz1' hz2 rfl (by decide) (.slice (some ⟨g6, 0, none⟩) xs.length c6) xs.length _ rfl (hown) ⟨w5.heap.size + 1, 0, none⟩ 1 1 (⟨⟨qv, q1, q2, q3⟩, gq, qc⟩ : RlE).row rfl rfl (four_news_at hq6) (by intro u hu; simp [RlE.row] at hu; rcases hu with rfl | rfl | rfl | rfl <;> rfl) (by have := HR.out.2; unfold maxLen; omega) (by have := HR.out.2; omega) (by have := B6.size; simp; omega) ?_
          intro v' w8 hown8 hgr hnil
          obtain ⟨g8, c8, rfl⟩ := owns_some hown8 (fun e => by have := (hnil.1 e).2; omega)
          have B8 : Below w5.heap.size w5 w8 := Below.trans B6 ((Below.refl w5.heap.size _).grown hgr (by have := B6.size; simp; omega) (fun k hk => by cases hk; exact (hown.lt g6 rfl).1))
          have hq8 : RlEnt 1 w5 ⟨qv, q1, q2, q3⟩ gq qc := ⟨HW.out.2.2.2.2.2.2.2.1.small, HW.out.2.2.2.2.2.2.2.1.len, ownsRow_later HW.out.2.2.2.2.2.2.2.1.own D5⟩
          have row8 : RuleRow 1 w8 (some ⟨g8, 0, none⟩) c8 (xs ++ [(⟨⟨qv, q1, q2, q3⟩, gq, qc⟩ : RlE)]) := by
            refine ⟨ownsRow_low (base := w5.heap.size) (by rw [List.length_append, List.flatMap_append]; simpa using hown8) (by omega), fun y hy => ?_⟩
            have hy' : RlEnt 1 w5 y.q y.g y.cap := by
              rcases List.mem_append.1 hy with h9 | h9
              · exact row5.each y h9
              · rw [List.mem_singleton.1 h9]; exact hq8
            exact ⟨hy'.small, hy'.len, ownsRow_same hy'.own fun g9 hg9 => B8.block g9 (hy'.own.lt g9 hg9).2⟩
          have hR8 : RlsAt w8 (some ⟨g8, 0, none⟩) (rs ++ [⟨qv, q1, q2, q3⟩]) := by
            have h9 := rules_at row8 (by have := HR.out.2; simp; omega)
            rw [HR.out.1]
            simpa using h9
          have D8 := below_n D5 B8
          have H8 : Hid (RlsAt w8 (some ⟨g8, 0, none⟩) (rs ++ [⟨qv, q1, q2, q3⟩]) ∧ TmsAt w8 ta ts ∧ IntsAt w8 (some ⟨gq, 0, none⟩) qv) := ⟨hR8, HW.out.1.mono D8, HW.out.2.2.1.mono D8⟩
          refine hK.out _ _ ?_ (fun hHeld => ?_)
          · exact box_later hQ5 zQ5 B8
          clear hK K hgr hnil hR8 row8 hq8 D8 hown8
          (try simp only [Act.put, sA, s0, sS])
          refine cH 8 rfl fun K hK => ?_
          go_simp
          refine (covers_at (Gate.covers_self.trans HO.out.symm) H8.out.2.1 H8.out.1 HW.out.2.2.2.1 H8.out.2.2 (by have := HR.out.2; simp; omega)).mono ?_
          rintro e w9 ⟨rfl, b9⟩
          have B9 : Below w5.heap.size w5 w9 := below_n B8 b9
          (try go_wp2_with fail)
          refine hK.out _ _ ?_ (fun hHeld => ?_)
          · exact box_later hQ5 zQ5 B9
          clear hK K
          (try simp only [Act.put, sA, s0, sS])
          refine tH 9 rfl hHeld ?_ (hQ := fun _ _ _ h => by cases h.1)
          refine wpAnyH_done (by kernel_rfl) ?_ _
          exact ⟨rfl, _, _, _, _, _, _, _, _, _, rfl, B9⟩

      · go_simp
        refine hK.out _ _ ?_ (fun hHeld => ?_)
        · exact box_later hQ5 zQ5 (Below.drew ((Below.refl w5.heap.size w5).alloc (Nat.le_refl _) _))
        clear hK K
        (try simp only [Act.put, sA, s0, sS])
        refine cH 1 rfl fun K hK => ?_
        go_simp
        refine hK.out _ _ ?_ (fun hHeld => ?_)
        · exact box_later hQ5 zQ5 (below_22 _ _ _)
        clear hK K
        (try simp only [Act.put, sA, s0, sS])
        refine cH 3 rfl fun K hK => ?_
        have B2 := below_22 w5 (.cells #[.slice (some ⟨gq, 0, none⟩) qv.length qc, .string q1, .string q2, .string q3] 27) (.cells #[] 27)
        have own2 := own_empty (lo := w5.heap.size) (at_22 w5 (.cells #[.slice (some ⟨gq, 0, none⟩) qv.length qc, .string q1, .string q2, .string q3] 27) (.cells #[] 27)) (by omega)
        have hqb := at_1 w5 (.cells #[.slice (some ⟨gq, 0, none⟩) qv.length qc, .string q1, .string q2, .string q3] 27) (.cells #[] 27)
        refine wp_append_own _ (.tmp 68) (.tmp 69) 24 rfl w5.heap.size 27 i0 (.agg #[.slice none 0 0, .string ByteArray.empty, .string ByteArray.empty, .string ByteArray.empty]) 4 72 Tryd.underlying24 hi hz0 hz1' hz2 rfl (by decide) (.slice (some ⟨w5.heap.size + 1, 0, none⟩) 0 0) 0 _ rfl own2 ⟨gr, 0, none⟩ rs.length rc (xs.flatMap RlE.row) rfl (by rw [HR.out.2]; exact row5.own.1) (fun j u hj => by rw [Addr.add_mid, Nat.zero_add, B2.cell (p := ⟨gr, j, none⟩) hgr5]; exact owns_cells row5.own j u hj) (by intro u hu; obtain ⟨y, _, hy⟩ := List.mem_flatMap.1 hu; simp [RlE.row] at hy; rcases hy with rfl | rfl | rfl | rfl <;> rfl) (by unfold maxLen; omega) (by omega) (by simp <;> omega) ?_
        intro v' w6 hown hgr hnil
        have B6 : Below w5.heap.size w5 w6 := B2.trans ((Below.refl w5.heap.size _).grown hgr (by simp <;> omega) (fun k hk => by cases hk; first | exact Nat.le_refl _ | exact Nat.le_succ _))
        rw [Nat.zero_add, List.nil_append, HR.out.2] at hown
        obtain ⟨g6, c6, rfl⟩ := owns_some hown (fun e => by have := (hnil.1 e).1; cases this)
        have hq6 := (hgr.block (w5.heap.size) (by simp <;> omega) (by intro e; have e9 : some (w5.heap.size) = some (w5.heap.size + 1) := e; have := Option.some.inj e9; omega)).trans hqb
        refine hK.out _ _ ?_ (fun hHeld => ?_)
        · exact box_later hQ5 zQ5 B6
        clear hK K hgr hnil own2 B2 hqb
        (try simp only [Act.put, sA, s0, sS])
        refine cH 6 rfl fun K hK => ?_
        refine wp_append_own _ (.tmp 70) (.tmp 72) 24 rfl w5.heap.size 27 i0 (.agg #[.slice none 0 0, .string ByteArray.empty, .string ByteArray.empty, .string ByteArray.empty]) 4 72 Tryd.underlying24 hi hz0 hz1' hz2 rfl (by decide) (.slice (some ⟨g6, 0, none⟩) xs.length c6) xs.length _ rfl (hown) ⟨w5.heap.size, 0, none⟩ 1 1 (⟨⟨qv, q1, q2, q3⟩, gq, qc⟩ : RlE).row rfl rfl (four_news_at hq6) (by intro u hu; simp [RlE.row] at hu; rcases hu with rfl | rfl | rfl | rfl <;> rfl) (by have := HR.out.2; unfold maxLen; omega) (by have := HR.out.2; omega) (by have := B6.size; simp; omega) ?_
        intro v' w8 hown8 hgr hnil
        obtain ⟨g8, c8, rfl⟩ := owns_some hown8 (fun e => by have := (hnil.1 e).2; omega)
        have B8 : Below w5.heap.size w5 w8 := Below.trans B6 ((Below.refl w5.heap.size _).grown hgr (by have := B6.size; simp; omega) (fun k hk => by cases hk; exact (hown.lt g6 rfl).1))
        have hq8 : RlEnt 1 w5 ⟨qv, q1, q2, q3⟩ gq qc := ⟨HW.out.2.2.2.2.2.2.2.1.small, HW.out.2.2.2.2.2.2.2.1.len, ownsRow_later HW.out.2.2.2.2.2.2.2.1.own D5⟩
        have row8 : RuleRow 1 w8 (some ⟨g8, 0, none⟩) c8 (xs ++ [(⟨⟨qv, q1, q2, q3⟩, gq, qc⟩ : RlE)]) := by
          refine ⟨ownsRow_low (base := w5.heap.size) (by rw [List.length_append, List.flatMap_append]; simpa using hown8) (by omega), fun y hy => ?_⟩
          have hy' : RlEnt 1 w5 y.q y.g y.cap := by
            rcases List.mem_append.1 hy with h9 | h9
            · exact row5.each y h9
            · rw [List.mem_singleton.1 h9]; exact hq8
          exact ⟨hy'.small, hy'.len, ownsRow_same hy'.own fun g9 hg9 => B8.block g9 (hy'.own.lt g9 hg9).2⟩
        have hR8 : RlsAt w8 (some ⟨g8, 0, none⟩) (rs ++ [⟨qv, q1, q2, q3⟩]) := by
          have h9 := rules_at row8 (by have := HR.out.2; simp; omega)
          rw [HR.out.1]
          simpa using h9
        have D8 := below_n D5 B8
        have H8 : Hid (RlsAt w8 (some ⟨g8, 0, none⟩) (rs ++ [⟨qv, q1, q2, q3⟩]) ∧ TmsAt w8 ta ts ∧ IntsAt w8 (some ⟨gq, 0, none⟩) qv) := ⟨hR8, HW.out.1.mono D8, HW.out.2.2.1.mono D8⟩
        refine hK.out _ _ ?_ (fun hHeld => ?_)
        · exact box_later hQ5 zQ5 B8
        clear hK K hgr hnil hR8 row8 hq8 D8 hown8
        (try simp only [Act.put, sA, s0, sS])
        refine cH 8 rfl fun K hK => ?_
        go_simp
        refine (covers_at (Gate.covers_self.trans HO.out.symm) H8.out.2.1 H8.out.1 HW.out.2.2.2.1 H8.out.2.2 (by have := HR.out.2; simp; omega)).mono ?_
        rintro e w9 ⟨rfl, b9⟩
        have B9 : Below w5.heap.size w5 w9 := below_n B8 b9
        (try go_wp2_with fail)
        refine hK.out _ _ ?_ (fun hHeld => ?_)
        · exact box_later hQ5 zQ5 B9
        clear hK K
        (try simp only [Act.put, sA, s0, sS])
        refine tH 9 rfl hHeld ?_ (hQ := fun _ _ _ h => by cases h.1)
        refine wpAnyH_done (by kernel_rfl) ?_ _
        exact ⟨rfl, _, _, _, _, _, _, _, _, _, rfl, B9⟩

    rintro A' w9 ⟨u67, u68, u69, u70, u71, u72, u73, u74, u75, rfl, B9⟩
    simp only [Act.put, sA, s0, sS]
    have D9 := below_n D5 B9
    have hQ9 := box_later hQ5 zQ5 B9
    have zQ9 := Nat.lt_of_lt_of_le zQ5 B9.size
    clear hQ5 zQ5 D5 B9 row5 hgr5
    go_wp2_with fail
    refine (drawAllows_any ma mn mcp w9 (HW.out.2.2.2.2.1.mono D9) hmc).mono ?_
    rintro e w10 ⟨t0, za, zn, zc, z1, z2, z3, y, rfl, hys, b10⟩
    have HY : Hid y.Small := hys
    have D10 := below_n D9 b10
    have hQ10 := box_later hQ9 zQ9 b10
    have zQ10 := Nat.lt_of_lt_of_le zQ9 b10.size
    clear hys D9 hQ9 zQ9 b10
    unfold Ac.cells
    go_wp2_with fail
    refine calls_world (fun V => (∀ j, V.cell? ⟨k1, j, none⟩ = (#[.slice (some ⟨gq, 0, none⟩) qv.length qc, .string q1, .string q2, .string q3] : Array Value)[j]?) ∧ (∀ j, V.cell? ⟨w10.heap.size + 1, j, none⟩ = (#[.int .i64 y.vb, .string y.kd, .string y.tm, .string y.nm] : Array Value)[j]?) ∧ w10.heap.size + 1 < V.heap.size ∧ Below W.heap.size W V ∧ w10.heap.size ≤ V.heap.size) ?_ ?_
    · have bV := below_2 w10 (.cells #[.slice za zn zc, .string z1, .string z2, .string z3] 27) (.cells #[.int .i64 y.vb, .string y.kd, .string y.tm, .string y.nm] 32)
      exact ⟨box_later hQ10 zQ10 bV, blk_at (at_2 _ _ _), by simp, below_n D10 bV, bV.size⟩
    rintro V4 ⟨hQ12, hY12, zY12, D12, zs⟩
    have zQ12 : k1 < V4.heap.size := Nat.lt_of_lt_of_le zQ10 zs
    clear hQ10 zQ10 D10
    obtain ⟨k8, hk8⟩ : ∃ k8, k8 = w10.heap.size + 1 := ⟨_, rfl⟩
    rw [← hk8] at hY12 zY12 ⊢
    clear hk8 zs
    by_cases hal : Gate.allows ts ⟨qv, q1, q2, q3⟩ y = true
    · have HAL : Hid (Gate.allows ts ⟨qv, q1, q2, q3⟩ y = true) := hal
      have HSM : Hid ((rs.any fun q => Gate.allows ts q y) = true) := by
        unfold Hid
        obtain ⟨q9, hq9, ha9⟩ := Gate.covers_sound HG.out.2.2.symm HAL.out
        exact List.any_eq_true.2 ⟨q9, hq9, ha9⟩
      clear hal
      refine (as_bool HAL.out (implAllows_any ta tc ts ⟨qv, q1, q2, q3⟩ (some ⟨gq, 0, none⟩) qc y _ (HW.out.1.mono D12) HW.out.2.2.2.1 (HW.out.2.2.1.mono D12) HY.out)).mono ?_
      rintro e w14 ⟨rfl, b14⟩
      have D14 := below_n D12 b14
      have hQ14 := box_later hQ12 zQ12 b14
      have zQ14 := Nat.lt_of_lt_of_le zQ12 b14.size
      have hY14 := box_later hY12 zY12 b14
      clear hQ12 zQ12 hY12 zY12 D12 b14
      go_wp2_with fail
      refine (as_bool HSM.out (wSome_any ta tc ts (some ⟨gr, 0, none⟩) rc rs y _ (HW.out.1.mono D14) (HW.out.2.1.mono D14) HY.out)).mono ?_
      rintro e w15 ⟨rfl, b15⟩
      have D15 := below_n D14 b15
      have hQ15 := box_later hQ14 zQ14 b15
      have zQ15 := Nat.lt_of_lt_of_le zQ14 b15.size
      clear hQ14 zQ14 hY14 D14 b15
      go_wp2_with fail
      refine (drawCovers_any ma mn mcp w15 (HW.out.2.2.2.2.1.mono D15) hmc).mono ?_
      rintro e w11 ⟨ts2, os, qq, ta2, oa, qa2, tc2, oc, qc2, rfl, -, hos, -, -, -, -, -, b11⟩
      have D11 := below_n D15 b11
      have hQ11 := box_later hQ15 zQ15 b11
      have zQ11 := Nat.lt_of_lt_of_le zQ15 b11.size
      obtain ⟨pv, p1, p2, p3⟩ := qq
      clear hQ15 zQ15 D15 b11
      unfold Rl.cells
      dsimp only
      go_wp2_with fail
      have bW0 : Below w11.heap.size w11 (w11.alloc (.cells #[.slice qa2 pv.length qc2, .string p1, .string p2, .string p3] 27)) := (Below.refl _ _).alloc (Nat.le_refl _) _
      have hW9 := box_later hQ11 zQ11 bW0
      have zW9 := Nat.lt_of_lt_of_le zQ11 bW0.size
      have DD : Hid (Below W.heap.size W (w11.alloc (.cells #[.slice qa2 pv.length qc2, .string p1, .string p2, .string p3] 27)) ∧ RlsAt (w11.alloc (.cells #[.slice qa2 pv.length qc2, .string p1, .string p2, .string p3] 27)) oa os) := ⟨below_n D11 bW0, hos.mono bW0⟩
      clear hQ11 zQ11 D11 bW0 hos
      obtain ⟨W0, hW0⟩ : ∃ W0, W0 = w11.alloc (.cells #[.slice qa2 pv.length qc2, .string p1, .string p2, .string p3] 27) := ⟨_, rfl⟩
      rw [← hW0] at DD hW9 zW9 ⊢
      clear hW0
      go_loopw [18] (fun i wr => ∃ k : Nat, k ≤ rs.length ∧ i = .int .i64 k ∧ (∀ (j : Nat) (h : j < rs.length), j < k → Gate.covers ts os rs[j] = true) ∧ Below W0.heap.size W0 wr) (fun i _ => rs.length - (intOf i).toNat)
      case atStart => exact ⟨0, Nat.zero_le _, rfl, fun j _ h => absurd h (by omega), Below.refl _ _⟩
      case round =>
        obtain ⟨k, hk, rfl, hall0, hBr⟩ := hrel
        have HA : Hid (∀ (j : Nat) (h : j < rs.length), j < k → Gate.covers ts os rs[j] = true) := hall0
        clear hall0
        have Dr := below_n DD.out.1 hBr
        have hX := box_later hW9 zW9 hBr
        by_cases hlt : k < rs.length
        · obtain ⟨b, off, va, vcap, hba, hb, hsm, hI, c0, c1, c2, c3⟩ := HW.out.2.1.load Dr k hlt
          cases hba
          simp only [Nat.zero_add] at c0 c1 c2 c3
          have hltI : (k : Int) < (rs.length : Int) := by omega
          have HI : Hid (rs[k].Small ∧ IntsAt wr va rs[k].vs ∧ TmsAt wr ta ts ∧ RlsAt wr oa os ∧ Below w.heap.size w wr) := ⟨hsm, hI, HW.out.1.mono Dr, DD.out.2.mono hBr, below_n HW.out.2.2.2.2.2.2.2.2 Dr⟩
          clear hsm hI Dr
          by_cases he : Gate.covers ts os rs[k] = true
          · have HE : Hid (Gate.covers ts os rs[k] = true) := he
            clear he
            go_wp2_with fail
            refine (as_bool HE.out (implCovers_any ta tc ts oa oc os rs[k] va vcap _ HI.out.2.2.1 HI.out.2.2.2.1 HI.out.1 HI.out.2.1)).mono ?_
            rintro e w12 ⟨rfl, b12⟩
            have HB12 := below_n hBr b12
            go_wp2_with fail
            exact ⟨⟨k + 1, by omega, by go_num, fun j hj h => by
              rcases Nat.lt_or_ge j k with h9 | h9
              · exact HA.out j hj h9
              · obtain rfl : j = k := by omega
                exact HE.out, HB12⟩, by simp [intOf]; omega⟩
          · have HE : Hid (Gate.covers ts os rs[k] = false) := by simpa [Hid] using he
            clear he
            go_wp2_with fail
            refine (as_bool HE.out (implCovers_any ta tc ts oa oc os rs[k] va vcap _ HI.out.2.2.1 HI.out.2.2.2.1 HI.out.1 HI.out.2.1)).mono ?_
            rintro e w12 ⟨rfl, b12⟩
            have HB12 := below_n HI.out.2.2.2.2 b12
            go_wp2_with fail
            go_ret
            exact ⟨rfl, HB12⟩
        · have HI : Hid (TmsAt wr ta ts ∧ RlsAt wr oa os ∧ IntsAt wr (some ⟨gq, 0, none⟩) qv ∧ Below w.heap.size w wr) := ⟨HW.out.1.mono Dr, DD.out.2.mono hBr, HW.out.2.2.1.mono Dr, below_n HW.out.2.2.2.2.2.2.2.2 Dr⟩
          clear Dr
          go_wp2_with fail
          have HE : Gate.covers ts os ⟨qv, q1, q2, q3⟩ = true := Gate.covers_trans HG.out.2.2.symm (fun q hq => by
            obtain ⟨j, hj, rfl⟩ := List.getElem_of_mem hq
            exact HA.out j hj (by omega))
          refine (covers_at HE HI.out.1 HI.out.2.1 HW.out.2.2.2.1 HI.out.2.2.1 rfl).mono ?_
          rintro e w13 ⟨rfl, b13⟩
          go_wp2_with fail
          go_ret
          exact ⟨rfl, below_n HI.out.2.2.2 b13⟩
    · have HAL : Hid (Gate.allows ts ⟨qv, q1, q2, q3⟩ y = false) := by simpa [Hid] using hal
      clear hal
      refine (as_bool HAL.out (implAllows_any ta tc ts ⟨qv, q1, q2, q3⟩ (some ⟨gq, 0, none⟩) qc y _ (HW.out.1.mono D12) HW.out.2.2.2.1 (HW.out.2.2.1.mono D12) HY.out)).mono ?_
      rintro e w14 ⟨rfl, b14⟩
      have D14 := below_n D12 b14
      have hQ14 := box_later hQ12 zQ12 b14
      have zQ14 := Nat.lt_of_lt_of_le zQ12 b14.size
      clear hQ12 zQ12 hY12 zY12 D12 b14
      go_wp2_with fail
      refine (drawCovers_any ma mn mcp w14 (HW.out.2.2.2.2.1.mono D14) hmc).mono ?_
      rintro e w11 ⟨ts2, os, qq, ta2, oa, qa2, tc2, oc, qc2, rfl, -, hos, -, -, -, -, -, b11⟩
      have D11 := below_n D14 b11
      have hQ11 := box_later hQ14 zQ14 b11
      have zQ11 := Nat.lt_of_lt_of_le zQ14 b11.size
      obtain ⟨pv, p1, p2, p3⟩ := qq
      clear hQ14 zQ14 D14 b11
      unfold Rl.cells
      dsimp only
      go_wp2_with fail
      have bW0 : Below w11.heap.size w11 (w11.alloc (.cells #[.slice qa2 pv.length qc2, .string p1, .string p2, .string p3] 27)) := (Below.refl _ _).alloc (Nat.le_refl _) _
      have hW9 := box_later hQ11 zQ11 bW0
      have zW9 := Nat.lt_of_lt_of_le zQ11 bW0.size
      have DD : Hid (Below W.heap.size W (w11.alloc (.cells #[.slice qa2 pv.length qc2, .string p1, .string p2, .string p3] 27)) ∧ RlsAt (w11.alloc (.cells #[.slice qa2 pv.length qc2, .string p1, .string p2, .string p3] 27)) oa os) := ⟨below_n D11 bW0, hos.mono bW0⟩
      clear hQ11 zQ11 D11 bW0 hos
      obtain ⟨W0, hW0⟩ : ∃ W0, W0 = w11.alloc (.cells #[.slice qa2 pv.length qc2, .string p1, .string p2, .string p3] 27) := ⟨_, rfl⟩
      rw [← hW0] at DD hW9 zW9 ⊢
      clear hW0
      go_loopw [18] (fun i wr => ∃ k : Nat, k ≤ rs.length ∧ i = .int .i64 k ∧ (∀ (j : Nat) (h : j < rs.length), j < k → Gate.covers ts os rs[j] = true) ∧ Below W0.heap.size W0 wr) (fun i _ => rs.length - (intOf i).toNat)
      case atStart => exact ⟨0, Nat.zero_le _, rfl, fun j _ h => absurd h (by omega), Below.refl _ _⟩
      case round =>
        obtain ⟨k, hk, rfl, hall0, hBr⟩ := hrel
        have HA : Hid (∀ (j : Nat) (h : j < rs.length), j < k → Gate.covers ts os rs[j] = true) := hall0
        clear hall0
        have Dr := below_n DD.out.1 hBr
        have hX := box_later hW9 zW9 hBr
        by_cases hlt : k < rs.length
        · obtain ⟨b, off, va, vcap, hba, hb, hsm, hI, c0, c1, c2, c3⟩ := HW.out.2.1.load Dr k hlt
          cases hba
          simp only [Nat.zero_add] at c0 c1 c2 c3
          have hltI : (k : Int) < (rs.length : Int) := by omega
          have HI : Hid (rs[k].Small ∧ IntsAt wr va rs[k].vs ∧ TmsAt wr ta ts ∧ RlsAt wr oa os ∧ Below w.heap.size w wr) := ⟨hsm, hI, HW.out.1.mono Dr, DD.out.2.mono hBr, below_n HW.out.2.2.2.2.2.2.2.2 Dr⟩
          clear hsm hI Dr
          by_cases he : Gate.covers ts os rs[k] = true
          · have HE : Hid (Gate.covers ts os rs[k] = true) := he
            clear he
            go_wp2_with fail
            refine (as_bool HE.out (implCovers_any ta tc ts oa oc os rs[k] va vcap _ HI.out.2.2.1 HI.out.2.2.2.1 HI.out.1 HI.out.2.1)).mono ?_
            rintro e w12 ⟨rfl, b12⟩
            have HB12 := below_n hBr b12
            go_wp2_with fail
            exact ⟨⟨k + 1, by omega, by go_num, fun j hj h => by
              rcases Nat.lt_or_ge j k with h9 | h9
              · exact HA.out j hj h9
              · obtain rfl : j = k := by omega
                exact HE.out, HB12⟩, by simp [intOf]; omega⟩
          · have HE : Hid (Gate.covers ts os rs[k] = false) := by simpa [Hid] using he
            clear he
            go_wp2_with fail
            refine (as_bool HE.out (implCovers_any ta tc ts oa oc os rs[k] va vcap _ HI.out.2.2.1 HI.out.2.2.2.1 HI.out.1 HI.out.2.1)).mono ?_
            rintro e w12 ⟨rfl, b12⟩
            have HB12 := below_n HI.out.2.2.2.2 b12
            go_wp2_with fail
            go_ret
            exact ⟨rfl, HB12⟩
        · have HI : Hid (TmsAt wr ta ts ∧ RlsAt wr oa os ∧ IntsAt wr (some ⟨gq, 0, none⟩) qv ∧ Below w.heap.size w wr) := ⟨HW.out.1.mono Dr, DD.out.2.mono hBr, HW.out.2.2.1.mono Dr, below_n HW.out.2.2.2.2.2.2.2.2 Dr⟩
          clear Dr
          go_wp2_with fail
          have HE : Gate.covers ts os ⟨qv, q1, q2, q3⟩ = true := Gate.covers_trans HG.out.2.2.symm (fun q hq => by
            obtain ⟨j, hj, rfl⟩ := List.getElem_of_mem hq
            exact HA.out j hj (by omega))
          refine (covers_at HE HI.out.1 HI.out.2.1 HW.out.2.2.2.1 HI.out.2.2.1 rfl).mono ?_
          rintro e w13 ⟨rfl, b13⟩
          go_wp2_with fail
          go_ret
          exact ⟨rfl, below_n HI.out.2.2.2 b13⟩

  · go_wp2_with fail
    have row5 := ruleRow_later HW.out.2.2.2.2.2.2.1 D5
    have hgr5 := (row5.own.lt gr rfl).2
    refine region_cut (fun A A' w' => ∃ u67 u68 u69 u70 u71 u72 u73 u74 u75, A' = ((((((((((A.put (some 67) u67).put (some 68) u68).put (some 69) u69).put (some 70) u70).put (some 71) u71).put (some 72) u72).put (some 73) u73).put (some 74) u74).put (some 75) u75).put (some 11) (.bool false)) ∧ Below w5.heap.size w5 w') ?_ ?_
    · have hQd := box_later hQ5 zQ5 (Below.refl w5.heap.size w5).drew
      have zQd : k1 < w5.drew.heap.size := zQ5
      refine wp_region_held_drew (S := fun w' => ∀ j, w'.cell? ⟨k1, j, none⟩ = (#[.slice (some ⟨gq, 0, none⟩) qv.length qc, .string q1, .string q2, .string q3] : Array Value)[j]?) (by kernel_rfl) hQd (fun hHeld => ?_)
      refine tH 0 rfl hHeld ?_ (hQ := fun _ _ _ h => by cases h.1)
      refine tH 2 rfl hHeld ?_ (hQ := fun _ _ _ h => by cases h.1)
      refine tH 4 rfl hHeld ?_ (hQ := fun _ _ _ h => by cases h.1)
      refine tH 7 rfl hHeld ?_ (hQ := fun _ _ _ h => by cases h.1)
      refine step2H (i := 1) (j := 5) rfl rfl (by kernel_rfl) rfl rfl (fun K hK => ?_) (fun K hK => ?_)
      · go_simp
        refine hK.out _ _ ?_ (fun hHeld => ?_)
        · exact box_later hQd zQd ((Below.refl w5.drew.heap.size w5.drew).alloc (Nat.le_refl _) _)
        clear hK K
        (try simp only [Act.put, sA, s0, sS])
        have own0 : (w5.alloc (.cells #[] 27)).drew.ownsRow w5.heap.size 27 4 (.slice (some ⟨w5.heap.size, 0, none⟩) 0 0) 0 [] := ⟨rfl, Or.inr ⟨w5.heap.size, 0, #[], rfl, Nat.le_refl _, (MapKept.heap_alloc w5 _).1, Nat.le_refl _, by simp [maxLen], rfl, rfl⟩⟩
        have B1 : Below w5.heap.size w5 (w5.alloc (.cells #[] 27)).drew := ((Below.refl _ _).alloc (Nat.le_refl _) _).drew
        refine step2H (i := 3) (j := 5) rfl rfl (by kernel_rfl) rfl rfl (fun K hK => ?_) (fun K hK => ?_)
        · refine wp_append_own _ (.tmp 68) (.tmp 69) 24 rfl w5.heap.size 27 i0 (.agg #[.slice none 0 0, .string ByteArray.empty, .string ByteArray.empty, .string ByteArray.empty]) 4 72 Tryd.underlying24 hi hz0 hz1' hz2 rfl (by decide) (.slice (some ⟨w5.heap.size, 0, none⟩) 0 0) 0 _ rfl own0 ⟨gr, 0, none⟩ rs.length rc (xs.flatMap RlE.row) rfl (by rw [HR.out.2]; exact row5.own.1) (fun j u hj => by rw [Addr.add_mid, Nat.zero_add, B1.cell (p := ⟨gr, j, none⟩) hgr5]; exact owns_cells row5.own j u hj) (by intro u hu; obtain ⟨y, _, hy⟩ := List.mem_flatMap.1 hu; simp [RlE.row] at hy; rcases hy with rfl | rfl | rfl | rfl <;> rfl) (by unfold maxLen; omega) (by omega) (by simp <;> omega) ?_
          intro v' w6 hown hgr hnil
          have B6 : Below w5.heap.size w5 w6 := B1.trans ((Below.refl w5.heap.size _).grown hgr (by simp <;> omega) (fun k hk => by cases hk; first | exact Nat.le_refl _ | exact Nat.le_succ _))
          rw [Nat.zero_add, List.nil_append, HR.out.2] at hown
          obtain ⟨g6, c6, rfl⟩ := owns_some hown (fun e => by have := (hnil.1 e).1; cases this)
          refine hK.out _ _ ?_ (fun hHeld => ?_)
          · exact box_later hQ5 zQ5 B6
          clear hK K hgr hnil own0 B1
          (try simp only [Act.put, sA, s0, sS])
          refine cH 5 rfl fun K hK => ?_
          go_simp
          refine hK.out _ _ ?_ (fun hHeld => ?_)
          · exact box_later hQ5 zQ5 (B6.alloc B6.size _)
          clear hK K
          (try simp only [Act.put, sA, s0, sS])
          refine cH 6 rfl fun K hK => ?_
          refine wp_append_own _ (.tmp 70) (.tmp 72) 24 rfl w5.heap.size 27 i0 (.agg #[.slice none 0 0, .string ByteArray.empty, .string ByteArray.empty, .string ByteArray.empty]) 4 72 Tryd.underlying24 hi hz0 hz1' hz2 rfl (by decide) (.slice (some ⟨g6, 0, none⟩) xs.length c6) xs.length _ rfl (hown.alloc _) ⟨w6.heap.size, 0, none⟩ 1 1 (⟨⟨qv, q1, q2, q3⟩, gq, qc⟩ : RlE).row rfl rfl (four_news _ _ _ _ _ rfl) (by intro u hu; simp [RlE.row] at hu; rcases hu with rfl | rfl | rfl | rfl <;> rfl) (by have := HR.out.2; unfold maxLen; omega) (by have := HR.out.2; omega) (by have := B6.size; simp; omega) ?_
          intro v' w8 hown8 hgr hnil
          obtain ⟨g8, c8, rfl⟩ := owns_some hown8 (fun e => by have := (hnil.1 e).2; omega)
          have B8 : Below w5.heap.size w5 w8 := Below.trans (B6.alloc B6.size _) ((Below.refl w5.heap.size _).grown hgr (by have := B6.size; simp; omega) (fun k hk => by cases hk; exact (hown.lt g6 rfl).1))
          have hq8 : RlEnt 1 w5 ⟨qv, q1, q2, q3⟩ gq qc := ⟨HW.out.2.2.2.2.2.2.2.1.small, HW.out.2.2.2.2.2.2.2.1.len, ownsRow_later HW.out.2.2.2.2.2.2.2.1.own D5⟩
          have row8 : RuleRow 1 w8 (some ⟨g8, 0, none⟩) c8 (xs ++ [(⟨⟨qv, q1, q2, q3⟩, gq, qc⟩ : RlE)]) := by
            refine ⟨ownsRow_low (base := w5.heap.size) (by rw [List.length_append, List.flatMap_append]; simpa using hown8) (by omega), fun y hy => ?_⟩
            have hy' : RlEnt 1 w5 y.q y.g y.cap := by
              rcases List.mem_append.1 hy with h9 | h9
              · exact row5.each y h9
              · rw [List.mem_singleton.1 h9]; exact hq8
            exact ⟨hy'.small, hy'.len, ownsRow_same hy'.own fun g9 hg9 => B8.block g9 (hy'.own.lt g9 hg9).2⟩
          have hR8 : RlsAt w8 (some ⟨g8, 0, none⟩) (rs ++ [⟨qv, q1, q2, q3⟩]) := by
            have h9 := rules_at row8 (by have := HR.out.2; simp; omega)
            rw [HR.out.1]
            simpa using h9
          have D8 := below_n D5 B8
          have H8 : Hid (RlsAt w8 (some ⟨g8, 0, none⟩) (rs ++ [⟨qv, q1, q2, q3⟩]) ∧ TmsAt w8 ta ts ∧ IntsAt w8 (some ⟨gq, 0, none⟩) qv) := ⟨hR8, HW.out.1.mono D8, HW.out.2.2.1.mono D8⟩
          refine hK.out _ _ ?_ (fun hHeld => ?_)
          · exact box_later hQ5 zQ5 B8
          clear hK K hgr hnil hR8 row8 hq8 D8 hown8
          (try simp only [Act.put, sA, s0, sS])
          refine cH 8 rfl fun K hK => ?_
          go_simp
          refine (covers_at (Gate.covers_self.trans HO.out.symm) H8.out.2.1 H8.out.1 HW.out.2.2.2.1 H8.out.2.2 (by have := HR.out.2; simp; omega)).mono ?_
          rintro e w9 ⟨rfl, b9⟩
          have B9 : Below w5.heap.size w5 w9 := below_n B8 b9
          (try go_wp2_with fail)
          refine hK.out _ _ ?_ (fun hHeld => ?_)
          · exact box_later hQ5 zQ5 B9
          clear hK K
          (try simp only [Act.put, sA, s0, sS])
          refine tH 9 rfl hHeld ?_ (hQ := fun _ _ _ h => by cases h.1)
          refine wpAnyH_done (by kernel_rfl) ?_ _
          exact ⟨rfl, _, _, _, _, _, _, _, _, _, rfl, B9⟩

        · go_simp
          refine hK.out _ _ ?_ (fun hHeld => ?_)
          · exact box_later hQ5 zQ5 (below_22 _ _ _)
          clear hK K own0 B1
          (try simp only [Act.put, sA, s0, sS])
          refine cH 3 rfl fun K hK => ?_
          have B2 := below_22 w5 (.cells #[] 27) (.cells #[.slice (some ⟨gq, 0, none⟩) qv.length qc, .string q1, .string q2, .string q3] 27)
          have own2 := own_empty (lo := w5.heap.size) (at_1 w5 (.cells #[] 27) (.cells #[.slice (some ⟨gq, 0, none⟩) qv.length qc, .string q1, .string q2, .string q3] 27)) (by omega)
          have hqb := at_22 w5 (.cells #[] 27) (.cells #[.slice (some ⟨gq, 0, none⟩) qv.length qc, .string q1, .string q2, .string q3] 27)
          refine wp_append_own _ (.tmp 68) (.tmp 69) 24 rfl w5.heap.size 27 i0 (.agg #[.slice none 0 0, .string ByteArray.empty, .string ByteArray.empty, .string ByteArray.empty]) 4 72 Tryd.underlying24 hi hz0 hz1' hz2 rfl (by decide) (.slice (some ⟨w5.heap.size, 0, none⟩) 0 0) 0 _ rfl own2 ⟨gr, 0, none⟩ rs.length rc (xs.flatMap RlE.row) rfl (by rw [HR.out.2]; exact row5.own.1) (fun j u hj => by rw [Addr.add_mid, Nat.zero_add, B2.cell (p := ⟨gr, j, none⟩) hgr5]; exact owns_cells row5.own j u hj) (by intro u hu; obtain ⟨y, _, hy⟩ := List.mem_flatMap.1 hu; simp [RlE.row] at hy; rcases hy with rfl | rfl | rfl | rfl <;> rfl) (by unfold maxLen; omega) (by omega) (by simp <;> omega) ?_
          intro v' w6 hown hgr hnil
          have B6 : Below w5.heap.size w5 w6 := B2.trans ((Below.refl w5.heap.size _).grown hgr (by simp <;> omega) (fun k hk => by cases hk; first | exact Nat.le_refl _ | exact Nat.le_succ _))
          rw [Nat.zero_add, List.nil_append, HR.out.2] at hown
          obtain ⟨g6, c6, rfl⟩ := owns_some hown (fun e => by have := (hnil.1 e).1; cases this)
          have hq6 := (hgr.block (w5.heap.size + 1) (by simp <;> omega) (by intro e; have e9 : some (w5.heap.size + 1) = some (w5.heap.size) := e; have := Option.some.inj e9; omega)).trans hqb
          refine hK.out _ _ ?_ (fun hHeld => ?_)
          · exact box_later hQ5 zQ5 B6
          clear hK K hgr hnil own2 B2 hqb
          (try simp only [Act.put, sA, s0, sS])
          refine cH 6 rfl fun K hK => ?_
          refine wp_append_own _ (.tmp 70) (.tmp 72) 24 rfl w5.heap.size 27 i0 (.agg #[.slice none 0 0, .string ByteArray.empty, .string ByteArray.empty, .string ByteArray.empty]) 4 72 Tryd.underlying24 hi hz0 hz1' hz2 rfl (by decide) (.slice (some ⟨g6, 0, none⟩) xs.length c6) xs.length _ rfl (hown) ⟨w5.heap.size + 1, 0, none⟩ 1 1 (⟨⟨qv, q1, q2, q3⟩, gq, qc⟩ : RlE).row rfl rfl (four_news_at hq6) (by intro u hu; simp [RlE.row] at hu; rcases hu with rfl | rfl | rfl | rfl <;> rfl) (by have := HR.out.2; unfold maxLen; omega) (by have := HR.out.2; omega) (by have := B6.size; simp; omega) ?_
          intro v' w8 hown8 hgr hnil
          obtain ⟨g8, c8, rfl⟩ := owns_some hown8 (fun e => by have := (hnil.1 e).2; omega)
          have B8 : Below w5.heap.size w5 w8 := Below.trans B6 ((Below.refl w5.heap.size _).grown hgr (by have := B6.size; simp; omega) (fun k hk => by cases hk; exact (hown.lt g6 rfl).1))
          have hq8 : RlEnt 1 w5 ⟨qv, q1, q2, q3⟩ gq qc := ⟨HW.out.2.2.2.2.2.2.2.1.small, HW.out.2.2.2.2.2.2.2.1.len, ownsRow_later HW.out.2.2.2.2.2.2.2.1.own D5⟩
          have row8 : RuleRow 1 w8 (some ⟨g8, 0, none⟩) c8 (xs ++ [(⟨⟨qv, q1, q2, q3⟩, gq, qc⟩ : RlE)]) := by
            refine ⟨ownsRow_low (base := w5.heap.size) (by rw [List.length_append, List.flatMap_append]; simpa using hown8) (by omega), fun y hy => ?_⟩
            have hy' : RlEnt 1 w5 y.q y.g y.cap := by
              rcases List.mem_append.1 hy with h9 | h9
              · exact row5.each y h9
              · rw [List.mem_singleton.1 h9]; exact hq8
            exact ⟨hy'.small, hy'.len, ownsRow_same hy'.own fun g9 hg9 => B8.block g9 (hy'.own.lt g9 hg9).2⟩
          have hR8 : RlsAt w8 (some ⟨g8, 0, none⟩) (rs ++ [⟨qv, q1, q2, q3⟩]) := by
            have h9 := rules_at row8 (by have := HR.out.2; simp; omega)
            rw [HR.out.1]
            simpa using h9
          have D8 := below_n D5 B8
          have H8 : Hid (RlsAt w8 (some ⟨g8, 0, none⟩) (rs ++ [⟨qv, q1, q2, q3⟩]) ∧ TmsAt w8 ta ts ∧ IntsAt w8 (some ⟨gq, 0, none⟩) qv) := ⟨hR8, HW.out.1.mono D8, HW.out.2.2.1.mono D8⟩
          refine hK.out _ _ ?_ (fun hHeld => ?_)
          · exact box_later hQ5 zQ5 B8
          clear hK K hgr hnil hR8 row8 hq8 D8 hown8
          (try simp only [Act.put, sA, s0, sS])
          refine cH 8 rfl fun K hK => ?_
          go_simp
          refine (covers_at (Gate.covers_self.trans HO.out.symm) H8.out.2.1 H8.out.1 HW.out.2.2.2.1 H8.out.2.2 (by have := HR.out.2; simp; omega)).mono ?_
          rintro e w9 ⟨rfl, b9⟩
          have B9 : Below w5.heap.size w5 w9 := below_n B8 b9
          (try go_wp2_with fail)
          refine hK.out _ _ ?_ (fun hHeld => ?_)
          · exact box_later hQ5 zQ5 B9
          clear hK K
          (try simp only [Act.put, sA, s0, sS])
          refine tH 9 rfl hHeld ?_ (hQ := fun _ _ _ h => by cases h.1)
          refine wpAnyH_done (by kernel_rfl) ?_ _
          exact ⟨rfl, _, _, _, _, _, _, _, _, _, rfl, B9⟩

      · go_simp
        refine hK.out _ _ ?_ (fun hHeld => ?_)
        · exact box_later hQ5 zQ5 (Below.drew ((Below.refl w5.heap.size w5).alloc (Nat.le_refl _) _))
        clear hK K
        (try simp only [Act.put, sA, s0, sS])
        refine cH 1 rfl fun K hK => ?_
        go_simp
        refine hK.out _ _ ?_ (fun hHeld => ?_)
        · exact box_later hQ5 zQ5 (below_22 _ _ _)
        clear hK K
        (try simp only [Act.put, sA, s0, sS])
        refine cH 3 rfl fun K hK => ?_
        have B2 := below_22 w5 (.cells #[.slice (some ⟨gq, 0, none⟩) qv.length qc, .string q1, .string q2, .string q3] 27) (.cells #[] 27)
        have own2 := own_empty (lo := w5.heap.size) (at_22 w5 (.cells #[.slice (some ⟨gq, 0, none⟩) qv.length qc, .string q1, .string q2, .string q3] 27) (.cells #[] 27)) (by omega)
        have hqb := at_1 w5 (.cells #[.slice (some ⟨gq, 0, none⟩) qv.length qc, .string q1, .string q2, .string q3] 27) (.cells #[] 27)
        refine wp_append_own _ (.tmp 68) (.tmp 69) 24 rfl w5.heap.size 27 i0 (.agg #[.slice none 0 0, .string ByteArray.empty, .string ByteArray.empty, .string ByteArray.empty]) 4 72 Tryd.underlying24 hi hz0 hz1' hz2 rfl (by decide) (.slice (some ⟨w5.heap.size + 1, 0, none⟩) 0 0) 0 _ rfl own2 ⟨gr, 0, none⟩ rs.length rc (xs.flatMap RlE.row) rfl (by rw [HR.out.2]; exact row5.own.1) (fun j u hj => by rw [Addr.add_mid, Nat.zero_add, B2.cell (p := ⟨gr, j, none⟩) hgr5]; exact owns_cells row5.own j u hj) (by intro u hu; obtain ⟨y, _, hy⟩ := List.mem_flatMap.1 hu; simp [RlE.row] at hy; rcases hy with rfl | rfl | rfl | rfl <;> rfl) (by unfold maxLen; omega) (by omega) (by simp <;> omega) ?_
        intro v' w6 hown hgr hnil
        have B6 : Below w5.heap.size w5 w6 := B2.trans ((Below.refl w5.heap.size _).grown hgr (by simp <;> omega) (fun k hk => by cases hk; first | exact Nat.le_refl _ | exact Nat.le_succ _))
        rw [Nat.zero_add, List.nil_append, HR.out.2] at hown
        obtain ⟨g6, c6, rfl⟩ := owns_some hown (fun e => by have := (hnil.1 e).1; cases this)
        have hq6 := (hgr.block (w5.heap.size) (by simp <;> omega) (by intro e; have e9 : some (w5.heap.size) = some (w5.heap.size + 1) := e; have := Option.some.inj e9; omega)).trans hqb
        refine hK.out _ _ ?_ (fun hHeld => ?_)
        · exact box_later hQ5 zQ5 B6
        clear hK K hgr hnil own2 B2 hqb
        (try simp only [Act.put, sA, s0, sS])
        refine cH 6 rfl fun K hK => ?_
        refine wp_append_own _ (.tmp 70) (.tmp 72) 24 rfl w5.heap.size 27 i0 (.agg #[.slice none 0 0, .string ByteArray.empty, .string ByteArray.empty, .string ByteArray.empty]) 4 72 Tryd.underlying24 hi hz0 hz1' hz2 rfl (by decide) (.slice (some ⟨g6, 0, none⟩) xs.length c6) xs.length _ rfl (hown) ⟨w5.heap.size, 0, none⟩ 1 1 (⟨⟨qv, q1, q2, q3⟩, gq, qc⟩ : RlE).row rfl rfl (four_news_at hq6) (by intro u hu; simp [RlE.row] at hu; rcases hu with rfl | rfl | rfl | rfl <;> rfl) (by have := HR.out.2; unfold maxLen; omega) (by have := HR.out.2; omega) (by have := B6.size; simp; omega) ?_
        intro v' w8 hown8 hgr hnil
        obtain ⟨g8, c8, rfl⟩ := owns_some hown8 (fun e => by have := (hnil.1 e).2; omega)
        have B8 : Below w5.heap.size w5 w8 := Below.trans B6 ((Below.refl w5.heap.size _).grown hgr (by have := B6.size; simp; omega) (fun k hk => by cases hk; exact (hown.lt g6 rfl).1))
        have hq8 : RlEnt 1 w5 ⟨qv, q1, q2, q3⟩ gq qc := ⟨HW.out.2.2.2.2.2.2.2.1.small, HW.out.2.2.2.2.2.2.2.1.len, ownsRow_later HW.out.2.2.2.2.2.2.2.1.own D5⟩
        have row8 : RuleRow 1 w8 (some ⟨g8, 0, none⟩) c8 (xs ++ [(⟨⟨qv, q1, q2, q3⟩, gq, qc⟩ : RlE)]) := by
          refine ⟨ownsRow_low (base := w5.heap.size) (by rw [List.length_append, List.flatMap_append]; simpa using hown8) (by omega), fun y hy => ?_⟩
          have hy' : RlEnt 1 w5 y.q y.g y.cap := by
            rcases List.mem_append.1 hy with h9 | h9
            · exact row5.each y h9
            · rw [List.mem_singleton.1 h9]; exact hq8
          exact ⟨hy'.small, hy'.len, ownsRow_same hy'.own fun g9 hg9 => B8.block g9 (hy'.own.lt g9 hg9).2⟩
        have hR8 : RlsAt w8 (some ⟨g8, 0, none⟩) (rs ++ [⟨qv, q1, q2, q3⟩]) := by
          have h9 := rules_at row8 (by have := HR.out.2; simp; omega)
          rw [HR.out.1]
          simpa using h9
        have D8 := below_n D5 B8
        have H8 : Hid (RlsAt w8 (some ⟨g8, 0, none⟩) (rs ++ [⟨qv, q1, q2, q3⟩]) ∧ TmsAt w8 ta ts ∧ IntsAt w8 (some ⟨gq, 0, none⟩) qv) := ⟨hR8, HW.out.1.mono D8, HW.out.2.2.1.mono D8⟩
        refine hK.out _ _ ?_ (fun hHeld => ?_)
        · exact box_later hQ5 zQ5 B8
        clear hK K hgr hnil hR8 row8 hq8 D8 hown8
        (try simp only [Act.put, sA, s0, sS])
        refine cH 8 rfl fun K hK => ?_
        go_simp
        refine (covers_at (Gate.covers_self.trans HO.out.symm) H8.out.2.1 H8.out.1 HW.out.2.2.2.1 H8.out.2.2 (by have := HR.out.2; simp; omega)).mono ?_
        rintro e w9 ⟨rfl, b9⟩
        have B9 : Below w5.heap.size w5 w9 := below_n B8 b9
        (try go_wp2_with fail)
        refine hK.out _ _ ?_ (fun hHeld => ?_)
        · exact box_later hQ5 zQ5 B9
        clear hK K
        (try simp only [Act.put, sA, s0, sS])
        refine tH 9 rfl hHeld ?_ (hQ := fun _ _ _ h => by cases h.1)
        refine wpAnyH_done (by kernel_rfl) ?_ _
        exact ⟨rfl, _, _, _, _, _, _, _, _, _, rfl, B9⟩

    rintro A' w9 ⟨u67, u68, u69, u70, u71, u72, u73, u74, u75, rfl, B9⟩
    simp only [Act.put, sA, s0, sS]
    have D9 := below_n D5 B9
    have hQ9 := box_later hQ5 zQ5 B9
    have zQ9 := Nat.lt_of_lt_of_le zQ5 B9.size
    clear hQ5 zQ5 D5 B9 row5 hgr5
    go_wp2_with fail
    refine (drawAllows_any ma mn mcp w9 (HW.out.2.2.2.2.1.mono D9) hmc).mono ?_
    rintro e w10 ⟨t0, za, zn, zc, z1, z2, z3, y, rfl, hys, b10⟩
    have HY : Hid y.Small := hys
    have D10 := below_n D9 b10
    have hQ10 := box_later hQ9 zQ9 b10
    have zQ10 := Nat.lt_of_lt_of_le zQ9 b10.size
    clear hys D9 hQ9 zQ9 b10
    unfold Ac.cells
    go_wp2_with fail
    refine calls_world (fun V => (∀ j, V.cell? ⟨k1, j, none⟩ = (#[.slice (some ⟨gq, 0, none⟩) qv.length qc, .string q1, .string q2, .string q3] : Array Value)[j]?) ∧ (∀ j, V.cell? ⟨w10.heap.size + 1, j, none⟩ = (#[.int .i64 y.vb, .string y.kd, .string y.tm, .string y.nm] : Array Value)[j]?) ∧ w10.heap.size + 1 < V.heap.size ∧ Below W.heap.size W V ∧ w10.heap.size ≤ V.heap.size) ?_ ?_
    · have bV := below_2 w10 (.cells #[.slice za zn zc, .string z1, .string z2, .string z3] 27) (.cells #[.int .i64 y.vb, .string y.kd, .string y.tm, .string y.nm] 32)
      exact ⟨box_later hQ10 zQ10 bV, blk_at (at_2 _ _ _), by simp, below_n D10 bV, bV.size⟩
    rintro V4 ⟨hQ12, hY12, zY12, D12, zs⟩
    have zQ12 : k1 < V4.heap.size := Nat.lt_of_lt_of_le zQ10 zs
    clear hQ10 zQ10 D10
    obtain ⟨k8, hk8⟩ : ∃ k8, k8 = w10.heap.size + 1 := ⟨_, rfl⟩
    rw [← hk8] at hY12 zY12 ⊢
    clear hk8 zs
    refine (drawCovers_any ma mn mcp V4 (HW.out.2.2.2.2.1.mono D12) hmc).mono ?_
    rintro e w11 ⟨ts2, os, qq, ta2, oa, qa2, tc2, oc, qc2, rfl, -, hos, -, -, -, -, -, b11⟩
    have D11 := below_n D12 b11
    have hQ11 := box_later hQ12 zQ12 b11
    have zQ11 := Nat.lt_of_lt_of_le zQ12 b11.size
    obtain ⟨pv, p1, p2, p3⟩ := qq
    clear hQ12 zQ12 D12 b11
    unfold Rl.cells
    dsimp only
    go_wp2_with fail
    have bW0 : Below w11.heap.size w11 (w11.alloc (.cells #[.slice qa2 pv.length qc2, .string p1, .string p2, .string p3] 27)) := (Below.refl _ _).alloc (Nat.le_refl _) _
    have hW9 := box_later hQ11 zQ11 bW0
    have zW9 := Nat.lt_of_lt_of_le zQ11 bW0.size
    have DD : Hid (Below W.heap.size W (w11.alloc (.cells #[.slice qa2 pv.length qc2, .string p1, .string p2, .string p3] 27)) ∧ RlsAt (w11.alloc (.cells #[.slice qa2 pv.length qc2, .string p1, .string p2, .string p3] 27)) oa os) := ⟨below_n D11 bW0, hos.mono bW0⟩
    clear hQ11 zQ11 D11 bW0 hos
    obtain ⟨W0, hW0⟩ : ∃ W0, W0 = w11.alloc (.cells #[.slice qa2 pv.length qc2, .string p1, .string p2, .string p3] 27) := ⟨_, rfl⟩
    rw [← hW0] at DD hW9 zW9 ⊢
    clear hW0
    go_loopw [18] (fun i wr => ∃ k : Nat, k ≤ rs.length ∧ i = .int .i64 k ∧ (∀ (j : Nat) (h : j < rs.length), j < k → Gate.covers ts os rs[j] = true) ∧ Below W0.heap.size W0 wr) (fun i _ => rs.length - (intOf i).toNat)
    case atStart => exact ⟨0, Nat.zero_le _, rfl, fun j _ h => absurd h (by omega), Below.refl _ _⟩
    case round =>
      obtain ⟨k, hk, rfl, hall0, hBr⟩ := hrel
      have HA : Hid (∀ (j : Nat) (h : j < rs.length), j < k → Gate.covers ts os rs[j] = true) := hall0
      clear hall0
      have Dr := below_n DD.out.1 hBr
      have hX := box_later hW9 zW9 hBr
      by_cases hlt : k < rs.length
      · obtain ⟨b, off, va, vcap, hba, hb, hsm, hI, c0, c1, c2, c3⟩ := HW.out.2.1.load Dr k hlt
        cases hba
        simp only [Nat.zero_add] at c0 c1 c2 c3
        have hltI : (k : Int) < (rs.length : Int) := by omega
        have HI : Hid (rs[k].Small ∧ IntsAt wr va rs[k].vs ∧ TmsAt wr ta ts ∧ RlsAt wr oa os ∧ Below w.heap.size w wr) := ⟨hsm, hI, HW.out.1.mono Dr, DD.out.2.mono hBr, below_n HW.out.2.2.2.2.2.2.2.2 Dr⟩
        clear hsm hI Dr
        by_cases he : Gate.covers ts os rs[k] = true
        · have HE : Hid (Gate.covers ts os rs[k] = true) := he
          clear he
          go_wp2_with fail
          refine (as_bool HE.out (implCovers_any ta tc ts oa oc os rs[k] va vcap _ HI.out.2.2.1 HI.out.2.2.2.1 HI.out.1 HI.out.2.1)).mono ?_
          rintro e w12 ⟨rfl, b12⟩
          have HB12 := below_n hBr b12
          go_wp2_with fail
          exact ⟨⟨k + 1, by omega, by go_num, fun j hj h => by
            rcases Nat.lt_or_ge j k with h9 | h9
            · exact HA.out j hj h9
            · obtain rfl : j = k := by omega
              exact HE.out, HB12⟩, by simp [intOf]; omega⟩
        · have HE : Hid (Gate.covers ts os rs[k] = false) := by simpa [Hid] using he
          clear he
          go_wp2_with fail
          refine (as_bool HE.out (implCovers_any ta tc ts oa oc os rs[k] va vcap _ HI.out.2.2.1 HI.out.2.2.2.1 HI.out.1 HI.out.2.1)).mono ?_
          rintro e w12 ⟨rfl, b12⟩
          have HB12 := below_n HI.out.2.2.2.2 b12
          go_wp2_with fail
          go_ret
          exact ⟨rfl, HB12⟩
      · have HI : Hid (TmsAt wr ta ts ∧ RlsAt wr oa os ∧ IntsAt wr (some ⟨gq, 0, none⟩) qv ∧ Below w.heap.size w wr) := ⟨HW.out.1.mono Dr, DD.out.2.mono hBr, HW.out.2.2.1.mono Dr, below_n HW.out.2.2.2.2.2.2.2.2 Dr⟩
        clear Dr
        go_wp2_with fail
        go_ret
        exact ⟨rfl, HI.out.2.2.2⟩

end Go.Proofs.YtackfmeepggedaaDoor
