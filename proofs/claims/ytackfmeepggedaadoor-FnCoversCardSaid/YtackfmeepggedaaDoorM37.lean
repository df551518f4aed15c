import Derived.Test.YtackfmeepggedaaDoorM36
namespace Go.Proofs.YtackfmeepggedaaDoor
open Go.RowKit

theorem Tryd.infoTeam : (Tryd.prog.info? 69).map (fun i => (i.zero, i.size, i.bytes)) = some (some (.agg #[.string ByteArray.empty, .string ByteArray.empty]), 2, 32) := by kernel_rfl
theorem hold_here {p : Prop} (h : Hid p) : p := h
theorem grown_b {B : Nat} {w0 w w1 : World} {v : Value} {o : Obj} (h : Below B w0 w) (hB : B ≤ w.heap.size) (hg : (w.alloc o).grownBy w1 v.ownBlock) (hr : ∀ k, v.ownBlock = some k → B ≤ k) : Below B w0 w1 :=
  (h.alloc hB _).grown hg (by simp; omega) hr
theorem owns_slice {w : World} {lo sz : Nat} {e : TypeId} {v : Value} {n : Nat} {xs : List Value} (h : w.ownsRow lo e sz v n xs) : ∃ a cap, v = .slice a n cap := by
  obtain ⟨_, ⟨rfl, h0⟩ | ⟨b, cap, cur, rfl, _⟩⟩ := h
  · exact ⟨none, 0, by rw [h0]⟩
  · exact ⟨_, cap, rfl⟩
theorem two_news (w : World) (x y : Value) (t : TypeId) : ∀ j u, [x, y][j]? = some u → (w.alloc (.cells #[x, y] t)).cell? ((⟨w.heap.size, 0, none⟩ : Addr).add j) = some u := by
  intro j u hj
  rw [Addr.add_mid, Nat.zero_add, cell_of_block (MapKept.heap_alloc w _).1]
  simpa using hj
theorem TeamRow.put {lo g : Nat} {w : World} {n cap j : Nat} {ss : List ByteArray} {s : ByteArray} (h : TeamRow lo w (some ⟨g, 0, none⟩) n cap ss) (_hj : j < ss.length) (hs : s.size ≤ 1000) : TeamRow lo (w.setCell ⟨g, j, none⟩ (.string s)) (some ⟨g, 0, none⟩) n cap (ss.set j s) := by
  have hl := h.len
  obtain ⟨h0, ⟨h9, _⟩ | ⟨g', cp, cur, e, h1, h2, h3, h4, h5, h6⟩⟩ := id h.own
  · cases h9
  · cases e
    refine ⟨⟨by simp [hl], Or.inr ⟨g, _, cur.setIfInBounds j (.string s), rfl, h1, heap_setCell_at h2 _, h3, h4, by simpa using h5, ?_⟩⟩, fun x hx => ?_⟩
    · rw [List.map_set, ← h6]
      simp [List.take_set]
    · rcases List.mem_or_eq_of_mem_set hx with h7 | h7
      · exact h.small x h7
      · rw [h7]; exact hs
theorem TeamRow.more {lo : Nat} {w w' : World} {a a' : Option Addr} {n cap cap' : Nat} {ss : List ByteArray} {s t : ByteArray} (h : TeamRow lo w a n cap ss) (ho : w'.ownsRow lo 69 2 (.slice a' (n + 1) cap') (n + 1) (ss.map Value.string ++ [.string s, .string t])) (hs : s.size ≤ 1000) (ht : t.size ≤ 1000) : TeamRow lo w' a' (n + 1) cap' (ss ++ [s, t]) :=
  ⟨by rw [List.map_append]; exact ho, fun x hx => by
    rcases List.mem_append.1 hx with h1 | h1
    · exact h.small x h1
    · simp at h1; rcases h1 with rfl | rfl <;> assumption⟩

set_option maxRecDepth 10000 in
set_option maxHeartbeats 8000000 in
theorem l4SpoilTeams_any (r p n cap : Nat) (a : Option Addr) (ss : List ByteArray) (lo : Nat) (w : World) (hp : p ≤ 30000) (hr : RdAt w r p) (hrow : TeamRow lo w a n cap ss) (hn : 1 ≤ n) (hn6 : n ≤ 6) (hlo : r < lo) :
    Calls Tryd.prog 30 #[.pointer (some ⟨r, 0, none⟩), .slice a n cap] w fun e w' => ∃ (n' : Nat) (a' : Option Addr) (cap' : Nat) (ss' : List ByteArray) (p' : Nat), e = .returned (.slice a' n' cap') ∧ n' ≤ 13 ∧ TeamRow w.heap.size w' a' n' cap' ss' ∧ p' ≤ p + 20 ∧ RdAt w' r p' ∧ Dr r w w' := by
  have hlt := hr.lt
  have hln := hrow.len
  obtain ⟨i0, hi, hz0, hz1', hz2⟩ := info_parts Tryd.infoTeam
  obtain ⟨g, C, rfl, hg, hgs, hh, hc⟩ := hrow.block hn
  have hbA : Below w.heap.size w (w.alloc (.cells #[] 69)) := (Below.refl _ _).alloc (Nat.le_refl _) _
  have hnews : ∀ j u, (ss.map Value.string)[j]? = some u → (w.alloc (.cells #[] 69)).cell? ((⟨g, 0, none⟩ : Addr).add j) = some u := fun j u hj => by
    rw [Addr.add_mid, Nat.zero_add, hbA.cell (p := ⟨g, j, none⟩) hgs]
    have hjl : j < ss.length := by have := (List.getElem?_eq_some_iff.1 hj).1; simpa using this
    rw [hc j hjl]
    simpa [hjl] using hj
  have hown0 : (w.alloc (.cells #[] 69)).ownsRow w.heap.size 69 2 (.slice (some ⟨w.heap.size, 0, none⟩) 0 0) 0 [] := ⟨rfl, Or.inr ⟨w.heap.size, 0, #[], rfl, Nat.le_refl _, (MapKept.heap_alloc w _).1, Nat.le_refl _, by simp [maxLen], rfl, rfl⟩⟩
  have HN : Hid (∀ j u, (ss.map Value.string)[j]? = some u → (w.alloc (.cells #[] 69)).cell? ((⟨g, 0, none⟩ : Addr).add j) = some u) := hnews
  have HO0 : Hid ((w.alloc (.cells #[] 69)).ownsRow w.heap.size 69 2 (.slice (some ⟨w.heap.size, 0, none⟩) 0 0) 0 []) := hown0
  have HS : Hid (∀ s ∈ ss, s.size ≤ 1000) := hrow.small
  clear hnews hown0 hh hc hrow
  go_enter Tryd.func30, Tryd.ntmps30
  go_wp2_with (at_builtin; refine hold_here ?_)
  show wpList _ _ _ _ _ _
  refine wpList_append_own _ rfl (.tmp 7) (.tmp 8) 23 rfl w.heap.size 69 i0 (.agg #[.string ByteArray.empty, .string ByteArray.empty]) 2 32 Tryd.underlying23 hi hz0 hz1' hz2 rfl (by decide) (.slice (some ⟨w.heap.size, 0, none⟩) 0 0) 0 _ rfl (HO0.out) ⟨g, 0, none⟩ n cap (ss.map Value.string) rfl (by simp [hln]) HN.out (by intro u hu; simp at hu; obtain ⟨x, _, rfl⟩ := hu; rfl) (by unfold maxLen; omega) (by omega) (by simp) ?_
  intro v' w1 hown hgr _
  rw [Nat.zero_add, List.nil_append] at hown
  obtain ⟨a1, cap1, rfl⟩ := owns_slice hown
  have hb1 : Below w.heap.size w w1 := grown_b (v := .slice (some ⟨w.heap.size, 0, none⟩) 0 0) (Below.refl _ _) (Nat.le_refl _) hgr (fun k hk => by cases hk; exact Nat.le_refl _)
  have row1 : TeamRow w.heap.size w1 a1 n cap1 ss := ⟨hown, HS.out⟩
  clear hown hgr HN HO0 HS hbA
  go_wp2_with fail
  refine (pick_any (n : Int) r p w1 (by omega) (by omega) (by omega) (hr.mono hb1)).mono ?_
  rintro e w2 ⟨k, rfl, hk, hr2, -, D2⟩
  have hkn : k < n := by omega
  go_wp2_with fail
  refine (pick_any 6 r (p + 1) w2 (by omega) (by omega) (by omega) hr2).mono ?_
  rintro e w3 ⟨c, rfl, hc6, hr3, -, D3⟩
  have row3 := row1.dr (dr_trans D2 D3) hlt
  have D := dr_trans (dr_below hb1) (dr_trans D2 D3)
  clear row1 hb1 hr2 D2 D3 hr
  by_cases c0 : c = 0
  · subst c0
    go_wp2_with fail
    refine (ofLit [⟨#[]⟩, ⟨#[68]⟩, ⟨#[111, 112, 115]⟩, ⟨#[122, 122]⟩] r (p + 1 + 1) _ (by simp) (by simp) (by simp +decide) (by omega) hr3).mono ?_
    rintro e w4 ⟨t, rfl, ht, hr4, D4⟩
    have row4 := row3.dr D4 hlt
    have E := dr_trans D D4
    obtain ⟨g1, C1, rfl, hg1, hgs1, hh1, hc1⟩ := row4.block hn
    have HX : Hid (TeamRow w.heap.size w4 (some ⟨g1, 0, none⟩) n cap1 ss ∧ RdAt w4 r (p + 1 + 1 + 1) ∧ Dr r w w4) := ⟨row4, hr4, E⟩
    have q1 := hc1 (k * 2) (by omega)
    have f1 := frozen_of_block (o := k * 2) hh1
    clear row3 row4 D D4 E hr3 hr4 hc1 hh1
    go_wp2_with fail
    go_ret
    exact ⟨n, _, _, _, p + 1 + 1 + 1, rfl, by omega, HX.out.1.put (by omega) ht, by omega, rd_set HX.out.2.1 (by omega), dr_set HX.out.2.2 (by omega)⟩
  have n0 : ((c : Int) == 0) = false := by rw [beq_eq_false_iff_ne]; omega
  by_cases c1 : c = 1
  · subst c1
    obtain ⟨g1, C1, rfl, hg1, hgs1, hh1, hc1⟩ := row3.block hn
    have q1 := hc1 (k * 2) (by omega)
    have hsk := row3.small ss[k * 2] (List.getElem_mem (by omega))
    go_wp2_with fail
    refine (ofLit [⟨#[]⟩, ⟨#[110, 111, 110, 101]⟩, ss[k * 2], ⟨#[111, 112, 115]⟩, ⟨#[114, 51]⟩] r (p + 1 + 1) _ (by simp) (by simp) (by intro x hx; simp at hx; rcases hx with rfl | rfl | rfl | rfl | rfl <;> first | exact hsk | decide) (by omega) hr3).mono ?_
    rintro e w4 ⟨t, rfl, ht, hr4, D4⟩
    have row4 := row3.dr D4 hlt
    have E := dr_trans D D4
    obtain ⟨g2, C2, e2, hg2, hgs2, hh2, hc2⟩ := row4.block hn
    cases e2
    have HX : Hid (TeamRow w.heap.size w4 (some ⟨g1, 0, none⟩) n cap1 ss ∧ RdAt w4 r (p + 1 + 1 + 1) ∧ Dr r w w4) := ⟨row4, hr4, E⟩
    have q2 := hc2 (k * 2 + 1) (by omega)
    have f2 := frozen_of_block (o := k * 2 + 1) hh2
    clear row3 row4 D D4 E hr3 hr4 hc1 hh1 hc2 hh2 q1 hsk
    go_wp2_with fail
    go_ret
    exact ⟨n, _, _, _, p + 1 + 1 + 1, rfl, by omega, HX.out.1.put (by omega) ht, by omega, rd_set HX.out.2.1 (by omega), dr_set HX.out.2.2 (by omega)⟩
  have n1 : ((c : Int) == 1) = false := by rw [beq_eq_false_iff_ne]; omega
  have HX : Hid (TeamRow w.heap.size w3 a1 n cap1 ss ∧ RdAt w3 r (p + 1 + 1) ∧ Dr r w w3) := ⟨row3, hr3, D⟩
  by_cases c2 : c = 2
  · subst c2
    obtain ⟨g1, C1, rfl, hg1, hgs1, hh1, hc1⟩ := row3.block hn
    have q1 := hc1 (k * 2) (by omega)
    have q2 := hc1 (k * 2 + 1) (by omega)
    have hs1 := row3.small ss[k * 2] (List.getElem_mem (by omega))
    have hs2 := row3.small ss[k * 2 + 1] (List.getElem_mem (by omega))
    clear row3 D hr3 hc1 hh1
    go_wp2_with (at_builtin; refine hold_here ?_)
    show wpList _ _ _ _ _ _
    refine wpList_append_own _ rfl (.tmp 51) (.tmp 56) 23 rfl w.heap.size 69 i0 (.agg #[.string ByteArray.empty, .string ByteArray.empty]) 2 32 Tryd.underlying23 hi hz0 hz1' hz2 rfl (by decide) (.slice (some ⟨g1, 0, none⟩) n cap1) n _ rfl (HX.out.1.own.alloc _) ⟨w3.heap.size, 0, none⟩ 1 1 [.string ss[k * 2], .string ss[k * 2 + 1]] rfl rfl (two_news _ _ _ _) (by intro u hu; simp at hu; rcases hu with rfl | rfl <;> rfl) (by unfold maxLen; omega) (by omega) (by have := dr_le HX.out.2.2; simp; omega) ?_
    intro v' w4 hown hgr _
    obtain ⟨a4, cap4, rfl⟩ := owns_slice hown
    have hb4 := grown_b (Below.refl w.heap.size w3) (dr_le HX.out.2.2) hgr (fun g' hg' => (HX.out.1.own.lt g' hg').1)
    have HY : Hid (TeamRow w.heap.size w4 a4 (n + 1) cap4 (ss ++ [ss[k * 2], ss[k * 2 + 1]]) ∧ RdAt w4 r (p + 1 + 1) ∧ Dr r w w4) := ⟨HX.out.1.more hown hs1 hs2, HX.out.2.1.keep (hb4.mono hlt), Below.trans HX.out.2.2 (below_clr hb4)⟩
    clear hown hgr hb4 hs1 hs2 q1 q2
    go_wp2_with fail
    go_ret
    exact ⟨n + 1, _, _, _, p + 1 + 1, rfl, by omega, HY.out.1, by omega, HY.out.2.1, HY.out.2.2⟩
  have n2 : ((c : Int) == 2) = false := by rw [beq_eq_false_iff_ne]; omega
  by_cases c3 : c = 3
  · subst c3
    clear row3 D hr3
    go_wp2_with fail
    go_loopw [5] (fun v wr => ∃ (m : Nat) (am : Option Addr) (cm : Nat) (sm : List ByteArray), n ≤ m ∧ m ≤ 13 ∧ v = .slice am m cm ∧ TeamRow w.heap.size wr am m cm sm ∧ RdAt wr r (p + 2 + (m - n)) ∧ Dr r w wr) (fun v _ => match v with | .slice _ m _ => 13 - m | _ => 0)
    case atStart => exact ⟨n, a1, cap1, ss, Nat.le_refl _, by omega, rfl, HX.out.1, by simpa using HX.out.2.1, HX.out.2.2⟩
    case round =>
      obtain ⟨m, am, cm, sm, hm1, hm2, rfl, rowm, hrm, Dm⟩ := hrel
      have HM : Hid (TeamRow w.heap.size wr am m cm sm ∧ Dr r w wr) := ⟨rowm, Dm⟩
      clear rowm Dm
      go_wp2_with fail
      refine (pick_any 2 r (p + 2 + (m - n)) wr (by omega) (by omega) (by omega) hrm).mono ?_
      rintro e w4 ⟨q, rfl, hq, hr4, -, D4⟩
      have HM4 : Hid (TeamRow w.heap.size w4 am m cm sm ∧ RdAt w4 r (p + 2 + (m - n) + 1) ∧ Dr r w w4) := ⟨HM.out.1.dr D4 hlt, hr4, dr_trans HM.out.2 D4⟩
      clear HM hrm hr4 D4 HX
      by_cases hlq : m < 12 + q
      · have hlqI : (m : Int) < 12 + (q : Int) := by omega
        go_wp2_with fail
        refine (l1Many_any ⟨#[122]⟩ m w4 (by decide) (by omega)).mono ?_
        rintro e w5 ⟨t, rfl, ht, rfl⟩
        have hts : ((⟨#[115]⟩ : ByteArray) ++ t).size ≤ 1000 := by rw [ByteArray.size_append]; have : (⟨#[115]⟩ : ByteArray).size = 1 := rfl; omega
        go_wp2_with (at_builtin; refine hold_here ?_)
        show wpList _ _ _ _ _ _
        refine wpList_append_own _ rfl (.tmp 66) (.tmp 72) 23 rfl w.heap.size 69 i0 (.agg #[.string ByteArray.empty, .string ByteArray.empty]) 2 32 Tryd.underlying23 hi hz0 hz1' hz2 rfl (by decide) (.slice am m cm) m _ rfl (HM4.out.1.own.alloc _) ⟨w5.heap.size, 0, none⟩ 1 1 [.string (⟨#[115]⟩ ++ t), .string ByteArray.empty] rfl rfl (two_news _ _ _ _) (by intro u hu; simp at hu; rcases hu with rfl | rfl <;> rfl) (by unfold maxLen; omega) (by omega) (by have := dr_le HM4.out.2.2; simp; omega) ?_
        intro v' w6 hown hgr _
        obtain ⟨a6, cap6, rfl⟩ := owns_slice hown
        have hb6 := grown_b (Below.refl w.heap.size w5) (dr_le HM4.out.2.2) hgr (fun g' hg' => (HM4.out.1.own.lt g' hg').1)
        have e9 : p + 2 + (m - n) + 1 = p + 2 + (m + 1 - n) := by omega
        have HY : Hid (TeamRow w.heap.size w6 a6 (m + 1) cap6 (sm ++ [⟨#[115]⟩ ++ t, ByteArray.empty]) ∧ RdAt w6 r (p + 2 + (m + 1 - n)) ∧ Dr r w w6) := ⟨HM4.out.1.more hown hts (by decide), e9 ▸ HM4.out.2.1.keep (hb6.mono hlt), Below.trans HM4.out.2.2 (below_clr hb6)⟩
        clear hown hgr hb6 HM4 e9
        go_wp2_with fail
        exact ⟨⟨m + 1, a6, cap6, _, by omega, by omega, rfl, HY.out.1, HY.out.2.1, HY.out.2.2⟩, by simp; omega⟩
      · have hlqI : ¬ (m : Int) < 12 + (q : Int) := by omega
        go_wp2_with fail
        go_ret
        exact ⟨m, _, _, _, p + 2 + (m - n) + 1, rfl, hm2, HM4.out.1, by omega, HM4.out.2.1, HM4.out.2.2⟩
  have n3 : ((c : Int) == 3) = false := by rw [beq_eq_false_iff_ne]; omega
  by_cases c4 : c = 4
  · subst c4
    clear row3 D hr3
    go_wp2_with (at_builtin; refine hold_here ?_)
    show wpList _ _ _ _ _ _
    refine wpList_append_own _ rfl (.tmp 76) (.tmp 78) 23 rfl w.heap.size 69 i0 (.agg #[.string ByteArray.empty, .string ByteArray.empty]) 2 32 Tryd.underlying23 hi hz0 hz1' hz2 rfl (by decide) (.slice a1 n cap1) n _ rfl (HX.out.1.own.alloc _) ⟨w3.heap.size, 0, none⟩ 1 1 [.string ⟨#[114, 52]⟩, .string ⟨#[114, 51]⟩] rfl rfl (two_news _ _ _ _) (by intro u hu; simp at hu; rcases hu with rfl | rfl <;> rfl) (by unfold maxLen; omega) (by omega) (by have := dr_le HX.out.2.2; simp; omega) ?_
    intro v' w4 hown hgr _
    obtain ⟨a4, cap4, rfl⟩ := owns_slice hown
    have hb4 := grown_b (Below.refl w.heap.size w3) (dr_le HX.out.2.2) hgr (fun g' hg' => (HX.out.1.own.lt g' hg').1)
    have HY : Hid (TeamRow w.heap.size w4 a4 (n + 1) cap4 (ss ++ [⟨#[114, 52]⟩, ⟨#[114, 51]⟩]) ∧ RdAt w4 r (p + 1 + 1) ∧ Dr r w w4) := ⟨HX.out.1.more hown (by decide) (by decide), HX.out.2.1.keep (hb4.mono hlt), Below.trans HX.out.2.2 (below_clr hb4)⟩
    clear hown hgr hb4
    go_wp2_with fail
    go_ret
    exact ⟨n + 1, _, _, _, p + 1 + 1, rfl, by omega, HY.out.1, by omega, HY.out.2.1, HY.out.2.2⟩
  have n4 : ((c : Int) == 4) = false := by rw [beq_eq_false_iff_ne]; omega
  · obtain ⟨g1, C1, rfl, hg1, hgs1, hh1, hc1⟩ := row3.block hn
    have q1 := hc1 ((n - 1) * 2) (by omega)
    have q2 := hc1 1 (by omega)
    have f2 := frozen_of_block (o := 1) hh1
    have hs1 := row3.small ss[(n - 1) * 2] (List.getElem_mem (by omega))
    have e1 : ((n : Int) - 1).toNat = n - 1 := by omega
    clear row3 D hr3 hc1 hh1
    go_wp2_with fail
    go_ret
    exact ⟨n, _, _, _, p + 1 + 1, rfl, by omega, HX.out.1.put (by omega) hs1, by omega, rd_set HX.out.2.1 (by omega), dr_set HX.out.2.2 (by omega)⟩

end Go.Proofs.YtackfmeepggedaaDoor
