import Derived.Test.YtfapkhgallmkdaaGreatM51
import Derived.Test.YtfapkhgallmkdaaGreatM49
import Derived.Test.YtfapkhgallmkdaaGreatM47
namespace Go.Proofs.YtfapkhgallmkdaaGreat
open Go.RowKit Go.Shelf
attribute [local go_sem] Oper.semAt_some
def zc0 (f : ByteArray -> ByteArray -> Option Int) (xs : List Lk) : Bool := xs.all fun x => (f x.to x.nm).isSome
set_option maxRecDepth 100000 in
set_option maxHeartbeats 4000000 in
theorem zku (l : Lw) (a b c : Option Addr) (ca cb cc : Nat) (r : Nat) (f : ByteArray -> ByteArray -> Option Int) (o : Ob) (va ha : Option Addr) (cap cap' : Nat) (w : World) (hL : qH w l a b c) (hM : yF w r f) (ho : jg w o va ha) (hc : o.vs.length = (Gate.shapeOf l.ss o.kd).fs.length) :
    Calls Tryz.prog 144 #[.agg (lC l a b c ca cb cc), .map (some r), .agg (oC o va ha cap cap')] w
      fun e w' => e = .returned (.bool (zc0 f (qA (Gate.shapeOf l.ss o.kd).fs o.vs (Gate.shapeOf l.ss o.kd).fs.length))) /\ Below w.heap.size w w' := by
  have HH := zkI hL hM ho hc
  clear hL hM ho hc
  refine (callsIn_wide (n := 6)).1 ?_
  refine callsIn_of_wp_marks Tryz.func144 rfl trivial ?_ rfl
  simp only [Tryz.ntmps144, List.size_toArray, List.length_cons, List.length_nil, Nat.reduceAdd, Nat.reduceSub, Array.replicate_succ, Array.replicate_zero, List.push_toArray, List.append_toArray, List.nil_append, List.cons_append]
  gi_wp2_with fail
  refine ⟨trivial, ?_⟩
  have hb4 : Below w.heap.size w ((((w.alloc (.cells (lC l a b c ca cb cc) 43)).alloc (.cells #[.map (some r)] 204)).alloc (.cells (oC o va ha cap cap') 121)).alloc (.cells #[.bool false] 4)) := (ji _ _ _ _).alloc (by simp; omega) _
  have hbR := Boxed.new (((w.alloc (.cells (lC l a b c ca cb cc) 43)).alloc (.cells #[.map (some r)] 204)).alloc (.cells (oC o va ha cap cap') 121)) 4 (.bool false)
  have hbP := ((Boxed.new (w.alloc (.cells (lC l a b c ca cb cc) 43)) 204 (.map (some r))).alloc (.cells (oC o va ha cap cap') 121)).alloc (.cells #[.bool false] 4)
  simp only [World.size_alloc] at hbR hbP
  obtain ⟨w4, hw4⟩ : ∃ w4, w4 = ((((w.alloc (.cells (lC l a b c ca cb cc) 43)).alloc (.cells #[.map (some r)] 204)).alloc (.cells (oC o va ha cap cap') 121)).alloc (.cells #[.bool false] 4)) := ⟨_, rfl⟩
  rw [<- hw4] at hb4 hbR hbP ⊢
  clear hw4
  refine (callsIn_wide.2 (zk4 l a b c ca cb cc o va ha cap cap' w4 (HH.out.1.mono hb4))).mono ?_
  rintro e W0 ⟨Bs, Bo, fa, fcap, rfl, hBs, hBo, hfl, hXs, hXo, hb1⟩
  have bR : Boxed W0 (w.heap.size + 1 + 1 + 1) 4 (.bool false) := (hb1.block _ hbR.lt).trans hbR
  have bP : Boxed W0 (w.heap.size + 1) 204 (.map (some r)) := (hb1.block _ hbP.lt).trans hbP
  have HB0 : Hid (Below w.heap.size w W0) := hb4.trans (hb1.mono hb4.size)
  have hN : w.heap.size <= W0.heap.size := HB0.out.size
  have HO0 : Hid (zC W0 va o.vs) := HH.out.2.2.1.vals.mono HB0.out
  clear hb1 hb4 hbR hbP
  gi_wp2_with fail
  refine wpIn_rangeFunc_ownH rfl (by omega) (gf := 211) (lb := #[.pointer (some ⟨Bs, 0, none⟩), .pointer (some ⟨Bo, 0, none⟩)]) rfl trivial (enters_of Tryz.func211 (by kernel_rfl) rfl)
    (zk6 5 (by omega) Bs Bo (Gate.shapeOf l.ss o.kd).kd (Gate.shapeOf l.ss o.kd).fs fa fcap o va ha cap cap' W0 hBs hBo hXs hXo hfl HO0.out HH.out.2.2.2) belowK_t (belowK_b (Nat.le_refl _)) (Below.refl _ _) (fun _ => rfl)
    (fun pre W => (∀ x ∈ pre, (f x.to x.nm).isSome = true) /\ Below W0.heap.size W0 W)
    (fun cd pre W => ((cd = .ret /\ ∃ x ∈ pre, (f x.to x.nm).isSome = false) /\ Boxed W (w.heap.size + 1 + 1 + 1) 4 (.bool false)) /\ Below w.heap.size w W)
    (OwnFrom.and (ownFrom_pure _ _) (ownFrom_below (Nat.le_refl _) (Nat.le_refl _)))
    (fun cd => OwnFrom.and (OwnFrom.and (ownFrom_pure _ _) (Own.from (boxed_own _ _ _) _)) (ownFrom_below (Nat.le_refl _) hN))
    ⟨by simp, Below.refl _ _⟩
    (fun x a' W => ∃ Bx, W.heap[Bx]? = some (.cells #[.int .i64 x.pl, .int .i64 x.rl, .string x.to, .string x.nm] 255) /\ a' = { tmps := #[.agg (lC l a b c ca cb cc), .map (some r), .agg (oC o va ha cap cap'), .pointer (some ⟨w.heap.size, 0, none⟩), .pointer (some ⟨w.heap.size + 1, 0, none⟩), .pointer (some ⟨w.heap.size + 1 + 1, 0, none⟩), .pointer (some ⟨w.heap.size + 1 + 1 + 1, 0, none⟩), .pointer (some ⟨Bx, 0, none⟩), undef, undef, .agg (lC l a b c ca cb cc), .agg (oC o va ha cap cap'), .func (.func 211) #[] #[.pointer (some ⟨Bs, 0, none⟩), .pointer (some ⟨Bo, 0, none⟩)], .agg #[.int .i64 x.pl, .int .i64 x.rl, .string x.to, .string x.nm], undef, undef, undef, undef, undef, undef, undef, undef, undef], defers := [] })
    (fun x a' _ X Y row hs hg hr => by
      obtain ⟨Bx, e1, e2⟩ := hs
      refine ⟨Bx, (hg.block Bx (Array.getElem?_eq_some_iff.1 e1).1 (fun e => ?_)).trans e1, e2⟩
      obtain ⟨_, ob, h1, h2⟩ := hr Bx e.symm
      rw [e1] at h1
      cases h1
      cases h2)
    ?assign ?body ?done ?stop
  case assign =>
    rintro l' pre x W K ⟨hp, hB1⟩ hK
    unfold Lk.enc
    gi_wp2
    exact hK _ _ ((KeepsOthers.alloc _ _).from _) ((Below.refl _ W).alloc hB1.size _) ⟨hp, hB1.alloc hB1.size _⟩ ⟨W.heap.size, World.alloc_heap_new W _, rfl⟩
  case body =>
    rintro l' pre x a' W hl ⟨rr, hr⟩ ⟨hp, hB1⟩ ⟨Bx, hBx, rfl⟩ hlt
    have cX := zfv hBx
    have bP1 : Boxed W (w.heap.size + 1) 204 (.map (some r)) := (hB1.block _ bP.lt).trans bP
    have cP := bP1.cell
    have bR1 : Boxed W (w.heap.size + 1 + 1 + 1) 4 (.bool false) := (hB1.block _ bR.lt).trans bR
    have cR := bR1.cell
    have fR := bR1.frozen
    have hlk := (HH.out.2.1.mono (HB0.out.trans (hB1.mono HB0.out.size))).look zhR Tryz.underlying204 x.to x.nm x.hto x.hnm true
    unfold qB at hlk
    simp only [if_true] at hlk
    have HB2 : Hid (Below W0.heap.size W0 W) := hB1
    have HP : Hid (∀ x ∈ pre, (f x.to x.nm).isSome = true) := hp
    have HR1 : Hid (Boxed W (w.heap.size + 1 + 1 + 1) 4 (.bool false)) := bR1
    clear hp hB1 bR1
    cases hq : (f x.to x.nm).isSome with
    | false =>
      rw [hq] at hlk
      gi_wp2
      exact ⟨(KeepsOthers.setCell _ _ _).from _, ⟨⟨rfl, x, List.mem_append.2 (.inr (by simp)), hq⟩, HR1.out.set _⟩, (HB0.out.trans (HB2.out.mono hN)).setCell (p := ⟨(w.heap.size + 1 + 1 + 1), 0, none⟩) (by show w.heap.size <= (w.heap.size + 1 + 1 + 1); omega) _⟩
    | true =>
      rw [hq] at hlk
      gi_wp2
      exact ⟨KeepsFrom.refl _ _, Below.refl _ _, fun z hz => (List.mem_append.1 hz).elim (HP.out z) (fun e => by simp at e; subst e; exact hq), HB2.out⟩
  case done =>
    rintro D ys W hD rfl ⟨hp, hB1⟩ hK
    have bR1 : Boxed W (w.heap.size + 1 + 1 + 1) 4 (.bool false) := (hB1.block _ bR.lt).trans bR
    have cR := bR1.cell
    have fR := bR1.frozen
    gi_wp2
    have hK' := (KeepsOthers.setCell W ⟨(w.heap.size + 1 + 1 + 1), 0, none⟩ (.bool true)).same D _ hK rfl
    refine ⟨by simp, .inl ⟨_, _, rfl, run_takeDeferred hK', ?_⟩⟩
    have hc5 := cell_kept (World.cell?_setCell_same' W ⟨(w.heap.size + 1 + 1 + 1), 0, none⟩ (.bool true) (by rw [cR]; rfl)) (grownBy_putObj' _ D (.deferred none)) (fun r e => by cases e; exact ⟨_, hK', rfl⟩)
    have hall : zc0 f (qA (Gate.shapeOf l.ss o.kd).fs o.vs (Gate.shapeOf l.ss o.kd).fs.length) = true := List.all_eq_true.2 hp
    refine ⟨.bool true, ?_, by rw [hall], ((HB0.out.trans (hB1.mono hN)).setCell (p := ⟨(w.heap.size + 1 + 1 + 1), 0, none⟩) (by show w.heap.size <= (w.heap.size + 1 + 1 + 1); omega) _).trans (belowK_b (w := w) (Nat.le_refl _) _ D _ _ (by omega) hK' rfl rfl)⟩
    simp [results, Tryz.results144, go_sem, hc5]
  case stop =>
    rintro D cd pre W hD hpre ⟨⟨⟨rfl, x, hx, hq⟩, bR1⟩, hB⟩ hK
    gi_wp2
    refine ⟨by simp, .inl ⟨_, _, rfl, run_takeDeferred hK, ?_⟩⟩
    have hc5 := cell_kept bR1.cell (grownBy_putObj' _ D (.deferred none)) (fun r e => by cases e; exact ⟨_, hK, rfl⟩)
    have hno : zc0 f (qA (Gate.shapeOf l.ss o.kd).fs o.vs (Gate.shapeOf l.ss o.kd).fs.length) = false := by
      unfold zc0
      rw [List.all_eq_false]
      exact ⟨x, hpre.subset hx, by rw [hq]; simp⟩
    refine ⟨.bool false, ?_, by rw [hno], hB.trans (belowK_b (w := w) (Nat.le_refl _) W D _ _ (by omega) hK rfl rfl)⟩
    simp [results, Tryz.results144, go_sem, hc5]
end Go.Proofs.YtfapkhgallmkdaaGreat

namespace Go.Proofs.YtfapkhgallmkdaaGreat
open Go.RowKit
namespace Gate
noncomputable def zah (l : Lw) (os : List Ob) (o : Ob) : Bool := (qA (shapeOf l.ss o.kd).fs o.vs (shapeOf l.ss o.kd).fs.length).all fun x => os.any (zbG x.to x.nm)
noncomputable def yM (l : Lw) (b : Bk) (o : Ob) : Bool := within o.vr 1 b.now && (yj l.ts o.tm && (za1 l o && zah l b.os o))
noncomputable def zW (l : Lw) (b : Bk) : Bool := decide (b.os.length <= 40) && (za7 zby b.os && b.os.all (yM l b))
end Gate
theorem zhi {l : Lw} {os : List Ob} {o : Ob} {f : ByteArray -> ByteArray -> Option Int} (h : ∀ p q, (f p q).isSome = os.any (Gate.zbG p q)) : zc0 f (qA (Gate.shapeOf l.ss o.kd).fs o.vs (Gate.shapeOf l.ss o.kd).fs.length) = Gate.zah l os o := by
  unfold zc0 Gate.zah
  congr 1
  funext x
  exact h _ _
set_option maxRecDepth 20000 in
set_option maxHeartbeats 4000000 in
theorem zhS (l : Lw) (la lb lc : Option Addr) (lca lcb lcc : Nat) (b : Bk) (a0 a1 a2 a3 : Option Addr) (c0 c1 c2 c3 : Nat) (w : World) (hb : qL w b a0 a1 a2 a3) (hl : qH w l la lb lc) (hml : l.ms.length <= 1048576) (hok : Gate.yg l.ss l.ms = true) (hfw : ∀ i (h : i < b.os.length), b.os[i].vs.length <= 1048576 /\ b.os[i].hs.length <= 1048576) :
    Calls Tryz.prog 101 #[.agg (lC l la lb lc lca lcb lcc), .agg (bC b a0 a1 a2 a3 c0 c1 c2 c3)] w fun e w' => e = .returned (.bool (Gate.zW l b)) /\ Below w.heap.size w w' := by
  have HK := hid hb
  have HL := hid hl
  have HW := j4 hok hfw
  clear hb hl hok hfw
  by_cases hln : b.os.length <= 40
  rotate_left
  · have HF : Hid (Gate.zW l b = false) := by unfold Hid Gate.zW; rw [decide_eq_false hln]; rfl
    have hg : (40 : Int) < (b.os.length : Int) := by omega
    go_enter Tryz.func101, Tryz.ntmps101
    go_wp2_with fail
    go_ret
    exact ⟨ze HF.out.symm, zu _ _ _⟩
  have hg : decide ((40 : Int) < (b.os.length : Int)) = false := by simp; omega
  have HLN : Hid (b.os.length <= 40) := hln
  clear hln
  go_enter Tryz.func101, Tryz.ntmps101
  go_wp2_with fail
  obtain ⟨hL0, hX0⟩ := qM w (lC l la lb lc lca lcb lcc) (bC b a0 a1 a2 a3 c0 c1 c2 c3) 43 50
  have HB0 : Hid (Below w.heap.size w ((w.alloc (.cells (lC l la lb lc lca lcb lcc) 43)).alloc (.cells (bC b a0 a1 a2 a3 c0 c1 c2 c3) 50))) := zu w _ _
  obtain ⟨W0, hW0⟩ : ∃ W0, W0 = (w.alloc (.cells (lC l la lb lc lca lcb lcc) 43)).alloc (.cells (bC b a0 a1 a2 a3 c0 c1 c2 c3) 50) := ⟨_, rfl⟩
  have hz0 : w.heap.size + 1 < W0.heap.size := by rw [hW0]; simp
  rw [<- hW0] at HB0 hX0 hL0 ⊢
  clear hW0
  refine (zgG _ _ b.os _ (HK.out.os.mono HB0.out)).mono ?_
  rintro e w1 ⟨rfl, hb1⟩
  have HB1 := hid (HB0.out.trans (hb1.mono HB0.out.size))
  have hX1 := za hX0 hz0 hb1
  have hL1 := za hL0 (Nat.lt_of_succ_lt hz0) hb1
  have hz1 := Nat.lt_of_lt_of_le hz0 hb1.size
  clear hb1 hX0 hL0 hz0 HB0
  by_cases has : Gate.za7 Gate.zby b.os = true
  rotate_left
  · have has' : Gate.za7 Gate.zby b.os = false := by simpa using has
    have HF : Hid (Gate.zW l b = false) := by unfold Hid Gate.zW; rw [has']; simp
    rw [has']
    clear has has'
    go_wp2_with fail
    go_ret
    exact ⟨ze HF.out.symm, HB1.out⟩
  have HG : Hid (Gate.zW l b = b.os.all (Gate.yM l b)) := by unfold Hid Gate.zW; rw [has, decide_eq_true HLN.out]; rfl
  rw [has]
  clear has
  go_wp2_with fail
  refine (zfo _ _ b.os _ (HK.out.os.mono HB1.out) (by have := HLN.out; omega)).mono ?_
  rintro e w1' ⟨⟨f, rfl, hpm, hpf⟩, hb1⟩
  have HB1' := hid (HB1.out.trans (hb1.mono HB1.out.size))
  have hX1' := za hX1 hz1 hb1
  have hL1' := za hL1 (Nat.lt_of_succ_lt hz1) hb1
  have hz1' := Nat.lt_of_lt_of_le hz1 hb1.size
  have HPM := j4 hpm hpf
  clear hb1 hX1 hL1 hz1 HB1 hpm hpf
  go_wp2_with fail
  go_loopw [24] (fun iv wr => ∃ k : Nat, k <= b.os.length /\ iv = .int .i64 k /\ Hid ((b.os.take k).all (Gate.yM l b) = true /\ Below w1'.heap.size w1' wr)) (fun iv _ => b.os.length - (intOf iv).toNat)
  case atStart => exact ⟨0, Nat.zero_le _, rfl, by simp, Below.refl _ _⟩
  case round =>
    obtain ⟨k, hk, rfl, HQ⟩ := hrel
    have hkn : k <= 40 := by have := HLN.out; omega
    by_cases hlt : k < b.os.length
    · have HBw : Hid (∀ W, Below w1'.heap.size w1' W -> Below w.heap.size w W) := fun W hW => HB1'.out.trans (hW.mono HB1'.out.size)
      obtain ⟨ob, off, v0, v1, q0, q1, rfl, hob, hsm, hl0, hl1, d0, d1, d2, d3, d4, d5, d6⟩ := HK.out.os.load (HBw.out _ HQ.out.2) k hlt
      have hltI : (k : Int) < (b.os.length : Int) := by omega
      have hob' := Nat.lt_of_lt_of_le hob (HBw.out _ HQ.out.2).size
      have hX := za hX1' hz1' HQ.out.2
      have hL := za hL1' (Nat.lt_of_succ_lt hz1') HQ.out.2
      have hz := Nat.lt_of_lt_of_le hz1' HQ.out.2.size
      have HOB : Hid (jg wr b.os[k] v0 v1) := ⟨hsm, hl0, hl1⟩
      have HSn : Hid ((b.os.take (k + 1)).all (Gate.yM l b) = ((b.os.take k).all (Gate.yM l b) && (Gate.yM l b) b.os[k])) := Gate.y7 _ _ _ hlt
      have HBo : Hid (∀ ob, Below w1'.heap.size w1' (wr.alloc ob)) := fun ob => HQ.out.2.alloc HQ.out.2.size _
      have HNo : Hid ((Gate.yM l b) b.os[k] = false -> Gate.zW l b = false) := fun h => by rw [HG.out]; exact Gate.jT _ _ _ hlt h
      have HYes : Hid ((Gate.yM l b) b.os[k] = true -> (b.os.take (k + 1)).all (Gate.yM l b) = true) := fun h => by rw [HSn.out, HQ.out.1, h]; rfl
      have HF2 : Hid (b.os[k].vs.length <= 1048576 /\ b.os[k].hs.length <= 1048576) := HW.out.2 k hlt
      clear HQ hsm hl0 hl1
      go_wp2_with fail
      have hbN : Below wr.heap.size wr (wr.alloc (.cells (oC b.os[k] v0 v1 q0 q1) 121)) := (Below.refl _ _).alloc (Nat.le_refl _) _
      have hN := zG wr (oC b.os[k] v0 v1 q0 q1) 121
      obtain ⟨w2, hw2⟩ : ∃ w2, w2 = wr.alloc (.cells (oC b.os[k] v0 v1 q0 q1) 121) := ⟨_, rfl⟩
      have hn2 : wr.heap.size < w2.heap.size := by rw [hw2]; simp
      rw [<- hw2] at hbN hN ⊢
      have HB2 : Hid (Below w1'.heap.size w1' w2) := by unfold Hid; rw [hw2]; exact HBo.out _
      have HO2 := hid (HOB.out.mono hbN)
      have hX2 := za hX hz hbN
      have hL2 := za hL (Nat.lt_of_succ_lt hz) hbN
      have hz2 := Nat.lt_of_lt_of_le hz hbN.size
      have hy2 := Nat.lt_of_succ_lt hz2
      clear hw2 d0 d1 d2 d3 d4 d5 d6 hX hL hbN
      refine (qG _ _ _ _).mono ?_
      rintro e w3 ⟨rfl, rfl⟩
      by_cases t1 : Gate.within b.os[k].vr 1 b.now = true
      rotate_left
      · have HF : Hid (Gate.zW l b = false) := HNo.out (by unfold Gate.yM; rw [Bool.eq_false_iff.2 t1]; rfl)
        rw [Bool.eq_false_iff.2 t1]
        clear t1
        go_wp2_with fail
        go_ret
        exact ⟨ze HF.out.symm, HBw.out _ HB2.out⟩
      rw [t1]
      have HT1 := hid t1
      clear t1
      go_wp2_with fail
      refine (zbV _ _ l.ts b.os[k].tm _ (HL.out.ts.mono (HBw.out _ HB2.out))).mono ?_
      rintro e w4 ⟨rfl, hb4⟩
      have HB4 := hid (HB2.out.trans (hb4.mono HB2.out.size))
      have hN4 := za hN hn2 hb4
      have hX4 := za hX2 hz2 hb4
      have hL4 := za hL2 hy2 hb4
      have hn4 := Nat.lt_of_lt_of_le hn2 hb4.size
      have hz4 := Nat.lt_of_lt_of_le hz2 hb4.size
      have hy4 := Nat.lt_of_lt_of_le hy2 hb4.size
      have HO4 := hid (HO2.out.mono hb4)
      clear hb4 hN hX2 hL2 hn2 hz2 hy2
      by_cases t2 : Gate.yj l.ts b.os[k].tm = true
      rotate_left
      · have HF : Hid (Gate.zW l b = false) := HNo.out (by unfold Gate.yM; rw [HT1.out, Bool.eq_false_iff.2 t2]; rfl)
        rw [Bool.eq_false_iff.2 t2]
        clear t2
        go_wp2_with fail
        go_ret
        exact ⟨ze HF.out.symm, HBw.out _ HB4.out⟩
      rw [t2]
      have HT2 : Hid (Gate.yj l.ts b.os[k].tm = true) := t2
      clear t2
      go_wp2_with fail
      refine (zkt l la lb lc lca lcb lcc b.os[k] v0 v1 q0 q1 _ (HL.out.mono (HBw.out _ HB4.out)) hml HO4.out HF2.out.1 HF2.out.2 HW.out.1).mono ?_
      rintro e w5 ⟨rfl, hb5⟩
      have HB5 : Hid (Below w1'.heap.size w1' w5) := HB4.out.trans (hb5.mono HB4.out.size)
      have hN5 := za hN4 hn4 hb5
      have hL5 := za hL4 hy4 hb5
      have hn5 := Nat.lt_of_lt_of_le hn4 hb5.size
      have hy5 := Nat.lt_of_lt_of_le hy4 hb5.size
      have HO5 : Hid (jg w5 b.os[k] v0 v1) := HO4.out.mono hb5
      clear hb5 hN4 hX4 hL4 hn4 hz4 hy4
      by_cases t3 : Gate.za1 l b.os[k] = true
      rotate_left
      · have HF : Hid (Gate.zW l b = false) := HNo.out (by unfold Gate.yM; rw [HT1.out, HT2.out, Bool.eq_false_iff.2 t3]; rfl)
        rw [Bool.eq_false_iff.2 t3]
        clear t3
        go_wp2_with fail
        go_ret
        exact ⟨ze HF.out.symm, HBw.out _ HB5.out⟩
      have HT3 : Hid (Gate.za1 l b.os[k] = true) := t3
      have HC : Hid (b.os[k].vs.length = (Gate.shapeOf l.ss b.os[k].kd).fs.length) := by
        have h := t3
        unfold Gate.za1 at h
        simp only [Bool.and_eq_true, decide_eq_true_eq] at h
        exact (Gate.zbS (Gate.za3 HW.out.1 h.1)).1
      rw [t3]
      clear t3
      go_wp2_with fail
      refine (zku l la lb lc lca lcb lcc w1.heap.size f b.os[k] v0 v1 q0 q1 _ (HL.out.mono (HBw.out _ HB5.out)) (HPM.out.1.mono HB5.out) HO5.out HC.out).mono ?_
      rintro e w6 ⟨rfl, hb6⟩
      have HB6 : Hid (Below w1'.heap.size w1' w6) := HB5.out.trans (hb6.mono HB5.out.size)
      have HLE : Hid (zc0 f (qA (Gate.shapeOf l.ss b.os[k].kd).fs b.os[k].vs (Gate.shapeOf l.ss b.os[k].kd).fs.length) = Gate.zah l b.os b.os[k]) := zhi HPM.out.2
      rw [HLE.out]
      clear hb6
      by_cases t4 : Gate.zah l b.os b.os[k] = true
      · have HY : Hid ((b.os.take (k + 1)).all (Gate.yM l b) = true) := HYes.out (by unfold Gate.yM; rw [HT1.out, HT2.out, HT3.out, t4]; rfl)
        rw [t4]
        clear t4
        go_wp2_with fail
        exact ⟨⟨k + 1, by omega, by go_num, HY.out, HB6.out⟩, zm hlt⟩
      · have HF : Hid (Gate.zW l b = false) := HNo.out (by unfold Gate.yM; rw [HT1.out, HT2.out, HT3.out, Bool.eq_false_iff.2 t4]; rfl)
        rw [Bool.eq_false_iff.2 t4]
        clear t4
        go_wp2_with fail
        go_ret
        exact ⟨ze HF.out.symm, HBw.out _ HB6.out⟩
    · have e : k = b.os.length := by omega
      subst e
      have HE : Hid (Gate.zW l b = true) := by
        unfold Hid
        rw [HG.out]
        have h := HQ.out.1
        rw [List.take_of_length_le (Nat.le_refl _)] at h
        exact h
      have HBe := hid (HB1'.out.trans (HQ.out.2.mono HB1'.out.size))
      clear hlt hk HQ
      go_wp2_with fail
      go_ret
      exact ⟨ze HE.out.symm, HBe.out⟩
end Go.Proofs.YtfapkhgallmkdaaGreat

namespace Go.Proofs.YtfapkhgallmkdaaGreat
open Go.RowKit
namespace Gate
noncomputable def zan (l : Lw) (b : Bk) : Bool := zab b && (zW l b && (yt b && (yE l.ts b && (yI b && zbP l b))))
noncomputable def qY (l : Lw) (b : Bk) : Bool := zbA l && zan l b
end Gate
theorem zcr {ts : List Tm} {b : Bk} (h : Gate.yE ts b = true) : Gate.rising Gate.yS b.ls /\ b.ls.length <= 10 /\ ∀ i (hi : i < b.ls.length), Gate.yB ts b.ls[i] = true := by
  unfold Gate.yE at h
  simp only [Bool.and_eq_true, decide_eq_true_eq] at h
  exact ⟨(Gate.zkF _ _).1 h.2.1, h.1, fun i hi => List.all_eq_true.1 h.2.2 _ (List.getElem_mem _)⟩
theorem zj8 {b : Bk} (h : Gate.zab b = true) : 0 <= b.tick /\ b.tick <= 1000000 := by
  unfold Gate.zab Gate.within at h
  simp only [Bool.and_eq_true, decide_eq_true_eq] at h
  exact h.2.1
theorem zkq {b : Bk} (h : Gate.yI b = true) : b.ps.length <= 24 /\ ∀ i (hi : i < b.ps.length), Gate.yK b.ls b.tick b.ps[i] = true := by
  unfold Gate.yI at h
  simp only [Bool.and_eq_true, decide_eq_true_eq] at h
  exact ⟨h.1, fun i hi => List.all_eq_true.1 h.2.2 _ (List.getElem_mem _)⟩
theorem zmx {b : Bk} (h : Gate.rising Gate.yS b.ls) : ∀ i j (hi : i < b.ls.length) (hj : j < b.ls.length), b.ls[i].tm = b.ls[j].tm -> b.ls[i].rs = b.ls[j].rs -> i = j := by
  intro i j hi hj e1 e2
  have hz : ∀ i j (hi : i < b.ls.length) (hj : j < b.ls.length), i < j -> b.ls[i].tm = b.ls[j].tm -> b.ls[i].rs = b.ls[j].rs -> False := by
    intro i j hi hj hlt e1 e2
    have h1 := Gate.zcC (fun a b c => Gate.zaK (a := a) (b := b) (c := c)) h j hj i hlt
    have h2 : Gate.yS b.ls[i] b.ls[j] = 0 := by unfold Gate.yS; rw [Gate.zfN]; exact ⟨e1, e2⟩
    omega
  rcases Nat.lt_trichotomy i j with h1 | h1 | h1
  · exact (hz i j hi hj h1 e1 e2).elim
  · exact h1
  · exact (hz j i hj hi h1 e1.symm e2.symm).elim
theorem zn5 {ts : List Tm} {b : Bk} (h : Gate.yE ts b = true) (h' : Gate.yI b = true) (hz : yV b.os <= 1048576) : zha b := by
  obtain ⟨h1, h2, h3⟩ := zcr h
  obtain ⟨p1, p2⟩ := zkq h'
  refine ⟨zmx h1, fun k hk => ?_, fun i hi => ?_, fun i hi => ?_, by omega, by omega, hz⟩
  · have h4 := p2 k hk
    unfold Gate.yK Gate.jE at h4
    simp only [Bool.and_eq_true] at h4
    obtain ⟨g, hg, h5⟩ := List.any_eq_true.1 h4.1
    obtain ⟨j, hj, rfl⟩ := List.mem_iff_getElem.1 hg
    simp only [Bool.and_eq_true, decide_eq_true_eq] at h5
    exact ⟨j, hj, h5.1, h5.2⟩
  · have h4 := h3 i hi
    unfold Gate.yB Gate.jk at h4
    simp only [Bool.and_eq_true, decide_eq_true_eq] at h4
    omega
  · have h4 := p2 i hi
    unfold Gate.yK Gate.within at h4
    simp only [Bool.and_eq_true, decide_eq_true_eq] at h4
    omega
set_option maxRecDepth 20000 in
set_option maxHeartbeats 4000000 in
theorem zl2 (l : Lw) (la lb lc : Option Addr) (lca lcb lcc : Nat) (b : Bk) (a0 a1 a2 a3 : Option Addr) (c0 c1 c2 c3 : Nat) (w : World) (hb : qL w b a0 a1 a2 a3) (hl : qH w l la lb lc) (hml : l.ms.length <= 1048576) (hok : Gate.yg l.ss l.ms = true) (hfw : ∀ i (h : i < b.os.length), b.os[i].vs.length <= 1048576 /\ b.os[i].hs.length <= 1048576) (hz : yV b.os <= 1048576) :
    Calls Tryz.prog 61 #[.agg (lC l la lb lc lca lcb lcc), .agg (bC b a0 a1 a2 a3 c0 c1 c2 c3)] w fun e w' => e = .returned (.bool (Gate.zan l b)) /\ Below w.heap.size w w' := by
  have HK := hid hb
  have HL := hid hl
  have HF : Hid (l.ms.length <= 1048576 /\ Gate.yg l.ss l.ms = true /\ (∀ i (h : i < b.os.length), b.os[i].vs.length <= 1048576 /\ b.os[i].hs.length <= 1048576) /\ yV b.os <= 1048576) := ⟨hml, hok, hfw, hz⟩
  clear hb hl hml hok hfw hz
  go_enter Tryz.func61, Tryz.ntmps61
  go_wp2_with fail
  obtain ⟨hL0, hX0⟩ := qM w (lC l la lb lc lca lcb lcc) (bC b a0 a1 a2 a3 c0 c1 c2 c3) 43 50
  have HBi : Hid (Below w.heap.size w ((w.alloc (.cells (lC l la lb lc lca lcb lcc) 43)).alloc (.cells (bC b a0 a1 a2 a3 c0 c1 c2 c3) 50))) := zu w _ _
  obtain ⟨W0, hW0⟩ : ∃ W0, W0 = (w.alloc (.cells (lC l la lb lc lca lcb lcc) 43)).alloc (.cells (bC b a0 a1 a2 a3 c0 c1 c2 c3) 50) := ⟨_, rfl⟩
  have hz0 : w.heap.size + 1 < W0.heap.size := by rw [hW0]; simp
  rw [<- hW0] at HBi hX0 hL0 ⊢
  clear hW0
  refine (ziu b a0 a1 a2 a3 c0 c1 c2 c3 _).mono ?_
  rintro e w1 ⟨rfl, hb0⟩
  have hX1 := za hX0 hz0 hb0
  have hL1 := za hL0 (Nat.lt_of_succ_lt hz0) hb0
  have hz1 := Nat.lt_of_lt_of_le hz0 hb0.size
  have hy1 := Nat.lt_of_succ_lt hz1
  have HBi := hid (HBi.out.trans (hb0.mono HBi.out.size))
  clear hb0 hX0 hL0 hz0
  by_cases t : Gate.zab b = true
  rotate_left
  · have HN : Hid (Gate.zan l b = false) := by unfold Hid Gate.zan; rw [Bool.eq_false_iff.2 t]; rfl
    rw [Bool.eq_false_iff.2 t]
    clear t
    go_wp2_with fail
    go_ret
    exact ⟨ze HN.out.symm, HBi.out⟩
  have HT0 := hid t
  rw [t]
  clear t
  go_wp2_with fail
  refine (zhS l la lb lc lca lcb lcc b a0 a1 a2 a3 c0 c1 c2 c3 _ (HK.out.mono HBi.out) (HL.out.mono HBi.out) HF.out.1 HF.out.2.1 HF.out.2.2.1).mono ?_
  rintro e w2 ⟨rfl, hb1⟩
  have hX2 := za hX1 hz1 hb1
  have hL2 := za hL1 (Nat.lt_of_succ_lt hz1) hb1
  have hz2 := Nat.lt_of_lt_of_le hz1 hb1.size
  have hy2 := Nat.lt_of_succ_lt hz2
  have HBi := hid (HBi.out.trans (hb1.mono HBi.out.size))
  clear hb1 hX1 hL1 hz1 hy1
  by_cases t : Gate.zW l b = true
  rotate_left
  · have HN : Hid (Gate.zan l b = false) := by unfold Hid Gate.zan; rw [HT0.out, Bool.eq_false_iff.2 t]; rfl
    rw [Bool.eq_false_iff.2 t]
    clear t
    go_wp2_with fail
    go_ret
    exact ⟨ze HN.out.symm, HBi.out⟩
  have HT1 := hid t
  rw [t]
  clear t
  go_wp2_with fail
  refine (ziY b a0 a1 a2 a3 c0 c1 c2 c3 _ (HK.out.mono HBi.out)).mono ?_
  rintro e w3 ⟨rfl, hb2⟩
  have hX3 := za hX2 hz2 hb2
  have hL3 := za hL2 (Nat.lt_of_succ_lt hz2) hb2
  have hz3 := Nat.lt_of_lt_of_le hz2 hb2.size
  have hy3 := Nat.lt_of_succ_lt hz3
  have HBi := hid (HBi.out.trans (hb2.mono HBi.out.size))
  clear hb2 hX2 hL2 hz2 hy2
  by_cases t : Gate.yt b = true
  rotate_left
  · have HN : Hid (Gate.zan l b = false) := by unfold Hid Gate.zan; rw [HT0.out, HT1.out, Bool.eq_false_iff.2 t]; rfl
    rw [Bool.eq_false_iff.2 t]
    clear t
    go_wp2_with fail
    go_ret
    exact ⟨ze HN.out.symm, HBi.out⟩
  have HT2 := hid t
  rw [t]
  clear t
  go_wp2_with fail
  refine (zhX l la lb lc lca lcb lcc b a0 a1 a2 a3 c0 c1 c2 c3 _ (HK.out.mono HBi.out) (HL.out.mono HBi.out)).mono ?_
  rintro e w4 ⟨rfl, hb3⟩
  have hX4 := za hX3 hz3 hb3
  have hL4 := za hL3 (Nat.lt_of_succ_lt hz3) hb3
  have hz4 := Nat.lt_of_lt_of_le hz3 hb3.size
  have hy4 := Nat.lt_of_succ_lt hz4
  have HBi := hid (HBi.out.trans (hb3.mono HBi.out.size))
  clear hb3 hX3 hL3 hz3 hy3
  by_cases t : Gate.yE l.ts b = true
  rotate_left
  · have HN : Hid (Gate.zan l b = false) := by unfold Hid Gate.zan; rw [HT0.out, HT1.out, HT2.out, Bool.eq_false_iff.2 t]; rfl
    rw [Bool.eq_false_iff.2 t]
    clear t
    go_wp2_with fail
    go_ret
    exact ⟨ze HN.out.symm, HBi.out⟩
  have HT3 := hid t
  rw [t]
  clear t
  go_wp2_with fail
  refine (ziB b a0 a1 a2 a3 c0 c1 c2 c3 _ (HK.out.mono HBi.out) (zcr HT3.out).1 (zcr HT3.out).2.1 (zj8 HT0.out)).mono ?_
  rintro e w5 ⟨rfl, hb4⟩
  have hX5 := za hX4 hz4 hb4
  have hL5 := za hL4 (Nat.lt_of_succ_lt hz4) hb4
  have hz5 := Nat.lt_of_lt_of_le hz4 hb4.size
  have hy5 := Nat.lt_of_succ_lt hz5
  have HBi := hid (HBi.out.trans (hb4.mono HBi.out.size))
  clear hb4 hX4 hL4 hz4 hy4
  by_cases t : Gate.yI b = true
  rotate_left
  · have HN : Hid (Gate.zan l b = false) := by unfold Hid Gate.zan; rw [HT0.out, HT1.out, HT2.out, HT3.out, Bool.eq_false_iff.2 t]; rfl
    rw [Bool.eq_false_iff.2 t]
    clear t
    go_wp2_with fail
    go_ret
    exact ⟨ze HN.out.symm, HBi.out⟩
  have HT4 := hid t
  rw [t]
  clear t
  go_wp2_with fail
  refine (zlG l la lb lc lca lcb lcc b a0 a1 a2 a3 c0 c1 c2 c3 _ (HL.out.mono HBi.out) (HK.out.mono HBi.out) (zn5 HT3.out HT4.out HF.out.2.2.2)).mono ?_
  rintro e w6 ⟨rfl, hb5⟩
  have HBe := hid (HBi.out.trans (hb5.mono HBi.out.size))
  have HN : Hid (Gate.zbP l b = Gate.zan l b) := by unfold Hid Gate.zan; rw [HT0.out, HT1.out, HT2.out, HT3.out, HT4.out]; rfl
  rw [HN.out]
  clear hb5 hX5 hL5 hz5 hy5
  go_wp2_with fail
  go_ret
  exact ⟨rfl, HBe.out⟩
set_option maxRecDepth 20000 in
set_option maxHeartbeats 4000000 in
theorem zdF (l : Lw) (la lb lc : Option Addr) (lca lcb lcc : Nat) (b : Bk) (a0 a1 a2 a3 : Option Addr) (c0 c1 c2 c3 : Nat) (w : World) (hl : qH w l la lb lc) (hb : qL w b a0 a1 a2 a3) (hlf : l.Few) (hbf : b.Few) (hz : yV b.os <= 1048576) :
    Calls Tryz.prog 30 #[.agg (l.cells la lb lc lca lcb lcc), .agg (b.cells a0 a1 a2 a3 c0 c1 c2 c3)] w fun e w' => e = .returned (.bool (Gate.qY l b)) /\ Below w.heap.size w w' := by
  have HK := hid hb
  have HL := hid hl
  have HF : Hid (l.Few /\ b.Few /\ yV b.os <= 1048576) := ⟨hlf, hbf, hz⟩
  clear hb hl hlf hbf hz
  unfold Lw.cells Bk.cells
  go_enter Tryz.func30, Tryz.ntmps30
  go_wp2_with fail
  obtain ⟨hL0, hX0⟩ := qM w (lC l la lb lc lca lcb lcc) (bC b a0 a1 a2 a3 c0 c1 c2 c3) 43 50
  have HBi : Hid (Below w.heap.size w ((w.alloc (.cells (lC l la lb lc lca lcb lcc) 43)).alloc (.cells (bC b a0 a1 a2 a3 c0 c1 c2 c3) 50))) := zu w _ _
  obtain ⟨W0, hW0⟩ : ∃ W0, W0 = (w.alloc (.cells (lC l la lb lc lca lcb lcc) 43)).alloc (.cells (bC b a0 a1 a2 a3 c0 c1 c2 c3) 50) := ⟨_, rfl⟩
  have hz0 : w.heap.size + 1 < W0.heap.size := by rw [hW0]; simp
  rw [<- hW0] at HBi hX0 hL0 ⊢
  clear hW0
  refine (zi1 l la lb lc lca lcb lcc _ (HL.out.mono HBi.out) HF.out.1).mono ?_
  rintro e w1 ⟨rfl, hb0⟩
  have hX1 := za hX0 hz0 hb0
  have hL1 := za hL0 (Nat.lt_of_succ_lt hz0) hb0
  have hz1 := Nat.lt_of_lt_of_le hz0 hb0.size
  have hy1 := Nat.lt_of_succ_lt hz1
  have HBi := hid (HBi.out.trans (hb0.mono HBi.out.size))
  clear hb0 hX0 hL0 hz0
  by_cases t : Gate.zbA l = true
  rotate_left
  · have HN : Hid (Gate.qY l b = false) := by unfold Hid Gate.qY; rw [Bool.eq_false_iff.2 t]; rfl
    rw [Bool.eq_false_iff.2 t]
    clear t
    go_wp2_with fail
    go_ret
    exact ⟨ze HN.out.symm, HBi.out⟩
  have HN : Hid (Gate.zan l b = Gate.qY l b) := by unfold Hid Gate.qY; rw [t]; rfl
  have HM : Hid (Gate.yg l.ss l.ms = true) := by unfold Gate.zbA at t; simp only [Bool.and_eq_true] at t; exact t.1
  rw [t]
  clear t
  go_wp2_with fail
  refine (zl2 l la lb lc lca lcb lcc b a0 a1 a2 a3 c0 c1 c2 c3 _ (HK.out.mono HBi.out) (HL.out.mono HBi.out) HF.out.1.ms HM.out HF.out.2.1.os.2 HF.out.2.2).mono ?_
  rintro e w2 ⟨rfl, hb1⟩
  have HBe := hid (HBi.out.trans (hb1.mono HBi.out.size))
  rw [HN.out]
  clear hb1 hX1 hL1 hz1 hy1
  go_wp2_with fail
  go_ret
  exact ⟨rfl, HBe.out⟩
end Go.Proofs.YtfapkhgallmkdaaGreat
