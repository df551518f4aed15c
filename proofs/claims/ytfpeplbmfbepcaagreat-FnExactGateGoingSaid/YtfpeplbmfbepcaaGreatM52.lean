import Derived.Test.YtfpeplbmfbepcaaGreatM50
import Derived.Test.YtfpeplbmfbepcaaGreatM39
import Derived.Test.YtfpeplbmfbepcaaGreatM03
import Derived.Test.YtfpeplbmfbepcaaGreatM07
import Derived.Test.YtfpeplbmfbepcaaGreatM43
import Derived.Test.YtfpeplbmfbepcaaGreatM35
import Derived.Test.YtfpeplbmfbepcaaGreatM23
import Derived.Test.YtfpeplbmfbepcaaGreatM47
import Derived.Test.YtfpeplbmfbepcaaGreatM37
import Derived.Test.YtfpeplbmfbepcaaGreatM11
import Derived.Test.YtfpeplbmfbepcaaGreatM27
namespace Go.Proofs.YtfpeplbmfbepcaaGreat
open Go.RowKit
namespace Gate
theorem zb1 (l : Lw) (b : Bk) (o : Ob) : yF l b o = (within o.vr 1 b.now && (yh l.ts o.tm && ((decide ((yu l.ss o).1 = 0) && decide (zbM l o = o.vs)) && j3 l b.os o))) := rfl
theorem zjY {l : Lw} {o : Ob} (hok : yc l.ss l.ms = true) (h : (yu l.ss o).1 = 0) : zbv l.ss l.ms o = zbM l o := by
  unfold zbv zbM
  rw [if_pos (zay hok h)]
noncomputable def qw (l : Lw) (os : List Ob) (o : Ob) (k : Nat) : Bool := (yG (shapeOf l.ss o.kd).fs o.vs k).all fun x => os.any (jV x.to x.nm)
theorem zmu {l : Lw} {os : List Ob} {o : Ob} {k : Nat} (hk : k <= (shapeOf l.ss o.kd).fs.length) (h : qw l os o k = false) : j3 l os o = false := by
  unfold qw at h
  unfold j3
  obtain ⟨t, ht⟩ := zaw (shapeOf l.ss o.kd).fs o.vs hk
  rw [<- ht, List.all_append, h]; rfl
theorem zj6 {l : Lw} {os : List Ob} {o : Ob} {k : Nat} (hk : k < (shapeOf l.ss o.kd).fs.length) (hv : k < o.vs.length) (h : ¬ ((shapeOf l.ss o.kd).fs[k].kd = 4 /\ o.vs[k].toList.isEmpty = false)) : qw l os o (k + 1) = qw l os o k := by
  unfold qw
  rw [jR, List.all_append]
  have : zdW (shapeOf l.ss o.kd).fs o.vs k = [] := by
    unfold zdW
    rw [List.getElem?_eq_getElem hk, List.getElem?_eq_getElem hv]
    exact dif_neg (fun h' => h h'.1)
  rw [this]; simp
theorem zk1 {l : Lw} {os : List Ob} {o : Ob} {k : Nat} (hk : k < (shapeOf l.ss o.kd).fs.length) (hv : k < o.vs.length) (h1 : (shapeOf l.ss o.kd).fs[k].kd = 4) (h2 : o.vs[k].toList.isEmpty = false) (hs1 : (shapeOf l.ss o.kd).fs[k].to.size <= maxLen) (hs2 : o.vs[k].size <= maxLen) : qw l os o (k + 1) = (qw l os o k && os.any (jV (shapeOf l.ss o.kd).fs[k].to o.vs[k])) := by
  unfold qw
  rw [jR, List.all_append]
  have : zdW (shapeOf l.ss o.kd).fs o.vs k = [⟨k, (shapeOf l.ss o.kd).fs[k].rl, (shapeOf l.ss o.kd).fs[k].to, o.vs[k], hs1, hs2⟩] := by
    unfold zdW
    rw [List.getElem?_eq_getElem hk, List.getElem?_eq_getElem hv]
    exact dif_pos ⟨⟨h1, h2⟩, hs1, hs2⟩
  rw [this]; simp
theorem zd5 {l : Lw} {os : List Ob} {o : Ob} {fs : List Fld} (e : fs = (shapeOf l.ss o.kd).fs) {k : Nat} (hk : k < fs.length) (hv : k < o.vs.length) (h : ¬ (fs[k].kd = 4 /\ o.vs[k].toList.isEmpty = false)) : qw l os o (k + 1) = qw l os o k := by
  subst e; exact zj6 hk hv h
theorem zeN {l : Lw} {os : List Ob} {o : Ob} {fs : List Fld} (e : fs = (shapeOf l.ss o.kd).fs) {k : Nat} (hk : k < fs.length) (hv : k < o.vs.length) (h1 : fs[k].kd = 4) (h2 : o.vs[k].toList.isEmpty = false) (hs1 : fs[k].to.size <= maxLen) (hs2 : o.vs[k].size <= maxLen) : qw l os o (k + 1) = (qw l os o k && os.any (jV fs[k].to o.vs[k])) := by
  subst e; exact zk1 hk hv h1 h2 hs1 hs2
theorem zlu {l : Lw} {os : List Ob} {o : Ob} {fs : List Fld} (e : fs = (shapeOf l.ss o.kd).fs) (h : qw l os o fs.length = true) : j3 l os o = true := by
  subst e; exact h
theorem zkJ {l : Lw} {os : List Ob} {o : Ob} {fs : List Fld} (e : fs = (shapeOf l.ss o.kd).fs) {k : Nat} (hk : k <= fs.length) (h : qw l os o k = false) : j3 l os o = false := by
  subst e; exact zmu hk h
end Gate
set_option maxRecDepth 20000 in
set_option maxHeartbeats 40000000 in
theorem zhh (l : Lw) (la lb lc : Option Addr) (lca lcb lcc : Nat) (b : Bk) (a0 a1 a2 a3 : Option Addr) (c0 c1 c2 c3 : Nat) (w : World) (hl : qB w l la lb lc) (hb : y9 w b a0 a1 a2 a3) (hh : zbu w a0 b.os) (hok : Gate.yc l.ss l.ms = true) (hfw : ∀ i (h : i < b.os.length), b.os[i].vs.length <= 1048576 /\ b.os[i].hs.length <= 1048576) :
    Calls Tryz.prog 60 #[.agg (l.cells la lb lc lca lcb lcc), .agg (b.cells a0 a1 a2 a3 c0 c1 c2 c3)] w fun e w' => e = .returned (.bool (Gate.zK l b)) /\ Below w.heap.size w w' := by
  have HK := hid hb
  have HL := hid hl
  have HH := hid hh
  have HF0 : Hid (Gate.yc l.ss l.ms = true /\ ∀ i (h : i < b.os.length), b.os[i].vs.length <= 1048576 /\ b.os[i].hs.length <= 1048576) := ⟨hok, hfw⟩
  clear hb hl hh hok hfw
  unfold Lw.cells Bk.cells
  by_cases hln : b.os.length <= 40
  rotate_left
  · have HF : Hid (Gate.zK l b = false) := by unfold Hid Gate.zK; rw [decide_eq_false hln]; rfl
    have hg : (40 : Int) < (b.os.length : Int) := by omega
    go_enter Tryz.func60, Tryz.ntmps60
    go_wp2_with fail
    go_ret
    exact ⟨ze HF.out.symm, zn _ _ _⟩
  have hg : decide ((40 : Int) < (b.os.length : Int)) = false := by simp; omega
  have HLN : Hid (b.os.length <= 40) := hln
  clear hln
  go_enter Tryz.func60, Tryz.ntmps60
  go_wp2_with fail
  clear hg
  obtain ⟨hL0, hX0⟩ := yP w (lC l la lb lc lca lcb lcc) (bC b a0 a1 a2 a3 c0 c1 c2 c3) 41 48
  have HB0 : Hid (Below w.heap.size w ((w.alloc (.cells (lC l la lb lc lca lcb lcc) 41)).alloc (.cells (bC b a0 a1 a2 a3 c0 c1 c2 c3) 48))) := zn w _ _
  obtain ⟨W0, hW0⟩ : ∃ W0, W0 = (w.alloc (.cells (lC l la lb lc lca lcb lcc) 41)).alloc (.cells (bC b a0 a1 a2 a3 c0 c1 c2 c3) 48) := ⟨_, rfl⟩
  have hz0 : w.heap.size + 1 < W0.heap.size := by rw [hW0]; simp
  rw [<- hW0] at HB0 hX0 hL0 ⊢
  clear hW0
  go_loopw [5] (fun iv wr => ∃ k : Nat, k <= b.os.length /\ iv = .int .i64 k /\ Hid ((b.os.take k).all (Gate.yF l b) = true /\ Gate.zaB Gate.zbc b.os k /\ Below W0.heap.size W0 wr)) (fun iv _ => b.os.length - (intOf iv).toNat)
  case atStart => exact ⟨0, Nat.zero_le _, rfl, by simp, fun i _ h => by omega, Below.refl _ _⟩
  case round =>
    obtain ⟨k, hk, rfl, HQ⟩ := hrel
    have hkn : k <= 40 := by have := HLN.out; omega
    have hX1 := za hX0 hz0 HQ.out.2.2
    have hL1 := za hL0 (Nat.lt_of_succ_lt hz0) HQ.out.2.2
    have hz1 := Nat.lt_of_lt_of_le hz0 HQ.out.2.2.size
    have hq1 := Nat.lt_of_succ_lt hz1
    have HBq : Hid (Below w.heap.size w wr) := HB0.out.trans (HQ.out.2.2.mono HB0.out.size)
    by_cases hlt : k < b.os.length
    · obtain ⟨ob, off, g0, g1, q0, q1, rfl, hob, hsm, hs0, hs1, d0, d1, d2, d3, d4, d5, d6⟩ := HH.out.load HBq.out k hlt
      have hob' : ob < wr.heap.size := Nat.lt_of_lt_of_le hob HBq.out.size
      have hltI : (k : Int) < (b.os.length : Int) := by omega
      have HSn : Hid ((b.os.take (k + 1)).all (Gate.yF l b) = ((b.os.take k).all (Gate.yF l b) && (Gate.yF l b) b.os[k])) := Gate.ql _ _ _ hlt
      have HBo : Hid (∀ ob, Below W0.heap.size W0 (wr.alloc ob)) := fun ob => HQ.out.2.2.alloc HQ.out.2.2.size _
      have HBw : Hid (∀ W, Below W0.heap.size W0 W -> Below w.heap.size w W) := fun W hW => HB0.out.trans (hW.mono HB0.out.size)
      have HNo : Hid ((Gate.yF l b) b.os[k] = false -> Gate.zK l b = false) := fun h => by unfold Gate.zK; rw [Gate.j6 _ _ _ hlt h]; simp
      have HNa : Hid (0 < k -> 0 <= Gate.zbc (b.os[k - 1]'(by omega)) b.os[k] -> Gate.zK l b = false) := fun h0 h => by unfold Gate.zK; rw [Gate.zdr hlt h0 (Int.not_lt.2 h)]; simp
      have HYes : Hid ((Gate.yF l b) b.os[k] = true -> (∀ m (e : k = m + 1), Gate.zbc (b.os[m]'(by omega)) b.os[k] < 0) -> (b.os.take (k + 1)).all (Gate.yF l b) = true /\ Gate.zaB Gate.zbc b.os (k + 1)) := fun h h' => ⟨by rw [HSn.out, HQ.out.1, h]; rfl, Gate.zez HQ.out.2.1 hlt h'⟩
      have HIt : Hid (qR wr b.os[k] (some ⟨g0, 0, none⟩) (some ⟨g1, 0, none⟩)) := ⟨hsm, hs0, hs1⟩
      have HFk : Hid (b.os[k].vs.length <= 1048576 /\ b.os[k].hs.length <= 1048576) := HF0.out.2 k hlt
      clear hsm hs0 hs1
      go_wp2_with fail
      have hY0 := zG wr (oC b.os[k] (some ⟨g0, 0, none⟩) (some ⟨g1, 0, none⟩) q0 q1) 119
      have hb5 : Below wr.heap.size wr (wr.alloc (.cells (oC b.os[k] (some ⟨g0, 0, none⟩) (some ⟨g1, 0, none⟩) q0 q1) 119)) := (Below.refl _ _).alloc (Nat.le_refl _) _
      have HBe := HBo.out (.cells (oC b.os[k] (some ⟨g0, 0, none⟩) (some ⟨g1, 0, none⟩) q0 q1) 119)
      obtain ⟨W5, hW5⟩ : ∃ W5, W5 = wr.alloc (.cells (oC b.os[k] (some ⟨g0, 0, none⟩) (some ⟨g1, 0, none⟩) q0 q1) 119) := ⟨_, rfl⟩
      have hy5 : wr.heap.size < W5.heap.size := by rw [hW5]; simp
      rw [<- hW5] at hb5 hY0 HBe ⊢
      clear hW5 d0 d1 d2 d3 d4 d5 d6
      have hX5 := za hX1 hz1 hb5
      have hL5 := za hL1 (Nat.lt_of_succ_lt hz1) hb5
      have hz5 : w.heap.size + 1 < W5.heap.size := Nat.lt_of_lt_of_le hz1 hb5.size
      have hq5 := Nat.lt_of_succ_lt hz5
      have HBe5 : Hid (Below W0.heap.size W0 W5) := HBe
      have HO5 : Hid (qR W5 b.os[k] (some ⟨g0, 0, none⟩) (some ⟨g1, 0, none⟩)) := HIt.out.mono hb5
      have hobz5 := Nat.lt_of_lt_of_le hob' hb5.size
      clear hX1 hz1 hb5 HBo hX0 hz0 hL0 hL1 hob hob' HSn HBe
      refine (zlS _ _ l.ss b.os[k] _ _ _ _ _ (HL.out.ss.mono (HBw.out _ HBe5.out)) HO5.out).mono ?_
      rintro e w6 ⟨rfl, hb6⟩
      have hX6 := za hX5 hz5 hb6
      have hL6 := za hL5 (Nat.lt_of_succ_lt hz5) hb6
      have hY6 := za hY0 hy5 hb6
      have hz6 := Nat.lt_of_lt_of_le hz5 hb6.size
      have hq6 := Nat.lt_of_succ_lt hz6
      have hy6 := Nat.lt_of_lt_of_le hy5 hb6.size
      have hobz6 := Nat.lt_of_lt_of_le hobz5 hb6.size
      have HBe6 := hid (HBe5.out.trans (hb6.mono HBe5.out.size))
      have HO6 := hid (HO5.out.mono hb6)
      clear hb6 hX5 hL5 hY0 hz5 hq5 hy5 hobz5 HBe5 HO5
      by_cases t1 : (Gate.yu l.ss b.os[k]).1 = 0
      rotate_left
      · have HF : Hid (Gate.zK l b = false) := HNo.out (by rw [Gate.zb1, decide_eq_false t1]; simp)
        have hd : decide ((Gate.yu l.ss b.os[k]).1 = 0) = false := decide_eq_false t1
        go_wp2_with fail
        go_ret
        exact ⟨ze HF.out.symm, HBw.out _ HBe6.out⟩
      have HT1 : Hid ((Gate.yu l.ss b.os[k]).1 = 0) := t1
      rw [t1]
      clear t1
      go_wp2_with fail
      refine (zc9 _ _ l.ts b.os[k].tm _ (HL.out.ts.mono (HBw.out _ HBe6.out))).mono ?_
      rintro e w7 ⟨rfl, rfl⟩
      by_cases t2 : Gate.yh l.ts b.os[k].tm = true
      rotate_left
      · have HF : Hid (Gate.zK l b = false) := HNo.out (by rw [Gate.zb1, Bool.eq_false_iff.2 t2]; simp)
        rw [Bool.eq_false_iff.2 t2]
        clear t2
        go_wp2_with fail
        go_ret
        exact ⟨ze HF.out.symm, HBw.out _ HBe6.out⟩
      have HT2 : Hid (Gate.yh l.ts b.os[k].tm = true) := t2
      rw [t2]
      clear t2
      go_wp2_with fail
      refine (jJ b.os[k].vr 1 b.now _).mono ?_
      rintro e w7 ⟨rfl, rfl⟩
      by_cases t3 : (decide (1 <= b.os[k].vr) && decide (b.os[k].vr <= b.now)) = true
      rotate_left
      · have HF : Hid (Gate.zK l b = false) := HNo.out (by rw [Gate.zb1]; unfold Gate.within; rw [Bool.eq_false_iff.2 t3]; simp)
        rw [Bool.eq_false_iff.2 t3]
        clear t3
        go_wp2_with fail
        go_ret
        exact ⟨ze HF.out.symm, HBw.out _ HBe6.out⟩
      have HT3 : Hid (Gate.within b.os[k].vr 1 b.now = true) := t3
      rw [t3]
      clear t3
      go_wp2_with fail
      have HP : Hid (∀ h0 : 0 < k, w7.cell? ⟨ob, off + (k - 1) * 7, none⟩ = some (.string (b.os[k - 1]'(by omega)).kd) /\ w7.cell? ⟨ob, off + (k - 1) * 7 + 1, none⟩ = some (.string (b.os[k - 1]'(by omega)).nm)) := fun h0 => by
        obtain ⟨ob', off', g0', g1', q0', q1', e', hob'', _, _, _, e0, e1, _⟩ := HH.out.load (HBw.out _ HBe6.out) (k - 1) (by omega)
        cases e'
        exact ⟨e0, e1⟩
      obtain ⟨v, hvE⟩ : ∃ v : Ob, ∀ h0 : 0 < k, v = b.os[k - 1]'(by omega) := by
        by_cases h0 : 0 < k
        · exact ⟨b.os[k - 1]'(by omega), fun _ => rfl⟩
        · exact ⟨b.os[k], fun h => absurd h h0⟩
      have HVE := hid hvE
      have HPV : Hid (0 < k -> w7.drew.cell? ⟨ob, off + (k - 1) * 7, none⟩ = some (.string v.kd) /\ w7.drew.cell? ⟨ob, off + (k - 1) * 7 + 1, none⟩ = some (.string v.nm)) := fun h0 => by rw [HVE.out h0]; exact HP.out h0
      have hkw : IntKind.i64.wrap ((k : Int) - 1) = (k : Int) - 1 := by rw [IntKind.wrap_i64]; omega
      have HKI : Hid (decide (0 < k) = true -> 0 < k /\ (0 : Int) <= (k : Int) - 1 /\ (k : Int) - 1 < (b.os.length : Int) /\ ((k : Int) - 1).toNat = k - 1 /\ (1 : Int) <= (k : Int)) := fun h => by have h := of_decide_eq_true h; omega
      clear HP hvE
      refine wp_region_held_drew (S := fun w' => (∀ j, w'.cell? ⟨w.heap.size + 1, j, none⟩ = (bC b (some ⟨ob, off, none⟩) a1 a2 a3 c0 c1 c2 c3)[j]?) /\ (∀ j, w'.cell? ⟨wr.heap.size, j, none⟩ = (oC b.os[k] (some ⟨g0, 0, none⟩) (some ⟨g1, 0, none⟩) q0 q1)[j]?) /\ (0 < k -> w'.cell? ⟨ob, off + (k - 1) * 7, none⟩ = some (.string v.kd) /\ w'.cell? ⟨ob, off + (k - 1) * 7 + 1, none⟩ = some (.string v.nm))) (by kernel_rfl) ⟨za hX6 hz6 (Below.refl w7.heap.size w7).drew, za hY6 hy6 (Below.refl w7.heap.size w7).drew, HPV.out⟩ (fun hHeld => ?_)
      refine tG 0 ?_; refine tG 1 ?_; refine tG 2 ?_; refine sT 3 ?_; refine sT 4 ?_; refine sT 5 ?_; refine sT 6 ?_
      refine sT 7 ?_ (hy := by
        intro hg w hSw
        obtain ⟨-, h1, h2, h3, h4⟩ := HKI.out hg
        go_simp
        try with_reducible rfl)
      refine sT 8 ?_
      refine sT (v := .string v.kd) 9 ?_ (hy := by
        intro hg w hSw
        obtain ⟨h0, h1, h2, h3, h4⟩ := HKI.out hg
        obtain ⟨e0, e1⟩ := hSw.2.2 h0
        go_simp)
      refine sT 10 ?_; refine sT 11 ?_; refine sT 12 ?_; refine sT 13 ?_
      refine sT 14 ?_ (hy := by
        intro hg w hSw
        obtain ⟨-, h1, h2, h3, h4⟩ := HKI.out hg
        go_simp
        try with_reducible rfl)
      refine sT 15 ?_
      refine sT (v := .string v.nm) 16 ?_ (hy := by
        intro hg w hSw
        obtain ⟨h0, h1, h2, h3, h4⟩ := HKI.out hg
        obtain ⟨e0, e1⟩ := hSw.2.2 h0
        go_simp)
      refine sT 17 ?_; refine sT 18 ?_; refine sT 19 ?_; refine sT 20 ?_
      refine cT 21 (.int .i64 (Gate.key2 v.kd v.nm b.os[k].kd b.os[k].nm)) (fun W => W = w7.drew) (fun hg K hK => ?_) ?_ rfl
      · go_simp
        refine (zgr v.kd v.nm _ _ _).mono ?_
        rintro e w8 ⟨rfl, rfl⟩
        (try go_wp2_with fail)
        first | exact ⟨rfl, hK.out _ hHeld rfl⟩ | exact hK.out _ hHeld rfl
      rintro _ rfl hHeld
      (try simp only [Act.put, sA, s0, sS])
      refine sT 22 ?_
      refine tG (v := .bool (decide (0 < k) && decide (0 <= Gate.key2 v.kd v.nm b.os[k].kd b.os[k].nm))) 23 ?_ (hy := by intro w hSw; cases h : decide (0 < k) <;> go_simp)
      refine wpAnyH_done (by kernel_rfl) ?_ _
      clear hHeld HKI HPV hkw
      rcases hT : (decide (0 < k) && decide (0 <= Gate.key2 v.kd v.nm b.os[k].kd b.os[k].nm)) with _ | _
      rotate_left
      · have HF : Hid (Gate.zK l b = false) := by
          simp only [Bool.and_eq_true, decide_eq_true_eq] at hT
          exact HNa.out hT.1 (by rw [<- HVE.out hT.1]; exact hT.2)
        go_wp2_with fail
        go_ret
        exact ⟨ze HF.out.symm, HBw.out _ HBe6.out.drew⟩
      have HT4 : Hid (∀ m (e : k = m + 1), Gate.zbc (b.os[m]'(by omega)) b.os[k] < 0) := Gate.zh1 hlt fun h0 => by
        rw [decide_eq_true h0, Bool.true_and] at hT
        rw [<- HVE.out h0]
        exact Int.not_le.1 (of_decide_eq_false hT)
      clear hT HVE
      go_wp2_with fail
      have hXD := za hX6 hz6 (Below.refl w7.heap.size w7).drew.drew
      have hLD := za hL6 (Nat.lt_of_succ_lt hz6) (Below.refl w7.heap.size w7).drew.drew
      have hYD := za hY6 hy6 (Below.refl w7.heap.size w7).drew.drew
      have hzD := hz6
      have hyD := hy6
      have hqD := hq6
      have HBeD := hid HBe6.out.drew.drew
      have HOD := hid (HO6.out.mono (Below.refl w7.heap.size w7).drew.drew)
      have hfd : ∀ (s0 s1 s2 : ByteArray) (x y : Option Addr) (n m p q : Nat) (t : Bool) (v : Int) (wf : World), (Instr.field 119 (.agg #[.string s0, .string s1, .string s2, .slice x n p, .bool t, .slice y m q, .int .i64 v]) 3).run Tryz.prog wf = .ok (.slice x n p) wf := fun s0 s1 s2 x y n m p q t v wf => by kernel_rfl
      refine wp_region_held_drew (S := fun w' => (∀ j, w'.cell? ⟨w.heap.size, j, none⟩ = (lC l la lb lc lca lcb lcc)[j]?) /\ (∀ j, w'.cell? ⟨w.heap.size + 1, j, none⟩ = (bC b (some ⟨ob, off, none⟩) a1 a2 a3 c0 c1 c2 c3)[j]?) /\ (∀ j, w'.cell? ⟨wr.heap.size, j, none⟩ = (oC b.os[k] (some ⟨g0, 0, none⟩) (some ⟨g1, 0, none⟩) q0 q1)[j]?)) (by kernel_rfl) ⟨hLD, hXD, hYD⟩ (fun hHeld => ?_)
      refine tH 0 rfl hHeld ?_; refine tH 1 rfl hHeld ?_; refine tH 2 rfl hHeld ?_; refine tH 3 rfl hHeld ?_; refine tH 4 rfl hHeld ?_; refine tH 7 rfl hHeld ?_; refine tH 8 rfl hHeld ?_
      refine cH 5 rfl fun K hK => ?_
      go_simp
      refine (zkQ _ _ _ _ l.ss l.ms b.os[k] _ _ _ _ _ _ _ (HL.out.ss.mono (HBw.out _ HBeD.out)) (HL.out.ms.mono (HBw.out _ HBeD.out)) HOD.out HFk.out.1 HFk.out.2 HF0.out.1).mono ?_
      rintro e w8 ⟨sa, sdap, sa', sdap', sm, rfl, hown, _, _, _, hb8⟩
      have hX8 := za hXD hzD hb8
      have hL8 := za hLD (Nat.lt_of_succ_lt hzD) hb8
      have hY8 := za hYD hyD hb8
      have hz8 := Nat.lt_of_lt_of_le hzD hb8.size
      have hq8 := Nat.lt_of_succ_lt hz8
      have hy8 := Nat.lt_of_lt_of_le hyD hb8.size
      have HBe8 := hid (HBeD.out.trans (hb8.mono HBeD.out.size))
      have HO8 := hid (HOD.out.mono hb8)
      have HSh : Hid (zA w8 sa (Gate.zbM l b.os[k]) /\ (Gate.zbM l b.os[k]).length = b.os[k].vs.length) := by
        have hmd := Gate.zay HF0.out.1 HT1.out
        rw [Gate.zjY HF0.out.1 HT1.out] at hown
        exact ⟨zgQ hown hmd HOD.out.vals.len (zfg hmd HL.out.ss.smalls HL.out.ms.small HOD.out.vals.small), zdd hmd⟩
      clear hb8 hown
      (try go_wp2_with fail)
      refine hK.out _ _ ?_ (fun hHeld => ?_)
      · exact ⟨hL8, hX8, hY8⟩
      clear hK K
      (try simp only [Act.put, sA, s0, sS])
      refine tH 6 rfl hHeld ?_
      refine cH 9 rfl fun K hK => ?_
      go_simp
      have hsame := zhA sa (some ⟨g0, 0, none⟩) sdap q0 _ _ _ HSh.out.1 HO8.out.vals (by rw [HSh.out.2]; exact HFk.out.1) HFk.out.1
      rw [HSh.out.2] at hsame
      refine hsame.mono ?_
      rintro e w9 ⟨rfl, hb9⟩
      have hX9 := za hX8 hz8 hb9
      have hL9 := za hL8 (Nat.lt_of_succ_lt hz8) hb9
      have hY9 := za hY8 hy8 hb9
      have hz9 := Nat.lt_of_lt_of_le hz8 hb9.size
      have hq9 := Nat.lt_of_succ_lt hz9
      have hy9 := Nat.lt_of_lt_of_le hy8 hb9.size
      have HBe9 := hid (HBe8.out.trans (hb9.mono HBe8.out.size))
      have HO9 := hid (HO8.out.mono hb9)
      clear hb9 hsame
      (try go_wp2_with fail)
      refine hK.out _ _ ?_ (fun hHeld => ?_)
      · exact ⟨hL9, hX9, hY9⟩
      clear hK K
      (try simp only [Act.put, sA, s0, sS])
      refine tH 10 rfl hHeld ?_
      refine wpAnyH_done (by kernel_rfl) ?_ _
      by_cases t5 : Gate.zbM l b.os[k] = b.os[k].vs
      rotate_left
      · have HF : Hid (Gate.zK l b = false) := HNo.out (by rw [Gate.zb1, decide_eq_false t5]; simp)
        rw [decide_eq_false t5]
        clear t5
        go_wp2_with fail
        go_ret
        exact ⟨ze HF.out.symm, HBw.out _ HBe9.out⟩
      have HT5 := hid t5
      rw [decide_eq_true t5]
      clear t5 HSh
      go_wp2_with fail
      have HWc : Hid (Gate.zo l.ss b.os[k] = true) := by
        have := Gate.za5 (o := b.os[k]) HF0.out.1
        rw [Hid, <- this]; exact Gate.zay HF0.out.1 HT1.out
      refine (zbe _ _ l.ss b.os[k] _ _ _ _ _ (HL.out.ss.mono (HBw.out _ HBe9.out)) HO9.out HWc.out).mono ?_
      rintro e w10 ⟨fa, fcap, rfl, hfa, hb10⟩
      have hX10 := za hX9 hz9 hb10
      have hL10 := za hL9 (Nat.lt_of_succ_lt hz9) hb10
      have hY10 := za hY9 hy9 hb10
      have hz10 := Nat.lt_of_lt_of_le hz9 hb10.size
      have hq10 := Nat.lt_of_succ_lt hz10
      have hy10 := Nat.lt_of_lt_of_le hy9 hb10.size
      have HBe10 := hid (HBe9.out.trans (hb10.mono HBe9.out.size))
      have HO10 : Hid (qR w10 b.os[k] (some ⟨g0, 0, none⟩) (some ⟨g1, 0, none⟩)) := HO9.out.mono hb10
      have HFa : Hid (zW w10 fa (Gate.shapeOf l.ss b.os[k].kd).fs) := hfa.mono hb10
      have HLv : Hid ((Gate.shapeOf l.ss b.os[k].kd).fs.length = b.os[k].vs.length) := by have := HWc.out; unfold Gate.zo at this; simp only [Bool.and_eq_true, decide_eq_true_eq] at this; exact this.2.symm
      have HBm : Hid (Below W0.heap.size W0 w10) := HBe10.out
      clear hfa hb10 hfd hXD hLD hYD hzD hyD hqD hX6 hL6 hY6 hz6 hy6 hq6 hX8 hL8 hY8 hz8 hy8 hq8 hX9 hL9 hY9 hz9 hy9 hq9 HBe9 HBe8 HBeD HO8 HO9 HOD
      obtain ⟨fs, hfs⟩ : ∃ fs, fs = (Gate.shapeOf l.ss b.os[k].kd).fs := ⟨_, rfl⟩
      have HFS : Hid (fs = (Gate.shapeOf l.ss b.os[k].kd).fs) := hfs
      rw [<- hfs] at HFa HLv ⊢
      clear hfs
      go_wp2_with fail
      obtain ⟨bo, hbo⟩ : ∃ bo, bo = wr.heap.size := ⟨_, rfl⟩
      rw [<- hbo] at hY10 hy10 ⊢
      clear hbo
      go_loopw [11] (fun jv wi => ∃ m : Nat, m <= fs.length /\ jv = .int .i64 m /\ Hid (Gate.qw l b.os b.os[k] m = true /\ Below w10.heap.size w10 wi)) (fun jv _ => fs.length - (intOf jv).toNat)
      case atStart => exact ⟨0, Nat.zero_le _, rfl, by simp [Gate.qw, yG], Below.refl _ _⟩
      case round =>
        obtain ⟨m, hm, rfl, HR⟩ := hrel
        have hfl : fs.length <= 1048576 := by have := HLv.out; have := HFk.out.1; omega
        have hXm := za hX10 hz10 HR.out.2
        have hYm := za hY10 hy10 HR.out.2
        have hzm := Nat.lt_of_lt_of_le hz10 HR.out.2.size
        have hqm := Nat.lt_of_lt_of_le hq10 HR.out.2.size
        have hym := Nat.lt_of_lt_of_le hy10 HR.out.2.size
        have HBm : Hid (Below W0.heap.size W0 wr) := HBe10.out.trans (HR.out.2.mono HBe10.out.size)
        by_cases hml : m < fs.length
        · have hmI : (m : Int) < (fs.length : Int) := by omega
          have hmv : m < b.os[k].vs.length := by have := HLv.out; omega
          have hmvI : (m : Int) < (b.os[k].vs.length : Int) := by omega
          obtain ⟨fb, foff, fw, fc, rfl, hfb, hfi⟩ := zod HFa.out HR.out.2 m hml
          obtain ⟨d0, d1, d2, d3, d4, d5, d6, d7, d8, d9, d10⟩ := hfi.load
          obtain ⟨hvb, cv⟩ := zqe HO10.out.vals HR.out.2 m hmv
          have HSt : Hid (fs[m].to.size <= maxLen /\ b.os[k].vs[m].size <= maxLen) := ⟨hfi.small.to, HO10.out.vals.small _ (List.getElem_mem _)⟩
          clear d0 d2 d3 d4 d6 d7 d8 d9 d10 hfi
          have hfz := Nat.lt_of_lt_of_le hfb HR.out.2.size
          have hvz := Nat.lt_of_lt_of_le hvb HR.out.2.size
          have hXd := za hXm hzm (Below.refl wr.heap.size wr).drew
          have hYd := za hYm hym (Below.refl wr.heap.size wr).drew
          have HKd := hid (HK.out.mono (HBw.out _ HBm.out.drew))
          have HRd := hid HR.out.2.drew
          clear hX10 hY10 hz10 hq10 hy10 hL10 hXm hYm hfb hvb
          go_wp2_with fail
          refine wp_region_held_drew (S := fun w' => (∀ j, w'.cell? ⟨w.heap.size + 1, j, none⟩ = (bC b (some ⟨ob, off, none⟩) a1 a2 a3 c0 c1 c2 c3)[j]?) /\ (∀ j, w'.cell? ⟨bo, j, none⟩ = (oC b.os[k] (some ⟨g0, 0, none⟩) (some ⟨g1, 0, none⟩) q0 q1)[j]?) /\ w'.cell? ⟨fb, foff + m * 11 + 1, none⟩ = some (.int .i64 fs[m].kd) /\ w'.cell? ⟨fb, foff + m * 11 + 5, none⟩ = some (.string fs[m].to) /\ w'.cell? ⟨g0, m, none⟩ = some (.string b.os[k].vs[m])) (by kernel_rfl) ⟨hXd, hYd, d1, d5, cv⟩ (fun hHeld => ?_)
          refine tH 0 rfl hHeld ?_; refine tH 1 rfl hHeld ?_; refine tH 2 rfl hHeld ?_; refine tH 3 rfl hHeld ?_; refine tH 4 rfl hHeld ?_
          by_cases t6 : fs[m].kd = 4
          · have hd6 := decide_eq_true t6
            have HT6 := hid t6
            have hd6b : (fs[m].kd == 4) = true := by rw [t6]; rfl
            clear t6
            refine tH 5 rfl hHeld ?_; refine tH 6 rfl hHeld ?_; refine tH 7 rfl hHeld ?_; refine tH 8 rfl hHeld ?_; refine tH 9 rfl hHeld ?_; refine tH 10 rfl hHeld ?_; refine tH 11 rfl hHeld ?_
            by_cases t7 : b.os[k].vs[m].toList.isEmpty = false
            · have HT7 := hid t7
              refine tH 12 rfl hHeld ?_; refine tH 13 rfl hHeld ?_; refine tH 14 rfl hHeld ?_; refine tH 15 rfl hHeld ?_; refine tH 16 rfl hHeld ?_; refine tH 17 rfl hHeld ?_; refine tH 18 rfl hHeld ?_; refine tH 19 rfl hHeld ?_; refine tH 20 rfl hHeld ?_; refine tH 21 rfl hHeld ?_; refine tH 22 rfl hHeld ?_; refine tH 23 rfl hHeld ?_; refine tH 24 rfl hHeld ?_; refine tH 25 rfl hHeld ?_
              refine cH 26 rfl fun K hK => ?_
              go_simp
              refine (zpj b (some ⟨ob, off, none⟩) a1 a2 a3 c0 c1 c2 c3 _ _ _ HKd.out (by have := HLN.out; omega)).mono ?_
              rintro e w11 ⟨rfl, hb11⟩
              have hXe := za hXd hzm hb11
              have hYe := za hYd hym hb11
              have d1e := (hb11.cell (p := ⟨fb, foff + m * 11 + 1, none⟩) hfz).trans d1
              have d5e := (hb11.cell (p := ⟨fb, foff + m * 11 + 5, none⟩) hfz).trans d5
              have cve := (hb11.cell (p := ⟨g0, m, none⟩) hvz).trans cv
              have HRe := hid (HRd.out.trans (hb11.mono HRd.out.size))
              have HBe11 := hid (HBe10.out.trans (HRe.out.mono HBe10.out.size))
              clear hb11
              (try go_wp2_with fail)
              refine hK.out _ _ ?_ (fun hHeld => ?_)
              · exact ⟨hXe, hYe, d1e, d5e, cve⟩
              clear hK K
              (try simp only [Act.put, sA, s0, sS])
              by_cases t8 : Gate.zdQ (Gate.jV fs[m].to b.os[k].vs[m]) b.os < 0
              · have hd8 := decide_eq_true t8
                have HAn : Hid (b.os.any (Gate.jV fs[m].to b.os[k].vs[m]) = false) := (Gate.zfz _ _).1 t8
                clear t8
                refine tH 27 rfl hHeld ?_; refine tH 28 rfl hHeld ?_
                refine wpAnyH_done (by kernel_rfl) ?_ _
                have HF : Hid (Gate.zK l b = false) := HNo.out (by rw [Gate.zb1, Gate.zkJ (k := m + 1) HFS.out hml (by rw [Gate.zeN HFS.out hml hmv HT6.out HT7.out HSt.out.1 HSt.out.2, HAn.out]; simp)]; simp)
                go_wp2_with fail
                go_ret
                exact ⟨ze HF.out.symm, HBw.out _ HBe11.out⟩
              · have hd8 : decide (Gate.zdQ (Gate.jV fs[m].to b.os[k].vs[m]) b.os < 0) = false := decide_eq_false t8
                have HAn : Hid (b.os.any (Gate.jV fs[m].to b.os[k].vs[m]) = true) := by
                  unfold Hid
                  cases hq : b.os.any (Gate.jV fs[m].to b.os[k].vs[m]) with
                  | true => rfl
                  | false => exact absurd ((Gate.zfz _ _).2 hq) t8
                clear t8
                refine tH 27 rfl hHeld ?_; refine tH 28 rfl hHeld ?_
                refine wpAnyH_done (by kernel_rfl) ?_ _
                have HS : Hid (Gate.qw l b.os b.os[k] (m + 1) = true) := by rw [Hid, Gate.zeN HFS.out hml hmv HT6.out HT7.out HSt.out.1 HSt.out.2, HAn.out, HR.out.1]; rfl
                go_wp2_with fail
                exact ⟨⟨m + 1, by omega, by go_num, HS.out, HRe.out⟩, by simp [intOf]; omega⟩
            · have t7 : b.os[k].vs[m].toList.isEmpty = true := by simpa using t7
              have HT7 : Hid (b.os[k].vs[m].toList.isEmpty = true) := t7
              refine tH 12 rfl hHeld ?_; refine tH 13 rfl hHeld ?_; refine tH 14 rfl hHeld ?_; refine kH 15 rfl hHeld ?_; refine kH 16 rfl hHeld ?_; refine kH 17 rfl hHeld ?_; refine kH 18 rfl hHeld ?_; refine kH 19 rfl hHeld ?_; refine kH 20 rfl hHeld ?_; refine kH 21 rfl hHeld ?_; refine kH 22 rfl hHeld ?_; refine kH 23 rfl hHeld ?_; refine kH 24 rfl hHeld ?_; refine kH 25 rfl hHeld ?_; refine kH 26 rfl hHeld ?_; refine kH 27 rfl hHeld ?_; refine tH 28 rfl hHeld ?_
              refine wpAnyH_done (by kernel_rfl) ?_ _
              have HS : Hid (Gate.qw l b.os b.os[k] (m + 1) = true) := by rw [Hid, Gate.zd5 HFS.out hml hmv (fun h => by have := h.2; rw [HT7.out] at this; cases this)]; exact HR.out.1
              go_wp2_with fail
              exact ⟨⟨m + 1, by omega, by go_num, HS.out, HRd.out⟩, by simp [intOf]; omega⟩
          · have hd6 : decide (fs[m].kd = 4) = false := decide_eq_false t6
            have HT6 : Hid (¬ fs[m].kd = 4) := t6
            have hd6b : (fs[m].kd == 4) = false := by simpa using t6
            clear t6
            refine tH 5 rfl hHeld ?_; refine tH 6 rfl hHeld ?_; refine kH 7 rfl hHeld ?_; refine kH 8 rfl hHeld ?_; refine kH 9 rfl hHeld ?_; refine kH 10 rfl hHeld ?_; refine kH 11 rfl hHeld ?_; refine kH 12 rfl hHeld ?_; refine tH 13 rfl hHeld ?_; refine tH 14 rfl hHeld ?_; refine kH 15 rfl hHeld ?_; refine kH 16 rfl hHeld ?_; refine kH 17 rfl hHeld ?_; refine kH 18 rfl hHeld ?_; refine kH 19 rfl hHeld ?_; refine kH 20 rfl hHeld ?_; refine kH 21 rfl hHeld ?_; refine kH 22 rfl hHeld ?_; refine kH 23 rfl hHeld ?_; refine kH 24 rfl hHeld ?_; refine kH 25 rfl hHeld ?_; refine kH 26 rfl hHeld ?_; refine kH 27 rfl hHeld ?_; refine tH 28 rfl hHeld ?_
            refine wpAnyH_done (by kernel_rfl) ?_ _
            have HS : Hid (Gate.qw l b.os b.os[k] (m + 1) = true) := by rw [Hid, Gate.zd5 HFS.out hml hmv (fun h => HT6.out h.1)]; exact HR.out.1
            go_wp2_with fail
            exact ⟨⟨m + 1, by omega, by go_num, HS.out, HRd.out⟩, by simp [intOf]; omega⟩
        · have e : m = fs.length := by omega
          subst e
          have HLk : Hid (Gate.j3 l b.os b.os[k] = true) := Gate.zlu HFS.out HR.out.1
          have HOa : Hid (Gate.yF l b b.os[k] = true) := by rw [Hid, Gate.zb1, HT3.out, HT2.out, HT1.out, HT5.out, HLk.out]; simp
          have HD := hid (HYes.out HOa.out HT4.out)
          clear hX10 hY10 hz10 hq10 hy10 hL10 HR
          go_wp2_with fail
          exact ⟨⟨k + 1, by omega, by go_num, HD.out.1, HD.out.2, HBm.out⟩, by simp [intOf]; omega⟩
    · have e : k = b.os.length := by omega
      subst e
      have HE : Hid (Gate.zK l b = true) := by
        unfold Hid Gate.zK
        have h1 := HQ.out.1
        rw [List.take_of_length_le (Nat.le_refl _)] at h1
        rw [Gate.zff HQ.out.2.1 (Nat.le_refl _), decide_eq_true HLN.out, h1]; rfl
      clear HQ hlt hk hX0 hL0
      go_wp2_with fail
      go_ret
      exact ⟨ze HE.out.symm, HBq.out⟩
end Go.Proofs.YtfpeplbmfbepcaaGreat
