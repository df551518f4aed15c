import Derived.Test.YtfpeplbmfbepcaaGreatM53
import Derived.Test.YtfpeplbmfbepcaaGreatM51
import Derived.Test.YtfpeplbmfbepcaaGreatM43
import Derived.Test.YtfpeplbmfbepcaaGreatM05
import Derived.Test.YtfpeplbmfbepcaaGreatM03
import Derived.Deep.Cut
import Derived.Test.YtfpeplbmfbepcaaGreatM35
import Derived.Test.YtfpeplbmfbepcaaGreatM23
namespace Go.Proofs.YtfpeplbmfbepcaaGreat
open Go.RowKit Go.Shelf
structure zoo (f : ByteArray -> ByteArray -> Option Int) (os : List Ob) (s : List Bool) : Prop where
  len : s.length = os.length
  at_ : ∀ j (h : j < os.length), (f os[j].kd os[j].nm).isSome = s.getD j false
theorem zqw (w : World) (o1 o2 o3 o4 : Obj) : ((((w.alloc o1).alloc o2).alloc o3).alloc o4).heap[w.heap.size]? = some o1 /\ ((((w.alloc o1).alloc o2).alloc o3).alloc o4).heap[w.heap.size + 1]? = some o2 /\ ((((w.alloc o1).alloc o2).alloc o3).alloc o4).heap[w.heap.size + 1 + 1]? = some o3 /\ ((((w.alloc o1).alloc o2).alloc o3).alloc o4).heap[w.heap.size + 1 + 1 + 1]? = some o4 := by
  obtain ⟨h1, h2, h3⟩ := zo7 w o1 o2 o3
  have hb := (Below.refl _ (((w.alloc o1).alloc o2).alloc o3)).alloc (Nat.le_refl _) o4
  refine ⟨(hb.block _ (by simp <;> omega)).trans h1, (hb.block _ (by simp <;> omega)).trans h2, (hb.block _ (by simp)).trans h3, ?_⟩
  have := alloc_at (((w.alloc o1).alloc o2).alloc o3) o4
  simpa using this
set_option maxRecDepth 20000 in
set_option maxHeartbeats 4000000 in
theorem zo4 (l : Lw) (la lb lc : Option Addr) (lca lcb lcc : Nat) (b : Bk) (a0 a1 a2 a3 : Option Addr) (c0 c1 c2 c3 : Nat) (r : Nat) (f : ByteArray -> ByteArray -> Option Int) (s : List Bool) (w : World) (hl : qB w l la lb lc) (hb : y9 w b a0 a1 a2 a3) (hM : zN w r f) (hs : zoo f b.os s) (hfa : zgR l b.os) :
    Calls Tryz.prog 73 #[.agg (lC l la lb lc lca lcb lcc), .agg (bC b a0 a1 a2 a3 c0 c1 c2 c3), .map (some r)] w fun e w' => ∃ v, e = .returned v /\ w'.ownsRow w.heap.size 3 1 v (Gate.places (Gate.greatest l b.os s)).length (ints (Gate.places (Gate.greatest l b.os s))) /\ Below w.heap.size w w' := by
  obtain ⟨i0, hi, hzi0, hz1', hz2⟩ := info_parts Tryz.zfe
  have HI0 := zia hi hzi0 hz1' hz2
  have HK := hid hb
  have HL := hid hl
  have HM := qJ hM hs
  have HO := qJ hfa.few hfa
  have hmk : ∀ w : World, (Instr.makeMap 140 none).run Tryz.prog w = .ok (.map (some w.heap.size)) (w.alloc (.map #[] 0)) := fun w => by kernel_rfl
  clear hb hl hM hs hfa hi hzi0 hz1' hz2
  go_enter Tryz.func73, Tryz.ntmps73
  go_wp2_with fail
  obtain ⟨hA0, hC0⟩ := zP w (.cells (lC l la lb lc lca lcb lcc) 41) (.cells (bC b a0 a1 a2 a3 c0 c1 c2 c3) 48)
  have hB0 := zn w (.cells (lC l la lb lc lca lcb lcc) 41) (.cells (bC b a0 a1 a2 a3 c0 c1 c2 c3) 48)
  obtain ⟨W0, hW0⟩ : ∃ W0, W0 = (w.alloc (.cells (lC l la lb lc lca lcb lcc) 41)).alloc (.cells (bC b a0 a1 a2 a3 c0 c1 c2 c3) 48) := ⟨_, rfl⟩
  have hz0 : w.heap.size + 1 < W0.heap.size := by rw [hW0]; simp
  rw [<- hW0] at hA0 hC0 hB0 ⊢
  clear hW0
  refine (zdK a0 c0 b.os _ (HK.out.os.mono hB0) (by have := HO.out.1; omega)).mono ?_
  rintro e w1 ⟨⟨fp, rfl, hfp, hpl⟩, hb1⟩
  have hA1 := (hb1.block _ (by omega)).trans hA0
  have hC1 := (hb1.block _ hz0).trans hC0
  have hz1 := Nat.lt_of_lt_of_le hz0 hb1.size
  have hrp := hfp.lt
  have HB1 : Hid (Below w.heap.size w w1) := hB0.trans (hb1.mono hB0.size)
  have cC1 := j5 hC1
  have HP1 : Hid (zN w1 W0.heap.size fp /\ zbm fp b.os b.os.length /\ w1.heap[w.heap.size]? = some (.cells (lC l la lb lc lca lcb lcc) 41) /\ w1.heap[w.heap.size + 1]? = some (.cells (bC b a0 a1 a2 a3 c0 c1 c2 c3) 48)) := ⟨hfp, hpl, hA1, hC1⟩
  clear hb1 hA0 hC0 hB0 hfp hpl hA1 hC1 hz0
  have hC4 : ∀ j, ((((w1.alloc (.cells #[.map (some W0.heap.size)] 139)).alloc (.map #[] 0)).alloc (.cells #[.map (some (w1.heap.size + 1))] 140)).alloc (.cells #[(.func (.func 116) #[] #[.pointer (some ⟨w1.heap.size + 1 + 1, 0, none⟩), .pointer (some ⟨w1.heap.size, 0, none⟩), .pointer (some ⟨w.heap.size, 0, none⟩), .pointer (some ⟨w.heap.size + 1, 0, none⟩), .pointer (some ⟨w1.heap.size + 1 + 1 + 1, 0, none⟩)])] 176)).cell? ⟨w.heap.size + 1, j, none⟩ = (bC b a0 a1 a2 a3 c0 c1 c2 c3)[j]? := fun j => ((zk6 w1 _ _ _ _).cell (p := ⟨w.heap.size + 1, j, none⟩) hz1).trans (cC1 j)
  go_wp2_with fail
  clear hC4
  obtain ⟨k1, k2, k3, k4⟩ := zqw w1 (.cells #[.map (some W0.heap.size)] 139) (.map #[] 0) (.cells #[.map (some (w1.heap.size + 1))] 140) (.cells #[(.func (.func 116) #[] #[.pointer (some ⟨w1.heap.size + 1 + 1, 0, none⟩), .pointer (some ⟨w1.heap.size, 0, none⟩), .pointer (some ⟨w.heap.size, 0, none⟩), .pointer (some ⟨w.heap.size + 1, 0, none⟩), .pointer (some ⟨w1.heap.size + 1 + 1 + 1, 0, none⟩)])] 176)
  have hb0 : Below w1.heap.size w1 (w1.alloc (.cells #[.map (some W0.heap.size)] 139)) := (Below.refl _ _).alloc (Nat.le_refl _) _
  have hKM := jg.new b.os (w1.alloc (.cells #[.map (some W0.heap.size)] 139))
  have hb5 := zn ((w1.alloc (.cells #[.map (some W0.heap.size)] 139)).alloc (.map #[] 0)) (.cells #[.map (some (w1.heap.size + 1))] 140) (.cells #[(.func (.func 116) #[] #[.pointer (some ⟨w1.heap.size + 1 + 1, 0, none⟩), .pointer (some ⟨w1.heap.size, 0, none⟩), .pointer (some ⟨w.heap.size, 0, none⟩), .pointer (some ⟨w.heap.size + 1, 0, none⟩), .pointer (some ⟨w1.heap.size + 1 + 1 + 1, 0, none⟩)])] 176)
  have hKM5 := hKM.mono hb5
  obtain ⟨w0, hw0⟩ : ∃ w0, w0 = w1.alloc (.cells #[.map (some W0.heap.size)] 139) := ⟨_, rfl⟩
  have hrk : w0.heap.size = w1.heap.size + 1 := by rw [hw0]; simp
  have HBp : Hid (Boxed w0 w1.heap.size 139 (.map (some W0.heap.size))) := by rw [Hid, hw0]; exact World.alloc_heap_new w1 _
  have hb05 : Below w0.heap.size w0 (((w0.alloc (.map #[] 0)).alloc (.cells #[.map (some (w1.heap.size + 1))] 140)).alloc (.cells #[(.func (.func 116) #[] #[.pointer (some ⟨w1.heap.size + 1 + 1, 0, none⟩), .pointer (some ⟨w1.heap.size, 0, none⟩), .pointer (some ⟨w.heap.size, 0, none⟩), .pointer (some ⟨w.heap.size + 1, 0, none⟩), .pointer (some ⟨w1.heap.size + 1 + 1 + 1, 0, none⟩)])] 176)) := below3' w0 _ _ _
  rw [<- hw0] at hb0 hKM hKM5 hb5 k1 k2 k3 k4 ⊢
  obtain ⟨W5, hW5⟩ : ∃ W5, W5 = ((w0.alloc (.map #[] 0)).alloc (.cells #[.map (some (w1.heap.size + 1))] 140)).alloc (.cells #[(.func (.func 116) #[] #[.pointer (some ⟨w1.heap.size + 1 + 1, 0, none⟩), .pointer (some ⟨w1.heap.size, 0, none⟩), .pointer (some ⟨w.heap.size, 0, none⟩), .pointer (some ⟨w.heap.size + 1, 0, none⟩), .pointer (some ⟨w1.heap.size + 1 + 1 + 1, 0, none⟩)])] 176) := ⟨_, rfl⟩
  rw [<- hW5] at hKM5 hb05 k1 k2 k3 k4 ⊢
  have hz5 := (Array.getElem?_eq_some_iff.1 k4).1
  clear hW5 hw0 hb5 hKM
  have HKH : Hid (zlJ w0 l b la lb lc a0 lca lcb lcc c0 w.heap.size (w.heap.size + 1) w1.heap.size W0.heap.size fp) := by
    have hBw0 := HB1.out.trans (hb0.mono HB1.out.size)
    exact ⟨HL.out.mono hBw0, HK.out.os.mono hBw0, by have := HO.out.1; omega, (hb0.block _ (by omega)).trans HP1.out.2.2.1, (hb0.cell (p := ⟨w.heap.size + 1, 3, none⟩) hz1).trans (cell_of_block HP1.out.2.2.2), by omega, HBp.out, HP1.out.1.mono hb0, HP1.out.2.1, HO.out.2⟩
  have HBw := qJ (HB1.out.trans (hb0.mono HB1.out.size)) hb05
  have HK5 := zdB hKM5 k3 k4
  have hC5 : ∀ j, W5.cell? ⟨w.heap.size + 1, j, none⟩ = (bC b a0 a1 a2 a3 c0 c1 c2 c3)[j]? := fun j => ((hb0.trans (hb05.mono hb0.size)).cell (p := ⟨w.heap.size + 1, j, none⟩) hz1).trans (cC1 j)
  clear hb0 hb05 hKM5 k1 k2 k3 k4 cC1 HBp HP1 hmk
  go_loopw [23] (fun iv wr => ∃ (k : Nat) (S : Nat -> Bool), k <= b.os.length /\ iv = .int .i64 k /\ Hid (Gate.zbd l b.os s k S /\ jg b.os w0.heap.size S wr /\ But w0.heap.size W5.heap.size W5 wr)) (fun iv _ => b.os.length - (intOf iv).toNat)
  case atStart => exact ⟨0, _, Nat.zero_le _, rfl, Gate.zbd.start _ _ _, HK5.out.1, But.refl _ _ _⟩
  case round =>
    obtain ⟨k, S, hk, rfl, HJ⟩ := hrel
    have hkn : k <= 40 := by have := HO.out.1; omega
    have hr5 : w0.heap.size < W5.heap.size := by omega
    have HBw0r := hid (HBw.out.2.trans (HJ.out.2.2.below hr5))
    have HBr := hid (HBw.out.1.trans (HBw0r.out.mono HBw.out.1.size))
    have HMr := hid (HM.out.1.mono HBr.out)
    have HbK : Hid (Boxed wr (w1.heap.size + 1 + 1) 140 (.map (some w0.heap.size))) := by rw [hrk]; exact HJ.out.2.2.boxed HK5.out.2.1 (by omega) (by omega)
    have HbF : Hid (Boxed wr (w1.heap.size + 1 + 1 + 1) 176 (.func (.func 116) #[] #[.pointer (some ⟨w1.heap.size + 1 + 1, 0, none⟩), .pointer (some ⟨w1.heap.size, 0, none⟩), .pointer (some ⟨w.heap.size, 0, none⟩), .pointer (some ⟨w.heap.size + 1, 0, none⟩), .pointer (some ⟨w1.heap.size + 1 + 1 + 1, 0, none⟩)])) := HJ.out.2.2.boxed HK5.out.2.2 hz5 (by omega)
    have HNr : Hid (wr.heap.size ≠ w0.heap.size /\ w1.heap.size + 1 + 1 + 1 ≠ w0.heap.size) := by have := HJ.out.2.2.size; exact ⟨by omega, by omega⟩
    by_cases hlt : k < b.os.length
    · obtain ⟨ob, off, v0, v1, q0, q1, rfl, hob, hsm, hl0, hl1, d0, d1, d2, d3, d4, d5, d6⟩ := HK.out.os.load HBr.out k hlt
      have hltI : (k : Int) < (b.os.length : Int) := by omega
      have hob' := Nat.lt_of_lt_of_le hob HBr.out.size
      obtain ⟨o, ho⟩ : ∃ o, o = b.os[k] := ⟨_, rfl⟩
      rw [<- ho] at d0 d1 d2 d3 d4 d5 d6 hsm
      obtain ⟨en, hen⟩ : ∃ en, en = s.getD k false := ⟨_, rfl⟩
      obtain ⟨rt, hrt⟩ : ∃ rt, rt = (!en || decide (0 < o.hs.length)) := ⟨_, rfl⟩
      have HSm := zdB hsm ((congrArg (fun o => (f o.kd o.nm).isSome) ho).trans ((HM.out.2.at_ k hlt).trans hen.symm)) hrt
      have HRt : Hid (rt = true ↔ Gate.zgw b.os s k) := by
        unfold Hid
        rw [hrt, ho, hen]
        simp only [Bool.or_eq_true, Bool.not_eq_true', decide_eq_true_eq]
        exact ⟨fun h => ⟨hlt, h⟩, fun ⟨_, h⟩ => h⟩
      have HO' := hid ho
      obtain ⟨W2, hW2, kO, hba, hz2⟩ := zqv wr (.cells (oC o v0 v1 q0 q1) 119)
      clear hsm hl0 hl1 ho hen hrt
      go_upto_region 8 with fail
      replace hz2 : wr.heap.size < W2.heap.size := by omega
      rw [<- hW2]
      clear hW2 d0 d1 d2 d3 d4 d5 d6
      have HB2 := qJ hba kO
      have HS : Hid (∀ W, Below W2.heap.size W2 W -> (∀ j, W.cell? ⟨wr.heap.size, j, none⟩ = (oC o v0 v1 q0 q1)[j]?) /\ W.cell? ⟨w1.heap.size + 1 + 1 + 1, 0, none⟩ = some (.func (.func 116) #[] #[.pointer (some ⟨w1.heap.size + 1 + 1, 0, none⟩), .pointer (some ⟨w1.heap.size, 0, none⟩), .pointer (some ⟨w.heap.size, 0, none⟩), .pointer (some ⟨w.heap.size + 1, 0, none⟩), .pointer (some ⟨w1.heap.size + 1 + 1 + 1, 0, none⟩)])) := fun W hW => ⟨fun j => cell_of_block ((hW.block _ hz2).trans HB2.out.2), ((HB2.out.1.trans (hW.mono HB2.out.1.size)).cell (p := ⟨w1.heap.size + 1 + 1 + 1, 0, none⟩) HbF.out.lt).trans HbF.out.cell⟩
      clear hba kO
      refine zi9 (fun A A' w' => ∃ u27 u28 u29 u30 u31 u32 u33 u34 u35 u36, A' = (((((((((((A.put (some 27) u27).put (some 28) u28).put (some 29) u29).put (some 30) u30).put (some 31) u31).put (some 32) u32).put (some 33) u33).put (some 34) u34).put (some 35) u35).put (some 36) u36).put (some 37) (.bool rt)) /\ Below W2.heap.size W2 w') ?_ ?_
      · have cO := (HS.out W2 (Below.refl _ _)).1
        go_wp2_with fail
        refine (j4 o v0 v1 q0 q1 W2).mono ?_
        rintro e w3 ⟨rfl, hb3⟩
        have HB3 := hid hb3
        clear hb3 cO
        go_wp2_with fail
        refine (zw HSm.out.2.1 (zhZ r f o.kd o.nm w3 (HMr.out.mono (HB2.out.1.trans (HB3.out.mono HB2.out.1.size))) HSm.out.1.kd HSm.out.1.nm)).mono ?_
        rintro e w4 ⟨rfl, hb4⟩
        have HB4 := hid (HB3.out.trans (hb4.mono HB3.out.size))
        have cO := (HS.out w4 HB4.out).1
        have hz4 := Nat.lt_of_lt_of_le hz2 HB4.out.size
        clear hb4
        cases hen : en with
        | false =>
          have HR : Hid (rt = true) := by rw [Hid, HSm.out.2.2, hen]; rfl
          go_wp2_with fail
          exact ⟨HR.out, HB4.out⟩
        | true =>
          have HR : Hid (decide (0 < o.hs.length) = rt) := by rw [Hid, HSm.out.2.2, hen]; rfl
          go_wp2_with fail
          exact ⟨HR.out, HB4.out⟩
      · rintro A' w4 ⟨u27, u28, u29, u30, u31, u32, u33, u34, u35, u36, rfl, hb4⟩
        have HB4 := qJ hb4 (HB2.out.1.trans (hb4.mono HB2.out.1.size))
        clear hb4
        (try simp only [Act.put, sA, s0, sS])
        cases hr : rt with
        | false =>
          have HRn : Hid (¬ Gate.zgw b.os s k) := fun h => by rw [HRt.out.2 h] at hr; cases hr
          go_wp2_with fail
          exact ⟨⟨k + 1, S, by omega, by go_num, HJ.out.1.skip HRn.out, HJ.out.2.1.mono HB4.out.2, HJ.out.2.2.trans (But.of_below (HB4.out.2.mono HJ.out.2.2.size))⟩, zi hlt⟩
        | true =>
          have HRy := hid (HRt.out.1 hr)
          have hcall := zpw w0 l b la lb lc _ lca lcb lcc c0 w.heap.size (w.heap.size + 1) w1.heap.size W0.heap.size fp HKH.out (w1.heap.size + 1 + 1) (w1.heap.size + 1 + 1 + 1) (by omega) (by omega) (Gate.lacks S b.os.length + 1) S k hlt
          rw [<- HO'.out] at hcall
          unfold yO at hcall
          have HCall := hid hcall
          clear hcall hr
          go_upto_region 9 with fail
          have hB := (Below.refl w4.heap.size w4).drew
          have hS := HS.out _ (HB4.out.1.trans (hB.mono HB4.out.1.size))
          go_region_held3 (fun W => (∀ j, W.cell? ⟨wr.heap.size, j, none⟩ = (oC o v0 v1 q0 q1)[j]?) /\ W.cell? ⟨w1.heap.size + 1 + 1 + 1, 0, none⟩ = some (.func (.func 116) #[] #[.pointer (some ⟨w1.heap.size + 1 + 1, 0, none⟩), .pointer (some ⟨w1.heap.size, 0, none⟩), .pointer (some ⟨w.heap.size, 0, none⟩), .pointer (some ⟨w.heap.size + 1, 0, none⟩), .pointer (some ⟨w1.heap.size + 1 + 1 + 1, 0, none⟩)])) (exact hS) (first
            | (go_at_call 119; refine (j4 o v0 v1 q0 q1 _).mono ?_; rintro e w5 ⟨rfl, hb⟩; have hB := hB.trans (hb.mono hB.size); have hS := HS.out w5 (HB4.out.1.trans (hB.mono HB4.out.1.size)); clear hb)
            | (go_at_call 116; have hBr := HB4.out.2.trans (hB.mono HB4.out.2.size); refine (HCall.out _ (Nat.lt_succ_self _) (HBw0r.out.trans (hBr.mono HBw0r.out.size)) (HJ.out.2.1.mono hBr) ((hBr.block _ HbK.out.lt).trans HbK.out) ((hBr.block _ HbF.out.lt).trans HbF.out)).mono ?_; rintro e w6 ⟨rfl, hS6, hbut⟩; have hS : (∀ j, w6.cell? ⟨wr.heap.size, j, none⟩ = (oC o v0 v1 q0 q1)[j]?) /\ w6.cell? ⟨w1.heap.size + 1 + 1 + 1, 0, none⟩ = some (.func (.func 116) #[] #[.pointer (some ⟨w1.heap.size + 1 + 1, 0, none⟩), .pointer (some ⟨w1.heap.size, 0, none⟩), .pointer (some ⟨w.heap.size, 0, none⟩), .pointer (some ⟨w.heap.size + 1, 0, none⟩), .pointer (some ⟨w1.heap.size + 1 + 1 + 1, 0, none⟩)]) := ⟨fun j => (World.cell?_of_block (a := ⟨wr.heap.size, j, none⟩) (hbut.block _ (Nat.lt_of_lt_of_le hz2 (HB4.out.1.trans (hB.mono HB4.out.1.size)).size) HNr.out.1)).trans (hS.1 j), (World.cell?_of_block (a := ⟨w1.heap.size + 1 + 1 + 1, 0, none⟩) (hbut.block _ (Nat.lt_of_lt_of_le HbF.out.lt hBr.size) HNr.out.2)).trans hS.2⟩; have HS6 := qJ hS6 ((But.of_below hBr).trans (hbut.mono hBr.size)); clear hS6 hbut))
          obtain ⟨⟨S', hk', hkp, hS'⟩, hbt⟩ := HS6.out
          have HNx := zdB (HJ.out.1.next HRy.out hkp hS') hk' (HJ.out.2.2.trans (hbt.mono HJ.out.2.2.size))
          clear hk' hkp hS' hbt
          go_wp2_with fail
          exact ⟨⟨k + 1, S', by omega, by go_num, HNx.out⟩, zi hlt⟩
    · have e : k = b.os.length := by omega
      subst e
      have hC6 : ∀ j, wr.cell? ⟨w.heap.size + 1, j, none⟩ = (bC b a0 a1 a2 a3 c0 c1 c2 c3)[j]? := fun j => (World.cell?_of_block (a := ⟨w.heap.size + 1, j, none⟩) (HJ.out.2.2.block (w.heap.size + 1) (by omega) (by omega))).trans (hC5 j)
      have hz6 : w.heap.size + 1 < wr.heap.size := by have := HJ.out.2.2.size; omega
      have cK6 := HbK.out.cell
      have hzK6 := HbK.out.lt
      have HPt : Hid (∀ k (h : k < b.os.length), (Gate.greatest l b.os s).getD k false = !S k) := fun k h => HJ.out.1.part HM.out.2.len k h
      have HPl : Hid ((Gate.greatest l b.os s).length = b.os.length) := (Gate.zaT _ _ _).trans HM.out.2.len
      have HKS : Hid (jg b.os w0.heap.size S wr /\ Below w.heap.size w wr) := ⟨HJ.out.2.1, HBr.out⟩
      obtain ⟨W6, hW6⟩ : ∃ W6, W6 = wr := ⟨_, rfl⟩
      rw [<- hW6] at hC6 hz6 cK6 hzK6 HKS ⊢
      clear hW6 HJ HMr HbF hC5 HBw0r hrk
      go_wp2_with fail
      go_loopw [12, 46] (fun v0 iv wr => ∃ (k : Nat) (v : Value), v = v0 /\ k <= b.os.length /\ iv = .int .i64 k /\ Hid (wr.ownsRow W6.heap.size 3 1 v (Gate.y7 (Gate.greatest l b.os s) k).length (ints (Gate.y7 (Gate.greatest l b.os s) k)) /\ Below W6.heap.size W6 wr)) (fun _ iv _ => b.os.length - (intOf iv).toNat)
      case atStart => exact ⟨0, _, rfl, Nat.zero_le _, rfl, World.ownsRow_nil _ _ _ _, Below.refl _ _⟩
      case round =>
        obtain ⟨k, v, hv, hk, rfl, HQ⟩ := hrel
        subst hv
        have hkn : k <= 40 := by have := HO.out.1; omega
        have HBr : Hid (Below w.heap.size w wr) := HKS.out.2.trans (HQ.out.2.mono HKS.out.2.size)
        by_cases hlt : k < b.os.length
        · obtain ⟨ob, off, v0, v1, q0, q1, rfl, hob, hsm, hl0, hl1, d0, d1, d2, d3, d4, d5, d6⟩ := HK.out.os.load HBr.out k hlt
          have hltI : (k : Int) < (b.os.length : Int) := by omega
          have hob' : ob < wr.heap.size := Nat.lt_of_lt_of_le hob HBr.out.size
          have HSm : Hid b.os[k].Small := hsm
          obtain ⟨fk, hfk, hfS⟩ := HKS.out.1
          have HFk : Hid (zN wr w0.heap.size fk /\ (fk b.os[k].kd b.os[k].nm).isSome = S k) := ⟨hfk.mono HQ.out.2, hfS k hlt⟩
          have cKr := (HQ.out.2.cell (p := ⟨w1.heap.size + 1 + 1, 0, none⟩) hzK6).trans cK6
          have hzKr := Nat.lt_of_lt_of_le hzK6 HQ.out.2.size
          have HLL : Hid ((Gate.y7 (Gate.greatest l b.os s) k).length <= 40) := by have := Gate.zcB (Gate.greatest l b.os s) k; show _ <= _; omega
          have hpt := HPt.out k hlt
          have hgl : k < (Gate.greatest l b.os s).length := by rw [HPl.out]; exact hlt
          have hgk : (Gate.greatest l b.os s)[k] = !S k := by rw [<- hpt]; simp [List.getElem?_eq_getElem hgl]
          clear hsm hl0 hl1 hfk hfS hpt
          go_wp2_with fail
          have hO := za (zG wr (oC b.os[k] v0 v1 q0 q1) 119) (by simp) (Below.refl _ (wr.alloc (.cells (oC b.os[k] v0 v1 q0 q1) 119))).drew
          have hBo : Below wr.heap.size wr (wr.alloc (.cells (oC b.os[k] v0 v1 q0 q1) 119)).drew := ((Below.refl _ _).alloc (Nat.le_refl _) _).drew
          obtain ⟨W7, hW7⟩ : ∃ W7, W7 = wr.alloc (.cells (oC b.os[k] v0 v1 q0 q1) 119) := ⟨_, rfl⟩
          have hzO : wr.heap.size < W7.drew.heap.size := by rw [hW7]; show wr.heap.size < (wr.alloc (.cells (oC b.os[k] v0 v1 q0 q1) 119)).heap.size; simp
          rw [<- hW7] at hO hBo ⊢
          clear hW7 d0 d1 d2 d3 d4 d5 d6
          have hB := hBo
          have cK := (hBo.cell (p := ⟨w1.heap.size + 1 + 1, 0, none⟩) hzKr).trans cKr
          have hzK := Nat.lt_of_lt_of_le hzKr hBo.size
          clear hBo cKr
          cases hSk : S k with
          | true =>
            rw [hSk] at hgk HFk
            have HS := hid (Gate.zgX hgl hgk)
            clear hgk hgl hSk cK6 hC6
            go_region_held3 (fun w' => (∀ j, w'.cell? ⟨wr.heap.size, j, none⟩ = (oC b.os[k] v0 v1 q0 q1)[j]?) /\ w'.cell? ⟨w1.heap.size + 1 + 1, 0, none⟩ = some (.map (some w0.heap.size))) (exact ⟨hO, cK⟩) (first
              | (go_at_call 119; refine (j4 b.os[k] v0 v1 q0 q1 _).mono ?_; rintro e w5 ⟨rfl, hb⟩; have hO := za hO hzO hb; have cK := (hb.cell (p := ⟨w1.heap.size + 1 + 1, 0, none⟩) hzK).trans cK; have hB := hB.trans (hb.mono hB.size); have hzO := Nat.lt_of_lt_of_le hzO hb.size; have hzK := Nat.lt_of_lt_of_le hzK hb.size; clear hb)
              | (go_at_call 117; refine (zw HFk.out.2 (zhZ w0.heap.size fk b.os[k].kd b.os[k].nm _ (by exact HFk.out.1.mono hB) HSm.out.kd HSm.out.nm)).mono ?_; rintro e w6 ⟨rfl, hb⟩; have hO := za hO hzO hb; have cK := (hb.cell (p := ⟨w1.heap.size + 1 + 1, 0, none⟩) hzK).trans cK; have hB := hB.trans (hb.mono hB.size); have hzO := Nat.lt_of_lt_of_le hzO hb.size; have hzK := Nat.lt_of_lt_of_le hzK hb.size; clear hb))
            go_wp2_with fail
            exact ⟨⟨k + 1, _, rfl, by omega, by go_num, by rw [HS.out]; exact yA HQ.out.1 hB, HQ.out.2.trans (hB.mono HQ.out.2.size)⟩, zi hlt⟩
          | false =>
            rw [hSk] at hgk HFk
            have HS := hid (Gate.zfN hgl hgk)
            clear hgk hgl hSk cK6 hC6
            go_region_held3 (fun w' => (∀ j, w'.cell? ⟨wr.heap.size, j, none⟩ = (oC b.os[k] v0 v1 q0 q1)[j]?) /\ w'.cell? ⟨w1.heap.size + 1 + 1, 0, none⟩ = some (.map (some w0.heap.size))) (exact ⟨hO, cK⟩) (first
              | (go_at_call 119; refine (j4 b.os[k] v0 v1 q0 q1 _).mono ?_; rintro e w5 ⟨rfl, hb⟩; have hO := za hO hzO hb; have cK := (hb.cell (p := ⟨w1.heap.size + 1 + 1, 0, none⟩) hzK).trans cK; have hB := hB.trans (hb.mono hB.size); have hzO := Nat.lt_of_lt_of_le hzO hb.size; have hzK := Nat.lt_of_lt_of_le hzK hb.size; clear hb)
              | (go_at_call 117; refine (zw HFk.out.2 (zhZ w0.heap.size fk b.os[k].kd b.os[k].nm _ (by exact HFk.out.1.mono hB) HSm.out.kd HSm.out.nm)).mono ?_; rintro e w6 ⟨rfl, hb⟩; have hO := za hO hzO hb; have cK := (hb.cell (p := ⟨w1.heap.size + 1 + 1, 0, none⟩) hzK).trans cK; have hB := hB.trans (hb.mono hB.size); have hzO := Nat.lt_of_lt_of_le hzO hb.size; have hzK := Nat.lt_of_lt_of_le hzK hb.size; clear hb))
            have HQ3 := qJ (yA HQ.out.1 hB) (HQ.out.2.trans (hB.mono HQ.out.2.size))
            go_wp2_with (at_builtin; refine wpList_append_own _ rfl (.tmp 56) (.tmp 58) 35 rfl W6.heap.size 3 i0 (.int .i64 0) 1 8 Tryz.underlying35 HI0.out.1 HI0.out.2.1 HI0.out.2.2.1 HI0.out.2.2.2 rfl (by decide) _ _ _ rfl (HQ3.out.1.alloc _) ⟨w6.heap.size, 0, none⟩ 1 1 [.int .i64 (k : Int)] rfl rfl (zbI _ _ _) (by intro u hu; simp at hu; subst hu; rfl) (by have := HLL.out; unfold maxLen; omega) (by have := HLL.out; omega) (by have := HQ3.out.2.size; simp; omega) ?_; intro v' w8 hown' hgr _)
            have hgb : ∀ g', v.ownBlock = some g' -> W6.heap.size <= g' := fun g' hg' => (HQ3.out.1.lt g' hg').1
            refine ⟨⟨k + 1, _, rfl, by omega, by go_num, ?_, zam HQ3.out.2 HQ3.out.2.size hgr hgb⟩, zi hlt⟩
            rw [HS.out, List.length_append]
            have e1 : ints (Gate.y7 (Gate.greatest l b.os s) k ++ [(k : Int)]) = ints (Gate.y7 (Gate.greatest l b.os s) k) ++ [.int .i64 (k : Int)] := by simp [ints]
            rw [e1]
            exact hown'
        · have e : k = b.os.length := by omega
          subst e
          have HW : Hid (wr.ownsRow w.heap.size 3 1 v (Gate.places (Gate.greatest l b.os s)).length (ints (Gate.places (Gate.greatest l b.os s))) /\ Below w.heap.size w wr) := by
            unfold Gate.places
            rw [HPl.out]
            exact ⟨jo HQ.out.1 HKS.out.2.size, HBr.out⟩
          clear HQ hlt hk hC6
          go_wp2_with fail
          go_ret
          exact ⟨v, rfl, HW.out⟩
end Go.Proofs.YtfpeplbmfbepcaaGreat

namespace Go.Proofs.YtfpeplbmfbepcaaGreat
open Go.RowKit
theorem zoJ {f : ByteArray -> ByteArray -> Option Int} {b : Bk} (h : zbt f b.os b.os.length) (hok : zew b.os) : zoo f b.os (Gate.endings b.os) := by
  refine ⟨by simp [Gate.endings], fun j hj => ?_⟩
  rw [h, List.take_of_length_le (Nat.le_refl _)]
  have e : (Gate.endings b.os).getD j false = b.os[j].en := by simp [Gate.endings, hj]
  rw [e, Bool.eq_iff_iff, List.any_eq_true]
  constructor
  · rintro ⟨o, ho, h2⟩
    obtain ⟨i, hi, rfl⟩ := List.mem_iff_getElem.1 ho
    unfold Gate.jV at h2
    simp only [Bool.and_eq_true, decide_eq_true_eq] at h2
    have := hok i j hi hj h2.2.1 h2.2.2
    subst this
    exact h2.1
  · intro h2
    exact ⟨b.os[j], List.getElem_mem hj, by simp [h2, Gate.jV]⟩
theorem zgR.of {l : Lw} {b : Bk} (h : Gate.yc l.ss l.ms = true /\ Gate.zK l b = true) : zgR l b.os :=
  ⟨(Gate.zcK h.1 h.2).1, zew.of h.2, zne h.2, Gate.zem h.1, (Gate.zcK h.1 h.2).2⟩
set_option maxHeartbeats 4000000 in
theorem zoY (l : Lw) (la lb lc : Option Addr) (lca lcb lcc : Nat) (b : Bk) (a0 a1 a2 a3 : Option Addr) (c0 c1 c2 c3 : Nat) (w : World) (hl : qB w l la lb lc) (hb : y9 w b a0 a1 a2 a3) (hok : zgR l b.os) :
    Calls Tryz.prog 36 #[.agg (lC l la lb lc lca lcb lcc), .agg (bC b a0 a1 a2 a3 c0 c1 c2 c3)] w fun e w' => ∃ v, e = .returned v /\ w'.ownsRow w.heap.size 3 1 v (Gate.zdX l b.os).length (ints (Gate.zdX l b.os)) /\ Below w.heap.size w w' := by
  have HK : Hid (y9 w b a0 a1 a2 a3) := hb
  have HL : Hid (qB w l la lb lc) := hl
  have HO := hid hok
  have HN : Hid (b.os.length <= 1048576) := Nat.le_trans hok.few (by decide)
  clear hb hl hok
  go_enter Tryz.func36, Tryz.ntmps36
  go_wp2_with fail
  obtain ⟨hL0, hX0⟩ := yP w (lC l la lb lc lca lcb lcc) (bC b a0 a1 a2 a3 c0 c1 c2 c3) 41 48
  have hB0 := zn w (.cells (lC l la lb lc lca lcb lcc) 41) (.cells (bC b a0 a1 a2 a3 c0 c1 c2 c3) 48)
  obtain ⟨W0, hW0⟩ : ∃ W0, W0 = (w.alloc (.cells (lC l la lb lc lca lcb lcc) 41)).alloc (.cells (bC b a0 a1 a2 a3 c0 c1 c2 c3) 48) := ⟨_, rfl⟩
  have hz0 : w.heap.size + 1 < W0.heap.size := by rw [hW0]; simp
  rw [<- hW0] at hL0 hX0 hB0 ⊢
  clear hW0
  have hL := za hL0 (Nat.lt_of_succ_lt hz0) (Below.refl W0.heap.size W0).drew
  have hX := za hX0 hz0 (Below.refl W0.heap.size W0).drew
  have hz : w.heap.size + 1 < W0.drew.heap.size := hz0
  have hB := hB0.drew
  clear hL0 hX0 hz0 hB0
  go_region_held3 (fun w' => (∀ j, w'.cell? ⟨w.heap.size, j, none⟩ = (lC l la lb lc lca lcb lcc)[j]?) /\ ∀ j, w'.cell? ⟨w.heap.size + 1, j, none⟩ = (bC b a0 a1 a2 a3 c0 c1 c2 c3)[j]?) (exact ⟨hL, hX⟩) (first
    | (go_at_call 74; refine (zjG b a0 a1 a2 a3 c0 c1 c2 c3 _ (by exact HK.out.mono hB) HN.out).mono ?_; rintro e w1 ⟨⟨r, f, rfl, hr, hf, hef⟩, hb⟩; have hL := za hL (Nat.lt_of_succ_lt hz) hb; have hX := za hX hz hb; have hB := hB.trans (hb.mono hB.size); have hz := Nat.lt_of_lt_of_le hz hb.size; clear hb)
    | (go_at_call 73; refine (zo4 l la lb lc lca lcb lcc b a0 a1 a2 a3 c0 c1 c2 c3 r f (Gate.endings b.os) _ (by exact HL.out.mono hB) (by exact HK.out.mono hB) (by exact hf) (zoJ hef HO.out.one) HO.out).mono ?_; rintro e w2 ⟨v, rfl, hv, hb⟩; have HV : Hid (w2.ownsRow w.heap.size 3 1 v (Gate.zdX l b.os).length (ints (Gate.zdX l b.os)) /\ Below w.heap.size w w2) := ⟨jo hv hB.size, hB.trans (hb.mono hB.size)⟩; have hL := za hL (Nat.lt_of_succ_lt hz) hb; have hX := za hX hz hb; clear hb hv))
  go_wp2_with fail
  go_ret
  exact ⟨v, rfl, HV.out⟩
end Go.Proofs.YtfpeplbmfbepcaaGreat

namespace Go.Proofs.YtfpeplbmfbepcaaGreat
open Go.RowKit
set_option maxRecDepth 20000 in
set_option maxHeartbeats 4000000 in
theorem zeQ (l : Lw) (la lb lc : Option Addr) (lca lcb lcc : Nat) (b : Bk) (a0 a1 a2 a3 : Option Addr) (c0 c1 c2 c3 : Nat) (w : World) (hl : qB w l la lb lc) (hb : y9 w b a0 a1 a2 a3) (hlf : l.Few) (hbf : b.Few) (hz : yZ b.os <= 1048576) :
    Calls Tryz.prog 9 #[.agg (l.cells la lb lc lca lcb lcc), .agg (b.cells a0 a1 a2 a3 c0 c1 c2 c3)] w fun e w' => ∃ v, e = .returned v /\ w'.ownsRow w.heap.size 3 1 v (Gate.zaA l b).length (ints (Gate.zaA l b)) /\ Below w.heap.size w w' := by
  have HK : Hid (y9 w b a0 a1 a2 a3) := hb
  have HL : Hid (qB w l la lb lc) := hl
  have HF : Hid (l.Few /\ b.Few /\ yZ b.os <= 1048576) := ⟨hlf, hbf, hz⟩
  clear hb hl hlf hbf hz
  unfold Lw.cells Bk.cells
  go_enter Tryz.func9, Tryz.ntmps9
  go_wp2_with fail
  obtain ⟨hL0, hX0⟩ := yP w #[.slice la l.ss.length lca, .slice lb l.ms.length lcb, .slice lc l.ts.length lcc] #[.int .i64 b.now, .int .i64 b.tick, .int .i64 b.given, .slice a0 b.os.length c0, .slice a1 b.gs.length c1, .slice a2 b.ls.length c2, .slice a3 b.ps.length c3] 41 48
  have HBi : Hid (Below w.heap.size w ((w.alloc (.cells #[.slice la l.ss.length lca, .slice lb l.ms.length lcb, .slice lc l.ts.length lcc] 41)).alloc (.cells #[.int .i64 b.now, .int .i64 b.tick, .int .i64 b.given, .slice a0 b.os.length c0, .slice a1 b.gs.length c1, .slice a2 b.ls.length c2, .slice a3 b.ps.length c3] 48))) := zn w _ _
  obtain ⟨W0, hW0⟩ : ∃ W0, W0 = (w.alloc (.cells #[.slice la l.ss.length lca, .slice lb l.ms.length lcb, .slice lc l.ts.length lcc] 41)).alloc (.cells #[.int .i64 b.now, .int .i64 b.tick, .int .i64 b.given, .slice a0 b.os.length c0, .slice a1 b.gs.length c1, .slice a2 b.ls.length c2, .slice a3 b.ps.length c3] 48) := ⟨_, rfl⟩
  have hz0 : w.heap.size + 1 < W0.heap.size := by rw [hW0]; simp
  rw [<- hW0] at HBi hX0 hL0 ⊢
  clear hW0
  refine (ziL l la lb lc lca lcb lcc b a0 a1 a2 a3 c0 c1 c2 c3 _ (HL.out.mono HBi.out) (HK.out.mono HBi.out) HF.out.1 HF.out.2.1 HF.out.2.2).mono ?_
  rintro e w1 ⟨rfl, hb0⟩
  have hX1 := za hX0 hz0 hb0
  have hL1 := za hL0 (Nat.lt_of_succ_lt hz0) hb0
  have hz1 := Nat.lt_of_lt_of_le hz0 hb0.size
  have hy1 := Nat.lt_of_succ_lt hz1
  have HBi : Hid (Below w.heap.size w w1) := HBi.out.trans (hb0.mono HBi.out.size)
  clear hb0 hX0 hL0 hz0
  by_cases t : Gate.jI l b = true
  rotate_left
  · have HN : Hid (Gate.zaA l b = []) := by unfold Hid Gate.zaA; rw [if_neg t]
    rw [Bool.eq_false_iff.2 t]
    clear t
    go_wp2_with fail
    go_ret
    exact ⟨_, rfl, by rw [HN.out]; exact World.ownsRow_nil _ _ _ _, HBi.out⟩
  have HM : Hid (Gate.zaA l b = Gate.zdX l b.os) := by unfold Hid Gate.zaA; rw [if_pos t]
  have HT : Hid (Gate.jI l b = true) := t
  rw [t]
  clear t
  go_wp2_with fail
  refine (zoY l la lb lc lca lcb lcc b a0 a1 a2 a3 c0 c1 c2 c3 _ (HL.out.mono HBi.out) (HK.out.mono HBi.out) (zgR.of (book_facts HT.out))).mono ?_
  rintro e w2 ⟨v, rfl, hv, hb1⟩
  have HV : Hid (w2.ownsRow w.heap.size 3 1 v (Gate.zaA l b).length (ints (Gate.zaA l b)) /\ Below w.heap.size w w2) := by rw [HM.out]; exact ⟨jo hv HBi.out.size, HBi.out.trans (hb1.mono HBi.out.size)⟩
  clear hv hb1
  go_wp2_with fail
  go_ret
  exact ⟨v, rfl, HV.out⟩
end Go.Proofs.YtfpeplbmfbepcaaGreat

namespace Go.Proofs.YtfpeplbmfbepcaaGreat
open Go.RowKit
set_option maxRecDepth 20000 in
set_option maxHeartbeats 8000000 in
theorem zk0 (l : Lw) (la lb lc : Option Addr) (lca lcb lcc : Nat) (b : Bk) (a0 a1 a2 a3 : Option Addr) (c0 c1 c2 c3 : Nat) (w : World) (hl : qB w l la lb lc) (ho : y9 w b a0 a1 a2 a3) :
    Calls Tryz.prog 3 #[.agg (l.cells la lb lc lca lcb lcc), .agg (b.cells a0 a1 a2 a3 c0 c1 c2 c3)] w fun e w' => e = .returned (.bool true) /\ Below w.heap.size w w' := by
  have HL : Hid (qB w l la lb lc) := hl
  have HO : Hid (y9 w b a0 a1 a2 a3) := ho
  have HSm : Hid (l.Small /\ b.Small) := ⟨hl.small, ho.small⟩
  clear hl ho
  unfold Lw.cells Bk.cells
  go_enter Tryz.func3, Tryz.ntmps3
  go_wp2_with fail
  obtain ⟨hX0, hO0⟩ := yP w #[.slice la l.ss.length lca, .slice lb l.ms.length lcb, .slice lc l.ts.length lcc] #[.int .i64 b.now, .int .i64 b.tick, .int .i64 b.given, .slice a0 b.os.length c0, .slice a1 b.gs.length c1, .slice a2 b.ls.length c2, .slice a3 b.ps.length c3] 26 32
  have hB0 := zn w (.cells #[.slice la l.ss.length lca, .slice lb l.ms.length lcb, .slice lc l.ts.length lcc] 26) (.cells #[.int .i64 b.now, .int .i64 b.tick, .int .i64 b.given, .slice a0 b.os.length c0, .slice a1 b.gs.length c1, .slice a2 b.ls.length c2, .slice a3 b.ps.length c3] 32)
  obtain ⟨W0, hW0⟩ : ∃ W0, W0 = (w.alloc (.cells #[.slice la l.ss.length lca, .slice lb l.ms.length lcb, .slice lc l.ts.length lcc] 26)).alloc (.cells #[.int .i64 b.now, .int .i64 b.tick, .int .i64 b.given, .slice a0 b.os.length c0, .slice a1 b.gs.length c1, .slice a2 b.ls.length c2, .slice a3 b.ps.length c3] 32) := ⟨_, rfl⟩
  have zX0 : w.heap.size < W0.heap.size := by rw [hW0]; simp; omega
  have zO0 : w.heap.size + 1 < W0.heap.size := by rw [hW0]; simp
  rw [<- hW0] at hB0 hX0 hO0 ⊢
  clear hW0
  refine (zjz l _ _ _ _ _ _ _ _ (HL.out.mono hB0) (by omega) (by omega)).mono ?_
  rintro e w1 ⟨rfl, hb⟩
  have hX1 := za hX0 zX0 hb
  have zX1 := Nat.lt_of_lt_of_le zX0 hb.size
  have hO1 := za hO0 zO0 hb
  have zO1 := Nat.lt_of_lt_of_le zO0 hb.size
  have hB1 := hB0.trans (hb.mono hB0.size)
  clear hb hX0 zX0 hO0 zO0 hB0
  by_cases hsz : (l.sz : Int) <= 1048576
  rotate_left
  · rw [zx (by omega)]
    go_wp2_with fail
    go_ret
    exact ⟨rfl, hB1⟩
  have HF : Hid l.Few := Lw.few hsz
  have hneg : decide (1048576 - (l.sz : Int) < 0) = false := by simp; omega
  rw [zH hsz]
  go_wp2_with fail
  refine (zik b _ _ _ _ _ _ _ _ _ _ (HO.out.mono hB1) (by omega) (by omega)).mono ?_
  rintro e w2 ⟨rfl, hb⟩
  have hX2 := za hX1 zX1 hb
  have zX2 := Nat.lt_of_lt_of_le zX1 hb.size
  have hO2 := za hO1 zO1 hb
  have zO2 := Nat.lt_of_lt_of_le zO1 hb.size
  have hB2 := hB1.trans (hb.mono hB1.size)
  clear hb hX1 zX1 hO1 zO1 hB1
  by_cases hoz : (b.sz : Int) <= 1048576 - (l.sz : Int)
  rotate_left
  · rw [zx (by omega)]
    go_wp2_with fail
    go_ret
    exact ⟨rfl, hB2⟩
  have HG : Hid b.Few := Bk.few (by omega)
  have HZ : Hid (yZ b.os <= 1048576) := by unfold Bk.sz at hoz; show _ <= _; omega
  have hneg2 : decide (1048576 - (l.sz : Int) - (b.sz : Int) < 0) = false := by simp; omega
  rw [zH hoz]
  have HN : Hid ((Gate.zaA l b).length <= 1048576) := (Gate.zps l b HG.out)
  have HNm : Hid ((Gate.zaA l b).length <= maxLen) := by have := HN.out; unfold maxLen; show _ <= _; omega
  obtain ⟨xs, hxs⟩ : ∃ xs, xs = Gate.zaA l b := ⟨_, rfl⟩
  have HXS : Hid (xs = Gate.zaA l b) := hxs
  rw [<- hxs] at HN HNm
  clear hxs
  go_wp2_with fail
  have hX := za hX2 zX2 (Below.refl w2.heap.size w2).drew
  have zX : w.heap.size < w2.drew.heap.size := zX2
  have hO := za hO2 zO2 (Below.refl w2.heap.size w2).drew
  have zO : w.heap.size + 1 < w2.drew.heap.size := zO2
  have hB := hB2.drew
  clear hX2 zX2 hO2 zO2 hB2
  go_region_held3 (fun w' => (∀ j, w'.cell? ⟨w.heap.size, j, none⟩ = (#[.slice la l.ss.length lca, .slice lb l.ms.length lcb, .slice lc l.ts.length lcc] : Array Value)[j]?) /\ (∀ j, w'.cell? ⟨w.heap.size + 1, j, none⟩ = (#[.int .i64 b.now, .int .i64 b.tick, .int .i64 b.given, .slice a0 b.os.length c0, .slice a1 b.gs.length c1, .slice a2 b.ls.length c2, .slice a3 b.ps.length c3] : Array Value)[j]?)) (exact ⟨hX, hO⟩) (first
    | (go_at_call 7; refine (zcN l _ _ _ _ _ _ _ (by exact HL.out.mono hB) HF.out).mono ?_; rintro e w3 ⟨pa, pb, pc, rfl, hl30, hb⟩; unfold Lw.cells; have hl3 := hl30; have hX := za hX zX hb; have hO := za hO zO hb; have hB := hB.trans (hb.mono hB.size); have zX := Nat.lt_of_lt_of_le zX hb.size; have zO := Nat.lt_of_lt_of_le zO hb.size; clear hb)
    | (go_at_call 8; refine (zjb b _ _ _ _ _ _ _ _ _ (by exact HO.out.mono hB) HG.out).mono ?_; rintro e w3 ⟨pd, pe, pf, pg, rfl, ho30, ho3h0, hb⟩; unfold Bk.cells; have ho3 := ho30; have ho3h := ho3h0; have hX := za hX zX hb; have hO := za hO zO hb; have hl3 := hl3.mono hb; have hB := hB.trans (hb.mono hB.size); have zX := Nat.lt_of_lt_of_le zX hb.size; have zO := Nat.lt_of_lt_of_le zO hb.size; clear hb)
    | (go_at_call 6; refine (zjE l _ _ _ _ _ _ b _ _ _ _ _ _ _ _ _ (by exact hl3) (by exact ho3) (by exact ho3h) HG.out HZ.out).mono ?_; rintro e w3 ⟨vw, rfl, hvw, hb⟩; rw [<- HXS.out] at hvw; obtain ⟨aw, cw, rfl, hiw⟩ := zbV hvw HNm.out; clear hvw; have kw := hiw; clear hl3; clear ho3; clear ho3h; have hX := za hX zX hb; have hO := za hO zO hb; have hB := hB.trans (hb.mono hB.size); have zX := Nat.lt_of_lt_of_le zX hb.size; have zO := Nat.lt_of_lt_of_le zO hb.size; clear hb))
  have hX3 := hX
  have zX3 := zX
  have hO3 := hO
  have zO3 := zO
  have kw3 := kw
  have hB3 := hB
  clear hX zX hO zO kw hB
  have sc3 : Since w3 w3 := ⟨Below.refl _ _⟩
  have HA : Hid (Below w.heap.size w w3 /\ w.heap.size + 1 < w3.heap.size) := ⟨hB3, zO3⟩
  have HKW : Hid (yM w3 aw xs) := kw3
  go_wp2_with fail
  refine (zeS l _ _ _ _ _ _ _ (HL.out.mono hB3) HF.out).mono ?_
  rintro e w4 ⟨lo1, x0, x1, x2, rfl, hlo1, hown, hb⟩
  have kl4 := hown.at HSm.out.1
  have fl4 := hown.form
  have hX4 := za hX3 zX3 hb
  have zX4 := Nat.lt_of_lt_of_le zX3 hb.size
  have hO4 := za hO3 zO3 hb
  have zO4 := Nat.lt_of_lt_of_le zO3 hb.size
  have kw4 := kw3.mono hb
  have sc4 := sc3.mono hb
  have hB4 := hB3.trans (hb.mono hB3.size)
  clear hb hX3 zX3 hO3 zO3 kw3 sc3 hB3 hown
  have HLo1 : Hid (w3.heap.size <= lo1) := hlo1
  clear hlo1
  unfold Lw.cells
  have HS34 : Hid (w3.heap.size <= w4.heap.size) := sc4.below.size
  go_wp2_with fail
  have hb : Below w4.heap.size w4 (w4.alloc (.cells #[.slice (some ⟨x0, 0, none⟩) l.ss.length l.ss.length, .slice (some ⟨x1, 0, none⟩) l.ms.length l.ms.length, .slice (some ⟨x2, 0, none⟩) l.ts.length l.ts.length] 41)) := (Below.refl _ _).alloc (Nat.le_refl _) _
  have hN := zG w4 #[.slice (some ⟨x0, 0, none⟩) l.ss.length l.ss.length, .slice (some ⟨x1, 0, none⟩) l.ms.length l.ms.length, .slice (some ⟨x2, 0, none⟩) l.ts.length l.ts.length] 41
  obtain ⟨w5, hN0⟩ : ∃ w5, w5 = w4.alloc (.cells #[.slice (some ⟨x0, 0, none⟩) l.ss.length l.ss.length, .slice (some ⟨x1, 0, none⟩) l.ms.length l.ms.length, .slice (some ⟨x2, 0, none⟩) l.ts.length l.ts.length] 41) := ⟨_, rfl⟩
  have hNz : w4.heap.size < w5.heap.size := by rw [hN0]; simp
  rw [<- hN0] at hb hN ⊢
  clear hN0
  have hX5 := za hX4 zX4 hb
  have zX5 := Nat.lt_of_lt_of_le zX4 hb.size
  have hO5 := za hO4 zO4 hb
  have zO5 := Nat.lt_of_lt_of_le zO4 hb.size
  have kw5 := kw4.mono hb
  have sc5 := sc4.mono hb
  have kl5 := kl4.mono hb
  have fl5 := fl4.mono hb
  have hB5 := hB4.trans (hb.mono hB4.size)
  clear hb hX4 zX4 hO4 zO4 kw4 sc4 kl4 fl4 hB4
  have hV5 := hN
  have zV5 := hNz
  clear hN hNz
  have ord45 : w4.heap.size < w5.heap.size := zV5
  have s55 : Since w5 w5 := ⟨Below.refl _ _⟩
  refine (zcg b _ _ _ _ _ _ _ _ _ (HO.out.mono hB5) HG.out).mono ?_
  rintro e w6 ⟨lo2, y0, y1, y2, y3, rfl, hlo2, hown, hb⟩
  have ko6 := hown.at HSm.out.2
  have fb6 := hown.form
  have hX6 := za hX5 zX5 hb
  have zX6 := Nat.lt_of_lt_of_le zX5 hb.size
  have hO6 := za hO5 zO5 hb
  have zO6 := Nat.lt_of_lt_of_le zO5 hb.size
  have hV6 := za hV5 zV5 hb
  have zV6 := Nat.lt_of_lt_of_le zV5 hb.size
  have kw6 := kw5.mono hb
  have sc6 := sc5.mono hb
  have kl6 := kl5.mono hb
  have fl6 := fl5.mono hb
  have s56 := s55.mono hb
  have hB6 := hB5.trans (hb.mono hB5.size)
  clear hb hX5 zX5 hO5 zO5 hV5 zV5 kw5 sc5 kl5 fl5 s55 hB5 hown
  have ord56 : w5.heap.size <= w6.heap.size := s56.below.size
  clear s56
  have HLo2 : Hid (w5.heap.size <= lo2) := hlo2
  clear hlo2
  unfold Bk.cells
  go_wp2_with fail
  have hb : Below w6.heap.size w6 (w6.alloc (.cells #[.int .i64 b.now, .int .i64 b.tick, .int .i64 b.given, .slice (some ⟨y0, 0, none⟩) b.os.length b.os.length, .slice (some ⟨y1, 0, none⟩) b.gs.length b.gs.length, .slice (some ⟨y2, 0, none⟩) b.ls.length b.ls.length, .slice (some ⟨y3, 0, none⟩) b.ps.length b.ps.length] 48)) := (Below.refl _ _).alloc (Nat.le_refl _) _
  have hN := zG w6 #[.int .i64 b.now, .int .i64 b.tick, .int .i64 b.given, .slice (some ⟨y0, 0, none⟩) b.os.length b.os.length, .slice (some ⟨y1, 0, none⟩) b.gs.length b.gs.length, .slice (some ⟨y2, 0, none⟩) b.ls.length b.ls.length, .slice (some ⟨y3, 0, none⟩) b.ps.length b.ps.length] 48
  obtain ⟨w7, hN0⟩ : ∃ w7, w7 = w6.alloc (.cells #[.int .i64 b.now, .int .i64 b.tick, .int .i64 b.given, .slice (some ⟨y0, 0, none⟩) b.os.length b.os.length, .slice (some ⟨y1, 0, none⟩) b.gs.length b.gs.length, .slice (some ⟨y2, 0, none⟩) b.ls.length b.ls.length, .slice (some ⟨y3, 0, none⟩) b.ps.length b.ps.length] 48) := ⟨_, rfl⟩
  have hNz : w6.heap.size < w7.heap.size := by rw [hN0]; simp
  rw [<- hN0] at hb hN ⊢
  clear hN0
  have hX7 := za hX6 zX6 hb
  have zX7 := Nat.lt_of_lt_of_le zX6 hb.size
  have hO7 := za hO6 zO6 hb
  have zO7 := Nat.lt_of_lt_of_le zO6 hb.size
  have hV7 := za hV6 zV6 hb
  have zV7 := Nat.lt_of_lt_of_le zV6 hb.size
  have kw7 := kw6.mono hb
  have sc7 := sc6.mono hb
  have kl7 := kl6.mono hb
  have fl7 := fl6.mono hb
  have ko7 := ko6.mono hb
  have fb7 := fb6.mono hb
  have hB7 := hB6.trans (hb.mono hB6.size)
  clear hb hX6 zX6 hO6 zO6 hV6 zV6 kw6 sc6 kl6 fl6 ko6 fb6 hB6
  have hU7 := hN
  have zU7 := hNz
  clear hN hNz
  have s77 : Grown w7.heap.size w7 := ⟨Nat.le_refl _⟩
  have HOrd : Hid (w.heap.size + 1 < w3.heap.size /\ w4.heap.size < w5.heap.size /\ w5.heap.size <= lo2 /\ w5.heap.size <= w6.heap.size /\ w6.heap.size < w7.heap.size /\ w3.heap.size <= w4.heap.size /\ w3.heap.size <= lo1) := ⟨HA.out.2, ord45, HLo2.out, ord56, zU7, HS34.out, HLo1.out⟩
  clear ord45 ord56
  refine (zeQ l _ _ _ _ _ _ b _ _ _ _ _ _ _ _ _ kl7 ko7 HF.out HG.out HZ.out).mono ?_
  rintro e w8 ⟨vg, rfl, hvg, hb⟩
  have hX8 := za hX7 zX7 hb
  have zX8 := Nat.lt_of_lt_of_le zX7 hb.size
  have hO8 := za hO7 zO7 hb
  have zO8 := Nat.lt_of_lt_of_le zO7 hb.size
  have hV8 := za hV7 zV7 hb
  have zV8 := Nat.lt_of_lt_of_le zV7 hb.size
  have hU8 := za hU7 zU7 hb
  have zU8 := Nat.lt_of_lt_of_le zU7 hb.size
  have kw8 := kw7.mono hb
  have sc8 := sc7.mono hb
  have kl8 := kl7.mono hb
  have fl8 := fl7.mono hb
  have ko8 := ko7.mono hb
  have fb8 := fb7.mono hb
  have s78 := s77.mono hb
  have hB8 := hB7.trans (hb.mono hB7.size)
  clear hb hX7 zX7 hO7 zO7 hV7 zV7 hU7 zU7 kw7 sc7 kl7 fl7 ko7 fb7 s77 hB7
  rw [<- HXS.out] at hvg
  obtain ⟨ag, cg, rfl, _⟩ := zbV hvg HNm.out
  have kg8 : zdq w7.heap.size w8 (.slice ag xs.length cg) xs := ⟨hvg⟩
  clear hvg
  go_wp2_with fail
  refine (zds _ _ _ _ xs _ (kg8.ints HNm.out) kw8).mono ?_
  rintro e w8b ⟨rfl, hb⟩
  have hX9 := za hX8 zX8 hb
  have zX9 := Nat.lt_of_lt_of_le zX8 hb.size
  have hO9 := za hO8 zO8 hb
  have zO9 := Nat.lt_of_lt_of_le zO8 hb.size
  have hV9 := za hV8 zV8 hb
  have zV9 := Nat.lt_of_lt_of_le zV8 hb.size
  have hU9 := za hU8 zU8 hb
  have zU9 := Nat.lt_of_lt_of_le zU8 hb.size
  have kw9 := kw8.mono hb
  have sc9 := sc8.mono hb
  have kl9 := kl8.mono hb
  have fl9 := fl8.mono hb
  have ko9 := ko8.mono hb
  have fb9 := fb8.mono hb
  have s79 := s78.mono hb
  have kg9 := kg8.mono hb
  have hB9 := hB8.trans (hb.mono hB8.size)
  clear hb hX8 zX8 hO8 zO8 hV8 zV8 hU8 zU8 kw8 sc8 kl8 fl8 ko8 fb8 s78 kg8 hB8
  go_wp2_with fail
  have hX := za hX9 zX9 (Below.refl w8b.heap.size w8b).drew
  have zX : w.heap.size < w8b.drew.heap.size := zX9
  have hO := za hO9 zO9 (Below.refl w8b.heap.size w8b).drew
  have zO : w.heap.size + 1 < w8b.drew.heap.size := zO9
  have hV := za hV9 zV9 (Below.refl w8b.heap.size w8b).drew
  have zV : w4.heap.size < w8b.drew.heap.size := zV9
  have hU := za hU9 zU9 (Below.refl w8b.heap.size w8b).drew
  have zU : w6.heap.size < w8b.drew.heap.size := zU9
  have kw := kw9.mono (Below.refl w8b.heap.size w8b).drew
  have sc := sc9.mono (Below.refl w8b.heap.size w8b).drew
  have kl := kl9.mono (Below.refl w8b.heap.size w8b).drew
  have fl := fl9.mono (Below.refl w8b.heap.size w8b).drew
  have ko := ko9.mono (Below.refl w8b.heap.size w8b).drew
  have fb := fb9.mono (Below.refl w8b.heap.size w8b).drew
  have s7 := s79.mono (Below.refl w8b.heap.size w8b).drew
  have kg := kg9.mono (Below.refl w8b.heap.size w8b).drew
  have hB := hB9.drew
  clear hX9 zX9 hO9 zO9 hV9 zV9 hU9 zU9 kw9 sc9 kl9 fl9 ko9 fb9 s79 kg9 hB9
  go_region_held3 (fun w' => (∀ j, w'.cell? ⟨w.heap.size, j, none⟩ = (#[.slice la l.ss.length lca, .slice lb l.ms.length lcb, .slice lc l.ts.length lcc] : Array Value)[j]?) /\ (∀ j, w'.cell? ⟨w.heap.size + 1, j, none⟩ = (#[.int .i64 b.now, .int .i64 b.tick, .int .i64 b.given, .slice a0 b.os.length c0, .slice a1 b.gs.length c1, .slice a2 b.ls.length c2, .slice a3 b.ps.length c3] : Array Value)[j]?) /\ (∀ j, w'.cell? ⟨w4.heap.size, j, none⟩ = (#[.slice (some ⟨x0, 0, none⟩) l.ss.length l.ss.length, .slice (some ⟨x1, 0, none⟩) l.ms.length l.ms.length, .slice (some ⟨x2, 0, none⟩) l.ts.length l.ts.length] : Array Value)[j]?) /\ (∀ j, w'.cell? ⟨w6.heap.size, j, none⟩ = (#[.int .i64 b.now, .int .i64 b.tick, .int .i64 b.given, .slice (some ⟨y0, 0, none⟩) b.os.length b.os.length, .slice (some ⟨y1, 0, none⟩) b.gs.length b.gs.length, .slice (some ⟨y2, 0, none⟩) b.ls.length b.ls.length, .slice (some ⟨y3, 0, none⟩) b.ps.length b.ps.length] : Array Value)[j]?)) (exact ⟨hX, hO, hV, hU⟩) (first
    | (go_at_call 7; refine (zcN l _ _ _ _ _ _ _ (by exact HL.out.mono hB) HF.out).mono ?_; rintro e w9 ⟨qa, qb, qc, rfl, hl90, hb⟩; unfold Lw.cells; have hl9 := hl90; have hX := za hX zX hb; have hO := za hO zO hb; have hV := za hV zV hb; have hU := za hU zU hb; have kw := kw.mono hb; have sc := sc.mono hb; have kl := kl.mono hb; have fl := fl.mono hb; have ko := ko.mono hb; have fb := fb.mono hb; have s7 := s7.mono hb; have kg := kg.mono hb; have hB := hB.trans (hb.mono hB.size); have zX := Nat.lt_of_lt_of_le zX hb.size; have zO := Nat.lt_of_lt_of_le zO hb.size; have zV := Nat.lt_of_lt_of_le zV hb.size; have zU := Nat.lt_of_lt_of_le zU hb.size; clear hb)
    | (go_at_call 11; refine (zj2 l _ _ _ _ _ _ _ _ _ _ _ _ _ (by exact kl) (by exact hl9)).mono ?_; rintro e w9 ⟨rfl, hb⟩; clear hl9; have hX := za hX zX hb; have hO := za hO zO hb; have hV := za hV zV hb; have hU := za hU zU hb; have kw := kw.mono hb; have sc := sc.mono hb; have kl := kl.mono hb; have fl := fl.mono hb; have ko := ko.mono hb; have fb := fb.mono hb; have s7 := s7.mono hb; have kg := kg.mono hb; have hB := hB.trans (hb.mono hB.size); have zX := Nat.lt_of_lt_of_le zX hb.size; have zO := Nat.lt_of_lt_of_le zO hb.size; have zV := Nat.lt_of_lt_of_le zV hb.size; have zU := Nat.lt_of_lt_of_le zU hb.size; clear hb))
  have hX10 := hX
  have zX10 := zX
  have hO10 := hO
  have zO10 := zO
  have hV10 := hV
  have zV10 := zV
  have hU10 := hU
  have zU10 := zU
  have kw10 := kw
  have sc10 := sc
  have kl10 := kl
  have fl10 := fl
  have ko10 := ko
  have fb10 := fb
  have s710 := s7
  have kg10 := kg
  have hB10 := hB
  clear hX zX hO zO hV zV hU zU kw sc kl fl ko fb s7 kg hB
  go_wp2_with fail
  have hX := za hX10 zX10 (Below.refl w9.heap.size w9).drew
  have zX : w.heap.size < w9.drew.heap.size := zX10
  have hO := za hO10 zO10 (Below.refl w9.heap.size w9).drew
  have zO : w.heap.size + 1 < w9.drew.heap.size := zO10
  have hV := za hV10 zV10 (Below.refl w9.heap.size w9).drew
  have zV : w4.heap.size < w9.drew.heap.size := zV10
  have hU := za hU10 zU10 (Below.refl w9.heap.size w9).drew
  have zU : w6.heap.size < w9.drew.heap.size := zU10
  have kw := kw10.mono (Below.refl w9.heap.size w9).drew
  have sc := sc10.mono (Below.refl w9.heap.size w9).drew
  have kl := kl10.mono (Below.refl w9.heap.size w9).drew
  have fl := fl10.mono (Below.refl w9.heap.size w9).drew
  have ko := ko10.mono (Below.refl w9.heap.size w9).drew
  have fb := fb10.mono (Below.refl w9.heap.size w9).drew
  have s7 := s710.mono (Below.refl w9.heap.size w9).drew
  have kg := kg10.mono (Below.refl w9.heap.size w9).drew
  have hB := hB10.drew
  clear hX10 zX10 hO10 zO10 hV10 zV10 hU10 zU10 kw10 sc10 kl10 fl10 ko10 fb10 s710 kg10 hB10
  go_region_held3 (fun w' => (∀ j, w'.cell? ⟨w.heap.size, j, none⟩ = (#[.slice la l.ss.length lca, .slice lb l.ms.length lcb, .slice lc l.ts.length lcc] : Array Value)[j]?) /\ (∀ j, w'.cell? ⟨w.heap.size + 1, j, none⟩ = (#[.int .i64 b.now, .int .i64 b.tick, .int .i64 b.given, .slice a0 b.os.length c0, .slice a1 b.gs.length c1, .slice a2 b.ls.length c2, .slice a3 b.ps.length c3] : Array Value)[j]?) /\ (∀ j, w'.cell? ⟨w4.heap.size, j, none⟩ = (#[.slice (some ⟨x0, 0, none⟩) l.ss.length l.ss.length, .slice (some ⟨x1, 0, none⟩) l.ms.length l.ms.length, .slice (some ⟨x2, 0, none⟩) l.ts.length l.ts.length] : Array Value)[j]?) /\ (∀ j, w'.cell? ⟨w6.heap.size, j, none⟩ = (#[.int .i64 b.now, .int .i64 b.tick, .int .i64 b.given, .slice (some ⟨y0, 0, none⟩) b.os.length b.os.length, .slice (some ⟨y1, 0, none⟩) b.gs.length b.gs.length, .slice (some ⟨y2, 0, none⟩) b.ls.length b.ls.length, .slice (some ⟨y3, 0, none⟩) b.ps.length b.ps.length] : Array Value)[j]?)) (exact ⟨hX, hO, hV, hU⟩) (first
    | (go_at_call 8; refine (zdZ b _ _ _ _ _ _ _ _ _ (by exact HO.out.mono hB) HG.out).mono ?_; rintro e wA ⟨qd, qe, qf, qg, rfl, hoA0, hb⟩; unfold Bk.cells; have hoA := hoA0; have hX := za hX zX hb; have hO := za hO zO hb; have hV := za hV zV hb; have hU := za hU zU hb; have kw := kw.mono hb; have sc := sc.mono hb; have kl := kl.mono hb; have fl := fl.mono hb; have ko := ko.mono hb; have fb := fb.mono hb; have s7 := s7.mono hb; have kg := kg.mono hb; have hB := hB.trans (hb.mono hB.size); have zX := Nat.lt_of_lt_of_le zX hb.size; have zO := Nat.lt_of_lt_of_le zO hb.size; have zV := Nat.lt_of_lt_of_le zV hb.size; have zU := Nat.lt_of_lt_of_le zU hb.size; clear hb)
    | (go_at_call 12; refine (ziF b _ _ _ _ _ _ _ _ _ _ _ _ _ _ _ _ _ (by exact ko) (by exact hoA)).mono ?_; rintro e wA ⟨rfl, hb⟩; clear hoA; have hX := za hX zX hb; have hO := za hO zO hb; have hV := za hV zV hb; have hU := za hU zU hb; have kw := kw.mono hb; have sc := sc.mono hb; have kl := kl.mono hb; have fl := fl.mono hb; have ko := ko.mono hb; have fb := fb.mono hb; have s7 := s7.mono hb; have kg := kg.mono hb; have hB := hB.trans (hb.mono hB.size); have zX := Nat.lt_of_lt_of_le zX hb.size; have zO := Nat.lt_of_lt_of_le zO hb.size; have zV := Nat.lt_of_lt_of_le zV hb.size; have zU := Nat.lt_of_lt_of_le zU hb.size; clear hb))
  have hX11 := hX
  have zX11 := zX
  have hO11 := hO
  have zO11 := zO
  have hV11 := hV
  have zV11 := zV
  have hU11 := hU
  have zU11 := zU
  have kw11 := kw
  have sc11 := sc
  have kl11 := kl
  have fl11 := fl
  have ko11 := ko
  have fb11 := fb
  have s711 := s7
  have kg11 := kg
  have hB11 := hB
  clear hX zX hO zO hV zV hU zU kw sc kl fl ko fb s7 kg hB
  clear kw11
  clear kl11
  clear ko11
  go_wp2_with fail
  refine (zgs l _ _ _ _ _ _ lo1 w4.heap.size 1 _ fl11 HF.out (Nat.le_of_lt zV11) (by omega) (by omega)).mono ?_
  rintro e wB ⟨k1, rfl, hk1, hk1b, hM⟩
  have HK1 : Hid (0 < k1 /\ k1 < 3000000000000000000) := ⟨hk1, hk1b⟩
  clear hk1 hk1b
  have hX12 := hM.box hX11 zX11 (Or.inl (by have a := HOrd.out; have b := HLo1.out; omega))
  have zX12 := Nat.lt_of_lt_of_le zX11 hM.size
  have hO12 := hM.box hO11 zO11 (Or.inl (by have a := HOrd.out; have b := HLo1.out; omega))
  have zO12 := Nat.lt_of_lt_of_le zO11 hM.size
  have hV12 := hM.box hV11 zV11 (Or.inr (Nat.le_refl _))
  have zV12 := Nat.lt_of_lt_of_le zV11 hM.size
  have hU12 := hM.box hU11 zU11 (Or.inr (by have a := HOrd.out; omega))
  have zU12 := Nat.lt_of_lt_of_le zU11 hM.size
  have hMb := hM.below (B := w3.heap.size) (by have a := HOrd.out; have b := HLo1.out; omega) (Nat.le_trans (by have a := HOrd.out; omega) (Nat.le_of_lt zU11))
  have sc12 := sc11.low hMb (Nat.le_refl _)
  have kg12 := kg11.marked hM (by have a := HOrd.out; omega)
  have s712 : Grown w7.heap.size wB := ⟨Nat.le_trans s711.size hM.size⟩
  have hB12 := hB11.trans (hMb.mono (by have a := HOrd.out; omega))
  have fb12 := fb11.kept (Kept.apart hM (Or.inl (by have a := HOrd.out; omega)))
  clear hM hMb hX11 zX11 hO11 zO11 hV11 zV11 hU11 zU11 sc11 kg11 hB11 s711 fb11 fl11
  go_wp2_with fail
  refine (zfY b _ _ _ _ _ _ _ _ lo2 w6.heap.size k1 _ fb12 HG.out (Nat.le_of_lt zU12) HK1.out.1 HK1.out.2).mono ?_
  rintro e wC ⟨k2, rfl, hk2, hk2b, hM⟩
  have hk2n : decide (k2 < 0) = false := by simp; omega
  clear hk2 hk2b
  have hX13 := hM.box hX12 zX12 (Or.inl (by have a := HOrd.out; omega))
  have zX13 := Nat.lt_of_lt_of_le zX12 hM.size
  have hO13 := hM.box hO12 zO12 (Or.inl (by have a := HOrd.out; omega))
  have zO13 := Nat.lt_of_lt_of_le zO12 hM.size
  have hV13 := hM.box hV12 zV12 (Or.inl (by have a := HOrd.out; omega))
  have zV13 := Nat.lt_of_lt_of_le zV12 hM.size
  have hU13 := hM.box hU12 zU12 (Or.inr (Nat.le_refl _))
  have zU13 := Nat.lt_of_lt_of_le zU12 hM.size
  have hMb := hM.below (B := w3.heap.size) (by have a := HOrd.out; have b := HLo1.out; omega) (Nat.le_trans (by have a := HOrd.out; omega) (Nat.le_of_lt zU12))
  have sc13 := sc12.low hMb (Nat.le_refl _)
  have kg13 := kg12.marked hM (by have a := HOrd.out; omega)
  have s713 : Grown w7.heap.size wC := ⟨Nat.le_trans s712.size hM.size⟩
  have hB13 := hB12.trans (hMb.mono (by have a := HOrd.out; omega))
  clear hM hMb hX12 zX12 hO12 zO12 hV12 zV12 hU12 zU12 sc12 kg12 hB12 s712 fb12
  go_wp2_with fail
  refine (zds _ _ _ _ xs _ (kg13.ints HNm.out) (HKW.out.mono sc13.below)).mono ?_
  rintro e wD ⟨rfl, hb⟩
  have hX14 := za hX13 zX13 hb
  have zX14 := Nat.lt_of_lt_of_le zX13 hb.size
  have hO14 := za hO13 zO13 hb
  have zO14 := Nat.lt_of_lt_of_le zO13 hb.size
  have hV14 := za hV13 zV13 hb
  have zV14 := Nat.lt_of_lt_of_le zV13 hb.size
  have hU14 := za hU13 zU13 hb
  have zU14 := Nat.lt_of_lt_of_le zU13 hb.size
  have sc14 := sc13.mono hb
  have s714 := s713.mono hb
  have kg14 := kg13.mono hb
  have hB14 := hB13.trans (hb.mono hB13.size)
  clear hb hX13 zX13 hO13 zO13 hV13 zV13 hU13 zU13 sc13 s713 kg13 hB13
  clear hk2n
  go_wp2_with fail
  refine (zlk w7.heap.size _ ag xs.length (ints xs) 1 _ kg14.row (zkU xs) HN.out (by omega) (by omega) s714.size).mono ?_
  rintro e wE ⟨rfl, hig, hMb⟩
  have hX15 : ∀ o, wE.cell? ⟨w.heap.size, o, none⟩ = (#[.slice la l.ss.length lca, .slice lb l.ms.length lcb, .slice lc l.ts.length lcc] : Array Value)[o]? := fun o => (hMb.cell (p := ⟨w.heap.size, o, none⟩) (by show w.heap.size < _; have a := HOrd.out; have b := HLo1.out; have c := HS34.out; omega)).trans (hX14 o)
  have hO15 : ∀ o, wE.cell? ⟨w.heap.size + 1, o, none⟩ = (#[.int .i64 b.now, .int .i64 b.tick, .int .i64 b.given, .slice a0 b.os.length c0, .slice a1 b.gs.length c1, .slice a2 b.ls.length c2, .slice a3 b.ps.length c3] : Array Value)[o]? := fun o => (hMb.cell (p := ⟨w.heap.size + 1, o, none⟩) (by show w.heap.size + 1 < _; have a := HOrd.out; have b := HLo1.out; have c := HS34.out; omega)).trans (hO14 o)
  have zX15 := Nat.lt_of_lt_of_le zX14 hMb.size
  have zO15 := Nat.lt_of_lt_of_le zO14 hMb.size
  have sc15 := sc14.low hMb (by have a := HOrd.out; have c := HS34.out; omega)
  have hB15 := hB14.trans (hMb.mono (by have a := HOrd.out; have c := HS34.out; omega))
  have km15 := hig
  clear hMb hig hX14 zX14 hO14 zO14 hV14 zV14 hU14 zU14 sc14 kg14 hB14 s714
  have hq0 : decide (((1 + xs.length : Nat) : Int) < 0) = false := by simp; omega
  have hqm : (((1 + xs.length : Nat) : Int) != ((1 + xs.length : Nat) : Int)) = false := by simp
  obtain ⟨mm, hmm⟩ : ∃ mm : Int, mm = ((1 + xs.length : Nat) : Int) := ⟨_, rfl⟩
  rw [<- hmm] at hq0 hqm ⊢
  go_wp2_with fail
  refine (zfM ag _ xs.length 1 _ km15 (by omega) HN.out (by omega)).mono ?_
  rintro e wF ⟨rfl, hwf⟩
  rw [hwf, <- hmm]
  clear hwf wF
  go_wp2_with fail
  have hX := za hX15 zX15 (Below.refl wE.heap.size wE).drew
  have zX : w.heap.size < wE.drew.heap.size := zX15
  have hO := za hO15 zO15 (Below.refl wE.heap.size wE).drew
  have zO : w.heap.size + 1 < wE.drew.heap.size := zO15
  have sc := sc15.mono (Below.refl wE.heap.size wE).drew
  have km := km15.mono (Below.refl wE.heap.size wE).drew
  have hB := hB15.drew
  clear hX15 zX15 hO15 zO15 sc15 km15 hB15
  go_region_held3 (fun w' => (∀ j, w'.cell? ⟨w.heap.size, j, none⟩ = (#[.slice la l.ss.length lca, .slice lb l.ms.length lcb, .slice lc l.ts.length lcc] : Array Value)[j]?) /\ (∀ j, w'.cell? ⟨w.heap.size + 1, j, none⟩ = (#[.int .i64 b.now, .int .i64 b.tick, .int .i64 b.given, .slice a0 b.os.length c0, .slice a1 b.gs.length c1, .slice a2 b.ls.length c2, .slice a3 b.ps.length c3] : Array Value)[j]?)) (exact ⟨hX, hO⟩) (first
    | (go_at_call 7; refine (zcN l _ _ _ _ _ _ _ (by exact HL.out.mono hB) HF.out).mono ?_; rintro e wG ⟨ra, rb, rc, rfl, hl30, hb⟩; unfold Lw.cells; have hl3 := hl30; have hX := za hX zX hb; have hO := za hO zO hb; have sc := sc.mono hb; have km := km.mono hb; have hB := hB.trans (hb.mono hB.size); have zX := Nat.lt_of_lt_of_le zX hb.size; have zO := Nat.lt_of_lt_of_le zO hb.size; clear hb)
    | (go_at_call 8; refine (zdZ b _ _ _ _ _ _ _ _ _ (by exact HO.out.mono hB) HG.out).mono ?_; rintro e wG ⟨rd, re, rf, rg, rfl, ho30, hb⟩; unfold Bk.cells; have ho3 := ho30; have hX := za hX zX hb; have hO := za hO zO hb; have sc := sc.mono hb; have km := km.mono hb; have hl3 := hl3.mono hb; have hB := hB.trans (hb.mono hB.size); have zX := Nat.lt_of_lt_of_le zX hb.size; have zO := Nat.lt_of_lt_of_le zO hb.size; clear hb)
    | (go_at_call 9; refine (zeQ l _ _ _ _ _ _ b _ _ _ _ _ _ _ _ _ (by exact hl3) (by exact ho3) HF.out HG.out HZ.out).mono ?_; rintro e wG ⟨vh, rfl, hvh, hb⟩; rw [<- HXS.out] at hvh; obtain ⟨ah, ch, rfl, hih⟩ := zbV hvh HNm.out; clear hvh; have kh := hih; clear hl3; clear ho3; have hX := za hX zX hb; have hO := za hO zO hb; have sc := sc.mono hb; have km := km.mono hb; have hB := hB.trans (hb.mono hB.size); have zX := Nat.lt_of_lt_of_le zX hb.size; have zO := Nat.lt_of_lt_of_le zO hb.size; clear hb))
  have hX16 := hX
  have zX16 := zX
  have hO16 := hO
  have zO16 := zO
  have sc16 := sc
  have km16 := km
  have kh16 := kh
  have hB16 := hB
  clear hX zX hO zO sc km kh hB
  go_wp2_with fail
  refine (zds _ _ _ _ xs _ kh16 (HKW.out.mono sc16.below)).mono ?_
  rintro e wH ⟨rfl, hb⟩
  have hX17 := za hX16 zX16 hb
  have zX17 := Nat.lt_of_lt_of_le zX16 hb.size
  have hO17 := za hO16 zO16 hb
  have zO17 := Nat.lt_of_lt_of_le zO16 hb.size
  have sc17 := sc16.mono hb
  have km17 := km16.mono hb
  have kh17 := kh16.mono hb
  have hB17 := hB16.trans (hb.mono hB16.size)
  clear hb hX16 zX16 hO16 zO16 sc16 km16 kh16 hB16
  go_wp2_with fail
  refine (zfM ag _ xs.length 1 _ km17 (by omega) HN.out (by omega)).mono ?_
  rintro e wI ⟨rfl, hwf⟩
  rw [hwf, <- hmm]
  clear hwf wI
  go_wp2_with fail
  go_ret
  exact ⟨rfl, hB17⟩
end Go.Proofs.YtfpeplbmfbepcaaGreat
