import Derived.Test.YtfpeplbmfbepcaaGreatM43
import Derived.Test.YtfpeplbmfbepcaaGreatM44
import Derived.Test.YtfpeplbmfbepcaaGreatM35
import Derived.Test.YtfpeplbmfbepcaaGreatM15
import Derived.Test.YtfpeplbmfbepcaaGreatM05
import Derived.Test.YtfpeplbmfbepcaaGreatM40
import Derived.Deep.RegionHeld3
import Derived.WideKeyEntry
namespace Go.Proofs.YtfpeplbmfbepcaaGreat
open Go.RowKit
set_option maxHeartbeats 2000000 in
theorem zhE (a c : Option Addr) (ca cc : Nat) (xs ys : List ByteArray) (w : World) (hx : zA w a xs) (hy : zA w c ys) (hl : xs.length <= 1048576) (hl' : ys.length <= 1048576) :
    Calls Tryz.prog 196 #[.slice a xs.length ca, .slice c ys.length cc] w fun e w' => e = .returned (.bool (decide (xs = ys))) /\ Below w.heap.size w w' := by
  obtain ⟨r, hr⟩ : ∃ r, r = decide (xs = ys) := ⟨_, rfl⟩
  rw [<- hr]
  have HR : Hid (r = decide (xs = ys)) := hr
  have HX : Hid (zA w a xs /\ zA w c ys) := ⟨hx, hy⟩
  clear hr hx hy
  by_cases hn : xs.length = ys.length
  rotate_left
  · have HF : Hid (r = false) := by unfold Hid; rw [HR.out, decide_eq_false_iff_not]; intro e; exact hn (by rw [e])
    have e1 : ((xs.length : Int) != (ys.length : Int)) = true := by simp; omega
    clear hn
    go_enter Tryz.func196, Tryz.ntmps196
    go_wp2_with fail
    go_ret
    exact ⟨ze HF.out.symm, Below.refl _ _⟩
  have e1 : ((xs.length : Int) != (ys.length : Int)) = false := by simp; omega
  have HN : Hid (xs.length = ys.length) := hn
  clear hn
  go_enter Tryz.func196, Tryz.ntmps196
  go_wp2_with fail
  go_loopw [13] (fun iv wr => ∃ k : Nat, k <= xs.length /\ iv = .int .i64 k /\ Hid ((∀ i (h : i < xs.length) (h' : i < ys.length), i < k -> xs[i] = ys[i]) /\ Below w.heap.size w wr)) (fun iv _ => xs.length - (intOf iv).toNat)
  case atStart => exact ⟨0, Nat.zero_le _, rfl, fun i h h' hk => by omega, Below.refl _ _⟩
  case round =>
    obtain ⟨k, hk, rfl, HQ⟩ := hrel
    have hkn : k <= 1048576 := by omega
    by_cases hlt : k < xs.length
    · have hlt' : k < ys.length := by have := HN.out; omega
      obtain ⟨p, po, rfl, hp, hpc⟩ := HX.out.1.cells (by intro e; rw [e] at hlt; simp at hlt)
      obtain ⟨q, qo, rfl, hq, hqc⟩ := HX.out.2.cells (by intro e; rw [e] at hlt'; simp at hlt')
      have c1 := (HQ.out.2.cell (p := ⟨p, po + k, none⟩) hp).trans (hpc k hlt)
      have c2 := (HQ.out.2.cell (p := ⟨q, qo + k, none⟩) hq).trans (hqc k hlt')
      have hltI : (k : Int) < (xs.length : Int) := by omega
      have hltI' : (k : Int) < (ys.length : Int) := by omega
      have hp' : p < wr.heap.size := Nat.lt_of_lt_of_le hp HQ.out.2.size
      have hq' : q < wr.heap.size := Nat.lt_of_lt_of_le hq HQ.out.2.size
      have HB : Hid (Below w.heap.size w wr) := HQ.out.2
      clear hpc hqc
      by_cases he : xs[k] = ys[k]
      · have e2 : (xs[k].toList == ys[k].toList) = true := by rw [Gate.beq_toList]; simpa using he
        have HA : Hid (∀ i (h : i < xs.length) (h' : i < ys.length), i < k + 1 -> xs[i] = ys[i]) := by
          intro i h h' hi
          rcases Nat.eq_or_lt_of_le (Nat.le_of_lt_succ hi) with e | h2
          · subst e; exact he
          · exact HQ.out.1 i h h' h2
        clear he HQ
        go_wp2_with fail
        go_quiet (fail)
        go_wp2_with fail
        exact ⟨⟨k + 1, by omega, by go_num, HA.out, below_drewN HB.out _⟩, zi hlt⟩
      · have e2 : (xs[k].toList == ys[k].toList) = false := by rw [Gate.beq_toList]; simpa using he
        have HF : Hid (r = false) := by
          unfold Hid
          rw [HR.out, decide_eq_false_iff_not]
          intro e
          subst e
          exact he rfl
        clear he HQ
        go_wp2_with fail
        go_quiet (fail)
        go_wp2_with fail
        go_ret
        exact ⟨ze HF.out.symm, below_drewN HB.out _⟩
    · have HF : Hid (r = true) := by
        unfold Hid
        rw [HR.out, decide_eq_true_eq]
        exact List.ext_getElem HN.out fun i h h' => HQ.out.1 i h h' (by omega)
      have HB : Hid (Below w.heap.size w wr) := HQ.out.2
      clear HQ
      go_wp2_with fail
      go_ret
      exact ⟨ze HF.out.symm, HB.out⟩
end Go.Proofs.YtfpeplbmfbepcaaGreat

namespace Go.Proofs.YtfpeplbmfbepcaaGreat
open Go.RowKit
namespace Gate
def zbM (l : Lw) (o : Ob) : List ByteArray := zgy l.ss l.ms (zfQ l.ss o)
end Gate
theorem zdd {l : Lw} {o : Ob} (h : Gate.y8 l.ss l.ms o = true) : (Gate.zbM l o).length = o.vs.length := by
  unfold Gate.zbM
  rw [<- Gate.zno h]
  exact Gate.qX _ _ _
set_option maxRecDepth 20000 in
set_option maxHeartbeats 4000000 in
theorem zjW (l : Lw) (a b c : Option Addr) (ca cb cc : Nat) (o : Ob) (va ha : Option Addr) (cap cap' : Nat) (w : World) (hL : qB w l a b c) (hml : l.ms.length <= 1048576) (ho : qR w o va ha) (hl : o.vs.length <= 1048576) (hl' : o.hs.length <= 1048576) (hmd : Gate.y8 l.ss l.ms o = true) :
    Calls Tryz.prog 197 #[.agg (lC l a b c ca cb cc), .agg (oC o va ha cap cap')] w
      fun e w' => ∃ e0 dap e1 dap', e = .returned (.agg (oC o e0 e1 dap dap')) /\ zq w.heap.size w' e0 (Gate.zbM l o) /\ Below w.heap.size w w' := by
  have HH := zdB hL ho ho.vals.len
  have HFA := hid (Gate.zb9 hmd)
  clear hL ho hmd
  go_enter Tryz.func197, Tryz.ntmps197
  go_wp2_with fail
  have hb2 := jl w (.cells (lC l a b c ca cb cc) 41) (.cells (oC o va ha cap cap') 119) (.cells oZ 119)
  refine (qC _ _ l.ss o.kd _ (HH.out.1.ss.mono hb2)).mono ?_
  rintro e w1 ⟨fa, fcap, rfl, hfl0, hb1⟩
  have HFL := hid (hfl0.mono hb1)
  have hX0 : ∀ j, w1.cell? ⟨w.heap.size, j, none⟩ = (lC l a b c ca cb cc)[j]? := fun j => cell_of_block ((hb1.block w.heap.size (by simp; omega)).trans (zbL _ _ _ _))
  have hX1 : ∀ j, w1.cell? ⟨w.heap.size + 1, j, none⟩ = (oC o va ha cap cap')[j]? := fun j => cell_of_block ((hb1.block (w.heap.size + 1) (by simp)).trans (zf2 _ _ _ _))
  have HR1 : Hid (w1.heap[w.heap.size + 1 + 1]? = some (.cells oZ 119)) := (hb1.block (w.heap.size + 1 + 1) (by simp)).trans (zcw _ _ _ _)
  have hz2 : w.heap.size + 1 + 1 < w1.heap.size := by have := hb1.size; simp at this; omega
  have hz1 : w.heap.size + 1 < w1.heap.size := by omega
  have hz0 : w.heap.size < w1.heap.size := by omega
  have hB1 : Below w.heap.size w w1 := hb2.trans (hb1.mono (by simp; omega))
  clear hb1 hfl0 hb2
  go_wp2_with fail
  have hbs := (Below.refl w1.heap.size w1).alloc (Nat.le_refl _) (.cells #[.string (Gate.shapeOf l.ss o.kd).kd, .slice fa (Gate.shapeOf l.ss o.kd).fs.length fcap] 123)
  have hRW := (hbs.block _ hz2).trans HR1.out
  have hzW := Nat.lt_of_lt_of_le hz2 hbs.size
  have hBW := hB1.trans (hbs.mono hB1.size)
  have hFW := HFL.out.mono hbs
  clear hbs
  obtain ⟨W2, hW2⟩ : ∃ W2, W2 = (w1.alloc (.cells #[.string (Gate.shapeOf l.ss o.kd).kd, .slice fa (Gate.shapeOf l.ss o.kd).fs.length fcap] 123)) := ⟨_, rfl⟩
  have hS2 : ∀ j, W2.drew.cell? ⟨w1.heap.size, j, none⟩ = (#[.string (Gate.shapeOf l.ss o.kd).kd, .slice fa (Gate.shapeOf l.ss o.kd).fs.length fcap] : Array Value)[j]? := by rw [hW2]; exact zG w1 _ _
  have hS1 : ∀ j, W2.drew.cell? ⟨w.heap.size + 1, j, none⟩ = (oC o va ha cap cap')[j]? := by rw [hW2]; exact za hX1 hz1 ((Below.refl _ _).alloc (Nat.le_refl _) _).drew
  have hS0 : ∀ j, W2.drew.cell? ⟨w.heap.size, j, none⟩ = (lC l a b c ca cb cc)[j]? := by rw [hW2]; exact za hX0 hz0 ((Below.refl _ _).alloc (Nat.le_refl _) _).drew
  have hzs : w1.heap.size < W2.drew.heap.size := by rw [hW2]; show w1.heap.size < (w1.alloc (.cells #[.string (Gate.shapeOf l.ss o.kd).kd, .slice fa (Gate.shapeOf l.ss o.kd).fs.length fcap] 123)).heap.size; simp
  rw [<- hW2] at hRW hzW hBW hFW ⊢
  clear hW2 hX1 hX0
  have hb := (Below.refl W2.heap.size W2).drew
  have hlW : W2.heap.size = W2.drew.heap.size := rfl
  have hzo : w.heap.size + 1 < W2.drew.heap.size := by omega
  have hzl : w.heap.size < W2.drew.heap.size := by omega
  go_region_held3 (fun w' => (∀ j, w'.cell? ⟨w.heap.size, j, none⟩ = (lC l a b c ca cb cc)[j]?) /\ (∀ j, w'.cell? ⟨w.heap.size + 1, j, none⟩ = (oC o va ha cap cap')[j]?) /\ ∀ j, w'.cell? ⟨w1.heap.size, j, none⟩ = (#[.string (Gate.shapeOf l.ss o.kd).kd, .slice fa (Gate.shapeOf l.ss o.kd).fs.length fcap] : Array Value)[j]?) (first | exact ⟨fun j => by rw [hS0], fun j => by rw [hS1], fun j => by rw [hS2]⟩ | exact ⟨fun j => by rw [hS5], fun j => by rw [hS3], fun j => by rw [hS4]⟩) (first
    | (go_at_call 215; refine (zn6 o (Gate.shapeOf l.ss o.kd).kd (Gate.shapeOf l.ss o.kd).fs _ va ha _ cap cap' _ (by exact hFW.mono hb) (by exact HH.out.2.1.mono (hBW.trans (hb.mono hBW.size))) hl hl' HFA.out.1).mono ?_; rintro e w5 ⟨a5, dap5, a5', dap5', m5, rfl, ht5, hm5, hsm5, ht5', hb5⟩; have hS0 := za hS0 hzl hb5; have hS1 := za hS1 hzo hb5; have hS2 := za hS2 hzs hb5; have hb := hb.trans (hb5.mono hb.size); have hO5 : zA w5 a5 (Gate.jN (Gate.shapeOf l.ss o.kd).fs o.vs) := ht5.at (by rw [Gate.qj HFA.out.1]; exact HH.out.2.2) (zfS hFW.smalls HH.out.2.1.vals.small HFA.out.1); have hO5' : zA w5 a5' o.hs := ht5'.at HH.out.2.1.holds.len HH.out.2.1.holds.small; have hA5 := ht5.zqn; have hA5' := ht5'.zqn; clear ht5 hm5 hsm5 ht5' hb5)
    | (go_at_call 214; refine (zoS o (Gate.jN (Gate.shapeOf l.ss o.kd).fs o.vs) (Gate.qj HFA.out.1) (Gate.shapeOf l.ss o.kd) l.ms _ _ _ _ _ _ _ _ _ (by exact hFW.mono hb) (by exact HH.out.1.ms.mono (hBW.trans (hb.mono hBW.size))) HH.out.2.1.small (by exact hO5) (by exact hO5') hA5 hA5' hl hl' HFA.out.1 hml HFA.out.2.1 HFA.out.2.2.1 HFA.out.2.2.2).mono ?_; rintro e w6 ⟨e0, dap, e1, dap', m, rfl, ht, hm, hsm, ht', hb6⟩; have hR6 : w6.heap[w.heap.size + 1 + 1]? = some (.cells oZ 119) := ((hb.trans (hb6.mono hb.size)).block (w.heap.size + 1 + 1) hzW).trans hRW; have hS0 := fun j => (hb6.cell (p := ⟨w.heap.size, j, none⟩) (Nat.lt_of_lt_of_le hzl hb.size)).trans (hS0 j); have hS1 := fun j => (hb6.cell (p := ⟨w.heap.size + 1, j, none⟩) (Nat.lt_of_lt_of_le hzo hb.size)).trans (hS1 j); have hS2 := fun j => (hb6.cell (p := ⟨w1.heap.size, j, none⟩) (Nat.lt_of_lt_of_le hzs hb.size)).trans (hS2 j); have hS5 := fun j => (zgI (g := w.heap.size + 1 + 1) (by omega : w.heap.size ≠ w.heap.size + 1 + 1) (v0 := .string o.kd) (v1 := .string o.nm) (v2 := .string o.tm) (v3 := .slice e0 o.vs.length dap) (v4 := .bool o.en) (v5 := .slice e1 o.hs.length dap') (v6 := .int .i64 o.vr)).trans (hS0 j); have hS3 := fun j => (zgI (g := w.heap.size + 1 + 1) (by omega : w.heap.size + 1 ≠ w.heap.size + 1 + 1) (v0 := .string o.kd) (v1 := .string o.nm) (v2 := .string o.tm) (v3 := .slice e0 o.vs.length dap) (v4 := .bool o.en) (v5 := .slice e1 o.hs.length dap') (v6 := .int .i64 o.vr)).trans (hS1 j); have hS4 := fun j => (zgI (g := w.heap.size + 1 + 1) (by omega : w1.heap.size ≠ w.heap.size + 1 + 1) (v0 := .string o.kd) (v1 := .string o.nm) (v2 := .string o.tm) (v3 := .slice e0 o.vs.length dap) (v4 := .bool o.en) (v5 := .slice e1 o.hs.length dap') (v6 := .int .i64 o.vr)).trans (hS2 j); have hRc := j5 hR6; have hRf := znZ hR6; have hsz5 := hb.size; have hb := hb.trans (hb6.mono hb.size); clear hb6))
  go_wp2_with fail
  refine bodyPost_ret (v := (.agg (oC o e0 e1 dap dap'))) (by simp [results, Tryz.results197, go_sem, hRc]) rfl ?_
  have hB := hBW.trans (hb.mono hBW.size)
  have h2 := hzW
  exact ⟨e0, dap, e1, dap', rfl, (qW (ht.low (lo' := w.heap.size + 1 + 1 + 1) (by omega)) _ (by omega) _ _ _ _ _ _ _).low (by omega), zau hB _ (by omega) _ _ _ _ _ _ _⟩
end Go.Proofs.YtfpeplbmfbepcaaGreat

namespace Go.Proofs.YtfpeplbmfbepcaaGreat
open Go.RowKit
namespace Gate
def zaK (l : Lw) (o : Ob) : Bool := decide ((yu l.ss o).1 = 0) && decide (zbM l o = o.vs)
theorem zay {l : Lw} {o : Ob} (hok : yc l.ss l.ms = true) (h : (yu l.ss o).1 = 0) : y8 l.ss l.ms o = true := by
  have hw : whole l.ss o = true := by
    cases hc : whole l.ss o with
    | true => rfl
    | false => unfold yu at h; rw [if_neg (by rw [hc]; simp)] at h; simp at h
  unfold whole zo at hw
  unfold y8
  simp only [Bool.and_eq_true] at hw ⊢
  exact ⟨hw.2.1, hw.2.2, hok⟩
end Gate
theorem zfg {l : Lw} {o : Ob} (hm : Gate.y8 l.ss l.ms o = true) (hs : zc2 l.ss) (hms : ∀ i (h : i < l.ms.length), l.ms[i].Small) (ho : ∀ s ∈ o.vs, s.size <= maxLen) : ∀ s ∈ Gate.zbM l o, s.size <= maxLen := by
  have hf := Gate.zb9 hm
  have hk : Gate.zC l.ss o.kd = true := by unfold Gate.y8 at hm; simp only [Bool.and_eq_true] at hm; exact hm.1
  obtain ⟨i, hi, e⟩ := Gate.zcr hk
  have h1 : zbw (Gate.shapeOf l.ss o.kd).fs := by rw [e]; exact (hs.small i hi).2.2
  exact Gate.zbE hms _ _ (zfS h1 ho hf.1)
theorem zgQ {l : Lw} {o : Ob} {w : World} {a : Option Addr} {lo : Nat} (h : zq lo w a (Gate.zbM l o)) (hm : Gate.y8 l.ss l.ms o = true) (hl : o.vs.length <= maxLen) (hs : ∀ s ∈ Gate.zbM l o, s.size <= maxLen) : zA w a (Gate.zbM l o) := h.at (by rw [zdd hm]; exact hl) hs
theorem ziZ (a c : Option Addr) (ca cc : Nat) (xs ys : List ByteArray) (w : World) (hx : zA w a xs) (hy : zA w c ys) (hl : xs.length <= 1048576) (hl' : ys.length <= 1048576) (hn : xs.length = ys.length) :
    Calls Tryz.prog 196 #[.slice a ys.length ca, .slice c ys.length cc] w fun e w' => e = .returned (.bool (decide (xs = ys))) /\ Below w.heap.size w w' := by
  have h := zhE a c ca cc xs ys w hx hy hl hl'
  rw [hn] at h
  exact h
set_option maxRecDepth 20000 in
set_option maxHeartbeats 4000000 in
theorem zlH (l : Lw) (a b c : Option Addr) (ca cb cc : Nat) (o : Ob) (va ha : Option Addr) (cap cap' : Nat) (w : World) (hL : qB w l a b c) (hml : l.ms.length <= 1048576) (ho : qR w o va ha) (hl : o.vs.length <= 1048576) (hl' : o.hs.length <= 1048576) (hok : Gate.yc l.ss l.ms = true) :
    Calls Tryz.prog 153 #[.agg (lC l a b c ca cb cc), .agg (oC o va ha cap cap')] w fun e w' => e = .returned (.bool (Gate.zaK l o)) /\ Below w.heap.size w w' := by
  have hfd : ∀ (s0 s1 s2 : ByteArray) (x y : Option Addr) (n m p q : Nat) (t : Bool) (v : Int) (wf : World), (Instr.field 119 (.agg #[.string s0, .string s1, .string s2, .slice x n p, .bool t, .slice y m q, .int .i64 v]) 3).run Tryz.prog wf = .ok (.slice x n p) wf := fun s0 s1 s2 x y n m p q t v wf => by kernel_rfl
  have HH := qJ hL ho
  clear hL ho
  obtain ⟨r, hr⟩ : ∃ r, r = Gate.zaK l o := ⟨_, rfl⟩
  rw [<- hr]
  have HR : Hid (r = Gate.zaK l o) := hr
  clear hr
  go_enter Tryz.func153, Tryz.ntmps153
  go_wp2_with fail
  have hb2 := zn w (.cells (lC l a b c ca cb cc) 41) (.cells (oC o va ha cap cap') 119)
  refine (zhR _ _ l.ss o _ _ _ _ _ (HH.out.1.ss.mono hb2) (HH.out.2.mono hb2)).mono ?_
  rintro e w1 ⟨rfl, hb1⟩
  have hX0 : ∀ j, w1.cell? ⟨w.heap.size, j, none⟩ = (lC l a b c ca cb cc)[j]? := fun j => cell_of_block ((hb1.block w.heap.size (by simp; omega)).trans (zP _ _ _).1)
  have hX1 : ∀ j, w1.cell? ⟨w.heap.size + 1, j, none⟩ = (oC o va ha cap cap')[j]? := fun j => cell_of_block ((hb1.block (w.heap.size + 1) (by simp)).trans (zP _ _ _).2)
  have hz1 : w.heap.size + 1 < w1.heap.size := by have := hb1.size; simp at this; omega
  have hz0 : w.heap.size < w1.heap.size := by omega
  have hB1 : Below w.heap.size w w1 := hb2.trans (hb1.mono (by simp; omega))
  clear hb1 hb2
  by_cases hc : (Gate.yu l.ss o).1 = 0
  rotate_left
  · have HF : Hid (r = false) := by unfold Hid; rw [HR.out]; unfold Gate.zaK; rw [decide_eq_false hc]; rfl
    have hv : zfG l.ss o = .iface 279 (.agg #[.int .i64 (Gate.yu l.ss o).1, .int .i64 (Gate.yu l.ss o).2]) := zlq hc
    rw [hv]
    clear hc hv
    go_wp2_with fail
    go_ret
    exact ⟨ze HF.out.symm, hB1⟩
  have HMD := hid (Gate.zay hok hc)
  have HS := hid (zfg HMD.out HH.out.1.ss.smalls HH.out.1.ms.small HH.out.2.vals.small)
  have HF : Hid (decide (Gate.zbM l o = o.vs) = r) := by unfold Hid; rw [HR.out]; unfold Gate.zaK; rw [decide_eq_true hc]; rfl
  have hv : zfG l.ss o = .nilIface := by unfold zfG; rw [hc]; rfl
  rw [hv]
  have HLN := hid (zdd HMD.out)
  clear hc hv
  go_wp2_with fail
  have hS0 := za hX0 hz0 (Below.refl w1.heap.size w1).drew
  have hS1 := za hX1 hz1 (Below.refl w1.heap.size w1).drew
  have hb := (Below.refl w1.heap.size w1).drew
  have hzl := hz0
  have hzo := hz1
  clear hX0 hX1
  go_region_held3 (fun w' => (∀ j, w'.cell? ⟨w.heap.size, j, none⟩ = (lC l a b c ca cb cc)[j]?) /\ (∀ j, w'.cell? ⟨w.heap.size + 1, j, none⟩ = (oC o va ha cap cap')[j]?)) (exact ⟨fun j => by rw [hS0], fun j => by rw [hS1]⟩) (first
    | (go_at_call 197; refine (zjW l a b c ca cb cc o va ha cap cap' _ (by exact HH.out.1.mono (hB1.trans (hb.mono hB1.size))) hml (by exact HH.out.2.mono (hB1.trans (hb.mono hB1.size))) hl hl' HMD.out).mono ?_; rintro e w5 ⟨e0, dap, e1, dap', rfl, ht5, hb5⟩; have hS0 := za hS0 hzl hb5; have hS1 := za hS1 hzo hb5; have hb := hb.trans (hb5.mono hb.size); have hO5 : zA w5 e0 (Gate.zbM l o) := zgQ ht5 HMD.out HH.out.2.vals.len HS.out; clear ht5 hb5)
    | (go_at_call 196; refine (ziZ _ va _ cap (Gate.zbM l o) o.vs _ (by exact hO5) (by exact HH.out.2.vals.mono (hB1.trans (hb.mono hB1.size))) (by rw [HLN.out]; exact hl) hl HLN.out).mono ?_; rintro e w6 ⟨rfl, hb6⟩; rw [HF.out]; have hS0 := fun j => (hb6.cell (p := ⟨w.heap.size, j, none⟩) (Nat.lt_of_lt_of_le hzl hb.size)).trans (hS0 j); have hS1 := fun j => (hb6.cell (p := ⟨w.heap.size + 1, j, none⟩) (Nat.lt_of_lt_of_le hzo hb.size)).trans (hS1 j); have hb := hb.trans (hb6.mono hb.size); clear hb6))
  go_wp2_with fail
  go_ret
  exact ⟨rfl, hB1.trans (hb.mono hB1.size)⟩
end Go.Proofs.YtfpeplbmfbepcaaGreat

namespace Go.Proofs.YtfpeplbmfbepcaaGreat
open Go.RowKit
theorem zN.entry {kt mt : TypeId} (K : zh3 kt) (hm : Tryz.prog.underlying mt = some (.map kt 3)) {w : World} {r : Nat} {f : ByteArray -> ByteArray -> Option Int} (h : zN w r f) (a b : ByteArray) (ha : a.size <= maxLen) (hb : b.size <= maxLen) (v0 : Int) (hf : f a b = some v0) :
    ∃ st : Int, (Instr.mapEntry mt (.map (some r)) (yO a b)).run Tryz.prog w = .ok (.tuple #[.int .i64 v0, .int .i64 st]) w /\
      ∀ v : Int, ∃ w', (Instr.entryStore mt (.map (some r)) (.int .i64 st) (.int .i64 v)).run Tryz.prog w = .ok () w' /\ zN w' r (fun p q => if p = a /\ q = b then some v else f p q) /\ zdl r w w' := by
  obtain ⟨es, clock, hh, h1, h2, h3⟩ := h.ex
  obtain ⟨l, hl⟩ := K.key a b ha hb
  obtain ⟨s1, s2⟩ := h.stamps es clock hh
  have hkeys : ∀ e ∈ es.toList, ∃ l, keyOf Tryz.prog kt e.key = some l := fun e he => by
    obtain ⟨a', b', v, e1, ha', hb', _⟩ := h1 e he
    rw [e1]; exact K.key a' b' ha' hb'
  have hc := K.law.check w false hl
  have hs := K.law.stays w hl
  rcases K.law.find w hl es.toList hkeys with ⟨g1, g2⟩ | ⟨j, e, g1, g2, g3⟩
  · obtain ⟨x, hx, hk⟩ := h2 a b v0 hf
    exact absurd hk (g2 x hx)
  · have hj : es[j]? = some e := by simpa using g2
    have hv : e.val = .int .i64 v0 := by
      obtain ⟨a', b', v', e1, _, _, e2, e3⟩ := h1 e (List.mem_of_getElem? g2)
      rw [g3] at e1
      have hab : a = a' /\ b = b' := by unfold yO at e1; simpa using e1
      obtain ⟨rfl, rfl⟩ := hab
      rw [e3] at hf
      rw [e2, Option.some.inj hf]
    have hsame : es.modify j (fun e => { e with key := yO a b }) = es := by
      apply Array.ext'
      rw [Array.toList_modify]
      apply List.ext_getElem?
      intro i
      rw [List.getElem?_modify]
      by_cases e' : j = i
      · subst e'
        rw [g2]
        simp [<- g3]
      · simp [e']
    have hset : { w with heap := w.heap.setIfInBounds r (.map es clock) } = w := by
      have hr : r < w.heap.size := (Array.getElem?_eq_some_iff.1 hh).1
      have : w.heap.setIfInBounds r (.map es clock) = w.heap := by
        apply Array.ext_getElem?
        intro i
        by_cases e' : r = i
        · subst e'; rw [Array.getElem?_setIfInBounds_self_of_lt hr, hh]
        · rw [Array.getElem?_setIfInBounds_ne e']
      rw [this]
    refine ⟨(e.born : Int), ?_, fun v => ?_⟩
    · rw [hv] at g1
      simp [Instr.mapEntry, run_underlying hm, MapKept.run_getObj_map hh, hc, g1, hj, g3, hs, hsame, MapKept.run_setObj_map _ hh, Result.andThen, goInt, hset]
    · obtain ⟨w', u1, u2, u3⟩ := h.upd K hm a b ha hb v
      refine ⟨w', ?_, u2, u3⟩
      have hidx : es.findIdx? (fun e' => ((e'.born : Nat) : Int) == ((e.born : Nat) : Int)) = some j := by
        rw [WideElems.findIdx_arr]
        exact WideElems.findIdx_born s2 g2
      have hmod : es.modify j (fun e => { e with val := .int .i64 v }) = es.modify j (fun e' => { e' with key := yO a b, val := .int .i64 v }) := by
        apply Array.ext'
        rw [Array.toList_modify, Array.toList_modify]
        apply List.ext_getElem?
        intro i
        rw [List.getElem?_modify, List.getElem?_modify]
        by_cases e' : j = i
        · subst e'
          rw [g2]
          simp [<- g3]
        · simp [e']
      simp [Instr.mapUpdate, run_underlying hm, MapKept.run_getObj_map hh, hc, g1, hj, g3, hs, MapKept.run_setObj_map _ hh, Result.andThen] at u1
      simp [Instr.entryStore, MapKept.run_getObj_map hh, asInt, asIntOf, hidx, hmod, MapKept.run_setObj_map _ hh, Result.andThen]
      exact u1
end Go.Proofs.YtfpeplbmfbepcaaGreat

namespace Go.Proofs.YtfpeplbmfbepcaaGreat
open Go.RowKit
structure zh2 (b : Bk) : Prop where
  one : ∀ i j (hi : i < b.ls.length) (hj : j < b.ls.length), b.ls[i].tm = b.ls[j].tm -> b.ls[i].rs = b.ls[j].rs -> i = j
  has : ∀ k (hk : k < b.ps.length), ∃ j, ∃ hj : j < b.ls.length, b.ls[j].tm = b.ps[k].tm /\ b.ls[j].rs = b.ps[k].rs
  fr : ∀ i (hi : i < b.ls.length), 0 <= b.ls[i].fr /\ b.ls[i].fr <= 1000000
  am : ∀ i (hi : i < b.ps.length), 0 <= b.ps[i].am /\ b.ps[i].am <= 1000000
  ll : b.ls.length <= 1000
  lp : b.ps.length <= 1000
  sz : yZ b.os <= 1048576
def Gate.sumTo (l : Lw) (b : Bk) (g : Lg) (k : Nat) : Int := g.fr + Gate.used l b.os g.tm g.rs + Gate.zaW b.ps g.tm g.rs k
theorem zfa (l : Lw) (b : Bk) (tm rs : ByteArray) (h : yZ b.os <= 1048576) : 0 <= Gate.used l b.os tm rs /\ Gate.used l b.os tm rs <= 20000000000000 := by
  have h2 := Gate.zbD l b.os tm rs b.os.length (Nat.le_refl _)
  rw [List.take_of_length_le (Nat.le_refl _)] at h2
  unfold Gate.used
  unfold yZ at h
  omega
theorem zfw {r : Nat} {w w' : World} (h : zdl r w w') {b o : Nat} (hb : b ≠ r) : w'.cell? ⟨b, o, none⟩ = w.cell? ⟨b, o, none⟩ := by
  unfold World.cell?
  rw [h.out b hb]
set_option maxRecDepth 20000 in
set_option maxHeartbeats 4000000 in
theorem znV (l : Lw) (la lb lc : Option Addr) (lca lcb lcc : Nat) (b : Bk) (a0 a1 a2 a3 : Option Addr) (c0 c1 c2 c3 : Nat) (w : World) (hl : qB w l la lb lc) (hb : y9 w b a0 a1 a2 a3) (hs : zh2 b) :
    Calls Tryz.prog 165 #[.agg (lC l la lb lc lca lcb lcc), .agg (bC b a0 a1 a2 a3 c0 c1 c2 c3)] w fun e w' => (∃ r f, e = .returned (.map (some r)) /\ w.heap.size <= r /\ zN w' r f /\ ∀ i (hi : i < b.ls.length), f b.ls[i].tm b.ls[i].rs = some (Gate.sumTo l b b.ls[i] b.ps.length)) /\ Below w.heap.size w w' := by
  have HH : Hid (qB w l la lb lc /\ y9 w b a0 a1 a2 a3 /\ zh2 b) := ⟨hl, hb, hs⟩
  have hll := hs.ll
  have hlp := hs.lp
  have hmk : ∀ w : World, (Instr.makeMap 231 none).run Tryz.prog w = .ok (.map (some w.heap.size)) (w.alloc (.map #[] 0)) := fun w => by kernel_rfl
  clear hl hb hs
  go_enter Tryz.func165, Tryz.ntmps165
  go_wp2_with fail
  have HB0 : Hid (Below w.heap.size w ((w.alloc (.cells (lC l la lb lc lca lcb lcc) 41)).alloc (.cells (bC b a0 a1 a2 a3 c0 c1 c2 c3) 48))) := zn _ _ _
  have hX0 : ∀ j, ((w.alloc (.cells (lC l la lb lc lca lcb lcc) 41)).alloc (.cells (bC b a0 a1 a2 a3 c0 c1 c2 c3) 48)).cell? ⟨w.heap.size, j, none⟩ = (lC l la lb lc lca lcb lcc)[j]? := fun j => cell_of_block (zP _ _ _).1
  have hX1 : ∀ j, ((w.alloc (.cells (lC l la lb lc lca lcb lcc) 41)).alloc (.cells (bC b a0 a1 a2 a3 c0 c1 c2 c3) 48)).cell? ⟨w.heap.size + 1, j, none⟩ = (bC b a0 a1 a2 a3 c0 c1 c2 c3)[j]? := fun j => cell_of_block (zP _ _ _).2
  obtain ⟨W0, hW0⟩ : ∃ W0, W0 = (w.alloc (.cells (lC l la lb lc lca lcb lcc) 41)).alloc (.cells (bC b a0 a1 a2 a3 c0 c1 c2 c3) 48) := ⟨_, rfl⟩
  have hsz : W0.heap.size = w.heap.size + 1 + 1 := by rw [hW0]; simp
  rw [<- hW0] at HB0 hX0 hX1 ⊢
  clear hW0
  have hz0 : w.heap.size < W0.heap.size := by omega
  have hz1 : w.heap.size + 1 < W0.heap.size := by omega
  have HSZ := hid hsz
  clear hsz
  have hba := (Below.refl W0.heap.size W0).alloc (Nat.le_refl _) (.map #[] 0)
  have hY1 := za hX1 hz1 hba
  have hzm := Nat.lt_of_lt_of_le hz1 hba.size
  go_wp2_with fail
  clear hmk hY1 hzm hba
  go_loopw [14] (fun iv wr => ∃ k : Nat, k <= b.ls.length /\ iv = .int .i64 k /\ Hid ((∃ f, zN wr W0.heap.size f /\ ∀ i (hi : i < b.ls.length), i < k -> f b.ls[i].tm b.ls[i].rs = some (Gate.sumTo l b b.ls[i] 0)) /\ Below W0.heap.size W0 wr)) (fun iv _ => b.ls.length - (intOf iv).toNat)
  case atStart => exact ⟨0, Nat.zero_le _, rfl, ⟨_, zN.new W0, fun i hi h => absurd h (Nat.not_lt_zero _)⟩, (Below.refl _ _).alloc (Nat.le_refl _) _⟩
  case round =>
    obtain ⟨k, hk, rfl, HQ⟩ := hrel
    have hkn : k <= 1000 := by omega
    by_cases hlt : k < b.ls.length
    · obtain ⟨f, hf, hfk⟩ := HQ.out.1
      have hBr := HQ.out.2
      have HBw : Hid (∀ W, Below W0.heap.size W0 W -> Below w.heap.size w W) := fun W hW => HB0.out.trans (hW.mono HB0.out.size)
      obtain ⟨ob, off, rfl, hob, d0, d1, d2, d3⟩ := HH.out.2.1.ls.load (HBw.out _ hBr) k hlt
      have hsm := HH.out.2.1.ls.small k hlt
      have hltI : (k : Int) < (b.ls.length : Int) := by omega
      have hob' := Nat.lt_of_lt_of_le hob (HBw.out _ hBr).size
      have hfr := HH.out.2.2.fr k hlt
      have hus := zfa l b b.ls[k].tm b.ls[k].rs HH.out.2.2.sz
      have hwr : IntKind.i64.wrap (b.ls[k].fr + Gate.used l b.os b.ls[k].tm b.ls[k].rs) = b.ls[k].fr + Gate.used l b.os b.ls[k].tm b.ls[k].rs := by rw [IntKind.wrap_i64]; omega
      have hS0 := za hX0 hz0 hBr
      have hS1 := za hX1 hz1 hBr
      have HM := qJ hf hBr
      have HFK := hid hfk
      have hzl := Nat.lt_of_lt_of_le hz0 hBr.size
      have hzb := Nat.lt_of_lt_of_le hz1 hBr.size
      clear hf hfk hBr HQ
      go_wp2_with fail
      have hba := (Below.refl wr.heap.size wr).alloc (Nat.le_refl _) (.cells #[.string b.ls[k].tm, .string b.ls[k].rs, .int .i64 b.ls[k].mo, .int .i64 b.ls[k].fr] 134)
      have hT0 := za hS0 hzl hba
      have hT1 := za hS1 hzb hba
      have hT2 := zG wr #[.string b.ls[k].tm, .string b.ls[k].rs, .int .i64 b.ls[k].mo, .int .i64 b.ls[k].fr] 134
      have hzg : wr.heap.size < (wr.alloc (.cells #[.string b.ls[k].tm, .string b.ls[k].rs, .int .i64 b.ls[k].mo, .int .i64 b.ls[k].fr] 134)).heap.size := by simp
      obtain ⟨W2, hW2⟩ : ∃ W2, W2 = wr.alloc (.cells #[.string b.ls[k].tm, .string b.ls[k].rs, .int .i64 b.ls[k].mo, .int .i64 b.ls[k].fr] 134) := ⟨_, rfl⟩
      rw [<- hW2] at hba hT0 hT1 hT2 hzg ⊢
      clear hW2 hS0 hS1 d0 d1 d2 d3
      have hS0 := za hT0 (Nat.lt_of_lt_of_le hzl hba.size) (Below.refl W2.heap.size W2).drew
      have hS1 := za hT1 (Nat.lt_of_lt_of_le hzb hba.size) (Below.refl W2.heap.size W2).drew
      have hS2 := za hT2 hzg (Below.refl W2.heap.size W2).drew
      have hb := hba.trans ((Below.refl W2.heap.size W2).drew.mono hba.size)
      have hy0 := Nat.lt_of_lt_of_le hzl hb.size
      have hy1 := Nat.lt_of_lt_of_le hzb hb.size
      have hy2 := hzg
      have hne0 : w.heap.size ≠ W0.heap.size := by have := HSZ.out; omega
      have hne1 : w.heap.size + 1 ≠ W0.heap.size := by have := HSZ.out; omega
      have hne2 : wr.heap.size ≠ W0.heap.size := by have := HM.out.1.lt; omega
      have HNE := zdB hne0 hne1 hne2
      clear hne0 hne1 hne2
      clear hT0 hT1 hT2 hba
      go_region_held3 (fun w' => (∀ j, w'.cell? ⟨w.heap.size, j, none⟩ = (lC l la lb lc lca lcb lcc)[j]?) /\ (∀ j, w'.cell? ⟨w.heap.size + 1, j, none⟩ = (bC b a0 a1 (some ⟨ob, off, none⟩) a3 c0 c1 c2 c3)[j]?) /\ (∀ j, w'.cell? ⟨wr.heap.size, j, none⟩ = (#[.string b.ls[k].tm, .string b.ls[k].rs, .int .i64 b.ls[k].mo, .int .i64 b.ls[k].fr] : Array Value)[j]?)) (first | exact ⟨fun j => by rw [hS0], fun j => by rw [hS1], fun j => by rw [hS2]⟩ | exact ⟨fun j => by rw [hU0], fun j => by rw [hU1], fun j => by rw [hU2]⟩) (first
        | (go_at_call 166; refine (zbi b.ls[k] _).mono ?_; rintro e w5 ⟨rfl, hb5⟩; unfold yO; have hS0 := za hS0 hy0 hb5; have hS1 := za hS1 hy1 hb5; have hS2 := za hS2 hy2 hb5; have hy0 := Nat.lt_of_lt_of_le hy0 hb5.size; have hy1 := Nat.lt_of_lt_of_le hy1 hb5.size; have hy2 := Nat.lt_of_lt_of_le hy2 hb5.size; have hb := hb.trans (hb5.mono hb.size); clear hb5)
        | (go_at_call 201; refine (zkP l la lb lc lca lcb lcc b a0 a1 (some ⟨ob, off, none⟩) a3 c0 c1 c2 c3 _ _ _ (by exact HH.out.1.mono ((HBw.out _ HM.out.2).trans (hb.mono (HBw.out _ HM.out.2).size))) (by exact HH.out.2.1.mono ((HBw.out _ HM.out.2).trans (hb.mono (HBw.out _ HM.out.2).size))) HH.out.2.2.sz).mono ?_; rintro e w6 ⟨rfl, hb6⟩; have hS0 := za hS0 hy0 hb6; have hS1 := za hS1 hy1 hb6; have hS2 := za hS2 hy2 hb6; have hb := hb.trans (hb6.mono hb.size); have hf6 := HM.out.1.mono hb; obtain ⟨w7, hup, hf7, hp7⟩ := hf6.upd zcb Tryz.underlying231 b.ls[k].tm b.ls[k].rs hsm.tm hsm.rs (b.ls[k].fr + Gate.used l b.os b.ls[k].tm b.ls[k].rs); unfold yO at hup; rw [HSZ.out] at hup; have hU0 := fun j => (zfw hp7 (o := j) HNE.out.1).trans (hS0 j); have hU1 := fun j => (zfw hp7 (o := j) HNE.out.2.1).trans (hS1 j); have hU2 := fun j => (zfw hp7 (o := j) HNE.out.2.2).trans (hS2 j); clear hb6))
      go_wp2_with fail
      refine ⟨⟨k + 1, by omega, by go_num, ⟨_, hf7, fun i hi hik => ?_⟩, hp7.below (HM.out.2.trans (hb.mono HM.out.2.size)) (Nat.le_refl _)⟩, zi hlt⟩
      by_cases e : i = k
      · subst e
        rw [if_pos ⟨rfl, rfl⟩]
        simp [Gate.sumTo, Gate.zaW]
      · rw [if_neg (fun h => e (HH.out.2.2.one i k hi hlt h.1 h.2))]
        exact HFK.out i hi (by omega)
    · have e : k = b.ls.length := by omega
      have hBr := HQ.out.2
      have hS1 := za hX1 hz1 hBr
      have hzb := Nat.lt_of_lt_of_le hz1 hBr.size
      have HM : Hid (∃ f, zN wr W0.heap.size f /\ ∀ i (hi : i < b.ls.length), f b.ls[i].tm b.ls[i].rs = some (Gate.sumTo l b b.ls[i] 0)) := by
        obtain ⟨f, hf, hfk⟩ := HQ.out.1
        exact ⟨f, hf, fun i hi => hfk i hi (by omega)⟩
      have HBr := hid hBr
      have HBw : Hid (∀ W, Below W0.heap.size W0 W -> Below w.heap.size w W) := fun W hW => HB0.out.trans (hW.mono HB0.out.size)
      clear hBr HQ hlt hk hkn
      subst e
      go_wp2_with fail
      clear hS1
      go_loopw [35] (fun iv ws => ∃ k : Nat, k <= b.ps.length /\ iv = .int .i64 k /\ Hid ((∃ f, zN ws W0.heap.size f /\ ∀ i (hi : i < b.ls.length), f b.ls[i].tm b.ls[i].rs = some (Gate.sumTo l b b.ls[i] k)) /\ Below W0.heap.size W0 ws)) (fun iv _ => b.ps.length - (intOf iv).toNat)
      case atStart => exact ⟨0, Nat.zero_le _, rfl, HM.out, HBr.out⟩
      case round =>
        obtain ⟨k, hk, rfl, HQ⟩ := hrel
        have hkn : k <= 1000 := by omega
        by_cases hlt : k < b.ps.length
        · obtain ⟨f, hf, hfk⟩ := HQ.out.1
          have hBr := HQ.out.2
          obtain ⟨ob, off, rfl, hob, d0, d1, d2, d3, d4⟩ := HH.out.2.1.ps.load (HBw.out _ hBr) k hlt
          have hsm := HH.out.2.1.ps.small k hlt
          have hltI : (k : Int) < (b.ps.length : Int) := by omega
          have hob' := Nat.lt_of_lt_of_le hob (HBw.out _ hBr).size
          obtain ⟨v, hv, hvb⟩ : ∃ v, f b.ps[k].tm b.ps[k].rs = some v /\ 0 <= v /\ v <= 30000000000000 := by
            obtain ⟨j, hj, e1, e2⟩ := HH.out.2.2.has k hlt
            refine ⟨_, by rw [<- e1, <- e2]; exact hfk j hj, ?_⟩
            have h1 := HH.out.2.2.fr j hj
            have h2 := zfa l b b.ls[j].tm b.ls[j].rs HH.out.2.2.sz
            have h3 := Gate.zbZ b.ps b.ls[j].tm b.ls[j].rs HH.out.2.2.am k hk
            unfold Gate.sumTo
            omega
          have ham := HH.out.2.2.am k hlt
          have hwr : IntKind.i64.wrap (v + b.ps[k].am) = v + b.ps[k].am := by rw [IntKind.wrap_i64]; omega
          have HM2 := zia hf hBr hv hfk
          clear hf hfk hBr HQ hv hvb
          have HFIN : Hid (∀ i (hi : i < b.ls.length), (if b.ls[i].tm = b.ps[k].tm /\ b.ls[i].rs = b.ps[k].rs then some (v + b.ps[k].am) else f b.ls[i].tm b.ls[i].rs) = some (Gate.sumTo l b b.ls[i] (k + 1))) := by
            intro i hi
            obtain ⟨_, _, g1, g2⟩ := HM2.out
            have g3 := g2 i hi
            by_cases e : b.ls[i].tm = b.ps[k].tm /\ b.ls[i].rs = b.ps[k].rs
            · rw [if_pos e]
              have g4 : v = Gate.sumTo l b b.ls[i] k := by
                rw [e.1, e.2, g1] at g3
                exact Option.some.inj g3
              unfold Gate.sumTo at g4 ⊢
              rw [Gate.zev _ _ _ _ hlt, if_pos (by unfold Gate.zob; simp [e.1, e.2]), g4]
              congr 1
              omega
            · rw [if_neg e, g3]
              unfold Gate.sumTo
              rw [Gate.zev _ _ _ _ hlt, if_neg (by unfold Gate.zob; simp only [Bool.and_eq_true, decide_eq_true_eq]; exact fun h => e ⟨h.1.symm, h.2.symm⟩)]
              congr 1
              omega
          go_wp2_with fail
          have hba := (Below.refl wr.heap.size wr).alloc (Nat.le_refl _) (.cells #[.string b.ps[k].dr, .string b.ps[k].tm, .string b.ps[k].rs, .int .i64 b.ps[k].am, .int .i64 b.ps[k].un] 136)
          have hT2 := zG wr #[.string b.ps[k].dr, .string b.ps[k].tm, .string b.ps[k].rs, .int .i64 b.ps[k].am, .int .i64 b.ps[k].un] 136
          have hzg : wr.heap.size < (wr.alloc (.cells #[.string b.ps[k].dr, .string b.ps[k].tm, .string b.ps[k].rs, .int .i64 b.ps[k].am, .int .i64 b.ps[k].un] 136)).heap.size := by simp
          obtain ⟨W2, hW2⟩ : ∃ W2, W2 = wr.alloc (.cells #[.string b.ps[k].dr, .string b.ps[k].tm, .string b.ps[k].rs, .int .i64 b.ps[k].am, .int .i64 b.ps[k].un] 136) := ⟨_, rfl⟩
          rw [<- hW2] at hba hT2 hzg ⊢
          clear hW2 d0 d1 d2 d3 d4
          have hS2 := za hT2 hzg (Below.refl W2.heap.size W2).drew
          have hb := hba.trans ((Below.refl W2.heap.size W2).drew.mono hba.size)
          have hy2 := hzg
          have HNE : Hid (wr.heap.size ≠ W0.heap.size) := by have := HM2.out.1.lt; intro h; omega
          clear hT2 hba
          go_region_held3 (fun w' => ∀ j, w'.cell? ⟨wr.heap.size, j, none⟩ = (#[.string b.ps[k].dr, .string b.ps[k].tm, .string b.ps[k].rs, .int .i64 b.ps[k].am, .int .i64 b.ps[k].un] : Array Value)[j]?) (first | exact fun j => by rw [hS2] | exact fun j => by rw [hU2]) (first
            | (go_at_call 164; refine (zc1 b.ps[k] _).mono ?_; rintro e w5 ⟨rfl, hb5⟩; have hS2 := za hS2 hy2 hb5; have hb := hb.trans (hb5.mono hb.size); have hf5 := HM2.out.1.mono hb; have hlk := hf5.look zcb Tryz.underlying231 b.ps[k].tm b.ps[k].rs hsm.tm hsm.rs false; rw [HM2.out.2.2.1] at hlk; obtain ⟨st, hen, hst⟩ := hf5.entry zcb Tryz.underlying231 b.ps[k].tm b.ps[k].rs hsm.tm hsm.rs v HM2.out.2.2.1; obtain ⟨w7, hup, hf7, hp7⟩ := hst (v + b.ps[k].am); unfold yO at hlk hen ⊢; rw [HSZ.out] at hlk hen hup; simp only [Option.getD_some, Bool.false_eq_true, if_false] at hlk; have hU2 := fun j => (zfw hp7 (o := j) HNE.out).trans (hS2 j); clear hb5 hst))
          all_goals first | (go_wp2_with fail; exact ⟨⟨k + 1, by omega, by go_num, ⟨_, hf7, HFIN.out⟩, hp7.below (HM2.out.2.1.trans (hb.mono HM2.out.2.1.size)) (Nat.le_refl _)⟩, zi hlt⟩) | exact ⟨⟨k + 1, by omega, by go_num, ⟨_, hf7, HFIN.out⟩, hp7.below (HM2.out.2.1.trans (hb.mono HM2.out.2.1.size)) (Nat.le_refl _)⟩, zi hlt⟩
        · have e : k = b.ps.length := by omega
          subst e
          have HE := hid HQ.out
          clear HQ hlt hk
          go_wp2_with fail
          go_ret
          obtain ⟨⟨f, h1, h2⟩, h3⟩ := HE.out
          rw [HSZ.out] at h1
          exact ⟨⟨_, f, rfl, by omega, h1, h2⟩, HBw.out _ h3⟩
end Go.Proofs.YtfpeplbmfbepcaaGreat

namespace Go.Proofs.YtfpeplbmfbepcaaGreat
open Go.RowKit
namespace Gate
def zbr (l : Lw) (b : Bk) (g : Lg) : Bool := decide (sumTo l b g b.ps.length = g.mo)
def zb6 (l : Lw) (b : Bk) : Bool := b.ls.all (zbr l b)
end Gate
set_option maxRecDepth 20000 in
set_option maxHeartbeats 4000000 in
theorem zmT (l : Lw) (la lb lc : Option Addr) (lca lcb lcc : Nat) (b : Bk) (a0 a1 a2 a3 : Option Addr) (c0 c1 c2 c3 : Nat) (w : World) (hl : qB w l la lb lc) (hb : y9 w b a0 a1 a2 a3) (hs : zh2 b) :
    Calls Tryz.prog 114 #[.agg (lC l la lb lc lca lcb lcc), .agg (bC b a0 a1 a2 a3 c0 c1 c2 c3)] w fun e w' => e = .returned (.bool (Gate.zb6 l b)) /\ Below w.heap.size w w' := by
  have HH := zdB hl hb hs
  have hll := hs.ll
  clear hl hb hs
  have HG : Hid (Gate.zb6 l b = b.ls.all (Gate.zbr l b)) := rfl
  go_enter Tryz.func114, Tryz.ntmps114
  go_wp2_with fail
  have hb2 := zn w (.cells (lC l la lb lc lca lcb lcc) 41) (.cells (bC b a0 a1 a2 a3 c0 c1 c2 c3) 48)
  refine (znV l la lb lc lca lcb lcc b a0 a1 a2 a3 c0 c1 c2 c3 _ (HH.out.1.mono hb2) (HH.out.2.1.mono hb2) HH.out.2.2).mono ?_
  rintro e w1 ⟨⟨r, f, rfl, hr, hf, hfk⟩, hb1⟩
  have hX1 : ∀ j, w1.cell? ⟨w.heap.size + 1, j, none⟩ = (bC b a0 a1 a2 a3 c0 c1 c2 c3)[j]? := fun j => cell_of_block ((hb1.block (w.heap.size + 1) (by simp)).trans (zP _ _ _).2)
  have hz1 : w.heap.size + 1 < w1.heap.size := by have := hb1.size; simp at this; omega
  have HB1 : Hid (Below w.heap.size w w1) := hb2.trans (hb1.mono (by simp; omega))
  have HM := qJ hf hfk
  clear hb1 hb2 hf hfk hr
  go_wp2_with fail
  go_loopw [14] (fun iv wr => ∃ k : Nat, k <= b.ls.length /\ iv = .int .i64 k /\ Hid ((b.ls.take k).all (Gate.zbr l b) = true /\ Below w1.heap.size w1 wr)) (fun iv _ => b.ls.length - (intOf iv).toNat)
  case atStart => exact ⟨0, Nat.zero_le _, rfl, by simp, Below.refl _ _⟩
  case round =>
    obtain ⟨k, hk, rfl, HQ⟩ := hrel
    have hkn : k <= 1000 := by omega
    by_cases hlt : k < b.ls.length
    · have hBr := HQ.out.2
      have hBw := HB1.out.trans (hBr.mono HB1.out.size)
      obtain ⟨ob, off, rfl, hob, d0, d1, d2, d3⟩ := HH.out.2.1.ls.load hBw k hlt
      have hsm := HH.out.2.1.ls.small k hlt
      have hltI : (k : Int) < (b.ls.length : Int) := by omega
      have hob' : ob < wr.heap.size := Nat.lt_of_lt_of_le hob hBw.size
      have HSn : Hid ((b.ls.take (k + 1)).all (Gate.zbr l b) = ((b.ls.take k).all (Gate.zbr l b) && (Gate.zbr l b) b.ls[k])) := Gate.ql _ _ _ hlt
      have HNo : Hid ((Gate.zbr l b) b.ls[k] = false -> Gate.zb6 l b = false) := fun h => by rw [HG.out]; exact Gate.j6 _ _ _ hlt h
      have HYes : Hid ((Gate.zbr l b) b.ls[k] = true -> (b.ls.take (k + 1)).all (Gate.zbr l b) = true) := fun h => by rw [HSn.out, HQ.out.1, h]; rfl
      obtain ⟨v, hv⟩ : ∃ v, v = Gate.sumTo l b b.ls[k] b.ps.length := ⟨_, rfl⟩
      have HM2 : Hid (zN wr r f /\ Below w1.heap.size w1 wr /\ f b.ls[k].tm b.ls[k].rs = some v) := ⟨HM.out.1.mono hBr, hBr, by rw [hv]; exact HM.out.2 k hlt⟩
      have HV := hid hv
      clear hBr hBw HQ hv
      by_cases he : v = b.ls[k].mo
      · have e2 : (v != b.ls[k].mo) = false := by simp [he]
        have HN : Hid ((b.ls.take (k + 1)).all (Gate.zbr l b) = true) := HYes.out (by unfold Gate.zbr; rw [decide_eq_true_eq, <- HV.out]; exact he)
        clear he
        go_wp2_with fail
        have hba := (Below.refl wr.heap.size wr).alloc (Nat.le_refl _) (.cells #[.string b.ls[k].tm, .string b.ls[k].rs, .int .i64 b.ls[k].mo, .int .i64 b.ls[k].fr] 134)
        have hT2 := zG wr #[.string b.ls[k].tm, .string b.ls[k].rs, .int .i64 b.ls[k].mo, .int .i64 b.ls[k].fr] 134
        have hzg : wr.heap.size < (wr.alloc (.cells #[.string b.ls[k].tm, .string b.ls[k].rs, .int .i64 b.ls[k].mo, .int .i64 b.ls[k].fr] 134)).heap.size := by simp
        obtain ⟨W2, hW2⟩ : ∃ W2, W2 = wr.alloc (.cells #[.string b.ls[k].tm, .string b.ls[k].rs, .int .i64 b.ls[k].mo, .int .i64 b.ls[k].fr] 134) := ⟨_, rfl⟩
        rw [<- hW2] at hba hT2 hzg ⊢
        clear hW2 d0 d1 d2 d3
        have hS2 := za hT2 hzg (Below.refl W2.heap.size W2).drew
        have hb := hba.trans ((Below.refl W2.heap.size W2).drew.mono hba.size)
        have hy2 := hzg
        clear hT2 hba
        go_region_held3 (fun w' => ∀ j, w'.cell? ⟨wr.heap.size, j, none⟩ = (#[.string b.ls[k].tm, .string b.ls[k].rs, .int .i64 b.ls[k].mo, .int .i64 b.ls[k].fr] : Array Value)[j]?) (exact fun j => by rw [hS2]) (first
          | (go_at_call 166; refine (zbi b.ls[k] _).mono ?_; rintro e w5 ⟨rfl, hb5⟩; have hS2 := za hS2 hy2 hb5; have hb := hb.trans (hb5.mono hb.size); have hf5 := HM2.out.1.mono hb; have hlk := hf5.look zcb Tryz.underlying231 b.ls[k].tm b.ls[k].rs hsm.tm hsm.rs false; rw [HM2.out.2.2] at hlk; unfold yO at hlk ⊢; simp only [Option.getD_some, Bool.false_eq_true, if_false] at hlk; clear hb5))
        go_wp2_with fail
        exact ⟨⟨k + 1, by omega, by go_num, HN.out, HM2.out.2.1.trans (hb.mono HM2.out.2.1.size)⟩, zi hlt⟩
      · have e2 : (v != b.ls[k].mo) = true := by simp [he]
        have HN : Hid (Gate.zb6 l b = false) := HNo.out (by unfold Gate.zbr; rw [decide_eq_false_iff_not, <- HV.out]; exact he)
        clear he
        go_wp2_with fail
        have hba := (Below.refl wr.heap.size wr).alloc (Nat.le_refl _) (.cells #[.string b.ls[k].tm, .string b.ls[k].rs, .int .i64 b.ls[k].mo, .int .i64 b.ls[k].fr] 134)
        have hT2 := zG wr #[.string b.ls[k].tm, .string b.ls[k].rs, .int .i64 b.ls[k].mo, .int .i64 b.ls[k].fr] 134
        have hzg : wr.heap.size < (wr.alloc (.cells #[.string b.ls[k].tm, .string b.ls[k].rs, .int .i64 b.ls[k].mo, .int .i64 b.ls[k].fr] 134)).heap.size := by simp
        obtain ⟨W2, hW2⟩ : ∃ W2, W2 = wr.alloc (.cells #[.string b.ls[k].tm, .string b.ls[k].rs, .int .i64 b.ls[k].mo, .int .i64 b.ls[k].fr] 134) := ⟨_, rfl⟩
        rw [<- hW2] at hba hT2 hzg ⊢
        clear hW2 d0 d1 d2 d3
        have hS2 := za hT2 hzg (Below.refl W2.heap.size W2).drew
        have hb := hba.trans ((Below.refl W2.heap.size W2).drew.mono hba.size)
        have hy2 := hzg
        clear hT2 hba
        go_region_held3 (fun w' => ∀ j, w'.cell? ⟨wr.heap.size, j, none⟩ = (#[.string b.ls[k].tm, .string b.ls[k].rs, .int .i64 b.ls[k].mo, .int .i64 b.ls[k].fr] : Array Value)[j]?) (exact fun j => by rw [hS2]) (first
          | (go_at_call 166; refine (zbi b.ls[k] _).mono ?_; rintro e w5 ⟨rfl, hb5⟩; have hS2 := za hS2 hy2 hb5; have hb := hb.trans (hb5.mono hb.size); have hf5 := HM2.out.1.mono hb; have hlk := hf5.look zcb Tryz.underlying231 b.ls[k].tm b.ls[k].rs hsm.tm hsm.rs false; rw [HM2.out.2.2] at hlk; unfold yO at hlk ⊢; simp only [Option.getD_some, Bool.false_eq_true, if_false] at hlk; clear hb5))
        go_wp2_with fail
        go_ret
        have h9 := HM2.out.2.1.trans (hb.mono HM2.out.2.1.size)
        exact ⟨ze HN.out.symm, HB1.out.trans (h9.mono HB1.out.size)⟩
    · have e : k = b.ls.length := by omega
      subst e
      have HE : Hid (Gate.zb6 l b = true) := by have := HQ.out.1; rw [List.take_of_length_le (Nat.le_refl _)] at this; unfold Hid; rw [HG.out]; exact this
      have HB := hid HQ.out.2
      clear HQ hlt hk
      go_wp2_with fail
      go_ret
      exact ⟨ze HE.out.symm, HB1.out.trans (HB.out.mono HB1.out.size)⟩
end Go.Proofs.YtfpeplbmfbepcaaGreat
