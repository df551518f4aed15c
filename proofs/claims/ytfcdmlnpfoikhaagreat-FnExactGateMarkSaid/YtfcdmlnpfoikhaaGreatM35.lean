import Derived.Test.YtfcdmlnpfoikhaaGreatM32
import Derived.Deep.QuietTactic
import Derived.BigQuiet
import Derived.Test.YtfcdmlnpfoikhaaGreatM02
namespace Go.Proofs.YtfcdmlnpfoikhaaGreat
open Go.RowKit
set_option maxHeartbeats 4000000 in
theorem zim (l : Lw) (la lb lc : Option Addr) (lca lcb lcc : Nat) (b : Bk) (a0 a1 a2 a3 : Option Addr) (c0 c1 c2 c3 : Nat) (w : World) (hb : qD w b a0 a1 a2 a3) (hl : qA w l la lb lc) :
    Calls Tryz.prog 109 #[.agg (l.cells la lb lc lca lcb lcc), .agg (b.cells a0 a1 a2 a3 c0 c1 c2 c3)] w fun e w' => e = .returned (.bool (Gate.yC l.ts b)) /\ Below w.heap.size w w' := by
  have HK := hid hb
  have HL := hid hl
  clear hb hl
  unfold Lw.cells Bk.cells
  by_cases hln : b.ls.length <= 10
  rotate_left
  · have HF : Hid (Gate.yC l.ts b = false) := by unfold Hid Gate.yC; rw [decide_eq_false hln]; rfl
    have hg : (10 : Int) < (b.ls.length : Int) := by omega
    go_enter Tryz.func109, Tryz.ntmps109
    go_wp2_with fail
    go_ret
    exact ⟨ze HF.out.symm, zq _ _ _⟩
  have hg : decide ((10 : Int) < (b.ls.length : Int)) = false := by simp; omega
  have HLN : Hid (b.ls.length <= 10) := hln
  clear hln
  go_enter Tryz.func109, Tryz.ntmps109
  go_wp2_with fail
  obtain ⟨hL0, hX0⟩ := yR w (lC l la lb lc lca lcb lcc) (bC b a0 a1 a2 a3 c0 c1 c2 c3) 41 48
  have HB0 : Hid (Below w.heap.size w ((w.alloc (.cells (lC l la lb lc lca lcb lcc) 41)).alloc (.cells (bC b a0 a1 a2 a3 c0 c1 c2 c3) 48))) := zq w _ _
  obtain ⟨W0, hW0⟩ : ∃ W0, W0 = (w.alloc (.cells (lC l la lb lc lca lcb lcc) 41)).alloc (.cells (bC b a0 a1 a2 a3 c0 c1 c2 c3) 48) := ⟨_, rfl⟩
  have hz0 : w.heap.size + 1 < W0.heap.size := by rw [hW0]; simp
  rw [<- hW0] at HB0 hX0 hL0 ⊢
  clear hW0
  refine (zg7 _ _ b.ls _ (HK.out.ls.mono HB0.out)).mono ?_
  rintro e w1 ⟨rfl, hb1⟩
  have HB1 := hid (HB0.out.trans (hb1.mono HB0.out.size))
  have hX1 := za hX0 hz0 hb1
  have hL1 := za hL0 (Nat.lt_of_succ_lt hz0) hb1
  have hz1 := Nat.lt_of_lt_of_le hz0 hb1.size
  clear hb1 hX0 hL0 hz0 HB0
  by_cases has : Gate.zbe Gate.yT b.ls = true
  rotate_left
  · have has' : Gate.zbe Gate.yT b.ls = false := by simpa using has
    have HF : Hid (Gate.yC l.ts b = false) := by unfold Hid Gate.yC; rw [has']; simp
    rw [has']
    clear has has'
    go_wp2_with fail
    go_ret
    exact ⟨ze HF.out.symm, HB1.out⟩
  have HG : Hid (Gate.yC l.ts b = b.ls.all (Gate.yw l.ts)) := by unfold Hid Gate.yC; rw [has, decide_eq_true HLN.out]; rfl
  rw [has]
  clear has
  go_wp2_with fail
  go_loopw [20] (fun iv wr => ∃ k : Nat, k <= b.ls.length /\ iv = .int .i64 k /\ Hid ((b.ls.take k).all (Gate.yw l.ts) = true /\ Below w1.heap.size w1 wr)) (fun iv _ => b.ls.length - (intOf iv).toNat)
  case atStart => exact ⟨0, Nat.zero_le _, rfl, by simp, Below.refl _ _⟩
  case round =>
    obtain ⟨k, hk, rfl, HQ⟩ := hrel
    have hkn : k <= 10 := by have := HLN.out; omega
    by_cases hlt : k < b.ls.length
    · obtain ⟨ob, off, rfl, hob, d0, d1, d2, d3⟩ := HK.out.ls.load (HB1.out.trans (HQ.out.2.mono HB1.out.size)) k hlt
      have hob' := Nat.lt_of_lt_of_le hob (HB1.out.trans (HQ.out.2.mono HB1.out.size)).size
      have hltI : (k : Int) < (b.ls.length : Int) := by omega
      have hX := za hX1 hz1 HQ.out.2
      have hz : w.heap.size + 1 < wr.heap.size := Nat.lt_of_lt_of_le hz1 HQ.out.2.size
      have HSn : Hid ((b.ls.take (k + 1)).all (Gate.yw l.ts) = ((b.ls.take k).all (Gate.yw l.ts) && (Gate.yw l.ts) b.ls[k])) := Gate.y9 _ _ _ hlt
      have HBo : Hid (∀ ob, Below w1.heap.size w1 (wr.alloc ob)) := fun ob => HQ.out.2.alloc HQ.out.2.size _
      have HBw : Hid (∀ W, Below w1.heap.size w1 W -> Below w.heap.size w W) := fun W hW => HB1.out.trans (hW.mono HB1.out.size)
      have HNo : Hid ((Gate.yw l.ts) b.ls[k] = false -> Gate.yC l.ts b = false) := fun h => by rw [HG.out]; exact Gate.jX _ _ _ hlt h
      have HYes : Hid ((Gate.yw l.ts) b.ls[k] = true -> (b.ls.take (k + 1)).all (Gate.yw l.ts) = true) := fun h => by rw [HSn.out, HQ.out.1, h]; rfl
      have hL := za hL1 (Nat.lt_of_succ_lt hz1) HQ.out.2
      have hzL := Nat.lt_of_succ_lt hz
      have HSm : Hid b.ls[k].Small := HK.out.ls.small k hlt
      go_wp2_with fail
      have hbN : Below wr.heap.size wr (wr.alloc (.cells #[.string b.ls[k].tm, .string b.ls[k].rs, .int .i64 b.ls[k].mo, .int .i64 b.ls[k].fr] 130)) := (Below.refl _ _).alloc (Nat.le_refl _) _
      have hN := zH wr #[.string b.ls[k].tm, .string b.ls[k].rs, .int .i64 b.ls[k].mo, .int .i64 b.ls[k].fr] 130
      obtain ⟨w2, hw2⟩ : ∃ w2, w2 = wr.alloc (.cells #[.string b.ls[k].tm, .string b.ls[k].rs, .int .i64 b.ls[k].mo, .int .i64 b.ls[k].fr] 130) := ⟨_, rfl⟩
      have hn2 : wr.heap.size < w2.heap.size := by rw [hw2]; simp
      rw [<- hw2] at hbN hN ⊢
      have HB2 : Hid (Below w1.heap.size w1 w2) := by unfold Hid; rw [hw2]; exact HBo.out _
      clear hw2 d0 d1 d2 d3 hX hL hbN
      refine (zbY _ _ l.ts b.ls[k].tm _ (HL.out.ts.mono (HBw.out _ HB2.out))).mono ?_
      rintro e w3 ⟨rfl, hb3⟩
      have HB3 := hid (HB2.out.trans (hb3.mono HB2.out.size))
      have hN3 := za hN hn2 hb3
      have hn3 := Nat.lt_of_lt_of_le hn2 hb3.size
      clear hb3 hN hn2 HB2
      have HN1 : ∀ v, Gate.zy b.ls[k].rs = v -> Hid (∀ W, Calls Tryz.prog 140 #[.string b.ls[k].rs] W fun e w' => e = .returned (.bool v) /\ w' = W) := fun v h W => zw h (zN _ W HSm.out.rs)
      by_cases t1 : Gate.yh l.ts b.ls[k].tm = true
      rotate_left
      · have HF : Hid (Gate.yC l.ts b = false) := HNo.out (by unfold Gate.yw; rw [Bool.eq_false_iff.2 t1]; rfl)
        rw [Bool.eq_false_iff.2 t1]
        clear HN1 t1
        go_wp2_with fail
        go_ret
        exact ⟨ze HF.out.symm, HBw.out _ HB3.out⟩
      rw [t1]
      by_cases t2 : Gate.zy b.ls[k].rs = true
      rotate_left
      · have HF : Hid (Gate.yC l.ts b = false) := HNo.out (by unfold Gate.yw; rw [t1, Bool.eq_false_iff.2 t2]; rfl)
        have H2 := HN1 false (Bool.eq_false_iff.2 t2)
        clear HN1 t1 t2
        go_wp2_with fail
        refine (H2.out _).mono ?_
        rintro e w4 ⟨rfl, rfl⟩
        go_wp2_with fail
        go_ret
        exact ⟨ze HF.out.symm, HBw.out _ HB3.out⟩
      have H2 := HN1 true t2
      by_cases t3 : Gate.jl b.ls[k].fr b.ls[k].mo 0 1000000 = true
      · have HY : Hid ((b.ls.take (k + 1)).all (Gate.yw l.ts) = true) := HYes.out (by unfold Gate.yw; rw [t1, t2, t3]; rfl)
        have H3 : Hid (∀ W, Calls Tryz.prog 156 #[.int .i64 b.ls[k].fr, .int .i64 b.ls[k].mo, .int .i64 0, .int .i64 1000000] W fun e w' => e = .returned (.bool true) /\ w' = W) := fun W => zw t3 (zaW _ _ _ _ W)
        clear HN1 t1 t2 t3
        go_wp2_with fail
        refine (H2.out _).mono ?_
        rintro e w4 ⟨rfl, rfl⟩
        go_wp2_with fail
        refine (H3.out _).mono ?_
        rintro e w4 ⟨rfl, rfl⟩
        go_wp2_with fail
        exact ⟨⟨k + 1, by omega, by go_num, HY.out, HB3.out⟩, zk hlt⟩
      · have HF : Hid (Gate.yC l.ts b = false) := HNo.out (by unfold Gate.yw; rw [t1, t2, Bool.eq_false_iff.2 t3]; rfl)
        have H3 : Hid (∀ W, Calls Tryz.prog 156 #[.int .i64 b.ls[k].fr, .int .i64 b.ls[k].mo, .int .i64 0, .int .i64 1000000] W fun e w' => e = .returned (.bool false) /\ w' = W) := fun W => zw (Bool.eq_false_iff.2 t3) (zaW _ _ _ _ W)
        clear HN1 t1 t2 t3
        go_wp2_with fail
        refine (H2.out _).mono ?_
        rintro e w4 ⟨rfl, rfl⟩
        go_wp2_with fail
        refine (H3.out _).mono ?_
        rintro e w4 ⟨rfl, rfl⟩
        go_wp2_with fail
        go_ret
        exact ⟨ze HF.out.symm, HBw.out _ HB3.out⟩
    · have e : k = b.ls.length := by omega
      subst e
      have HE : Hid (Gate.yC l.ts b = true) := by
        unfold Hid
        rw [HG.out]
        have h := HQ.out.1
        rw [List.take_of_length_le (Nat.le_refl _)] at h
        exact h
      have HBe := hid (HB1.out.trans (HQ.out.2.mono HB1.out.size))
      clear hlt hk HQ
      go_wp2_with fail
      go_ret
      exact ⟨ze HE.out.symm, HBe.out⟩
end Go.Proofs.YtfcdmlnpfoikhaaGreat

namespace Go.Proofs.YtfcdmlnpfoikhaaGreat
open Go.RowKit
namespace Gate
theorem zpc (a b : ByteArray) : key a b < 0 ↔ less a b = true := by
  rw [zhK, decide_eq_true_eq]
  have := zlX a b
  omega
theorem zjY {a b c : ByteArray} (h : key a b < 0) (h' : key b c < 0) : key a c < 0 := by
  rw [zpc] at h h' ⊢
  exact zaI _ _ _ h h'
theorem znf {a b c d e f : ByteArray} (h : key2 a b c d < 0) (h' : key2 c d e f < 0) : key2 a b e f < 0 := by
  unfold key2 at h h' ⊢
  by_cases h1 : key a c = 0
  · rw [if_pos h1] at h
    have e1 := (za7 a c).1 h1
    subst e1
    by_cases h2 : key a e = 0
    · rw [if_pos h2] at h' ⊢
      exact zjY h h'
    · rw [if_neg h2] at h' ⊢
      exact h'
  · rw [if_neg h1] at h
    by_cases h2 : key c e = 0
    · have e1 := (za7 c e).1 h2
      subst e1
      rw [if_neg h1]
      exact h
    · rw [if_neg h2] at h'
      have h3 := zjY h h'
      rw [if_neg (by omega)]
      exact h3
theorem zaT {a b c : Lg} (h : yT a b < 0) (h' : yT b c < 0) : yT a c < 0 := znf h h'
theorem zf5 {a b c d : ByteArray} : key2 a b c d = 0 ↔ a = c /\ b = d := by
  unfold key2
  by_cases h : key a c = 0
  · rw [if_pos h, za7]
    exact ⟨fun e => ⟨(za7 a c).1 h, e⟩, fun e => e.2⟩
  · rw [if_neg h]
    exact ⟨fun e => absurd e h, fun e => absurd ((za7 a c).2 e.1) h⟩
theorem zcJ {α : Type} {key : α -> α -> Int} (ht : ∀ a b c : α, key a b < 0 -> key b c < 0 -> key a c < 0) {ms : List α} (h : rising key ms) : ∀ (j : Nat) (hj : j < ms.length) (i : Nat) (hi : i < j), key (ms[i]'(by omega)) ms[j] < 0
  | 0, _, i, hi => by omega
  | j + 1, hj, i, hi => by
    rcases Nat.lt_or_ge i j with hlt | hge
    · have hjl : j < ms.length := by omega
      have hil : i < ms.length := by omega
      exact ht ms[i] ms[j] ms[j + 1] (zcJ ht h j hjl i hlt) (h j hj)
    · have e : i = j := by omega
      subst e
      exact h i hj
def jI (ls : List Lg) (tm rs : ByteArray) : Bool := ls.any fun g => decide (g.tm = tm) && decide (g.rs = rs)
structure zdB (ls : List Lg) (tm rs : ByteArray) (p : Nat) : Prop where
  le : p <= ls.length
  below : ∀ i (h : i < ls.length), i < p -> key2 ls[i].tm ls[i].rs tm rs < 0
  above : ∀ i (h : i < ls.length), p <= i -> 0 <= key2 ls[i].tm ls[i].rs tm rs
theorem zdB.found {ls : List Lg} {tm rs : ByteArray} {p : Nat} (h : zdB ls tm rs p) (hr : rising yT ls) : jI ls tm rs = true ↔ ∃ hp : p < ls.length, ls[p].tm = tm /\ ls[p].rs = rs := by
  unfold jI
  rw [List.any_eq_true]
  constructor
  · rintro ⟨g, hg, he⟩
    obtain ⟨i, hi, rfl⟩ := List.mem_iff_getElem.1 hg
    simp only [Bool.and_eq_true, decide_eq_true_eq] at he
    have hz : key2 ls[i].tm ls[i].rs tm rs = 0 := zf5.2 he
    have hpi : p <= i := by
      rcases Nat.lt_or_ge i p with hlt | hge
      · have := h.below i hi hlt; omega
      · exact hge
    rcases Nat.eq_or_lt_of_le hpi with e | hlt
    · subst e; exact ⟨hi, he⟩
    · have h1 := zcJ (fun a b c => zaT (a := a) (b := b) (c := c)) hr i hi p hlt
      have h2 := h.above p (by omega) (Nat.le_refl _)
      unfold yT at h1
      rw [he.1, he.2] at h1
      omega
  · rintro ⟨hp, he⟩
    exact ⟨ls[p], List.getElem_mem _, by simp [he.1, he.2]⟩
end Gate
end Go.Proofs.YtfcdmlnpfoikhaaGreat

namespace Go.Proofs.YtfcdmlnpfoikhaaGreat
open Go.RowKit
set_option maxHeartbeats 4000000 in
theorem zfQ (a : Option Addr) (cap : Nat) (ms : List Lg) (t : Lg) (w : World) (hw : zb7 w a ms) (hl : ms.length <= 1000) (hr : Gate.rising Gate.yT ms) :
    Calls Tryz.prog 196 #[.slice a ms.length cap, .agg t.cells, .func (.func 155) #[] #[]] w fun e w' => (∃ p : Nat, e = .returned (.tuple #[.int .i64 p, .bool (Gate.jI ms t.tm t.rs)]) /\ Gate.zdB ms t.tm t.rs p) /\ Below w.heap.size w w' := by
  have HW := hid hw
  have HR : Hid (Gate.rising Gate.yT ms) := hr
  clear hw hr
  unfold Lg.cells
  go_enter Tryz.func196, Tryz.ntmps196
  go_wp2_with fail
  have hT0 := zH w #[.string t.tm, .string t.rs, .int .i64 t.mo, .int .i64 t.fr] 130
  have HB0 : Hid (Below w.heap.size w (w.alloc (.cells #[.string t.tm, .string t.rs, .int .i64 t.mo, .int .i64 t.fr] 130))) := (Below.refl _ _).alloc (Nat.le_refl _) _
  obtain ⟨W0, hW0⟩ : ∃ W0, W0 = w.alloc (.cells #[.string t.tm, .string t.rs, .int .i64 t.mo, .int .i64 t.fr] 130) := ⟨_, rfl⟩
  have hz0 : w.heap.size < W0.heap.size := by rw [hW0]; simp
  rw [<- hW0] at HB0 hT0 ⊢
  clear hW0
  have hlI : (ms.length : Int) <= 1000 := by omega
  go_loopw [9, 10] (fun iv jv wr => ∃ lo hi : Nat, iv = .int .i64 lo /\ jv = .int .i64 hi /\ lo <= hi /\ hi <= ms.length /\ Hid ((∀ i (h : i < ms.length), i < lo -> Gate.yT ms[i] t < 0) /\ (∀ i (h : i < ms.length), hi <= i -> 0 <= Gate.yT ms[i] t) /\ Below W0.heap.size W0 wr)) (fun iv jv _ => (intOf jv).toNat - (intOf iv).toNat)
  case atStart => exact ⟨0, ms.length, rfl, rfl, Nat.zero_le _, Nat.le_refl _, fun i h h' => by omega, fun i h h' => by omega, Below.refl _ _⟩
  case round =>
    obtain ⟨lo, hi, rfl, rfl, hlh, hhn, HQ⟩ := hrel
    have hT := za hT0 hz0 HQ.out.2.2
    have hzT := Nat.lt_of_lt_of_le hz0 HQ.out.2.2.size
    have HBr := hid (HB0.out.trans (HQ.out.2.2.mono HB0.out.size))
    have HBW : Hid (∀ W, Below w.heap.size w W -> Below wr.heap.size wr W -> Below W0.heap.size W0 W) := fun W _ h => HQ.out.2.2.trans (h.mono HQ.out.2.2.size)
    have hloI : (lo : Int) <= 1000 := by omega
    have hhiI : (hi : Int) <= 1000 := by omega
    by_cases hlt : lo < hi
    · obtain ⟨m, hm⟩ : ∃ m, m = (lo + hi) / 2 := ⟨_, rfl⟩
      have HM1 : Hid (lo <= m /\ m < hi) := ⟨by omega, by omega⟩
      have hml : m < ms.length := by omega
      have hmI : ((lo : Int) + (hi : Int)) / 2 = (m : Int) := by omega
      clear hm
      obtain ⟨b, off, rfl, hb, d0, d1, d2, d3⟩ := HW.out.load HBr.out m hml
      have hb' := Nat.lt_of_lt_of_le hb HBr.out.size
      have hmlI : (m : Int) < (ms.length : Int) := by omega
      have hS : (∀ j, wr.drew.cell? ⟨w.heap.size, j, none⟩ = (#[.string t.tm, .string t.rs, .int .i64 t.mo, .int .i64 t.fr] : Array Value)[j]?) /\ wr.drew.cell? ⟨b, off + m * 4, none⟩ = some (.string ms[m].tm) /\ wr.drew.cell? ⟨b, off + m * 4 + 1, none⟩ = some (.string ms[m].rs) /\ wr.drew.cell? ⟨b, off + m * 4 + 2, none⟩ = some (.int .i64 ms[m].mo) /\ wr.drew.cell? ⟨b, off + m * 4 + 3, none⟩ = some (.int .i64 ms[m].fr) := ⟨hT, d0, d1, d2, d3⟩
      clear d0 d1 d2 d3 hT
      go_wp2_with fail
      go_region_held3 (fun w' => (∀ j, w'.cell? ⟨w.heap.size, j, none⟩ = (#[.string t.tm, .string t.rs, .int .i64 t.mo, .int .i64 t.fr] : Array Value)[j]?) /\ w'.cell? ⟨b, off + m * 4, none⟩ = some (.string ms[m].tm) /\ w'.cell? ⟨b, off + m * 4 + 1, none⟩ = some (.string ms[m].rs) /\ w'.cell? ⟨b, off + m * 4 + 2, none⟩ = some (.int .i64 ms[m].mo) /\ w'.cell? ⟨b, off + m * 4 + 3, none⟩ = some (.int .i64 ms[m].fr)) (exact hS) (first | (go_at_call 155; refine (zbF ms[m] t _).mono ?_; rintro e w2 ⟨rfl, hb2⟩; have hS := (⟨za hS.1 hzT hb2, (hb2.cell (p := ⟨b, _, none⟩) hb').trans hS.2.1, (hb2.cell (p := ⟨b, _, none⟩) hb').trans hS.2.2.1, (hb2.cell (p := ⟨b, _, none⟩) hb').trans hS.2.2.2.1, (hb2.cell (p := ⟨b, _, none⟩) hb').trans hS.2.2.2.2⟩ : _ /\ _ /\ _ /\ _ /\ _); have hB2 := HBr.out.drew.trans (hb2.mono HBr.out.drew.size); have hB2' := (Below.refl wr.heap.size wr).drew.trans hb2; clear hb2))
      have HB2 := hid (HBW.out w2 hB2 hB2')
      by_cases hk : Gate.yT ms[m] t < 0
      · have hd : decide (Gate.yT ms[m] t < 0) = true := by simpa using hk
        have HA : Hid (∀ i (h : i < ms.length), i < m + 1 -> Gate.yT ms[i] t < 0) := by
          intro i hi him
          rcases Nat.eq_or_lt_of_le (Nat.le_of_lt_succ him) with e | hlt'
          · subst e; exact hk
          · exact Gate.zaT (Gate.zcJ (fun a b c => Gate.zaT (a := a) (b := b) (c := c)) HR.out m hml i hlt') hk
        rw [hd]
        clear hd hk hS
        go_wp2_with fail
        exact ⟨⟨m + 1, hi, by go_num, rfl, HM1.out.2, hhn, HA.out, HQ.out.2.1, HB2.out⟩, by have := HM1.out; show (hi : Int).toNat - ((m : Int) + 1).toNat < (hi : Int).toNat - (lo : Int).toNat; omega⟩
      · have hd : decide (Gate.yT ms[m] t < 0) = false := by simpa using hk
        have HA : Hid (∀ i (h : i < ms.length), m <= i -> 0 <= Gate.yT ms[i] t) := by
          intro i hi him
          rcases Nat.eq_or_lt_of_le him with e | hlt'
          · subst e; omega
          · rcases Int.lt_or_le (Gate.yT ms[i] t) 0 with h1 | h1
            · exact absurd (Gate.zaT (Gate.zcJ (fun a b c => Gate.zaT (a := a) (b := b) (c := c)) HR.out i hi m hlt') h1) hk
            · exact h1
        rw [hd]
        clear hd hk hS
        go_wp2_with fail
        exact ⟨⟨lo, m, rfl, rfl, HM1.out.1, Nat.le_of_lt hml, HQ.out.1, HA.out, HB2.out⟩, by have := HM1.out; show (m : Int).toNat - (lo : Int).toNat < (hi : Int).toNat - (lo : Int).toNat; omega⟩
    · have e : hi = lo := by omega
      subst e
      have HA : Hid (Gate.zdB ms t.tm t.rs hi) := ⟨hhn, HQ.out.1, HQ.out.2.1⟩
      clear HQ
      by_cases hn : hi < ms.length
      · obtain ⟨b, off, rfl, hb, d0, d1, d2, d3⟩ := HW.out.load HBr.out hi hn
        have hb' : b < wr.heap.size := Nat.lt_of_lt_of_le hb HBr.out.size
        have hnI : (hi : Int) < (ms.length : Int) := by omega
        have hS : (∀ j, wr.drew.cell? ⟨w.heap.size, j, none⟩ = (#[.string t.tm, .string t.rs, .int .i64 t.mo, .int .i64 t.fr] : Array Value)[j]?) /\ wr.drew.cell? ⟨b, off + hi * 4, none⟩ = some (.string ms[hi].tm) /\ wr.drew.cell? ⟨b, off + hi * 4 + 1, none⟩ = some (.string ms[hi].rs) /\ wr.drew.cell? ⟨b, off + hi * 4 + 2, none⟩ = some (.int .i64 ms[hi].mo) /\ wr.drew.cell? ⟨b, off + hi * 4 + 3, none⟩ = some (.int .i64 ms[hi].fr) := ⟨hT, d0, d1, d2, d3⟩
        have HFd : Hid (Gate.jI ms t.tm t.rs = (Gate.yT ms[hi] t == 0)) := by
          unfold Hid
          rw [Bool.eq_iff_iff, HA.out.found HR.out, beq_iff_eq]
          unfold Gate.yT
          rw [Gate.zf5]
          exact ⟨fun h => h.2, fun h => ⟨hn, h⟩⟩
        clear d0 d1 d2 d3 hT hlt
        go_wp2_with fail
        go_region_held3 (fun w' => (∀ j, w'.cell? ⟨w.heap.size, j, none⟩ = (#[.string t.tm, .string t.rs, .int .i64 t.mo, .int .i64 t.fr] : Array Value)[j]?) /\ w'.cell? ⟨b, off + hi * 4, none⟩ = some (.string ms[hi].tm) /\ w'.cell? ⟨b, off + hi * 4 + 1, none⟩ = some (.string ms[hi].rs) /\ w'.cell? ⟨b, off + hi * 4 + 2, none⟩ = some (.int .i64 ms[hi].mo) /\ w'.cell? ⟨b, off + hi * 4 + 3, none⟩ = some (.int .i64 ms[hi].fr)) (exact hS) (first | (go_at_call 155; refine (zbF ms[hi] t _).mono ?_; rintro e w2 ⟨rfl, hb2⟩; have hS := (⟨za hS.1 hzT hb2, (hb2.cell (p := ⟨b, _, none⟩) hb').trans hS.2.1, (hb2.cell (p := ⟨b, _, none⟩) hb').trans hS.2.2.1, (hb2.cell (p := ⟨b, _, none⟩) hb').trans hS.2.2.2.1, (hb2.cell (p := ⟨b, _, none⟩) hb').trans hS.2.2.2.2⟩ : _ /\ _ /\ _ /\ _ /\ _); have hB2 := HBr.out.drew.trans (hb2.mono HBr.out.drew.size); have hB2' := (Below.refl wr.heap.size wr).drew.trans hb2; clear hb2))
        go_wp2_with fail
        go_ret2
        exact ⟨⟨hi, by rw [HFd.out]; rfl, HA.out⟩, hB2⟩
      · have hnI : ¬ (hi : Int) < (ms.length : Int) := by omega
        have HFd : Hid (Gate.jI ms t.tm t.rs = false) := by
          unfold Hid
          rw [Bool.eq_false_iff]
          intro h
          obtain ⟨hp, _⟩ := (HA.out.found HR.out).1 h
          exact hn hp
        clear hlt
        go_wp2_with fail
        go_quiet (fail)
        go_wp2_with fail
        go_ret2
        exact ⟨⟨hi, by rw [HFd.out]; rfl, HA.out⟩, below_drewN HBr.out _⟩
end Go.Proofs.YtfcdmlnpfoikhaaGreat

namespace Go.Proofs.YtfcdmlnpfoikhaaGreat
open Go.RowKit
namespace Gate
theorem zec {α : Type} {key : α -> α -> Int} {ms : List α} {k : Nat} (h : zat key ms k) (hk : k < ms.length) (hn : ∀ m (e : k = m + 1), key (ms[m]'(by omega)) ms[k] < 0) : zat key ms (k + 1) := by
  intro i hi hik
  rcases Nat.lt_or_ge (i + 1) k with hlt | hge
  · exact h i hi hlt
  · have e : k = i + 1 := by omega
    subst e
    exact hn i rfl
theorem zhw {α : Type} {key : α -> α -> Int} {ms : List α} {k : Nat} (hk : k < ms.length) (h : ∀ h0 : 0 < k, key (ms[k - 1]'(by omega)) ms[k] < 0) : ∀ m (e : k = m + 1), key (ms[m]'(by omega)) ms[k] < 0 := by
  intro m e; subst e; exact h (by omega)
theorem zeQ {α : Type} {key : α -> α -> Int} {ms : List α} {k : Nat} (h : zat key ms k) (hk : ms.length <= k) : zbe key ms = true := by
  rw [zk2]; exact fun i hi => h i hi (by omega)
theorem zda {α : Type} {key : α -> α -> Int} {ms : List α} {k : Nat} (hk : k < ms.length) (h0 : 0 < k) (hn : ¬ key (ms[k - 1]'(by omega)) ms[k] < 0) : zbe key ms = false := by
  obtain ⟨m, rfl⟩ : ∃ m, k = m + 1 := ⟨k - 1, by omega⟩
  exact zfk hk hn
end Gate
end Go.Proofs.YtfcdmlnpfoikhaaGreat
