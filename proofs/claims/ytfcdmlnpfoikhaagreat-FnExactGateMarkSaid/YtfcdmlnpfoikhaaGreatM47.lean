import Derived.Test.YtfcdmlnpfoikhaaGreatM44
import Derived.Test.YtfcdmlnpfoikhaaGreatM12
import Derived.Test.YtfcdmlnpfoikhaaGreatM45
import Derived.Test.YtfcdmlnpfoikhaaGreatM41
import Derived.Test.YtfcdmlnpfoikhaaGreatM20
import Derived.Test.YtfcdmlnpfoikhaaGreatM24
import Derived.Test.YtfcdmlnpfoikhaaGreatM30
import Derived.Test.YtfcdmlnpfoikhaaGreatM03
import Derived.Deep.QuietTactic
import Derived.BigQuiet
import Derived.Deep.CutRange
namespace Go.Proofs.YtfcdmlnpfoikhaaGreat
open Go.RowKit
def zaY (f : ByteArray -> ByteArray -> Option Int) (os : List Ob) (k : Nat) : Prop := ∀ p q, (f p q).isSome = (os.take k).any fun o => o.en && Gate.zav p q o
theorem zaY.put {f : ByteArray -> ByteArray -> Option Int} {os : List Ob} {k : Nat} (h : zaY f os k) (hlt : k < os.length) (he : os[k].en = true) (v : Int) : zaY (fun p q => if p = os[k].kd /\ q = os[k].nm then some v else f p q) os (k + 1) := by
  intro p q
  rw [List.take_succ_eq_append_getElem hlt, List.any_append, <- h p q]
  simp only [List.any_cons, List.any_nil, Bool.or_false, he, Bool.true_and]
  by_cases e : p = os[k].kd /\ q = os[k].nm
  · rw [if_pos e]
    unfold Gate.zav
    simp [e.1, e.2]
  · rw [if_neg e]
    have : Gate.zav p q os[k] = false := by
      unfold Gate.zav
      rw [Bool.and_eq_false_iff, decide_eq_false_iff_not, decide_eq_false_iff_not]
      by_cases e1 : os[k].kd = p
      · exact Or.inr fun e2 => e ⟨e1.symm, e2.symm⟩
      · exact Or.inl e1
    rw [this, Bool.or_false]
theorem zaY.skip {f : ByteArray -> ByteArray -> Option Int} {os : List Ob} {k : Nat} (h : zaY f os k) (hlt : k < os.length) (he : os[k].en = false) : zaY f os (k + 1) := by
  intro p q
  rw [List.take_succ_eq_append_getElem hlt, List.any_append, <- h p q]
  simp [he]
set_option maxHeartbeats 4000000 in
theorem zi6 (b : Bk) (a0 a1 a2 a3 : Option Addr) (c0 c1 c2 c3 : Nat) (w : World) (hb : qD w b a0 a1 a2 a3) (hl : b.os.length <= 1048576) :
    Calls Tryz.prog 71 #[.agg (bC b a0 a1 a2 a3 c0 c1 c2 c3)] w fun e w' => (∃ r f, e = .returned (.map (some r)) /\ w.heap.size <= r /\ yc w' r f /\ zaY f b.os b.os.length) /\ Below w.heap.size w w' := by
  have HW : Hid (qD w b a0 a1 a2 a3) := hb
  have hmk : ∀ w : World, (Instr.makeMap 135 none).run Tryz.prog w = .ok (.map (some w.heap.size)) (w.alloc (.map #[] 0)) := fun w => by kernel_rfl
  clear hb
  go_enter Tryz.func71, Tryz.ntmps71
  go_wp2_with fail
  have hX := zH w (bC b a0 a1 a2 a3 c0 c1 c2 c3) 48
  have HB0 : Hid (Below w.heap.size w (w.alloc (.cells (bC b a0 a1 a2 a3 c0 c1 c2 c3) 48))) := (Below.refl _ _).alloc (Nat.le_refl _) _
  obtain ⟨W0, hW0⟩ : ∃ W0, W0 = w.alloc (.cells (bC b a0 a1 a2 a3 c0 c1 c2 c3) 48) := ⟨_, rfl⟩
  have hz0 : w.heap.size < W0.heap.size := by rw [hW0]; simp
  have HWe : Hid (W0.heap.size = w.heap.size + 1) := by rw [Hid, hW0]; simp
  rw [<- hW0] at HB0 hX
  have hXm := za hX hz0 ((Below.refl W0.heap.size W0).alloc (Nat.le_refl _) (.map #[] 0))
  have hzm : w.heap.size < (W0.alloc (.map #[] 0)).heap.size := Nat.lt_trans hz0 (by simp)
  (try rw [<- hW0])
  (try rw [<- HWe.out])
  clear hW0
  (try go_wp2_with fail)
  clear hmk hXm hzm
  go_loopw [10] (fun iv wr => ∃ k : Nat, k <= b.os.length /\ iv = .int .i64 k /\ Hid ((∃ f, yc wr W0.heap.size f /\ zaY f b.os k) /\ Below W0.heap.size W0 wr)) (fun iv _ => b.os.length - (intOf iv).toNat)
  case atStart => exact ⟨0, Nat.zero_le _, rfl, ⟨_, yc.new W0, fun p q => by simp⟩, (Below.refl _ _).alloc (Nat.le_refl _) _⟩
  case round =>
    obtain ⟨k, hk, rfl, HX⟩ := hrel
    obtain ⟨⟨f, hf, hc⟩, hB⟩ := HX.out
    have hkn : k <= 1048576 := by omega
    by_cases hlt : k < b.os.length
    · obtain ⟨ob, off, v0, v1, q0, q1, rfl, hob, hsm, hl0, hl1, d0, d1, d2, d3, d4, d5, d6⟩ := HW.out.os.load (HB0.out.trans (hB.mono HB0.out.size)) k hlt
      have hltI : (k : Int) < (b.os.length : Int) := by omega
      have hob' : ob < wr.heap.size := Nat.lt_of_lt_of_le hob (HB0.out.trans (hB.mono HB0.out.size)).size
      have HKn : Hid (b.os[k].Small) := hsm
      have HPf : Hid (yc wr W0.heap.size f /\ zaY f b.os k /\ Below W0.heap.size W0 wr) := ⟨hf, hc, hB⟩
      clear hf hc hB HX hsm hl0 hl1
      cases he : b.os[k].en with
      | false =>
        rw [he] at d4
        have HC : Hid ((∃ f, yc (wr.alloc (.cells #[.string b.os[k].kd, .string b.os[k].nm, .string b.os[k].tm, .slice v0 b.os[k].vs.length q0, .bool false, .slice v1 b.os[k].hs.length q1, .int .i64 b.os[k].vr] 115)) W0.heap.size f /\ zaY f b.os (k + 1)) /\ Below W0.heap.size W0 (wr.alloc (.cells #[.string b.os[k].kd, .string b.os[k].nm, .string b.os[k].tm, .slice v0 b.os[k].vs.length q0, .bool false, .slice v1 b.os[k].hs.length q1, .int .i64 b.os[k].vr] 115))) :=
          ⟨⟨f, HPf.out.1.mono ((Below.refl _ _).alloc (Nat.le_refl _) _), HPf.out.2.1.skip hlt he⟩, HPf.out.2.2.alloc HPf.out.2.2.size _⟩
        go_wp2_with fail
        exact ⟨⟨k + 1, by omega, by go_num, HC.out⟩, zk hlt⟩
      | true =>
        have hk7 := zeg b.os[k] v0 v1 q0 q1 (wr.alloc (.cells #[.string b.os[k].kd, .string b.os[k].nm, .string b.os[k].tm, .slice v0 b.os[k].vs.length q0, .bool true, .slice v1 b.os[k].hs.length q1, .int .i64 b.os[k].vr] 115))
        unfold oC at hk7
        rw [he] at d4 hk7
        go_wp2_with fail
        refine hk7.mono ?_
        rintro e w1 ⟨rfl, hb1⟩
        have hBa := (HPf.out.2.2.alloc HPf.out.2.2.size (.cells #[.string b.os[k].kd, .string b.os[k].nm, .string b.os[k].tm, .slice v0 b.os[k].vs.length q0, .bool true, .slice v1 b.os[k].hs.length q1, .int .i64 b.os[k].vr] 115))
        have hf1 : yc w1 W0.heap.size f := (HPf.out.1.mono ((Below.refl _ _).alloc (Nat.le_refl _) _)).mono hb1
        obtain ⟨w2, hup, hf2, hp2⟩ := hf1.upd zc6 Tryz.underlying135 b.os[k].kd b.os[k].nm HKn.out.kd HKn.out.nm (k : Int)
        have HC : Hid ((∃ f, yc w2 W0.heap.size f /\ zaY f b.os (k + 1)) /\ Below W0.heap.size W0 w2) :=
          ⟨⟨_, hf2, HPf.out.2.1.put hlt he k⟩, hp2.below (hBa.trans (hb1.mono hBa.size)) (Nat.le_refl _)⟩
        clear hf1 hf2 hp2 hb1 hBa hk7
        go_wp2_with fail
        exact ⟨⟨k + 1, by omega, by go_num, HC.out⟩, zk hlt⟩
    · have e : k = b.os.length := by omega
      subst e
      have HE : Hid ((∃ f, yc wr W0.heap.size f /\ zaY f b.os b.os.length) /\ Below w.heap.size w wr) := ⟨⟨f, hf, hc⟩, HB0.out.trans (hB.mono HB0.out.size)⟩
      clear hf hc hB HX hlt hk
      go_wp2_with fail
      go_ret
      obtain ⟨⟨f, h1, h2⟩, h3⟩ := HE.out
      exact ⟨⟨_, f, rfl, Nat.le_of_lt hz0, h1, h2⟩, h3⟩
end Go.Proofs.YtfcdmlnpfoikhaaGreat

namespace Go.Proofs.YtfcdmlnpfoikhaaGreat
open Go.RowKit
def Gate.zbA (l : Lw) : Bool := Gate.zW l.ss l.ms && Gate.za8 l.ts
set_option maxHeartbeats 1000000 in
theorem zjt (l : Lw) (a b c : Option Addr) (ca cb cc : Nat) (w : World) (hl : qA w l a b c) (hf : l.Few) :
    Calls Tryz.prog 69 #[.agg (l.cells a b c ca cb cc)] w fun e w' => e = .returned (.bool (Gate.zbA l)) /\ Below w.heap.size w w' := by
  have HL : Hid (qA w l a b c) := hl
  have HF : Hid l.Few := hf
  clear hl hf
  unfold Lw.cells
  by_cases h1 : Gate.zW l.ss l.ms = true
  · have HQ : Hid (Gate.zbA l = Gate.za8 l.ts) := by unfold Hid Gate.zbA; rw [h1]; rfl
    have HM : Hid (Gate.zW l.ss l.ms = true) := h1
    clear h1
    go_enter Tryz.func69, Tryz.ntmps69
    go_wp2_with fail
    refine (zw HM.out (zdo _ _ _ _ l.ss l.ms _ (HL.out.ss.mono ((Below.refl _ _).alloc (Nat.le_refl _) _)) (HL.out.ms.mono ((Below.refl _ _).alloc (Nat.le_refl _) _)) HF.out.ms)).mono ?_
    rintro e w1 ⟨rfl, hb⟩
    have hX1 := za (zH w (lC l a b c ca cb cc) 41) (by simp) hb
    have hz1 : w.heap.size < w1.heap.size := by have := hb.size; simp at this; omega
    have hB1 : Below w.heap.size w w1 := ((Below.refl _ _).alloc (Nat.le_refl _) _).trans (hb.mono (by simp))
    clear hb
    go_wp2_with fail
    refine (zhe _ _ l.ts _ (HL.out.ts.mono hB1)).mono ?_
    rintro e w2 ⟨rfl, hb⟩
    have hB2 := hB1.trans (hb.mono hB1.size)
    clear hb hX1 hz1 hB1
    go_wp2_with fail
    go_ret
    exact ⟨ze HQ.out.symm, hB2⟩
  · have h1' : Gate.zW l.ss l.ms = false := by simpa using h1
    have HQ : Hid (Gate.zbA l = false) := by unfold Hid Gate.zbA; rw [h1']; rfl
    have HM : Hid (Gate.zW l.ss l.ms = false) := h1'
    clear h1 h1'
    go_enter Tryz.func69, Tryz.ntmps69
    go_wp2_with fail
    refine (zw HM.out (zdo _ _ _ _ l.ss l.ms _ (HL.out.ss.mono ((Below.refl _ _).alloc (Nat.le_refl _) _)) (HL.out.ms.mono ((Below.refl _ _).alloc (Nat.le_refl _) _)) HF.out.ms)).mono ?_
    rintro e w1 ⟨rfl, hb⟩
    have hB1 : Below w.heap.size w w1 := ((Below.refl _ _).alloc (Nat.le_refl _) _).trans (hb.mono (by simp))
    clear hb
    go_wp2_with fail
    go_ret
    exact ⟨ze HQ.out.symm, hB1⟩
set_option maxHeartbeats 1000000 in
theorem ziU (l : Lw) (a b c : Option Addr) (ca cb cc : Nat) (w : World) (hl : qA w l a b c) :
    Calls Tryz.prog 56 #[.agg (l.cells a b c ca cb cc)] w fun e w' => e = .returned (.bool (Gate.zbA l)) /\ Below w.heap.size w w' := by
  have HL : Hid (qA w l a b c) := hl
  clear hl
  unfold Lw.cells
  by_cases h1 : Gate.zW l.ss l.ms = true
  · have HQ : Hid (Gate.zbA l = Gate.zak l.ts) := by unfold Hid Gate.zbA; rw [h1, Gate.zko]; rfl
    have HM : Hid (Gate.qM l.ss l.ms = true) := by unfold Hid; rw [<- Gate.zfg]; exact h1
    clear h1
    go_enter Tryz.func56, Tryz.ntmps56
    go_wp2_with fail
    refine (zw HM.out (zds _ _ _ _ l.ss l.ms _ (HL.out.ss.mono ((Below.refl _ _).alloc (Nat.le_refl _) _)) (HL.out.ms.mono ((Below.refl _ _).alloc (Nat.le_refl _) _)))).mono ?_
    rintro e w1 ⟨rfl, hb⟩
    have hX1 := za (zH w (lC l a b c ca cb cc) 41) (by simp) hb
    have hz1 : w.heap.size < w1.heap.size := by have := hb.size; simp at this; omega
    have hB1 : Below w.heap.size w w1 := ((Below.refl _ _).alloc (Nat.le_refl _) _).trans (hb.mono (by simp))
    clear hb
    go_wp2_with fail
    refine (zgL _ _ l.ts _ (HL.out.ts.mono hB1)).mono ?_
    rintro e w2 ⟨rfl, hb⟩
    have hB2 := hB1.trans (hb.mono hB1.size)
    clear hb hX1 hz1 hB1
    go_wp2_with fail
    go_ret
    exact ⟨ze HQ.out.symm, hB2⟩
  · have h1' : Gate.zW l.ss l.ms = false := by simpa using h1
    have HQ : Hid (Gate.zbA l = false) := by unfold Hid Gate.zbA; rw [h1']; rfl
    have HM : Hid (Gate.qM l.ss l.ms = false) := by unfold Hid; rw [<- Gate.zfg]; exact h1'
    clear h1 h1'
    go_enter Tryz.func56, Tryz.ntmps56
    go_wp2_with fail
    refine (zw HM.out (zds _ _ _ _ l.ss l.ms _ (HL.out.ss.mono ((Below.refl _ _).alloc (Nat.le_refl _) _)) (HL.out.ms.mono ((Below.refl _ _).alloc (Nat.le_refl _) _)))).mono ?_
    rintro e w1 ⟨rfl, hb⟩
    have hB1 : Below w.heap.size w w1 := ((Below.refl _ _).alloc (Nat.le_refl _) _).trans (hb.mono (by simp))
    clear hb
    go_wp2_with fail
    go_ret
    exact ⟨ze HQ.out.symm, hB1⟩
end Go.Proofs.YtfcdmlnpfoikhaaGreat

namespace Go.Proofs.YtfcdmlnpfoikhaaGreat
open Go.RowKit
theorem zkq {P : Program} {f : FuncId} {args : Array Value} {w : World} {b c : Int} {R : World -> Prop} (hb : b = c) (h : Calls P f args w fun e w' => e = .returned (.int .i64 b) /\ R w') : Calls P f args w fun e w' => e = .returned (.int .i64 c) /\ R w' := by
  subst hb; exact h
theorem zh1 {a b : ByteArray} (h : a = b) : Ending.returned (.string a) = .returned (.string b) := by rw [h]
theorem Gate.zo5 {s : Shp} {ms : List Mnd} {p : Nat} (hrd : ∀ x ∈ Gate.yg s ms p, 0 <= x /\ x < s.fs.length) {m : Mnd} (hm : m ∈ ms) (ht : Gate.turns m s p = true) {v : ByteArray} (hv : v ∈ Gate.zK m) : ∃ j : Nat, j < s.fs.length /\ Gate.zS s.fs v = (j : Int) := by
  have h := hrd (Gate.zS s.fs v) (by
    unfold Gate.yg; rw [List.mem_flatMap]; refine ⟨m, hm, ?_⟩; rw [if_pos ht]; exact List.mem_map.2 ⟨v, hv, rfl⟩)
  exact ⟨(Gate.zS s.fs v).toNat, by omega, by omega⟩
set_option maxRecDepth 20000 in
set_option maxHeartbeats 8000000 in
theorem ziS (s : Shp) (ms : List Mnd) (o : Ob) (vs : List ByteArray) (p : Nat) (fa ma va ha : Option Addr) (fcap mcap vcap hcap : Nat) (w : World) (hf : zY w fa s.fs) (hm : qw w ma ms) (hv : zB w va vs) (hc : vs.length = s.fs.length) (hp : p < s.fs.length) (hix : Gate.zS s.fs s.fs[p].nm = (p : Int)) (hkd : o.kd = s.kd) (hrd : ∀ x ∈ Gate.yg s ms p, 0 <= x /\ x < s.fs.length) :
    Calls Tryz.prog 172 #[.slice fa s.fs.length fcap, .slice ma ms.length mcap, .agg #[.string o.kd, .string o.nm, .string o.tm, .slice va vs.length vcap, .bool o.en, .slice ha o.hs.length hcap, .int .i64 o.vr], .string s.fs[p].nm] w fun e w' => e = .returned (.string (Gate.decided s ms p vs)) /\ Below w.heap.size w w' := by
  have hpv : p < vs.length := by omega
  have hml := hm.len
  have hl := hv.len
  unfold maxLen at hl hml
  obtain ⟨vb, voff, rfl, hvb, hcell⟩ := hv.cells (by rintro rfl; simp at hpv)
  have HC : Hid (∀ W, Below w.heap.size w W -> ∀ i (h : i < vs.length), W.cell? ⟨vb, voff + i, none⟩ = some (.string vs[i])) := fun W hb i h => (hb.cell (p := ⟨vb, voff + i, none⟩) hvb).trans (hcell i h)
  have HF : Hid (∀ W, Below w.heap.size w W -> zY W fa s.fs) := fun W hb => hf.mono hb
  have HM := zol hm hc hix hkd hrd
  clear hf hm hv hc hcell hix hkd hrd
  go_enter Tryz.func172, Tryz.ntmps172
  go_upto_region 1 with fail
  refine za5 (fun W => Below w.heap.size w W /\ W.heap[w.heap.size]? = some (.cells #[.string o.kd, .string o.nm, .string o.tm, .slice (some ⟨vb, voff, none⟩) vs.length vcap, .bool o.en, .slice ha o.hs.length hcap, .int .i64 o.vr] 115)) ⟨(Below.refl _ _).alloc (Nat.le_refl _) _, (MapKept.heap_alloc w _).1⟩ ?_
  rintro W0 hW0
  have H0 := hid hW0
  clear hW0
  go_wp2_with fail
  go_loopg [9] ms.length (fun g iv wr => ∃ k : Nat, k + g = ms.length /\ iv = .int .i64 k /\ Hid ((ms.take k).findSome? (Gate.gives s vs p) = none) /\ Hid (Below w.heap.size w wr /\ wr.heap[w.heap.size]? = some (.cells #[.string o.kd, .string o.nm, .string o.tm, .slice (some ⟨vb, voff, none⟩) vs.length vcap, .bool o.en, .slice ha o.hs.length hcap, .int .i64 o.vr] 115)))
  case atStart => exact ⟨0, by omega, rfl, rfl, H0⟩
  case round =>
    clear H0
    obtain ⟨k, hk, rfl, HN, HB⟩ := hrel
    have hXo := fun j => cell_of_block (o := j) HB.out.2
    have hvz : vb < wr.heap.size := Nat.lt_of_lt_of_le hvb HB.out.1.size
    have hzo := (Array.getElem?_eq_some_iff.1 HB.out.2).1
    by_cases hlt : k < ms.length
    · obtain ⟨mb, moff, rfl, hmb, c0, c1, c2, c3, c4, c5⟩ := HM.out.1.load HB.out.1 k hlt
      have hltI : (k : Int) < (ms.length : Int) := by omega
      obtain ⟨m, hmE⟩ : ∃ m, m = ms[k] := ⟨_, rfl⟩
      have HNX : Hid (Gate.gives s vs p m = none -> (ms.take (k + 1)).findSome? (Gate.gives s vs p) = none) := by
        intro h
        rw [List.take_succ_eq_append_getElem hlt, List.findSome?_append, HN.out, <- hmE]
        simp [h]
      have HSX : Hid (∀ x, Gate.gives s vs p m = some x -> Gate.decided s ms p vs = x) := by
        intro x h
        unfold Gate.decided
        have e : ms.findSome? (Gate.gives s vs p) = some x := by
          conv => lhs; rw [<- List.take_append_drop k ms, List.drop_eq_getElem_cons hlt]
          rw [List.findSome?_append, HN.out, List.findSome?_cons, <- hmE, h]
          rfl
        rw [e]; rfl
      have HRD : Hid (Gate.turns m s p = true -> ∀ v, Gate.isSet v = true -> v = m.wh \/ v = m.fr -> ∃ j : Nat, ∃ h : j < vs.length, Gate.zS s.fs v = (j : Int) /\ Gate.qC s.fs vs v = vs[j]) := fun ht v hs hv => by
        obtain ⟨j, hj, hx⟩ := Gate.zo5 HM.out.2.2.2.2 (hmE ▸ List.getElem_mem hlt) ht (show v ∈ Gate.zK m by unfold Gate.zK; rw [List.mem_filter]; exact ⟨by simpa using hv, hs⟩)
        have hjv : j < vs.length := by rw [HM.out.2.1]; exact hj
        exact ⟨j, hjv, hx, by rw [Gate.zeS hx, Gate.getD_at vs j _ hjv]⟩
      have HTU : Hid (Gate.turns m s p = ((m.kd.toList == o.kd.toList) && (m.fd.toList == s.fs[p].nm.toList))) := by
        rw [Hid, Gate.beq_toList, Gate.beq_toList, HM.out.2.2.2.1]; unfold Gate.turns; rw [Gate.getD_at s.fs p _ hp]
      rw [<- hmE] at c0 c1 c2 c3 c4 c5
      clear HN hmE
      go_upto_region 5 with fail
      refine za5 (fun W => Below w.heap.size w W /\ W.heap[w.heap.size]? = some (.cells #[.string o.kd, .string o.nm, .string o.tm, .slice (some ⟨vb, voff, none⟩) vs.length vcap, .bool o.en, .slice ha o.hs.length hcap, .int .i64 o.vr] 115) /\ W.heap[wr.heap.size]? = some (.cells #[.string m.kd, .string m.fd, .string m.wh, .string m.wi, .string m.pt, .string m.fr] 121)) ⟨HB.out.1.alloc HB.out.1.size _, (((Below.refl _ wr).alloc (Nat.le_refl _) _).block _ hzo).trans HB.out.2, (MapKept.heap_alloc wr _).1⟩ ?_
      rintro W2 hW2
      obtain ⟨kM, hkM⟩ : ∃ x, x = wr.heap.size := ⟨_, rfl⟩
      rw [<- hkM] at hW2 ⊢
      have H2 := hid hW2
      have hXm := fun j => cell_of_block (o := j) hW2.2.2
      have hzm := (Array.getElem?_eq_some_iff.1 hW2.2.2).1
      clear hXo hzo hvz
      have hXo := fun j => cell_of_block (o := j) hW2.2.1
      have hzo := (Array.getElem?_eq_some_iff.1 hW2.2.1).1
      have hvz : vb < W2.heap.size := Nat.lt_of_lt_of_le hvb H2.out.1.size
      obtain ⟨app, happ⟩ : ∃ x, x = decide (Gate.turns m s p = true /\ ¬ (Gate.isSet m.wh = true /\ Gate.qC s.fs vs m.wh ≠ m.wi)) := ⟨_, rfl⟩
      have HAP := hid happ
      clear hW2 hkM c0 c1 c2 c3 c4 c5 HB happ
      go_cut [50] from 12 to 66 (fun vx W => vx = .bool (!app) /\ Hid (Below w.heap.size w W /\ W.heap[w.heap.size]? = some (.cells #[.string o.kd, .string o.nm, .string o.tm, .slice (some ⟨vb, voff, none⟩) vs.length vcap, .bool o.en, .slice ha o.hs.length hcap, .int .i64 o.vr] 115) /\ W.heap[kM]? = some (.cells #[.string m.kd, .string m.fd, .string m.wh, .string m.wi, .string m.pt, .string m.fr] 121)))
      case first =>
        have HZ : Hid (∀ n, Below w.heap.size w (W2.drewN n) /\ (W2.drewN n).heap[w.heap.size]? = some (.cells #[.string o.kd, .string o.nm, .string o.tm, .slice (some ⟨vb, voff, none⟩) vs.length vcap, .bool o.en, .slice ha o.hs.length hcap, .int .i64 o.vr] 115) /\ (W2.drewN n).heap[kM]? = some (.cells #[.string m.kd, .string m.fd, .string m.wh, .string m.wi, .string m.pt, .string m.fr] 121)) := fun n => ⟨below_drewN H2.out.1 n, H2.out.2⟩
        rcases hkd : (m.kd.toList == o.kd.toList) with _ | _
        · go_quiet (fail)
          go_wp2_with fail
          go_meet
          case rel => exact ⟨by rw [HAP.out, HTU.out, hkd]; simp, HZ.out _⟩
        rcases hfd : (m.fd.toList == s.fs[p].nm.toList) with _ | _
        · go_quiet (fail)
          go_wp2_with fail
          go_meet
          case rel => exact ⟨by rw [HAP.out, HTU.out, hkd, hfd]; simp, HZ.out _⟩
        rcases hwh : m.wh.toList.isEmpty with _ | _
        · obtain ⟨jw, hjw, hjx, hjv⟩ := HRD.out (by rw [HTU.out, hkd, hfd]; rfl) m.wh (by unfold Gate.isSet; rw [hwh]; rfl) (Or.inl rfl)
          have cw := HC.out _ H2.out.1 jw hjw
          have hjI : (jw : Int) < (vs.length : Int) := by omega
          have hj0 : (0 : Int) <= (jw : Int) := by omega
          have HJ := jE hjx hjv
          clear hjx hjv
          have HJ1 := hid HJ.out.1
          go_quiet ((go_at_call 167; exact Calls.quiet_of_same (zkq HJ1.out (zan _ _ s.fs _ _ (by exact HF.out _ (below_drewN H2.out.1 _))))))
          go_wp2_with fail
          go_meet
          case rel => exact ⟨by rw [HAP.out, HTU.out, hkd, hfd, HJ.out.2, Gate.beq_toList]; simp [Gate.isSet, hwh], HZ.out _⟩
        · go_quiet (fail)
          go_wp2_with fail
          go_meet
          case rel => exact ⟨by rw [HAP.out, HTU.out, hkd, hfd]; simp [Gate.isSet, hwh], HZ.out _⟩
      case rest =>
        obtain ⟨rfl, H3⟩ := hcut
        obtain ⟨W3, rfl⟩ : ∃ x, x = wc := ⟨_, rfl⟩
        clear hXm hXo H2 hzm hzo hvz
        have hXm := fun j => cell_of_block (o := j) H3.out.2.2
        have hXo := fun j => cell_of_block (o := j) H3.out.2.1
        have hzm := (Array.getElem?_eq_some_iff.1 H3.out.2.2).1
        have hzo := (Array.getElem?_eq_some_iff.1 H3.out.2.1).1
        have hvz : vb < W3.heap.size := Nat.lt_of_lt_of_le hvb H3.out.1.size
        have hstep : IntKind.i64.wrap ((k : Int) + 1) = ((k + 1 : Nat) : Int) := by rw [IntKind.wrap_i64]; omega
        obtain ⟨g1, rfl⟩ : ∃ g, gk = g + 1 := ⟨gk - 1, by omega⟩
        cases app with
        | false =>
          have HG := hid (HNX.out (by unfold Gate.gives; rw [if_neg (of_decide_eq_false HAP.out.symm)]))
          go_wp2_with fail
          go_roundg g1
          case measure => omega
          case rel => exact ⟨k + 1, by omega, rfl, HG, ⟨H3.out.1, H3.out.2.1⟩⟩
        | true =>
          have HA := hid (of_decide_eq_true HAP.out.symm)
          rcases hfr : m.fr.toList.isEmpty with _ | _
          · obtain ⟨jf, hjf, hjx, hjv⟩ := HRD.out HA.out.1 m.fr (by unfold Gate.isSet; rw [hfr]; rfl) (Or.inr rfl)
            have cf := HC.out _ H3.out.1 jf hjf
            have hjI : (jf : Int) < (vs.length : Int) := by omega
            have hj0 : (0 : Int) <= (jf : Int) := by omega
            have HJ := jE hjx hjv
            clear hjx hjv
            have HJ1 := hid HJ.out.1
            have HZ : Hid (∀ n, Below w.heap.size w (W3.drewN n) /\ (W3.drewN n).heap[w.heap.size]? = some (.cells #[.string o.kd, .string o.nm, .string o.tm, .slice (some ⟨vb, voff, none⟩) vs.length vcap, .bool o.en, .slice ha o.hs.length hcap, .int .i64 o.vr] 115)) := fun n => ⟨below_drewN H3.out.1 n, H3.out.2.1⟩
            go_wp2_with fail
            go_quiet ((go_at_call 167; exact Calls.quiet_of_same (zkq HJ1.out (zan _ _ s.fs _ _ (by exact HF.out _ (below_drewN H3.out.1 _))))))
            rcases hve : vs[jf].toList.isEmpty with _ | _
            · have HG := hid (HSX.out vs[jf] (by unfold Gate.gives; rw [if_pos HA.out, HJ.out.2]; simp [Gate.isSet, hfr, hve]))
              go_wp2_with fail
              go_ret
              exact ⟨zh1 HG.out.symm, (HZ.out _).1⟩
            · have HG := hid (HNX.out (by unfold Gate.gives; rw [if_pos HA.out, HJ.out.2]; simp [Gate.isSet, hfr, hve]))
              go_wp2_with fail
              go_roundg g1
              case measure => omega
              case rel => exact ⟨k + 1, by omega, rfl, HG, HZ.out _⟩
          · have HG := hid (HSX.out m.pt (by unfold Gate.gives; rw [if_pos HA.out]; simp [Gate.isSet, hfr]))
            go_wp2_with fail
            go_ret
            exact ⟨zh1 HG.out.symm, H3.out.1⟩
    · have hnI : ¬ (k : Int) < (ms.length : Int) := by omega
      have HD : Hid (Gate.decided s ms p vs = vs[p]) := by
        have e : ms.findSome? (Gate.gives s vs p) = none := by have := HN.out; rwa [List.take_of_length_le (by omega)] at this
        unfold Hid Gate.decided; rw [e, Gate.getD_at vs p _ hpv]; rfl
      have HJP := hid HM.out.2.2.1
      have cp := HC.out _ HB.out.1 p hpv
      have hpI : (p : Int) < (vs.length : Int) := by omega
      have hp0 : (0 : Int) <= (p : Int) := by omega
      go_wp2_with fail
      go_quiet ((go_at_call 167; exact Calls.quiet_of_same (zkq HJP.out (zan _ _ s.fs _ _ (by exact HF.out _ (below_drewN HB.out.1 _))))))
      go_wp2_with fail
      go_ret
      exact ⟨zh1 HD.out.symm, below_drewN HB.out.1 _⟩
end Go.Proofs.YtfcdmlnpfoikhaaGreat
