import Derived.Test.YtackfmeepggedaaDoorM37
import Derived.Test.YtackfmeepggedaaDoorM38
import Derived.Test.YtackfmeepggedaaDoorM02
namespace Go.Proofs.YtackfmeepggedaaDoor
open Go.RowKit

theorem dr_back {r B : Nat} {a b : World} (h : Dr r a b) (hB : B ≤ r) (ha : B ≤ a.heap.size) : Below B a b := ⟨h.os, h.tape, h.output, dr_le h, fun k hk => dr_block h (by omega) (by omega)⟩

set_option maxRecDepth 10000 in
set_option maxHeartbeats 4000000 in
theorem l4AnyTeams_any (r p : Nat) (w : World) (hp : p ≤ 20000) (hr : RdAt w r p) :
    Calls Tryd.prog 12 #[.pointer (some ⟨r, 0, none⟩)] w fun e w' => ∃ (n : Nat) (a : Option Addr) (cap : Nat) (ss : List ByteArray) (p' : Nat), e = .returned (.slice a n cap) ∧ n ≤ 13 ∧ TeamRow w.heap.size w' a n cap ss ∧ p' ≤ p + 22 ∧ RdAt w' r p' ∧ Dr r w w' := by
  have hlt := hr.lt
  go_enter Tryd.func12, Tryd.ntmps12
  go_wp2_with fail
  refine (l4DrawTeams_any r p w (by omega) hr).mono ?_
  rintro e w1 ⟨n, a, cap, ss, rfl, hn1, hn6, row1, hr1, D1⟩
  go_wp2_with fail
  refine (pick_any 16 r (p + 1) w1 (by omega) (by omega) (by omega) hr1).mono ?_
  rintro e w2 ⟨c, rfl, hc, hr2, -, D2⟩
  have HX : Hid (TeamRow w.heap.size w2 a n cap ss ∧ RdAt w2 r (p + 1 + 1) ∧ Dr r w w2) := ⟨row1.dr D2 hlt, hr2, dr_trans D1 D2⟩
  clear row1 hr1 hr2 D1 D2 hr
  by_cases c0 : c = 0
  · subst c0
    go_wp2_with fail
    refine (l4SpoilTeams_any r (p + 1 + 1) n cap a ss w.heap.size w2 (by omega) HX.out.2.1 HX.out.1 hn1 hn6 hlt).mono ?_
    rintro e w3 ⟨n3, a3, cap3, ss3, p3, rfl, hn3, row3, hp3, hr3, D3⟩
    have HY : Hid (TeamRow w.heap.size w3 a3 n3 cap3 ss3 ∧ RdAt w3 r p3 ∧ Dr r w w3) := ⟨⟨ownsRow_low row3.own (dr_le HX.out.2.2), row3.small⟩, hr3, dr_trans HX.out.2.2 D3⟩
    clear row3 hr3 D3
    go_wp2_with fail
    go_ret
    exact ⟨n3, a3, cap3, ss3, p3, rfl, hn3, HY.out.1, by omega, HY.out.2.1, HY.out.2.2⟩
  · have n0 : ((c : Int) == 0) = false := by rw [beq_eq_false_iff_ne]; omega
    go_wp2_with fail
    go_ret
    exact ⟨n, a, cap, ss, p + 1 + 1, rfl, by omega, HX.out.1, by omega, HX.out.2.1, HX.out.2.2⟩

set_option maxRecDepth 10000 in
set_option maxHeartbeats 4000000 in
theorem drawAllows_any (a : Option Addr) (m cap : Nat) (w : World) (hu : U8sAt w a m) (hc : m ≤ cap) :
    Calls Tryd.prog 10 #[.slice a m cap] w fun e w' => ∃ (t : Value) (qa : Option Addr) (qn qc : Nat) (z1 z2 z3 : ByteArray) (x : Ac), e = .returned (.tuple #[t, .agg #[.slice qa qn qc, .string z1, .string z2, .string z3], .agg x.cells]) ∧ x.Small ∧ Below w.heap.size w w' := by
  have Z27 : True := trivial
  go_enter Tryd.func10, Tryd.ntmps10
  go_wp2_with fail
  refine calls_world (fun W => W.heap[w.heap.size]? = some (.cells #[.slice none 0 0, .string ByteArray.empty, .string ByteArray.empty, .string ByteArray.empty] 27) ∧ W.heap[w.heap.size + 1]? = some (.cells #[.int .i64 0, .string ByteArray.empty, .string ByteArray.empty, .string ByteArray.empty] 32) ∧ w.heap.size + 1 < W.heap.size ∧ Below w.heap.size w W ∧ U8sAt W a m) ⟨(Below.heap_alloc _ _ _ (by simp)).trans (MapKept.heap_alloc w _).1, at_2 _ _ _, by simp, below_2 _ _ _, hu.mono (below_2 _ _ _)⟩ ?_
  rintro W ⟨k0, k1, z, b, u⟩
  clear hu Z27
  refine (l1Open_any a m cap W u hc).mono ?_
  rintro e w1 ⟨rfl, hr1, b1⟩
  go_wp2_with fail
  refine (l4AnyTeams_any W.heap.size 0 w1 (by omega) hr1).mono ?_
  rintro e w2 ⟨n, at', capt, ss, p2, rfl, -, -, hp2, hr2, D2⟩
  go_wp2_with fail
  refine (l4AnyRule_any W.heap.size p2 w2 (by omega) hr2).mono ?_
  rintro e w3 ⟨⟨vs, s1, s2, s3⟩, g, capq, p3, rfl, -, hp3, hr3, D3⟩
  go_wp2_with fail
  refine (l4DrawAct_any W.heap.size p3 w3 (by omega) hr3).mono ?_
  rintro e w4 ⟨⟨vb, x1, x2, x3⟩, rfl, hx, hr4, D4⟩
  have HX : Hid ((⟨vb, x1, x2, x3⟩ : Ac).Small) := hx
  have E := dr_trans D2 (dr_trans D3 D4)
  have B1 := dr_back (B := W.heap.size) E (Nat.le_refl _) b1.size
  have B2 : Below W.heap.size W w4 := b1.trans B1
  have K0 := (B2.block _ (by omega)).trans k0
  have K1 := (B2.block _ z).trans k1
  have HB : Hid (Below w.heap.size w w4) := b.trans (B2.mono (by omega))
  have cR := fun j => cell_of_block (o := j) K0
  have fR := fun j => frozen_of_block (o := j) K0
  have cA := fun j => cell_of_block (o := j) K1
  have fA := fun j => frozen_of_block (o := j) K1
  have hz4 : w.heap.size + 1 < w4.heap.size := Nat.lt_of_lt_of_le z B2.size
  clear hx E B1 B2 K0 K1 k0 k1 b b1 D2 D3 D4 hr1 hr2 hr3 hr4 u hp2 hp3 z
  unfold Rl.cells Ac.cells
  dsimp only
  go_wp2_with fail
  refine bodyPost_ret (v := .tuple #[.slice at' n capt, .agg #[.slice (some ⟨g, 0, none⟩) vs.length capq, .string s1, .string s2, .string s3], .agg #[.int .i64 vb, .string x1, .string x2, .string x3]]) (by simp [results, Tryd.results10, go_sem, cR, cA]) rfl ⟨_, _, _, _, _, _, _, ⟨vb, x1, x2, x3⟩, rfl, HX.out, ?_⟩
  have h0 : w.heap.size ≤ w.heap.size := Nat.le_refl _
  have h1 : w.heap.size ≤ w.heap.size + 1 := Nat.le_succ _
  iterate 4 refine Below.setCell ?_ h1 _
  iterate 4 refine Below.setCell ?_ h0 _
  exact HB.out

end Go.Proofs.YtackfmeepggedaaDoor

namespace Go.Proofs.YtackfmeepggedaaDoor
open Go.RowKit

structure Gate.UncovRest (ts : List Tm) (rs : List Rl) (r : Rl) (x : Ac) : Prop where
  nm : x.nm = r.px
  kd : if r.kd.toList.isEmpty = true then ∃ k, x.kd = Gate.numbered Gate.letterK k ∧ Gate.IsFree Gate.letterK (rs.map Rl.kd) k else x.kd = r.kd
  tm : if r.tm.toList.isEmpty = true then ∃ k, x.tm = Gate.numbered Gate.letterT k ∧ Gate.IsFree Gate.letterT (ts.map Tm.nm ++ rs.map Rl.tm) k else x.tm = r.tm

set_option maxHeartbeats 2000000 in
theorem implUncovered_yes (ta : Option Addr) (tcap : Nat) (ts : List Tm) (ra : Option Addr) (rcap : Nat) (rs : List Rl) (r : Rl) (a : Option Addr) (cap : Nat) (w : World) (hw : TmsAt w ta ts) (hr : RlsAt w ra rs) (hm : r.Small) (hi : IntsAt w a r.vs) (hok : Gate.teamsOk ts = true) (hro : Gate.ruleOk r = true) (hrs : Gate.rulesOk rs = true) (hno : ¬ Gate.leftBits ts rs r = 0) (htab : TabW w) (hlm : ts.length + rs.length < 2305843009213693952) :
    Calls Tryd.prog 6 #[.slice ta ts.length tcap, .slice ra rs.length rcap, .agg (r.cells a cap)] w fun e w' => (∃ x : Ac, e = .returned (.tuple #[.agg x.cells, .bool true]) ∧ x.vb = Gate.low (Gate.lacksAt ts rs r) ∧ Gate.UncovRest ts rs r x) ∧ Below w.heap.size w w' := by
  have HB : Hid (∀ o1 o2, Below w.heap.size w ((w.alloc o1).alloc o2)) := fun _ _ => ((Below.refl _ _).alloc (Nat.le_refl _) _).alloc (by simp) _
  have HT : Hid (TmsAt w ta ts) := hw
  have HR : Hid (RlsAt w ra rs) := hr
  have HI : Hid (IntsAt w a r.vs) := hi
  have HM : Hid r.Small := hm
  have HK : Hid (Gate.teamsOk ts = true) := hok
  have HRo : Hid (Gate.ruleOk r = true) := hro
  have HRs : Hid (Gate.rulesOk rs = true) := hrs
  have HV : Hid (Gate.verbsOk r.vs = true) := Gate.ruleOk_verbs hro
  have HL : Hid (¬ Gate.leftBits ts rs r = 0) := hno
  have HTB : Hid (TabW w) := htab
  have HLM : Hid (ts.length + rs.length < 2305843009213693952) := hlm
  have hz0 : (Gate.leftBits ts rs r == 0) = false := by simpa using hno
  clear hw hr hi hm hok hro hrs hno htab hlm
  unfold Rl.cells
  go_enter Tryd.func6, Tryd.ntmps6
  go_wp2_with fail
  refine (as_bool HK.out (implTeamsOk_any _ _ ts _ (HT.out.mono (HB.out _ _)))).mono ?_
  rintro e w1 ⟨rfl, hb1⟩
  have HB1 : Hid (Below w.heap.size w w1) := (HB.out _ _).trans (hb1.mono (by simp; omega))
  have HR1 : Hid (_) := res_later hb1
  have hX1 := box_later (box_new w _ _) (by simp) (((Below.refl _ _).alloc (Nat.le_refl _) _).trans (hb1.mono (by simp)))
  have hz1 : w.heap.size + 1 < w1.heap.size := by have := hb1.size; simp at this; omega
  clear hb1
  go_wp2_with fail
  refine (as_bool HRo.out (isRule_any r _ _ _ HM.out (HI.out.mono HB1.out))).mono ?_
  rintro e w2 ⟨rfl, hb2⟩
  have HB2 : Hid (Below w.heap.size w w2) := HB1.out.trans (hb2.mono HB1.out.size)
  have HR2 : Hid (_) := (hb2.block _ hz1).trans HR1.out
  have hX2 := box_later hX1 (Nat.lt_of_succ_lt hz1) hb2
  have hz2 := Nat.lt_of_lt_of_le hz1 hb2.size
  clear hb2 hX1 hz1 HR1
  go_wp2_with fail
  refine (as_bool HRs.out (areRules_any _ _ rs _ (HR.out.mono HB2.out))).mono ?_
  rintro e w3 ⟨rfl, hb3⟩
  have HB3 : Hid (Below w.heap.size w w3) := HB2.out.trans (hb3.mono HB2.out.size)
  have HR3 : Hid (_) := (hb3.block _ hz2).trans HR2.out
  have hX3 := box_later hX2 (Nat.lt_of_succ_lt hz2) hb3
  have hz3 := Nat.lt_of_lt_of_le hz2 hb3.size
  clear hb3 hX2 hz2 HR2
  go_wp2_with fail
  refine (uncovered_any _ _ ts _ _ rs r _ _ _ (HT.out.mono HB3.out) (HR.out.mono HB3.out) HM.out (HI.out.mono HB3.out) HV.out HRs.out).mono ?_
  rintro e w4 ⟨rfl, hb4⟩
  have HB4 : Hid (Below w.heap.size w w4) := HB3.out.trans (hb4.mono HB3.out.size)
  have HR4 : Hid (_) := (hb4.block _ hz3).trans HR3.out
  have hX4 := box_later hX3 (Nat.lt_of_succ_lt hz3) hb4
  have hz4 := Nat.lt_of_lt_of_le hz3 hb4.size
  clear hb4 hX3 hz3 HR3
  go_wp2_with fail
  have HF : Hid (∀ W, Calls Tryd.prog 21 #[.int .u8 (Gate.leftBits ts rs r)] W fun x w' => x = .returned (.int .i64 (Gate.low (Gate.lacksAt ts rs r))) ∧ w' = W) := fun W => first_any (Gate.lacksAt ts rs r) W
  have hX : ∀ j, w4.drew.cell? ⟨w.heap.size, j, none⟩ = (#[.slice a r.vs.length cap, .string r.kd, .string r.tm, .string r.px] : Array Value)[j]? := hX4
  have HX4 : Hid (∀ j, w4.cell? ⟨w.heap.size, j, none⟩ = (#[.slice a r.vs.length cap, .string r.kd, .string r.tm, .string r.px] : Array Value)[j]?) := hX4
  clear hX4
  go_region_held3 (fun w' => ∀ j, w'.cell? ⟨w.heap.size, j, none⟩ = (#[.slice a r.vs.length cap, .string r.kd, .string r.tm, .string r.px] : Array Value)[j]?) (first | exact hX | exact box_later HX4.out (Nat.lt_of_succ_lt hz4) (((Below.refl _ _).alloc (Nat.le_refl _) _).drew)) (first
    | (go_at_call 21; refine (HF.out _).mono ?_; rintro e w5 ⟨rfl, rfl⟩))
  all_goals (
    have HB5 : Hid (Below w.heap.size w (w4.alloc (.cells #[.int .i64 (Gate.low (Gate.lacksAt ts rs r)), .string r.kd, .string r.tm, .string r.px] 32)).drew) := (HB4.out.alloc HB4.out.size _).drew
    have HA5 : Hid (((w4.alloc (.cells #[.int .i64 (Gate.low (Gate.lacksAt ts rs r)), .string r.kd, .string r.tm, .string r.px] 32)).drew).heap[w4.heap.size]? = some (.cells #[.int .i64 (Gate.low (Gate.lacksAt ts rs r)), .string r.kd, .string r.tm, .string r.px] 32)) := Array.getElem?_push_size
    have HR5 : Hid (((w4.alloc (.cells #[.int .i64 (Gate.low (Gate.lacksAt ts rs r)), .string r.kd, .string r.tm, .string r.px] 32)).drew).heap[w.heap.size + 1]? = _) := ((((Below.refl w4.heap.size w4).alloc (Nat.le_refl _) _).drew).block _ hz4).trans HR4.out
    have hz5 : w4.heap.size < ((w4.alloc (.cells #[.int .i64 (Gate.low (Gate.lacksAt ts rs r)), .string r.kd, .string r.tm, .string r.px] 32)).drew).heap.size := by show w4.heap.size < (w4.heap.push _).size; simp
    obtain ⟨W5, hW5⟩ : ∃ W5, W5 = (w4.alloc (.cells #[.int .i64 (Gate.low (Gate.lacksAt ts rs r)), .string r.kd, .string r.tm, .string r.px] 32)).drew := ⟨_, rfl⟩
    rw [← hW5] at HB5 HA5 HR5 hz5 ⊢
    clear hW5
    have hAc := fun j => cell_of_block (o := j) HA5.out
    have hAf := fun j => frozen_of_block (o := j) HA5.out
    have hRc := fun j => cell_of_block (o := j) HR5.out
    have hRf := fun j => frozen_of_block (o := j) HR5.out
    by_cases hk : r.kd.toList.isEmpty = true
    · have HK1 : Hid (r.kd.toList.isEmpty = true) := hk
      by_cases ht : r.tm.toList.isEmpty = true
      · have HT1 : Hid (r.tm.toList.isEmpty = true) := ht
        go_wp2_with fail
        refine (freeKind_any _ _ rs _ (HR.out.mono HB5.out) (by have := HLM.out; omega) (HTB.out.mono HB5.out)).mono ?_
        rintro e w6 ⟨⟨jk, rfl, hjk⟩, hb6⟩
        obtain ⟨kn, HKN⟩ : ∃ kn, Hid (kn = Gate.numbered Gate.letterK jk) := ⟨_, rfl⟩
        rw [← HKN.out]
        have HJK : Hid (Gate.IsFree Gate.letterK (rs.map Rl.kd) jk) := hjk
        have HB6 : Hid (Below w.heap.size w (w6.setCell ⟨w4.heap.size, 1, none⟩ (.string kn))) := (HB5.out.trans (hb6.mono HB5.out.size)).setCell HB4.out.size _
        have HA6 : Hid (w6.heap[w4.heap.size]? = some (.cells #[.int .i64 (Gate.low (Gate.lacksAt ts rs r)), .string r.kd, .string r.tm, .string r.px] 32)) := (hb6.block _ hz5).trans HA5.out
        have HR6 : Hid (w6.heap[w.heap.size + 1]? = some (.cells #[.int .i64 0, .string ByteArray.empty, .string ByteArray.empty, .string ByteArray.empty] 32)) := (hb6.block _ (Nat.lt_trans hz4 hz5)).trans HR5.out
        have hz6 : w4.heap.size < (w6.setCell ⟨w4.heap.size, 1, none⟩ (.string kn)).heap.size := by rw [World.size_setCell]; exact Nat.lt_of_lt_of_le hz5 hb6.size
        have HA6' : Hid ((w6.setCell ⟨w4.heap.size, 1, none⟩ (.string kn)).heap[w4.heap.size]? = some (.cells #[.int .i64 (Gate.low (Gate.lacksAt ts rs r)), .string kn, .string r.tm, .string r.px] 32)) := heap_setCell_at HA6.out _
        have HR6' : Hid ((w6.setCell ⟨w4.heap.size, 1, none⟩ (.string kn)).heap[w.heap.size + 1]? = some (.cells #[.int .i64 0, .string ByteArray.empty, .string ByteArray.empty, .string ByteArray.empty] 32)) := (setCell_other (Nat.ne_of_lt hz4)).trans HR6.out
        clear hb6 hjk
        have hAc6 := fun j => cell_of_block (o := j) HA6.out
        have hAf6 := fun j => frozen_of_block (o := j) HA6.out
        have hRc6 := fun j => cell_of_block (o := j) HR6.out
        have hRf6 := fun j => frozen_of_block (o := j) HR6.out
        have hAc7 := fun j => cell_of_block (o := j) HA6'.out
        have hAf7 := fun j => frozen_of_block (o := j) HA6'.out
        have hRc7 := fun j => cell_of_block (o := j) HR6'.out
        have hRf7 := fun j => frozen_of_block (o := j) HR6'.out
        go_wp2_with fail
        refine (freeTeam_any _ _ ts _ _ rs _ (HT.out.mono HB6.out) (HR.out.mono HB6.out) HLM.out (HTB.out.mono HB6.out)).mono ?_
        rintro e w8 ⟨⟨jt, rfl, hjt⟩, hb8⟩
        obtain ⟨tn, HTN⟩ : ∃ tn, Hid (tn = Gate.numbered Gate.letterT jt) := ⟨_, rfl⟩
        rw [← HTN.out]
        have HJT : Hid (Gate.IsFree Gate.letterT (ts.map Tm.nm ++ rs.map Rl.tm) jt) := hjt
        have HB8 : Hid (Below w.heap.size w (w8.setCell ⟨w4.heap.size, 2, none⟩ (.string tn))) := (HB6.out.trans (hb8.mono HB6.out.size)).setCell HB4.out.size _
        have HA8 : Hid (w8.heap[w4.heap.size]? = some (.cells #[.int .i64 (Gate.low (Gate.lacksAt ts rs r)), .string kn, .string r.tm, .string r.px] 32)) := (hb8.block _ hz6).trans HA6'.out
        have HR8 : Hid (w8.heap[w.heap.size + 1]? = some (.cells #[.int .i64 0, .string ByteArray.empty, .string ByteArray.empty, .string ByteArray.empty] 32)) := (hb8.block _ (Nat.lt_trans hz4 hz6)).trans HR6'.out
        have HA8' : Hid ((w8.setCell ⟨w4.heap.size, 2, none⟩ (.string tn)).heap[w4.heap.size]? = some (.cells #[.int .i64 (Gate.low (Gate.lacksAt ts rs r)), .string kn, .string tn, .string r.px] 32)) := heap_setCell_at HA8.out _
        have HR8' : Hid ((w8.setCell ⟨w4.heap.size, 2, none⟩ (.string tn)).heap[w.heap.size + 1]? = some (.cells #[.int .i64 0, .string ByteArray.empty, .string ByteArray.empty, .string ByteArray.empty] 32)) := (setCell_other (Nat.ne_of_lt hz4)).trans HR8.out
        clear hb8 hjt
        have hAc8 := fun j => cell_of_block (o := j) HA8.out
        have hAf8 := fun j => frozen_of_block (o := j) HA8.out
        have hRc8 := fun j => cell_of_block (o := j) HR8.out
        have hRf8 := fun j => frozen_of_block (o := j) HR8.out
        have hAc9 := fun j => cell_of_block (o := j) HA8'.out
        have hAf9 := fun j => frozen_of_block (o := j) HA8'.out
        have hRc9 := fun j => cell_of_block (o := j) HR8'.out
        have hRf9 := fun j => frozen_of_block (o := j) HR8'.out
        go_wp2_with fail
        refine bodyPost_ret (v := (.tuple #[.agg #[.int .i64 (Gate.low (Gate.lacksAt ts rs r)), .string kn, .string tn, .string r.px], .bool true])) (by simp [results, Tryd.results6, go_sem, hRc9]) rfl ?_
        exact ⟨⟨⟨_, kn, tn, r.px⟩, rfl, rfl, ⟨rfl, by rw [if_pos HK1.out]; exact ⟨jk, HKN.out, HJK.out⟩, by rw [if_pos HT1.out]; exact ⟨jt, HTN.out, HJT.out⟩⟩⟩, act4_below HB8.out (Nat.le_succ _) _ _ _ _⟩
      · have ht' : r.tm.toList.isEmpty = false := by simpa using ht
        have HT1 : Hid (r.tm.toList.isEmpty = false) := ht'
        clear ht
        go_wp2_with fail
        refine (freeKind_any _ _ rs _ (HR.out.mono HB5.out) (by have := HLM.out; omega) (HTB.out.mono HB5.out)).mono ?_
        rintro e w6 ⟨⟨jk, rfl, hjk⟩, hb6⟩
        obtain ⟨kn, HKN⟩ : ∃ kn, Hid (kn = Gate.numbered Gate.letterK jk) := ⟨_, rfl⟩
        rw [← HKN.out]
        have HJK : Hid (Gate.IsFree Gate.letterK (rs.map Rl.kd) jk) := hjk
        have HB6 : Hid (Below w.heap.size w (w6.setCell ⟨w4.heap.size, 1, none⟩ (.string kn))) := (HB5.out.trans (hb6.mono HB5.out.size)).setCell HB4.out.size _
        have HA6 : Hid (w6.heap[w4.heap.size]? = some (.cells #[.int .i64 (Gate.low (Gate.lacksAt ts rs r)), .string r.kd, .string r.tm, .string r.px] 32)) := (hb6.block _ hz5).trans HA5.out
        have HR6 : Hid (w6.heap[w.heap.size + 1]? = some (.cells #[.int .i64 0, .string ByteArray.empty, .string ByteArray.empty, .string ByteArray.empty] 32)) := (hb6.block _ (Nat.lt_trans hz4 hz5)).trans HR5.out
        have hz6 : w4.heap.size < (w6.setCell ⟨w4.heap.size, 1, none⟩ (.string kn)).heap.size := by rw [World.size_setCell]; exact Nat.lt_of_lt_of_le hz5 hb6.size
        have HA6' : Hid ((w6.setCell ⟨w4.heap.size, 1, none⟩ (.string kn)).heap[w4.heap.size]? = some (.cells #[.int .i64 (Gate.low (Gate.lacksAt ts rs r)), .string kn, .string r.tm, .string r.px] 32)) := heap_setCell_at HA6.out _
        have HR6' : Hid ((w6.setCell ⟨w4.heap.size, 1, none⟩ (.string kn)).heap[w.heap.size + 1]? = some (.cells #[.int .i64 0, .string ByteArray.empty, .string ByteArray.empty, .string ByteArray.empty] 32)) := (setCell_other (Nat.ne_of_lt hz4)).trans HR6.out
        clear hb6 hjk
        have hAc6 := fun j => cell_of_block (o := j) HA6.out
        have hAf6 := fun j => frozen_of_block (o := j) HA6.out
        have hRc6 := fun j => cell_of_block (o := j) HR6.out
        have hRf6 := fun j => frozen_of_block (o := j) HR6.out
        have hAc7 := fun j => cell_of_block (o := j) HA6'.out
        have hAf7 := fun j => frozen_of_block (o := j) HA6'.out
        have hRc7 := fun j => cell_of_block (o := j) HR6'.out
        have hRf7 := fun j => frozen_of_block (o := j) HR6'.out
        go_wp2_with fail
        refine bodyPost_ret (v := (.tuple #[.agg #[.int .i64 (Gate.low (Gate.lacksAt ts rs r)), .string kn, .string r.tm, .string r.px], .bool true])) (by simp [results, Tryd.results6, go_sem, hRc7]) rfl ?_
        exact ⟨⟨⟨_, kn, r.tm, r.px⟩, rfl, rfl, ⟨rfl, by rw [if_pos HK1.out]; exact ⟨jk, HKN.out, HJK.out⟩, by rw [if_neg (by rw [HT1.out]; simp)]⟩⟩, act4_below HB6.out (Nat.le_succ _) _ _ _ _⟩
    · have hk' : r.kd.toList.isEmpty = false := by simpa using hk
      have HK1 : Hid (r.kd.toList.isEmpty = false) := hk'
      clear hk
      by_cases ht : r.tm.toList.isEmpty = true
      · have HT1 : Hid (r.tm.toList.isEmpty = true) := ht
        go_wp2_with fail
        refine (freeTeam_any _ _ ts _ _ rs _ (HT.out.mono HB5.out) (HR.out.mono HB5.out) HLM.out (HTB.out.mono HB5.out)).mono ?_
        rintro e w8 ⟨⟨jt, rfl, hjt⟩, hb8⟩
        obtain ⟨tn, HTN⟩ : ∃ tn, Hid (tn = Gate.numbered Gate.letterT jt) := ⟨_, rfl⟩
        rw [← HTN.out]
        have HJT : Hid (Gate.IsFree Gate.letterT (ts.map Tm.nm ++ rs.map Rl.tm) jt) := hjt
        have HB8 : Hid (Below w.heap.size w (w8.setCell ⟨w4.heap.size, 2, none⟩ (.string tn))) := (HB5.out.trans (hb8.mono HB5.out.size)).setCell HB4.out.size _
        have HA8 : Hid (w8.heap[w4.heap.size]? = some (.cells #[.int .i64 (Gate.low (Gate.lacksAt ts rs r)), .string r.kd, .string r.tm, .string r.px] 32)) := (hb8.block _ hz5).trans HA5.out
        have HR8 : Hid (w8.heap[w.heap.size + 1]? = some (.cells #[.int .i64 0, .string ByteArray.empty, .string ByteArray.empty, .string ByteArray.empty] 32)) := (hb8.block _ (Nat.lt_trans hz4 hz5)).trans HR5.out
        have HA8' : Hid ((w8.setCell ⟨w4.heap.size, 2, none⟩ (.string tn)).heap[w4.heap.size]? = some (.cells #[.int .i64 (Gate.low (Gate.lacksAt ts rs r)), .string r.kd, .string tn, .string r.px] 32)) := heap_setCell_at HA8.out _
        have HR8' : Hid ((w8.setCell ⟨w4.heap.size, 2, none⟩ (.string tn)).heap[w.heap.size + 1]? = some (.cells #[.int .i64 0, .string ByteArray.empty, .string ByteArray.empty, .string ByteArray.empty] 32)) := (setCell_other (Nat.ne_of_lt hz4)).trans HR8.out
        clear hb8 hjt
        have hAc8 := fun j => cell_of_block (o := j) HA8.out
        have hAf8 := fun j => frozen_of_block (o := j) HA8.out
        have hRc8 := fun j => cell_of_block (o := j) HR8.out
        have hRf8 := fun j => frozen_of_block (o := j) HR8.out
        have hAc9 := fun j => cell_of_block (o := j) HA8'.out
        have hAf9 := fun j => frozen_of_block (o := j) HA8'.out
        have hRc9 := fun j => cell_of_block (o := j) HR8'.out
        have hRf9 := fun j => frozen_of_block (o := j) HR8'.out
        go_wp2_with fail
        refine bodyPost_ret (v := (.tuple #[.agg #[.int .i64 (Gate.low (Gate.lacksAt ts rs r)), .string r.kd, .string tn, .string r.px], .bool true])) (by simp [results, Tryd.results6, go_sem, hRc9]) rfl ?_
        exact ⟨⟨⟨_, r.kd, tn, r.px⟩, rfl, rfl, ⟨rfl, by rw [if_neg (by rw [HK1.out]; simp)], by rw [if_pos HT1.out]; exact ⟨jt, HTN.out, HJT.out⟩⟩⟩, act4_below HB8.out (Nat.le_succ _) _ _ _ _⟩
      · have ht' : r.tm.toList.isEmpty = false := by simpa using ht
        have HT1 : Hid (r.tm.toList.isEmpty = false) := ht'
        clear ht
        go_wp2_with fail
        refine bodyPost_ret (v := (.tuple #[.agg #[.int .i64 (Gate.low (Gate.lacksAt ts rs r)), .string r.kd, .string r.tm, .string r.px], .bool true])) (by simp [results, Tryd.results6, go_sem, hRc]) rfl ?_
        exact ⟨⟨⟨_, r.kd, r.tm, r.px⟩, rfl, rfl, ⟨rfl, by rw [if_neg (by rw [HK1.out]; simp)], by rw [if_neg (by rw [HT1.out]; simp)]⟩⟩, act4_below HB5.out (Nat.le_succ _) _ _ _ _⟩)

end Go.Proofs.YtackfmeepggedaaDoor
