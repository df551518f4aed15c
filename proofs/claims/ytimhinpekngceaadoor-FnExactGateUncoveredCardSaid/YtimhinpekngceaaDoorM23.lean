import Derived.Test.YtimhinpekngceaaDoorM22
import Derived.Test.YtimhinpekngceaaDoorM12
import Derived.Test.YtimhinpekngceaaDoorM01
namespace Go.Proofs.YtimhinpekngceaaDoor
open Go.RowKit

structure Gate.UncovRest (ts : List Tm) (rs : List Rl) (r : Rl) (x : Ac) : Prop where
  nm : x.nm = r.px
  kd : if r.kd.toList.isEmpty = true then ∃ k, x.kd = Gate.numbered Gate.letterK k ∧ Gate.IsFree Gate.letterK (rs.map Rl.kd) k else x.kd = r.kd
  tm : if r.tm.toList.isEmpty = true then ∃ k, x.tm = Gate.numbered Gate.letterT k ∧ Gate.IsFree Gate.letterT (ts.map Tm.nm ++ rs.map Rl.tm) k else x.tm = r.tm

set_option maxHeartbeats 2000000 in
theorem implUncovered_yes (ta : Option Addr) (tcap : Nat) (ts : List Tm) (ra : Option Addr) (rcap : Nat) (rs : List Rl) (r : Rl) (a : Option Addr) (cap : Nat) (w : World) (hw : TmsAt w ta ts) (hr : RlsAt w ra rs) (hm : r.Small) (hi : IntsAt w a r.vs) (hok : Gate.teamsOk ts = true) (hro : Gate.ruleOk r = true) (hrs : Gate.rulesOk rs = true) (hno : ¬ Gate.leftBits ts rs r = 0) (htab : TabW w) (hlm : ts.length + rs.length < 2305843009213693952) :
    Calls Tryd.prog 12 #[.slice ta ts.length tcap, .slice ra rs.length rcap, .agg (r.cells a cap)] w fun e w' => (∃ x : Ac, e = .returned (.tuple #[.agg x.cells, .bool true]) ∧ x.vb = Gate.low (Gate.lacksAt ts rs r) ∧ Gate.UncovRest ts rs r x) ∧ Below w.heap.size w w' := by
  have HB : Hid (∀ o1 o2, Below w.heap.size w ((w.alloc o1).alloc o2)) := fun _ _ => ((Below.refl _ _).alloc (Nat.le_refl _) _).alloc (by simp) _
  have HT : Hid (TmsAt w ta ts) := hw
  have HR : Hid (RlsAt w ra rs) := hr
  have HI : Hid (IntsAt w a r.vs) := hi
  have HM : Hid r.Small := hm
  have HK : Hid (Gate.teamsOk ts = true) := hok
  have HRo : Hid (Gate.ruleOk r = true) := hro
  have HRs : Hid (Gate.rulesOk rs = true) := hrs
  have HV : Hid (Gate.verbsOk r.vs = true) := Gate.ruleOk_verbs hro
  have HL : Hid (¬ Gate.leftBits ts rs r = 0) := hno
  have HTB : Hid (TabW w) := htab
  have HLM : Hid (ts.length + rs.length < 2305843009213693952) := hlm
  have hz0 : (Gate.leftBits ts rs r == 0) = false := by simpa using hno
  clear hw hr hi hm hok hro hrs hno htab hlm
  unfold Rl.cells
  go_enter Tryd.func12, Tryd.ntmps12
  go_wp2_with fail
  refine (as_bool HK.out (implTeamsOk_any _ _ ts _ (HT.out.mono (HB.out _ _)))).mono ?_
  rintro e w1 ⟨rfl, hb1⟩
  have HB1 : Hid (Below w.heap.size w w1) := (HB.out _ _).trans (hb1.mono (by simp; omega))
  have HR1 : Hid (_) := res_later hb1
  have hX1 := box_later (box_new w _ _) (by simp) (((Below.refl _ _).alloc (Nat.le_refl _) _).trans (hb1.mono (by simp)))
  have hz1 : w.heap.size + 1 < w1.heap.size := by have := hb1.size; simp at this; omega
  clear hb1
  go_wp2_with fail
  refine (as_bool HRo.out (isRule_any r _ _ _ HM.out (HI.out.mono HB1.out))).mono ?_
  rintro e w2 ⟨rfl, hb2⟩
  have HB2 : Hid (Below w.heap.size w w2) := HB1.out.trans (hb2.mono HB1.out.size)
  have HR2 : Hid (_) := (hb2.block _ hz1).trans HR1.out
  have hX2 := box_later hX1 (Nat.lt_of_succ_lt hz1) hb2
  have hz2 := Nat.lt_of_lt_of_le hz1 hb2.size
  clear hb2 hX1 hz1 HR1
  go_wp2_with fail
  refine (as_bool HRs.out (areRules_any _ _ rs _ (HR.out.mono HB2.out))).mono ?_
  rintro e w3 ⟨rfl, hb3⟩
  have HB3 : Hid (Below w.heap.size w w3) := HB2.out.trans (hb3.mono HB2.out.size)
  have HR3 : Hid (_) := (hb3.block _ hz2).trans HR2.out
  have hX3 := box_later hX2 (Nat.lt_of_succ_lt hz2) hb3
  have hz3 := Nat.lt_of_lt_of_le hz2 hb3.size
  clear hb3 hX2 hz2 HR2
  go_wp2_with fail
  refine (uncovered_any _ _ ts _ _ rs r _ _ _ (HT.out.mono HB3.out) (HR.out.mono HB3.out) HM.out (HI.out.mono HB3.out) HV.out HRs.out).mono ?_
  rintro e w4 ⟨rfl, hb4⟩
  have HB4 : Hid (Below w.heap.size w w4) := HB3.out.trans (hb4.mono HB3.out.size)
  have HR4 : Hid (_) := (hb4.block _ hz3).trans HR3.out
  have hX4 := box_later hX3 (Nat.lt_of_succ_lt hz3) hb4
  have hz4 := Nat.lt_of_lt_of_le hz3 hb4.size
  clear hb4 hX3 hz3 HR3
  go_wp2_with fail
  have HF : Hid (∀ W, Calls Tryd.prog 34 #[.int .u8 (Gate.leftBits ts rs r)] W fun x w' => x = .returned (.int .i64 (Gate.low (Gate.lacksAt ts rs r))) ∧ w' = W) := fun W => first_any (Gate.lacksAt ts rs r) W
  have hX : ∀ j, w4.drew.cell? ⟨w.heap.size, j, none⟩ = (#[.slice a r.vs.length cap, .string r.kd, .string r.tm, .string r.px] : Array Value)[j]? := hX4
  have HX4 : Hid (∀ j, w4.cell? ⟨w.heap.size, j, none⟩ = (#[.slice a r.vs.length cap, .string r.kd, .string r.tm, .string r.px] : Array Value)[j]?) := hX4
  clear hX4
  go_region_held3 (fun w' => ∀ j, w'.cell? ⟨w.heap.size, j, none⟩ = (#[.slice a r.vs.length cap, .string r.kd, .string r.tm, .string r.px] : Array Value)[j]?) (first | exact hX | exact box_later HX4.out (Nat.lt_of_succ_lt hz4) (((Below.refl _ _).alloc (Nat.le_refl _) _).drew)) (first
    | (go_at_call 34; refine (HF.out _).mono ?_; rintro e w5 ⟨rfl, rfl⟩))
  all_goals (
    have HB5 : Hid (Below w.heap.size w (w4.alloc (.cells #[.int .i64 (Gate.low (Gate.lacksAt ts rs r)), .string r.kd, .string r.tm, .string r.px] 31)).drew) := (HB4.out.alloc HB4.out.size _).drew
    have HA5 : Hid (((w4.alloc (.cells #[.int .i64 (Gate.low (Gate.lacksAt ts rs r)), .string r.kd, .string r.tm, .string r.px] 31)).drew).heap[w4.heap.size]? = some (.cells #[.int .i64 (Gate.low (Gate.lacksAt ts rs r)), .string r.kd, .string r.tm, .string r.px] 31)) := Array.getElem?_push_size
    have HR5 : Hid (((w4.alloc (.cells #[.int .i64 (Gate.low (Gate.lacksAt ts rs r)), .string r.kd, .string r.tm, .string r.px] 31)).drew).heap[w.heap.size + 1]? = _) := ((((Below.refl w4.heap.size w4).alloc (Nat.le_refl _) _).drew).block _ hz4).trans HR4.out
    have hz5 : w4.heap.size < ((w4.alloc (.cells #[.int .i64 (Gate.low (Gate.lacksAt ts rs r)), .string r.kd, .string r.tm, .string r.px] 31)).drew).heap.size := by show w4.heap.size < (w4.heap.push _).size; simp
    obtain ⟨W5, hW5⟩ : ∃ W5, W5 = (w4.alloc (.cells #[.int .i64 (Gate.low (Gate.lacksAt ts rs r)), .string r.kd, .string r.tm, .string r.px] 31)).drew := ⟨_, rfl⟩
    rw [← hW5] at HB5 HA5 HR5 hz5 ⊢
    clear hW5
    have hAc := fun j => cell_of_block (o := j) HA5.out
    have hAf := fun j => frozen_of_block (o := j) HA5.out
    have hRc := fun j => cell_of_block (o := j) HR5.out
    have hRf := fun j => frozen_of_block (o := j) HR5.out
    by_cases hk : r.kd.toList.isEmpty = true
    · have HK1 : Hid (r.kd.toList.isEmpty = true) := hk
      by_cases ht : r.tm.toList.isEmpty = true
      · have HT1 : Hid (r.tm.toList.isEmpty = true) := ht
        go_wp2_with fail
        refine (freeKind_any _ _ rs _ (HR.out.mono HB5.out) (by have := HLM.out; omega) (HTB.out.mono HB5.out)).mono ?_
        rintro e w6 ⟨⟨jk, rfl, hjk⟩, hb6⟩
        obtain ⟨kn, HKN⟩ : ∃ kn, Hid (kn = Gate.numbered Gate.letterK jk) := ⟨_, rfl⟩
        rw [← HKN.out]
        have HJK : Hid (Gate.IsFree Gate.letterK (rs.map Rl.kd) jk) := hjk
        have HB6 : Hid (Below w.heap.size w (w6.setCell ⟨w4.heap.size, 1, none⟩ (.string kn))) := (HB5.out.trans (hb6.mono HB5.out.size)).setCell HB4.out.size _
        have HA6 : Hid (w6.heap[w4.heap.size]? = some (.cells #[.int .i64 (Gate.low (Gate.lacksAt ts rs r)), .string r.kd, .string r.tm, .string r.px] 31)) := (hb6.block _ hz5).trans HA5.out
        have HR6 : Hid (w6.heap[w.heap.size + 1]? = some (.cells #[.int .i64 0, .string ByteArray.empty, .string ByteArray.empty, .string ByteArray.empty] 31)) := (hb6.block _ (Nat.lt_trans hz4 hz5)).trans HR5.out
        have hz6 : w4.heap.size < (w6.setCell ⟨w4.heap.size, 1, none⟩ (.string kn)).heap.size := by rw [World.size_setCell]; exact Nat.lt_of_lt_of_le hz5 hb6.size
        have HA6' : Hid ((w6.setCell ⟨w4.heap.size, 1, none⟩ (.string kn)).heap[w4.heap.size]? = some (.cells #[.int .i64 (Gate.low (Gate.lacksAt ts rs r)), .string kn, .string r.tm, .string r.px] 31)) := heap_setCell_at HA6.out _
        have HR6' : Hid ((w6.setCell ⟨w4.heap.size, 1, none⟩ (.string kn)).heap[w.heap.size + 1]? = some (.cells #[.int .i64 0, .string ByteArray.empty, .string ByteArray.empty, .string ByteArray.empty] 31)) := (setCell_other (Nat.ne_of_lt hz4)).trans HR6.out
        clear hb6 hjk
        have hAc6 := fun j => cell_of_block (o := j) HA6.out
        have hAf6 := fun j => frozen_of_block (o := j) HA6.out
        have hRc6 := fun j => cell_of_block (o := j) HR6.out
        have hRf6 := fun j => frozen_of_block (o := j) HR6.out
        have hAc7 := fun j => cell_of_block (o := j) HA6'.out
        have hAf7 := fun j => frozen_of_block (o := j) HA6'.out
        have hRc7 := fun j => cell_of_block (o := j) HR6'.out
        have hRf7 := fun j => frozen_of_block (o := j) HR6'.out
        go_wp2_with fail
        refine (freeTeam_any _ _ ts _ _ rs _ (HT.out.mono HB6.out) (HR.out.mono HB6.out) HLM.out (HTB.out.mono HB6.out)).mono ?_
        rintro e w8 ⟨⟨jt, rfl, hjt⟩, hb8⟩
        obtain ⟨tn, HTN⟩ : ∃ tn, Hid (tn = Gate.numbered Gate.letterT jt) := ⟨_, rfl⟩
        rw [← HTN.out]
        have HJT : Hid (Gate.IsFree Gate.letterT (ts.map Tm.nm ++ rs.map Rl.tm) jt) := hjt
        have HB8 : Hid (Below w.heap.size w (w8.setCell ⟨w4.heap.size, 2, none⟩ (.string tn))) := (HB6.out.trans (hb8.mono HB6.out.size)).setCell HB4.out.size _
        have HA8 : Hid (w8.heap[w4.heap.size]? = some (.cells #[.int .i64 (Gate.low (Gate.lacksAt ts rs r)), .string kn, .string r.tm, .string r.px] 31)) := (hb8.block _ hz6).trans HA6'.out
        have HR8 : Hid (w8.heap[w.heap.size + 1]? = some (.cells #[.int .i64 0, .string ByteArray.empty, .string ByteArray.empty, .string ByteArray.empty] 31)) := (hb8.block _ (Nat.lt_trans hz4 hz6)).trans HR6'.out
        have HA8' : Hid ((w8.setCell ⟨w4.heap.size, 2, none⟩ (.string tn)).heap[w4.heap.size]? = some (.cells #[.int .i64 (Gate.low (Gate.lacksAt ts rs r)), .string kn, .string tn, .string r.px] 31)) := heap_setCell_at HA8.out _
        have HR8' : Hid ((w8.setCell ⟨w4.heap.size, 2, none⟩ (.string tn)).heap[w.heap.size + 1]? = some (.cells #[.int .i64 0, .string ByteArray.empty, .string ByteArray.empty, .string ByteArray.empty] 31)) := (setCell_other (Nat.ne_of_lt hz4)).trans HR8.out
        clear hb8 hjt
        have hAc8 := fun j => cell_of_block (o := j) HA8.out
        have hAf8 := fun j => frozen_of_block (o := j) HA8.out
        have hRc8 := fun j => cell_of_block (o := j) HR8.out
        have hRf8 := fun j => frozen_of_block (o := j) HR8.out
        have hAc9 := fun j => cell_of_block (o := j) HA8'.out
        have hAf9 := fun j => frozen_of_block (o := j) HA8'.out
        have hRc9 := fun j => cell_of_block (o := j) HR8'.out
        have hRf9 := fun j => frozen_of_block (o := j) HR8'.out
        go_wp2_with fail
        refine bodyPost_ret (v := (.tuple #[.agg #[.int .i64 (Gate.low (Gate.lacksAt ts rs r)), .string kn, .string tn, .string r.px], .bool true])) (by simp [results, Tryd.results12, go_sem, hRc9]) rfl ?_
        exact ⟨⟨⟨_, kn, tn, r.px⟩, rfl, rfl, ⟨rfl, by rw [if_pos HK1.out]; exact ⟨jk, HKN.out, HJK.out⟩, by rw [if_pos HT1.out]; exact ⟨jt, HTN.out, HJT.out⟩⟩⟩, act4_below HB8.out (Nat.le_succ _) _ _ _ _⟩
      · have ht' : r.tm.toList.isEmpty = false := by simpa using ht
        have HT1 : Hid (r.tm.toList.isEmpty = false) := ht'
        clear ht
        go_wp2_with fail
        refine (freeKind_any _ _ rs _ (HR.out.mono HB5.out) (by have := HLM.out; omega) (HTB.out.mono HB5.out)).mono ?_
        rintro e w6 ⟨⟨jk, rfl, hjk⟩, hb6⟩
        obtain ⟨kn, HKN⟩ : ∃ kn, Hid (kn = Gate.numbered Gate.letterK jk) := ⟨_, rfl⟩
        rw [← HKN.out]
        have HJK : Hid (Gate.IsFree Gate.letterK (rs.map Rl.kd) jk) := hjk
        have HB6 : Hid (Below w.heap.size w (w6.setCell ⟨w4.heap.size, 1, none⟩ (.string kn))) := (HB5.out.trans (hb6.mono HB5.out.size)).setCell HB4.out.size _
        have HA6 : Hid (w6.heap[w4.heap.size]? = some (.cells #[.int .i64 (Gate.low (Gate.lacksAt ts rs r)), .string r.kd, .string r.tm, .string r.px] 31)) := (hb6.block _ hz5).trans HA5.out
        have HR6 : Hid (w6.heap[w.heap.size + 1]? = some (.cells #[.int .i64 0, .string ByteArray.empty, .string ByteArray.empty, .string ByteArray.empty] 31)) := (hb6.block _ (Nat.lt_trans hz4 hz5)).trans HR5.out
        have hz6 : w4.heap.size < (w6.setCell ⟨w4.heap.size, 1, none⟩ (.string kn)).heap.size := by rw [World.size_setCell]; exact Nat.lt_of_lt_of_le hz5 hb6.size
        have HA6' : Hid ((w6.setCell ⟨w4.heap.size, 1, none⟩ (.string kn)).heap[w4.heap.size]? = some (.cells #[.int .i64 (Gate.low (Gate.lacksAt ts rs r)), .string kn, .string r.tm, .string r.px] 31)) := heap_setCell_at HA6.out _
        have HR6' : Hid ((w6.setCell ⟨w4.heap.size, 1, none⟩ (.string kn)).heap[w.heap.size + 1]? = some (.cells #[.int .i64 0, .string ByteArray.empty, .string ByteArray.empty, .string ByteArray.empty] 31)) := (setCell_other (Nat.ne_of_lt hz4)).trans HR6.out
        clear hb6 hjk
        have hAc6 := fun j => cell_of_block (o := j) HA6.out
        have hAf6 := fun j => frozen_of_block (o := j) HA6.out
        have hRc6 := fun j => cell_of_block (o := j) HR6.out
        have hRf6 := fun j => frozen_of_block (o := j) HR6.out
        have hAc7 := fun j => cell_of_block (o := j) HA6'.out
        have hAf7 := fun j => frozen_of_block (o := j) HA6'.out
        have hRc7 := fun j => cell_of_block (o := j) HR6'.out
        have hRf7 := fun j => frozen_of_block (o := j) HR6'.out
        go_wp2_with fail
        refine bodyPost_ret (v := (.tuple #[.agg #[.int .i64 (Gate.low (Gate.lacksAt ts rs r)), .string kn, .string r.tm, .string r.px], .bool true])) (by simp [results, Tryd.results12, go_sem, hRc7]) rfl ?_
        exact ⟨⟨⟨_, kn, r.tm, r.px⟩, rfl, rfl, ⟨rfl, by rw [if_pos HK1.out]; exact ⟨jk, HKN.out, HJK.out⟩, by rw [if_neg (by rw [HT1.out]; simp)]⟩⟩, act4_below HB6.out (Nat.le_succ _) _ _ _ _⟩
    · have hk' : r.kd.toList.isEmpty = false := by simpa using hk
      have HK1 : Hid (r.kd.toList.isEmpty = false) := hk'
      clear hk
      by_cases ht : r.tm.toList.isEmpty = true
      · have HT1 : Hid (r.tm.toList.isEmpty = true) := ht
        go_wp2_with fail
        refine (freeTeam_any _ _ ts _ _ rs _ (HT.out.mono HB5.out) (HR.out.mono HB5.out) HLM.out (HTB.out.mono HB5.out)).mono ?_
        rintro e w8 ⟨⟨jt, rfl, hjt⟩, hb8⟩
        obtain ⟨tn, HTN⟩ : ∃ tn, Hid (tn = Gate.numbered Gate.letterT jt) := ⟨_, rfl⟩
        rw [← HTN.out]
        have HJT : Hid (Gate.IsFree Gate.letterT (ts.map Tm.nm ++ rs.map Rl.tm) jt) := hjt
        have HB8 : Hid (Below w.heap.size w (w8.setCell ⟨w4.heap.size, 2, none⟩ (.string tn))) := (HB5.out.trans (hb8.mono HB5.out.size)).setCell HB4.out.size _
        have HA8 : Hid (w8.heap[w4.heap.size]? = some (.cells #[.int .i64 (Gate.low (Gate.lacksAt ts rs r)), .string r.kd, .string r.tm, .string r.px] 31)) := (hb8.block _ hz5).trans HA5.out
        have HR8 : Hid (w8.heap[w.heap.size + 1]? = some (.cells #[.int .i64 0, .string ByteArray.empty, .string ByteArray.empty, .string ByteArray.empty] 31)) := (hb8.block _ (Nat.lt_trans hz4 hz5)).trans HR5.out
        have HA8' : Hid ((w8.setCell ⟨w4.heap.size, 2, none⟩ (.string tn)).heap[w4.heap.size]? = some (.cells #[.int .i64 (Gate.low (Gate.lacksAt ts rs r)), .string r.kd, .string tn, .string r.px] 31)) := heap_setCell_at HA8.out _
        have HR8' : Hid ((w8.setCell ⟨w4.heap.size, 2, none⟩ (.string tn)).heap[w.heap.size + 1]? = some (.cells #[.int .i64 0, .string ByteArray.empty, .string ByteArray.empty, .string ByteArray.empty] 31)) := (setCell_other (Nat.ne_of_lt hz4)).trans HR8.out
        clear hb8 hjt
        have hAc8 := fun j => cell_of_block (o := j) HA8.out
        have hAf8 := fun j => frozen_of_block (o := j) HA8.out
        have hRc8 := fun j => cell_of_block (o := j) HR8.out
        have hRf8 := fun j => frozen_of_block (o := j) HR8.out
        have hAc9 := fun j => cell_of_block (o := j) HA8'.out
        have hAf9 := fun j => frozen_of_block (o := j) HA8'.out
        have hRc9 := fun j => cell_of_block (o := j) HR8'.out
        have hRf9 := fun j => frozen_of_block (o := j) HR8'.out
        go_wp2_with fail
        refine bodyPost_ret (v := (.tuple #[.agg #[.int .i64 (Gate.low (Gate.lacksAt ts rs r)), .string r.kd, .string tn, .string r.px], .bool true])) (by simp [results, Tryd.results12, go_sem, hRc9]) rfl ?_
        exact ⟨⟨⟨_, r.kd, tn, r.px⟩, rfl, rfl, ⟨rfl, by rw [if_neg (by rw [HK1.out]; simp)], by rw [if_pos HT1.out]; exact ⟨jt, HTN.out, HJT.out⟩⟩⟩, act4_below HB8.out (Nat.le_succ _) _ _ _ _⟩
      · have ht' : r.tm.toList.isEmpty = false := by simpa using ht
        have HT1 : Hid (r.tm.toList.isEmpty = false) := ht'
        clear ht
        go_wp2_with fail
        refine bodyPost_ret (v := (.tuple #[.agg #[.int .i64 (Gate.low (Gate.lacksAt ts rs r)), .string r.kd, .string r.tm, .string r.px], .bool true])) (by simp [results, Tryd.results12, go_sem, hRc]) rfl ?_
        exact ⟨⟨⟨_, r.kd, r.tm, r.px⟩, rfl, rfl, ⟨rfl, by rw [if_neg (by rw [HK1.out]; simp)], by rw [if_neg (by rw [HT1.out]; simp)]⟩⟩, act4_below HB5.out (Nat.le_succ _) _ _ _ _⟩)

end Go.Proofs.YtimhinpekngceaaDoor

namespace Go.Proofs.YtimhinpekngceaaDoor
open Go.RowKit

set_option maxHeartbeats 400000 in
theorem l1Has_any (a : Option Addr) (cap : Nat) (ws : List ByteArray) (v : ByteArray) (w : World) (hw : StrsAt w a ws) :
    Calls Tryd.prog 53 #[.slice a ws.length cap, .string v] w fun e w' => e = .returned (.bool (Gate.has ws v)) ∧ w' = w := by
  have hl := hw.len
  unfold maxLen at hl
  by_cases hne : ws = []
  · subst hne
    go_enter Tryd.func53, Tryd.ntmps53
    go_wp2
    go_loop [5] (fun i => i = .int .i64 0) (fun i => 0)
    case atStart => rfl
    case round =>
      subst hrel
      go_wp2
      go_ret
      exact ⟨rfl, rfl⟩
  · obtain ⟨b, off, rfl, hb, hc⟩ := hw.cells hne
    clear hw
    have HL : Hid (0 < ws.length) := List.length_pos_iff.2 hne
    clear hne
    go_enter Tryd.func53, Tryd.ntmps53
    go_wp2
    go_loop [5] (fun i => ∃ k : Nat, k ≤ ws.length ∧ i = .int .i64 k ∧ Gate.has (ws.take k) v = false) (fun i => ws.length - (intOf i).toNat)
    case atStart => exact ⟨0, Nat.zero_le _, rfl, rfl⟩
    case round =>
      obtain ⟨k, hk, rfl, hall⟩ := hrel
      by_cases hlt : k < ws.length
      · have hck := hc k hlt
        clear hc
        have HS : Hid (Gate.has (ws.take (k + 1)) v = (false || decide (ws[k] = v))) := by rw [Gate.has_snoc ws v k hlt, hall]; rfl
        have HN : Hid (ws[k] = v → Gate.has ws v = true) := fun h => Gate.has_at ws v k hlt h
        clear hall
        by_cases he : ws[k] = v
        · have hbe : (ws[k].toList == v.toList) = true := by rw [Gate.beq_toList]; simpa using he
          have HE : Hid (ws[k] = v) := he
          clear he
          go_wp2
          go_ret
          exact ⟨ret_bool (HN.out HE.out).symm, rfl⟩
        · have hbe : (ws[k].toList == v.toList) = false := by rw [Gate.beq_toList]; simpa using he
          have HE : Hid (¬ ws[k] = v) := he
          clear he
          go_wp2
          go_round
          case rel => exact ⟨k + 1, by omega, by go_num, by rw [HS.out, decide_eq_false HE.out]; rfl⟩
          case measure => simp [intOf]; omega
      · have HA : Hid (Gate.has ws v = false) := by rw [← Gate.has_all ws v k (by omega)]; exact hall
        clear hall hc
        go_wp2
        go_ret
        exact ⟨ret_bool HA.out.symm, rfl⟩

end Go.Proofs.YtimhinpekngceaaDoor
