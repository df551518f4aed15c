import Derived.WalkKit
import Derived.Test.YtimhinpekngceaaDoorM27
import Derived.Test.YtimhinpekngceaaDoorM23
import Derived.Test.YtimhinpekngceaaDoorM25
namespace Go.Proofs.YtimhinpekngceaaDoor
open Go.RowKit

/-- A cut behind a region: what holds behind each way is told once. -/
theorem region_cut {P : Program} {id : Nat} {ops : Array Oper} {b : Bool} {Q : Exit → Act → World → Prop} {a : Act} {w : World} (R : Act → Act → World → Prop) (h1 : (Code.region id ops b).wp P (fun e a' w' => e = .normal ∧ R a a' w') a w) (h2 : ∀ a' w', R a a' w' → Q .normal a' w') : (Code.region id ops b).wp P Q a w :=
  Code.wp_mono (fun e a' w' ⟨he, hr⟩ => by subst he; exact h2 a' w' hr) h1

end Go.Proofs.YtimhinpekngceaaDoor

namespace Go.Proofs.YtimhinpekngceaaDoor
open Go.RowKit

theorem Gate.IsFree.same {l : ByteArray} {L L' : List ByteArray} {k : Nat} (h : Gate.IsFree l L k) (hL : ∀ s, s ∈ L ↔ s ∈ L') : Gate.IsFree l L' k := ⟨fun h' => h.no ((hL _).2 h'), fun j hj => (hL _).1 (h.ahead j hj)⟩

theorem alloc_new (w : World) (o : Obj) : (w.alloc o).heap[w.heap.size]? = some o := (MapKept.heap_alloc w o).1

theorem set4_at {w : World} {b : Nat} {x0 x1 x2 x3 : Value} {t : TypeId} (h : w.heap[b]? = some (.cells #[x0, x1, x2, x3] t)) (v0 v1 v2 v3 : Value) : ((((w.setCell ⟨b, 0, none⟩ v0).setCell ⟨b, 1, none⟩ v1).setCell ⟨b, 2, none⟩ v2).setCell ⟨b, 3, none⟩ v3).heap[b]? = some (.cells #[v0, v1, v2, v3] t) := by
  rw [heap_setCell_at (heap_setCell_at (heap_setCell_at (heap_setCell_at h v0) v1) v2) v3]
  rfl

theorem kds_small {w : World} {a : Option Addr} {rs : List Rl} (h : RlsAt w a rs) : ∀ s ∈ rs.map Rl.kd, s.size ≤ maxLen := by
  intro s hs
  obtain ⟨r, hr, rfl⟩ := List.mem_map.1 hs
  obtain ⟨i, hi, rfl⟩ := List.mem_iff_getElem.1 hr
  exact (h.smalls.small i hi).1.kd

theorem tms_small {w : World} {a b : Option Addr} {rs : List Rl} {ts : List Tm} (h : RlsAt w a rs) (ht : TmsAt w b ts) : ∀ s ∈ rs.map Rl.tm ++ ts.map Tm.nm, s.size ≤ maxLen := by
  intro s hs
  rcases List.mem_append.1 hs with hs | hs
  · obtain ⟨r, hr, rfl⟩ := List.mem_map.1 hs
    obtain ⟨i, hi, rfl⟩ := List.mem_iff_getElem.1 hr
    exact (h.smalls.small i hi).1.tm
  · obtain ⟨r, hr, rfl⟩ := List.mem_map.1 hs
    obtain ⟨i, hi, rfl⟩ := List.mem_iff_getElem.1 hr
    exact (ht.small i hi).nm

theorem cell_set4 {w : World} {b c j : Nat} (h : c ≠ b) {v0 v1 v2 v3 : Value} : ((((w.setCell ⟨b, 0, none⟩ v0).setCell ⟨b, 1, none⟩ v1).setCell ⟨b, 2, none⟩ v2).setCell ⟨b, 3, none⟩ v3).cell? ⟨c, j, none⟩ = w.cell? ⟨c, j, none⟩ := by
  unfold World.cell?
  rw [setCell_other h, setCell_other h, setCell_other h, setCell_other h]

set_option maxHeartbeats 4000000 in
theorem specUncovered_yes (ta : Option Addr) (tcap : Nat) (ts : List Tm) (ra : Option Addr) (rcap : Nat) (rs : List Rl) (r : Rl) (a : Option Addr) (cap : Nat) (w : World) (hw : TmsAt w ta ts) (hr : RlsAt w ra rs) (hm : r.Small) (hi : IntsAt w a r.vs) (hok : Gate.allOk ts rs r = true) (hno : ¬ Gate.lacksS ts rs r = 0) (hlt : ts.length ≤ 1048576) (hlr : rs.length ≤ 1048576) :
    Calls Tryd.prog 8 #[.slice ta ts.length tcap, .slice ra rs.length rcap, .agg (r.cells a cap)] w fun e w' => (∃ x : Ac, e = .returned (.tuple #[.agg x.cells, .bool true]) ∧ x.vb = Gate.lacksS ts rs r ∧ Gate.UncovRest ts rs r x) ∧ Below w.heap.size w w' := by
  have HB : Hid (∀ o1 o2, Below w.heap.size w ((w.alloc o1).alloc o2)) := fun _ _ => ((Below.refl _ _).alloc (Nat.le_refl _) _).alloc (by simp) _
  have HT : Hid (TmsAt w ta ts) := hw
  have HR : Hid (RlsAt w ra rs) := hr
  have HI : Hid (IntsAt w a r.vs) := hi
  have HM : Hid r.Small := hm
  have HK : Hid (Gate.allOk ts rs r = true) := hok
  have hz0 : (Gate.lacksS ts rs r == 0) = false := by simpa using hno
  clear hw hr hi hm hok
  unfold Rl.cells
  go_enter Tryd.func8, Tryd.ntmps8
  go_wp2_with fail
  refine (as_bool HK.out (l4AllOk_any _ _ ts _ _ rs r _ _ _ (HT.out.mono (HB.out _ _)) (HR.out.mono (HB.out _ _)) HM.out (HI.out.mono (HB.out _ _)))).mono ?_
  rintro e w1 ⟨rfl, hb1⟩
  have HB1 : Hid (Below w.heap.size w w1) := (HB.out _ _).trans (hb1.mono (by simp; omega))
  have HR1 : Hid (_) := res_later hb1
  have hX1 := box_later (box_new w _ _) (by simp) (((Below.refl _ _).alloc (Nat.le_refl _) _).trans (hb1.mono (by simp)))
  have hz1 : w.heap.size + 1 < w1.heap.size := by have := hb1.size; simp at this; omega
  clear hb1
  go_wp2_with fail
  refine (l4Lacks_any _ _ ts _ _ rs r _ _ _ (HT.out.mono HB1.out) (HR.out.mono HB1.out) HM.out (HI.out.mono HB1.out)).mono ?_
  rintro e w2 ⟨rfl, hb2⟩
  have HB2 : Hid (Below w.heap.size w w2) := HB1.out.trans (hb2.mono HB1.out.size)
  have HR2 : Hid (_) := (hb2.block _ hz1).trans HR1.out
  have hX2 := box_later hX1 (Nat.lt_of_succ_lt hz1) hb2
  have hz2 := Nat.lt_of_lt_of_le hz1 hb2.size
  clear hb2 hX1 hz1 HR1
  obtain ⟨i0, hin, hz0', hz1', hz2'⟩ := info_parts infoStr
  have HI0 : Hid (Tryd.prog.info? 9 = some i0 ∧ i0.zero = some (.string ByteArray.empty) ∧ i0.size = 1 ∧ i0.bytes = 16) := ⟨hin, hz0', hz1', hz2'⟩
  clear hin hz0' hz1' hz2'
  go_wp2_with fail
  have HX2 : Hid (∀ o, w2.cell? ⟨w.heap.size, o, none⟩ = _) := hX2
  clear hX2
  go_loopw [8, 9, 10] (fun kv0 nv0 iv wr => ∃ (k : Nat) (kv nv : Value), kv = kv0 ∧ nv = nv0 ∧ k ≤ rs.length ∧ iv = .int .i64 k ∧ Hid (TwoRows w2.heap.size wr kv nv ((rs.map Rl.kd).take k) ((rs.map Rl.tm).take k) ∧ Below w2.heap.size w2 wr)) (fun _ _ iv _ => rs.length - (intOf iv).toNat)
  case atStart => exact ⟨0, _, _, rfl, rfl, Nat.zero_le _, rfl, by rw [List.take_zero, List.take_zero]; exact TwoRows.new w2, ((Below.refl _ _).alloc (Nat.le_refl _) _).alloc (by simp) _⟩
  case round =>
    obtain ⟨k, kv, nv, hkv, hnv, hk, rfl, HQ⟩ := hrel
    subst hkv
    subst hnv
    by_cases hlt : k < rs.length
    · obtain ⟨b, off, va, vcap, rfl, hb, hsm, hI, c0, c1, c2, c3⟩ := HR.out.load (HB2.out.trans (HQ.out.2.mono HB2.out.size)) k hlt
      have hltI : (k : Int) < (rs.length : Int) := by omega
      have hbr : b < wr.heap.size := Nat.lt_of_lt_of_le hb (HB2.out.trans (HQ.out.2.mono HB2.out.size)).size
      have HLK : Hid (((rs.map Rl.kd).take k).length ≤ 1048576 ∧ ((rs.map Rl.tm).take k).length ≤ 1048576) := by unfold Hid; rw [List.length_take, List.length_map, List.length_take, List.length_map]; omega
      have HCC : Hid (∀ W, Below w2.heap.size w2 W → W.cell? ⟨b, off + k * 4 + 2, none⟩ = some (.string rs[k].tm)) := fun W hW => by
        have hbW := HB2.out.trans (hW.mono HB2.out.size)
        have hbr2 := HB2.out.trans (HQ.out.2.mono HB2.out.size)
        rw [hbW.cell (p := ⟨b, off + k * 4 + 2, none⟩) hb, ← hbr2.cell (p := ⟨b, off + k * 4 + 2, none⟩) hb]; exact c2
      have HSK : Hid ((rs.map Rl.kd).take (k + 1) = (rs.map Rl.kd).take k ++ [rs[k].kd]) := take_map_snoc _ _ _ hlt
      have HST : Hid ((rs.map Rl.tm).take (k + 1) = (rs.map Rl.tm).take k ++ [rs[k].tm]) := take_map_snoc _ _ _ hlt
      clear hsm hI c0 c3 hno
      go_wp2_with (at_builtin; first
        | (refine wpList_append_own_at _ rfl (.tmp 34) (.tmp 40) 59 rfl w2.heap.size 9 i0 (.string ByteArray.empty) 1 16 Tryd.underlying59 HI0.out.1 HI0.out.2.1 HI0.out.2.2.1 HI0.out.2.2.2 rfl (by decide) _ _ _ rfl (HQ.out.1.k.alloc _) ⟨wr.heap.size, 0, none⟩ 1 1 [.string rs[k].kd] rfl rfl (one_new _ _ _) (by intro u hu; simp at hu; subst hu; rfl) (by have := HLK.out; unfold maxLen; omega) (by have := HLK.out; omega) (by have := HQ.out.2.size; simp; omega) ?_; intro v' w3 hown' hgr _ hat; have HQ1 : Hid (TwoRows w2.heap.size w3 v' nv ((rs.map Rl.kd).take k ++ [rs[k].kd]) ((rs.map Rl.tm).take k) ∧ Below w2.heap.size w2 w3) := ⟨HQ.out.1.push hown' hgr hat, HQ.out.1.below HQ.out.2 HQ.out.2.size hgr⟩; have c2' := HCC.out w3 HQ1.out.2; clear hown' hgr hat)
        | (refine wpList_append_own_at _ rfl (.tmp 42) (.tmp 48) 59 rfl w2.heap.size 9 i0 (.string ByteArray.empty) 1 16 Tryd.underlying59 HI0.out.1 HI0.out.2.1 HI0.out.2.2.1 HI0.out.2.2.2 rfl (by decide) _ _ _ rfl (HQ1.out.1.n.alloc _) ⟨w3.heap.size, 0, none⟩ 1 1 [.string rs[k].tm] rfl rfl (one_new _ _ _) (by intro u hu; simp at hu; subst hu; rfl) (by have := HLK.out; unfold maxLen; omega) (by have := HLK.out; omega) (by have := HQ1.out.2.size; simp; omega) ?_; intro v' w4 hown' hgr _ hat; have HQ2 : Hid (TwoRows w2.heap.size w4 _ v' ((rs.map Rl.kd).take k ++ [rs[k].kd]) ((rs.map Rl.tm).take k ++ [rs[k].tm]) ∧ Below w2.heap.size w2 w4) := ⟨(HQ1.out.1.swap.push hown' hgr hat).swap, HQ1.out.1.swap.below HQ1.out.2 HQ1.out.2.size hgr⟩; clear hown' hgr hat))
      exact ⟨⟨k + 1, _, _, rfl, rfl, by omega, by go_num, by rw [HSK.out, HST.out]; exact HQ2.out⟩, by simp [intOf]; omega⟩
    · have e : k = rs.length := by omega
      subst e
      have H0 : Hid (TwoRows w2.heap.size wr kv nv (rs.map Rl.kd) (rs.map Rl.tm) ∧ Below w2.heap.size w2 wr) := by
        have h := HQ.out
        rw [List.take_of_length_le (by simp), List.take_of_length_le (by simp)] at h
        exact h
      clear HQ hno hk
      go_wp2_with fail
      go_loopw [9, 11] (fun nv0 iv wr => ∃ (k : Nat) (nv : Value), nv = nv0 ∧ k ≤ ts.length ∧ iv = .int .i64 k ∧ Hid (TwoRows w2.heap.size wr kv nv (rs.map Rl.kd) (rs.map Rl.tm ++ (ts.map Tm.nm).take k) ∧ Below w2.heap.size w2 wr)) (fun _ iv _ => ts.length - (intOf iv).toNat)
      case atStart => exact ⟨0, _, rfl, Nat.zero_le _, rfl, by rw [List.take_zero, List.append_nil]; exact H0⟩
      case round =>
        clear H0
        obtain ⟨k, nv, hnv, hk, rfl, HQ⟩ := hrel
        subst hnv
        by_cases hlt2 : k < ts.length
        · obtain ⟨b, off, rfl, hb, c0, c1⟩ := HT.out.load (HB2.out.trans (HQ.out.2.mono HB2.out.size)) k hlt2
          have hltI : (k : Int) < (ts.length : Int) := by omega
          have hbr : b < wr.heap.size := Nat.lt_of_lt_of_le hb (HB2.out.trans (HQ.out.2.mono HB2.out.size)).size
          have HLK : Hid ((rs.map Rl.tm ++ (ts.map Tm.nm).take k).length ≤ 2097152) := by unfold Hid; rw [List.length_append, List.length_map, List.length_take, List.length_map]; omega
          have HST : Hid (rs.map Rl.tm ++ (ts.map Tm.nm).take (k + 1) = rs.map Rl.tm ++ (ts.map Tm.nm).take k ++ [ts[k].nm]) := by unfold Hid; rw [take_map_snoc _ _ _ hlt2, List.append_assoc]
          clear c1
          go_wp2_with (at_builtin; (refine wpList_append_own_at _ rfl (.tmp 56) (.tmp 62) 59 rfl w2.heap.size 9 i0 (.string ByteArray.empty) 1 16 Tryd.underlying59 HI0.out.1 HI0.out.2.1 HI0.out.2.2.1 HI0.out.2.2.2 rfl (by decide) _ _ _ rfl (HQ.out.1.n.alloc _) ⟨wr.heap.size, 0, none⟩ 1 1 [.string ts[k].nm] rfl rfl (one_new _ _ _) (by intro u hu; simp at hu; subst hu; rfl) (by have := HLK.out; unfold maxLen; omega) (by have := HLK.out; omega) (by have := HQ.out.2.size; simp; omega) ?_; intro v' w4 hown' hgr _ hat; have HQ2 : Hid (TwoRows w2.heap.size w4 _ v' (rs.map Rl.kd) (rs.map Rl.tm ++ (ts.map Tm.nm).take k ++ [ts[k].nm]) ∧ Below w2.heap.size w2 w4) := ⟨(HQ.out.1.swap.push hown' hgr hat).swap, HQ.out.1.swap.below HQ.out.2 HQ.out.2.size hgr⟩; clear hown' hgr hat))
          exact ⟨⟨k + 1, _, rfl, by omega, by go_num, by rw [HST.out]; exact HQ2.out⟩, by simp [intOf]; omega⟩
        · have e : k = ts.length := by omega
          subst e
          have H1 : Hid (TwoRows w2.heap.size wr kv nv (rs.map Rl.kd) (rs.map Rl.tm ++ ts.map Tm.nm) ∧ Below w2.heap.size w2 wr) := by
            have h := HQ.out
            rw [List.take_of_length_le (by simp)] at h
            exact h
          clear HQ
          have HKL : Hid ((∀ s ∈ rs.map Rl.kd, s.size ≤ maxLen) ∧ (∀ s ∈ rs.map Rl.tm ++ ts.map Tm.nm, s.size ≤ maxLen) ∧ (rs.map Rl.kd).length ≤ 1048576 ∧ (rs.map Rl.tm ++ ts.map Tm.nm).length ≤ 2097152) := ⟨kds_small HR.out, tms_small HR.out HT.out, by simpa using hlr, by rw [List.length_append, List.length_map, List.length_map]; omega⟩
          obtain ⟨K, HKd⟩ : ∃ K, Hid (K = rs.map Rl.kd) := ⟨_, rfl⟩
          obtain ⟨L, HLd⟩ : ∃ L, Hid (L = rs.map Rl.tm ++ ts.map Tm.nm) := ⟨_, rfl⟩
          rw [← HKd.out, ← HLd.out] at H1 HKL
          obtain ⟨ka, kcap, rfl⟩ := ownsRow_strsSlice H1.out.1.k
          obtain ⟨la, lcap, rfl⟩ := ownsRow_strsSlice H1.out.1.n
          have HSK : Hid (StrsAt wr ka K ∧ StrsAt wr la L) := ⟨ownsRow_strs H1.out.1.k (by have := HKL.out.2.2.1; unfold maxLen; omega) HKL.out.1, ownsRow_strs H1.out.1.n (by have := HKL.out.2.2.2; unfold maxLen; omega) HKL.out.2.1⟩
          go_wp2_with fail
          have HBr : Hid (Below w.heap.size w wr) := HB2.out.trans (H1.out.2.mono HB2.out.size)
          have HF : Hid (∀ W, Below w.heap.size w W → Calls Tryd.prog 26 #[.slice ta ts.length tcap, .slice ra rs.length rcap, .agg #[.slice a r.vs.length cap, .string r.kd, .string r.tm, .string r.px]] W fun e w' => e = .returned (.int .i64 (Gate.lacksS ts rs r)) ∧ Below W.heap.size W w') := fun W hW => l4Lacks_any _ _ ts _ _ rs r _ _ W (HT.out.mono hW) (HR.out.mono hW) HM.out (HI.out.mono hW)
          have HX3 : Hid (∀ o, wr.cell? ⟨w.heap.size, o, none⟩ = _) := box_later HX2.out (Nat.lt_of_succ_lt hz2) H1.out.2
          have HR3 : Hid (wr.heap[w.heap.size + 1]? = _) := (H1.out.2.block _ hz2).trans HR2.out
          have hX : ∀ j, wr.drew.cell? ⟨w.heap.size, j, none⟩ = (#[.slice a r.vs.length cap, .string r.kd, .string r.tm, .string r.px] : Array Value)[j]? := HX3.out
          have hzr : w.heap.size < wr.drew.heap.size := Nat.lt_of_lt_of_le (Nat.lt_of_succ_lt hz2) H1.out.2.size
          have hBq : Below w.heap.size w wr.drew := HBr.out.drew
          refine region_cut (fun A A' w' => ∃ u64 u65 u66 u67 u68 u69 u70 u71 u72 u73 u74 bA, A' = ((((((((((((A.put (some 64) u64).put (some 65) u65).put (some 66) u66).put (some 67) u67).put (some 68) u68).put (some 69) u69).put (some 70) u70).put (some 71) u71).put (some 72) u72).put (some 73) u73).put (some 74) u74).put (some 12) (.pointer (some ⟨bA, 0, none⟩))) ∧ wr.heap.size ≤ bA ∧ w'.heap[bA]? = some (.cells #[.int .i64 (Gate.lacksS ts rs r), .string r.kd, .string r.tm, .string r.px] 31) ∧ Below wr.heap.size wr w') ?_ ?_
          · go_region_held3 (fun w' => ∀ j, w'.cell? ⟨w.heap.size, j, none⟩ = (#[.slice a r.vs.length cap, .string r.kd, .string r.tm, .string r.px] : Array Value)[j]?) (first | exact hX | exact box_later hX hzr ((Below.refl _ _).alloc (Nat.le_refl _) _) | exact box_later HX3.out hzr (((Below.refl _ _).alloc (Nat.le_refl _) _).drew) | (intro j; rw [cell_set4 hnA, hX])) (first
              | (go_at_call 26; first
                | (refine (HF.out _ hBq).mono ?_; rintro e w5 ⟨rfl, hb5⟩; have hX := box_later hX hzr hb5; have hzr := Nat.lt_of_lt_of_le hzr hb5.size; have hW5 : Below wr.heap.size wr w5 := ((Below.refl _ _).drew).trans hb5)
                | (refine (HF.out _ ((HBr.out.alloc HBr.out.size _).drew)).mono ?_; rintro e w5 ⟨rfl, hb5⟩; have hX := box_later (box_later HX3.out hzr (((Below.refl wr.heap.size wr).alloc (Nat.le_refl _) (.cells #[.int .i64 0, .string ByteArray.empty, .string ByteArray.empty, .string ByteArray.empty] 31)).drew)) (Nat.lt_of_lt_of_le hzr (((Below.refl wr.heap.size wr).alloc (Nat.le_refl _) _).drew).size) hb5; have hA5 : w5.heap[wr.heap.size]? = some (.cells #[.int .i64 0, .string ByteArray.empty, .string ByteArray.empty, .string ByteArray.empty] 31) := (hb5.block _ (by show _ < (wr.heap.push _).size; simp)).trans Array.getElem?_push_size; have hAc5 := fun j => cell_of_block (o := j) hA5; have hAf5 := fun j => frozen_of_block (o := j) hA5; have hnA : w.heap.size ≠ wr.heap.size := Nat.ne_of_lt hzr; have hW5 : Below wr.heap.size wr w5 := (((Below.refl wr.heap.size wr).alloc (Nat.le_refl _) _).drew).trans (hb5.mono (((Below.refl wr.heap.size wr).alloc (Nat.le_refl _) _).drew).size))))
            · exact ⟨rfl, _, _, _, _, _, _, _, _, _, _, _, _, rfl, hW5.size, alloc_new _ _, hW5.alloc hW5.size _⟩
            · exact ⟨rfl, _, _, _, _, _, _, _, _, _, _, _, _, rfl, Nat.le_refl _, set4_at hA5 _ _ _ _, act4_below hW5 (Nat.le_refl _) _ _ _ _⟩
          rintro A' w6 ⟨u64, u65, u66, u67, u68, u69, u70, u71, u72, u73, u74, bA, rfl, hlA, hKA, hBW⟩
          simp only [Act.put, List.setIfInBounds_toArray, List.set_cons_zero, List.set_cons_succ]
          have HBW : Hid (Below wr.heap.size wr w6) := hBW
          have HB5 : Hid (Below w.heap.size w w6) := HBr.out.trans (hBW.mono HBr.out.size)
          have HA5 : Hid (w6.heap[bA]? = some (.cells #[.int .i64 (Gate.lacksS ts rs r), .string r.kd, .string r.tm, .string r.px] 31)) := hKA
          have hzw : w.heap.size + 1 < wr.heap.size := Nat.lt_of_lt_of_le hz2 H1.out.2.size
          have HR5 : Hid (w6.heap[w.heap.size + 1]? = _) := (hBW.block _ hzw).trans HR3.out
          have hz4 : w.heap.size + 1 < bA := Nat.lt_of_lt_of_le hzw hlA
          have hlw : w.heap.size ≤ bA := by omega
          have hz5 : bA < w6.heap.size := (Array.getElem?_eq_some_iff.1 hKA).1
          clear hKA hBW hX hzr hBq HF HX3 HR3 HBr H1
          have hAc := fun j => cell_of_block (o := j) HA5.out
          have hAf := fun j => frozen_of_block (o := j) HA5.out
          have hRc := fun j => cell_of_block (o := j) HR5.out
          have hRf := fun j => frozen_of_block (o := j) HR5.out
          by_cases hk : r.kd.toList.isEmpty = true
          · have HK1 : Hid (r.kd.toList.isEmpty = true) := hk
            by_cases ht : r.tm.toList.isEmpty = true
            · have HT1 : Hid (r.tm.toList.isEmpty = true) := ht
              go_wp2_with fail
              refine (l4New_any l4Dec_any Gate.letterK _ _ K _ (HSK.out.1.mono HBW.out) (by have := HKL.out.2.2.1; omega) (by decide)).mono ?_
              rintro e w7 ⟨⟨jk, rfl, hjk⟩, hb6⟩
              obtain ⟨kn, HKN⟩ : ∃ kn, Hid (kn = Gate.numbered Gate.letterK jk) := ⟨_, rfl⟩
              rw [← HKN.out]
              have HJK : Hid (Gate.IsFree Gate.letterK (rs.map Rl.kd) jk) := by unfold Hid; rw [← HKd.out]; exact hjk
              have HB6 : Hid (Below w.heap.size w (w7.setCell ⟨bA, 1, none⟩ (.string kn))) := (HB5.out.trans (hb6.mono HB5.out.size)).setCell hlw _
              have HW6 : Hid (Below wr.heap.size wr (w7.setCell ⟨bA, 1, none⟩ (.string kn))) := (HBW.out.trans (hb6.mono HBW.out.size)).setCell hlA _
              have HA6 : Hid (w7.heap[bA]? = some (.cells #[.int .i64 (Gate.lacksS ts rs r), .string r.kd, .string r.tm, .string r.px] 31)) := (hb6.block _ hz5).trans HA5.out
              have HR6 : Hid (w7.heap[w.heap.size + 1]? = some (.cells #[.int .i64 0, .string ByteArray.empty, .string ByteArray.empty, .string ByteArray.empty] 31)) := (hb6.block _ (Nat.lt_trans hz4 hz5)).trans HR5.out
              have hz6 : bA < (w7.setCell ⟨bA, 1, none⟩ (.string kn)).heap.size := by rw [World.size_setCell]; exact Nat.lt_of_lt_of_le hz5 hb6.size
              have HA6' : Hid ((w7.setCell ⟨bA, 1, none⟩ (.string kn)).heap[bA]? = some (.cells #[.int .i64 (Gate.lacksS ts rs r), .string kn, .string r.tm, .string r.px] 31)) := heap_setCell_at HA6.out _
              have HR6' : Hid ((w7.setCell ⟨bA, 1, none⟩ (.string kn)).heap[w.heap.size + 1]? = some (.cells #[.int .i64 0, .string ByteArray.empty, .string ByteArray.empty, .string ByteArray.empty] 31)) := (setCell_other (Nat.ne_of_lt hz4)).trans HR6.out
              clear hb6 hjk
              have hAc6 := fun j => cell_of_block (o := j) HA6.out
              have hAf6 := fun j => frozen_of_block (o := j) HA6.out
              have hRc6 := fun j => cell_of_block (o := j) HR6.out
              have hRf6 := fun j => frozen_of_block (o := j) HR6.out
              have hAc7 := fun j => cell_of_block (o := j) HA6'.out
              have hAf7 := fun j => frozen_of_block (o := j) HA6'.out
              have hRc7 := fun j => cell_of_block (o := j) HR6'.out
              have hRf7 := fun j => frozen_of_block (o := j) HR6'.out
              go_wp2_with fail
              refine (l4New_any l4Dec_any Gate.letterT _ _ L _ (HSK.out.2.mono HW6.out) (by have := HKL.out.2.2.2; omega) (by decide)).mono ?_
              rintro e w8 ⟨⟨jt, rfl, hjt⟩, hb8⟩
              obtain ⟨tn, HTN⟩ : ∃ tn, Hid (tn = Gate.numbered Gate.letterT jt) := ⟨_, rfl⟩
              rw [← HTN.out]
              have HJT : Hid (Gate.IsFree Gate.letterT (ts.map Tm.nm ++ rs.map Rl.tm) jt) := by have h := hjt; rw [HLd.out] at h; exact h.same (fun x => by rw [List.mem_append, List.mem_append]; exact Or.comm)
              have HB8 : Hid (Below w.heap.size w (w8.setCell ⟨bA, 2, none⟩ (.string tn))) := (HB6.out.trans (hb8.mono HB6.out.size)).setCell hlw _
              have HA8 : Hid (w8.heap[bA]? = some (.cells #[.int .i64 (Gate.lacksS ts rs r), .string kn, .string r.tm, .string r.px] 31)) := (hb8.block _ hz6).trans HA6'.out
              have HR8 : Hid (w8.heap[w.heap.size + 1]? = some (.cells #[.int .i64 0, .string ByteArray.empty, .string ByteArray.empty, .string ByteArray.empty] 31)) := (hb8.block _ (Nat.lt_trans hz4 hz6)).trans HR6'.out
              have HA8' : Hid ((w8.setCell ⟨bA, 2, none⟩ (.string tn)).heap[bA]? = some (.cells #[.int .i64 (Gate.lacksS ts rs r), .string kn, .string tn, .string r.px] 31)) := heap_setCell_at HA8.out _
              have HR8' : Hid ((w8.setCell ⟨bA, 2, none⟩ (.string tn)).heap[w.heap.size + 1]? = some (.cells #[.int .i64 0, .string ByteArray.empty, .string ByteArray.empty, .string ByteArray.empty] 31)) := (setCell_other (Nat.ne_of_lt hz4)).trans HR8.out
              clear hb8 hjt
              have hAc8 := fun j => cell_of_block (o := j) HA8.out
              have hAf8 := fun j => frozen_of_block (o := j) HA8.out
              have hRc8 := fun j => cell_of_block (o := j) HR8.out
              have hRf8 := fun j => frozen_of_block (o := j) HR8.out
              have hAc9 := fun j => cell_of_block (o := j) HA8'.out
              have hAf9 := fun j => frozen_of_block (o := j) HA8'.out
              have hRc9 := fun j => cell_of_block (o := j) HR8'.out
              have hRf9 := fun j => frozen_of_block (o := j) HR8'.out
              go_wp2_with fail
              refine bodyPost_ret (v := (.tuple #[.agg #[.int .i64 (Gate.lacksS ts rs r), .string kn, .string tn, .string r.px], .bool true])) (by simp [results, Tryd.results8, go_sem, hRc9]) rfl ?_
              exact ⟨⟨⟨_, kn, tn, r.px⟩, rfl, rfl, ⟨rfl, by rw [if_pos HK1.out]; exact ⟨jk, HKN.out, HJK.out⟩, by rw [if_pos HT1.out]; exact ⟨jt, HTN.out, HJT.out⟩⟩⟩, act4_below HB8.out (Nat.le_succ _) _ _ _ _⟩
            · have ht' : r.tm.toList.isEmpty = false := by simpa using ht
              have HT1 : Hid (r.tm.toList.isEmpty = false) := ht'
              clear ht
              go_wp2_with fail
              refine (l4New_any l4Dec_any Gate.letterK _ _ K _ (HSK.out.1.mono HBW.out) (by have := HKL.out.2.2.1; omega) (by decide)).mono ?_
              rintro e w7 ⟨⟨jk, rfl, hjk⟩, hb6⟩
              obtain ⟨kn, HKN⟩ : ∃ kn, Hid (kn = Gate.numbered Gate.letterK jk) := ⟨_, rfl⟩
              rw [← HKN.out]
              have HJK : Hid (Gate.IsFree Gate.letterK (rs.map Rl.kd) jk) := by unfold Hid; rw [← HKd.out]; exact hjk
              have HB6 : Hid (Below w.heap.size w (w7.setCell ⟨bA, 1, none⟩ (.string kn))) := (HB5.out.trans (hb6.mono HB5.out.size)).setCell hlw _
              have HW6 : Hid (Below wr.heap.size wr (w7.setCell ⟨bA, 1, none⟩ (.string kn))) := (HBW.out.trans (hb6.mono HBW.out.size)).setCell hlA _
              have HA6 : Hid (w7.heap[bA]? = some (.cells #[.int .i64 (Gate.lacksS ts rs r), .string r.kd, .string r.tm, .string r.px] 31)) := (hb6.block _ hz5).trans HA5.out
              have HR6 : Hid (w7.heap[w.heap.size + 1]? = some (.cells #[.int .i64 0, .string ByteArray.empty, .string ByteArray.empty, .string ByteArray.empty] 31)) := (hb6.block _ (Nat.lt_trans hz4 hz5)).trans HR5.out
              have hz6 : bA < (w7.setCell ⟨bA, 1, none⟩ (.string kn)).heap.size := by rw [World.size_setCell]; exact Nat.lt_of_lt_of_le hz5 hb6.size
              have HA6' : Hid ((w7.setCell ⟨bA, 1, none⟩ (.string kn)).heap[bA]? = some (.cells #[.int .i64 (Gate.lacksS ts rs r), .string kn, .string r.tm, .string r.px] 31)) := heap_setCell_at HA6.out _
              have HR6' : Hid ((w7.setCell ⟨bA, 1, none⟩ (.string kn)).heap[w.heap.size + 1]? = some (.cells #[.int .i64 0, .string ByteArray.empty, .string ByteArray.empty, .string ByteArray.empty] 31)) := (setCell_other (Nat.ne_of_lt hz4)).trans HR6.out
              clear hb6 hjk
              have hAc6 := fun j => cell_of_block (o := j) HA6.out
              have hAf6 := fun j => frozen_of_block (o := j) HA6.out
              have hRc6 := fun j => cell_of_block (o := j) HR6.out
              have hRf6 := fun j => frozen_of_block (o := j) HR6.out
              have hAc7 := fun j => cell_of_block (o := j) HA6'.out
              have hAf7 := fun j => frozen_of_block (o := j) HA6'.out
              have hRc7 := fun j => cell_of_block (o := j) HR6'.out
              have hRf7 := fun j => frozen_of_block (o := j) HR6'.out
              go_wp2_with fail
              refine bodyPost_ret (v := (.tuple #[.agg #[.int .i64 (Gate.lacksS ts rs r), .string kn, .string r.tm, .string r.px], .bool true])) (by simp [results, Tryd.results8, go_sem, hRc7]) rfl ?_
              exact ⟨⟨⟨_, kn, r.tm, r.px⟩, rfl, rfl, ⟨rfl, by rw [if_pos HK1.out]; exact ⟨jk, HKN.out, HJK.out⟩, by rw [if_neg (by rw [HT1.out]; simp)]⟩⟩, act4_below HB6.out (Nat.le_succ _) _ _ _ _⟩
          · have hk' : r.kd.toList.isEmpty = false := by simpa using hk
            have HK1 : Hid (r.kd.toList.isEmpty = false) := hk'
            clear hk
            by_cases ht : r.tm.toList.isEmpty = true
            · have HT1 : Hid (r.tm.toList.isEmpty = true) := ht
              go_wp2_with fail
              refine (l4New_any l4Dec_any Gate.letterT _ _ L _ (HSK.out.2.mono HBW.out) (by have := HKL.out.2.2.2; omega) (by decide)).mono ?_
              rintro e w8 ⟨⟨jt, rfl, hjt⟩, hb8⟩
              obtain ⟨tn, HTN⟩ : ∃ tn, Hid (tn = Gate.numbered Gate.letterT jt) := ⟨_, rfl⟩
              rw [← HTN.out]
              have HJT : Hid (Gate.IsFree Gate.letterT (ts.map Tm.nm ++ rs.map Rl.tm) jt) := by have h := hjt; rw [HLd.out] at h; exact h.same (fun x => by rw [List.mem_append, List.mem_append]; exact Or.comm)
              have HB8 : Hid (Below w.heap.size w (w8.setCell ⟨bA, 2, none⟩ (.string tn))) := (HB5.out.trans (hb8.mono HB5.out.size)).setCell hlw _
              have HA8 : Hid (w8.heap[bA]? = some (.cells #[.int .i64 (Gate.lacksS ts rs r), .string r.kd, .string r.tm, .string r.px] 31)) := (hb8.block _ hz5).trans HA5.out
              have HR8 : Hid (w8.heap[w.heap.size + 1]? = some (.cells #[.int .i64 0, .string ByteArray.empty, .string ByteArray.empty, .string ByteArray.empty] 31)) := (hb8.block _ (Nat.lt_trans hz4 hz5)).trans HR5.out
              have HA8' : Hid ((w8.setCell ⟨bA, 2, none⟩ (.string tn)).heap[bA]? = some (.cells #[.int .i64 (Gate.lacksS ts rs r), .string r.kd, .string tn, .string r.px] 31)) := heap_setCell_at HA8.out _
              have HR8' : Hid ((w8.setCell ⟨bA, 2, none⟩ (.string tn)).heap[w.heap.size + 1]? = some (.cells #[.int .i64 0, .string ByteArray.empty, .string ByteArray.empty, .string ByteArray.empty] 31)) := (setCell_other (Nat.ne_of_lt hz4)).trans HR8.out
              clear hb8 hjt
              have hAc8 := fun j => cell_of_block (o := j) HA8.out
              have hAf8 := fun j => frozen_of_block (o := j) HA8.out
              have hRc8 := fun j => cell_of_block (o := j) HR8.out
              have hRf8 := fun j => frozen_of_block (o := j) HR8.out
              have hAc9 := fun j => cell_of_block (o := j) HA8'.out
              have hAf9 := fun j => frozen_of_block (o := j) HA8'.out
              have hRc9 := fun j => cell_of_block (o := j) HR8'.out
              have hRf9 := fun j => frozen_of_block (o := j) HR8'.out
              go_wp2_with fail
              refine bodyPost_ret (v := (.tuple #[.agg #[.int .i64 (Gate.lacksS ts rs r), .string r.kd, .string tn, .string r.px], .bool true])) (by simp [results, Tryd.results8, go_sem, hRc9]) rfl ?_
              exact ⟨⟨⟨_, r.kd, tn, r.px⟩, rfl, rfl, ⟨rfl, by rw [if_neg (by rw [HK1.out]; simp)], by rw [if_pos HT1.out]; exact ⟨jt, HTN.out, HJT.out⟩⟩⟩, act4_below HB8.out (Nat.le_succ _) _ _ _ _⟩
            · have ht' : r.tm.toList.isEmpty = false := by simpa using ht
              have HT1 : Hid (r.tm.toList.isEmpty = false) := ht'
              clear ht
              go_wp2_with fail
              refine bodyPost_ret (v := (.tuple #[.agg #[.int .i64 (Gate.lacksS ts rs r), .string r.kd, .string r.tm, .string r.px], .bool true])) (by simp [results, Tryd.results8, go_sem, hRc]) rfl ?_
              exact ⟨⟨⟨_, r.kd, r.tm, r.px⟩, rfl, rfl, ⟨rfl, by rw [if_neg (by rw [HK1.out]; simp)], by rw [if_neg (by rw [HT1.out]; simp)]⟩⟩, act4_below HB5.out (Nat.le_succ _) _ _ _ _⟩

end Go.Proofs.YtimhinpekngceaaDoor
