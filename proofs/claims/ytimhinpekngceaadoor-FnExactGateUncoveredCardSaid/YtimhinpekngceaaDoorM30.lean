import Derived.Test.YtimhinpekngceaaDoorM28
import Derived.Test.YtimhinpekngceaaDoorM02
import Derived.Test.YtimhinpekngceaaDoorM01
import Derived.Test.YtimhinpekngceaaDoorM29
namespace Go.Proofs.YtimhinpekngceaaDoor
open Go.RowKit

theorem blk_cells {w : World} {b : Nat} {X : Array Value} {t : TypeId} (h : w.heap[b]? = some (.cells X t)) : ∀ j, w.cell? ⟨b, j, none⟩ = X[j]? := fun _ => cell_of_block h
theorem blk_frozen {w : World} {b : Nat} {X : Array Value} {t : TypeId} (h : w.heap[b]? = some (.cells X t)) : ∀ j, w.frozen? ⟨b, j, none⟩ = false := fun _ => frozen_of_block h
theorem zero_next {w w3 : World} {b : Nat} {X : Array Value} {t : TypeId} (HZ : Hid (w.heap[b]? = some (.cells X t))) (hb : Below w.heap.size w w3) : Hid (w3.heap[b]? = some (.cells X t)) := (hb.block b (Array.getElem?_eq_some_iff.1 HZ.out).1).trans HZ.out
theorem zero_new {w w3 : World} {X : Array Value} {t : TypeId} (hb : Below (w.alloc (.cells X t)).heap.size (w.alloc (.cells X t)) w3) : Hid (w3.heap[w.heap.size]? = some (.cells X t)) := (hb.block _ (by simp)).trans (alloc_at _ _)
theorem cell_alloc_old {w : World} {ob : Obj} {b j : Nat} (h : b < w.heap.size) : (w.alloc ob).cell? ⟨b, j, none⟩ = w.cell? ⟨b, j, none⟩ := World.cell?_alloc_lt _ _ _ h
theorem cell_alloc_drew {w : World} {ob : Obj} {b j : Nat} (h : b < w.heap.size) : (w.alloc ob).drew.cell? ⟨b, j, none⟩ = w.cell? ⟨b, j, none⟩ := World.cell?_alloc_lt _ _ _ h
theorem zero_new' {w w3 : World} {X : Array Value} {t : TypeId} (hb : Below (w.alloc (.cells X t)).drew.heap.size (w.alloc (.cells X t)).drew w3) : Hid (w3.heap[w.heap.size]? = some (.cells X t)) := (hb.block _ (by show w.heap.size < (w.alloc (.cells X t)).heap.size; simp)).trans (alloc_at _ _)
theorem size_of {w w3 : World} (_hb : Below w.heap.size w w3) : w.heap.size = w.heap.size := rfl
theorem size_alloc_lt {w w3 : World} {ob : Obj} (_hb : Below (w.alloc ob).heap.size (w.alloc ob) w3) : w.heap.size < (w.alloc ob).heap.size := by simp

end Go.Proofs.YtimhinpekngceaaDoor

namespace Go.Proofs.YtimhinpekngceaaDoor
open Go.RowKit

set_option maxHeartbeats 8000000 in
theorem lawUncovered_any (ta : Option Addr) (tcap : Nat) (ts : List Tm) (ra : Option Addr) (rcap : Nat) (rs : List Rl) (r : Rl) (a : Option Addr) (cap : Nat) (w : World) (hw : TmsAt w ta ts) (hr : RlsAt w ra rs) (hm : r.Small) (hi : IntsAt w a r.vs) (htab : TabW w) :
    Calls Tryd.prog 3 #[.slice ta ts.length tcap, .slice ra rs.length rcap, .agg (r.cells a cap)] w fun e w' => e = .returned (.bool true) ∧ Below w.heap.size w w' := by
  have HT : Hid (TmsAt w ta ts) := hw
  have HR : Hid (RlsAt w ra rs) := hr
  have HI : Hid (IntsAt w a r.vs) := hi
  have HM : Hid r.Small := hm
  have HTB : Hid (TabW w) := htab
  have HTS : Hid ((∀ i (h : i < ts.length), ts[i].Small) ∧ ts.length ≤ maxLen) := ⟨hw.small, hw.len⟩
  have HRS : Hid (RlsSmall rs ∧ rs.length ≤ maxLen) := ⟨hr.smalls, hr.len⟩
  clear hw hr hi hm htab
  unfold Rl.cells
  go_enter Tryd.func3, Tryd.ntmps3
  go_wp2_with fail
  have hB0 : Below w.heap.size w (w.alloc (.cells #[.slice a r.vs.length cap, .string r.kd, .string r.tm, .string r.px] 26)) := (Below.refl _ _).alloc (Nat.le_refl _) _
  have hX0 := box_new w #[.slice a r.vs.length cap, .string r.kd, .string r.tm, .string r.px] 26
  obtain ⟨W0, hW0⟩ : ∃ W0, W0 = w.alloc (.cells #[.slice a r.vs.length cap, .string r.kd, .string r.tm, .string r.px] 26) := ⟨_, rfl⟩
  have zX0 : w.heap.size < W0.heap.size := by rw [hW0]; simp
  rw [← hW0] at hB0 hX0 ⊢
  clear hW0
  refine (szGateTeamS_any _ _ ts _ _ (HT.out.mono hB0) (by omega) (by omega)).mono ?_
  rintro e w1 ⟨rfl, hb⟩
  have hX1 := box_later hX0 zX0 hb
  have zX1 := Nat.lt_of_lt_of_le zX0 hb.size
  have hB1 := hB0.trans (hb.mono hB0.size)
  clear hb hX0 zX0 hB0
  by_cases hsz : (tmsSz ts : Int) ≤ 1048576
  rotate_left
  · rw [szRes_no (by omega)]
    go_wp2_with fail
    go_ret
    exact ⟨rfl, hB1⟩
  have HLT : Hid (ts.length ≤ 1048576) := by unfold tmsSz at hsz; show _ ≤ _; omega
  have hneg : decide (1048576 - (tmsSz ts : Int) < 0) = false := by simp; omega
  rw [szRes_yes hsz]
  go_wp2_with fail
  refine (szGateRuleS_any _ _ rs _ _ (HR.out.mono hB1) (by omega) (by omega)).mono ?_
  rintro e w2 ⟨rfl, hb⟩
  have hX2 := box_later hX1 zX1 hb
  have zX2 := Nat.lt_of_lt_of_le zX1 hb.size
  have hB2 := hB1.trans (hb.mono hB1.size)
  clear hb hX1 zX1 hB1
  by_cases hsr : (rlsSz rs : Int) ≤ 1048576 - (tmsSz ts : Int)
  rotate_left
  · rw [szRes_no (by omega)]
    go_wp2_with fail
    go_ret
    exact ⟨rfl, hB2⟩
  have HLS : Hid (rs.length ≤ 1048576 ∧ ∀ i (h : i < rs.length), rs[i].vs.length ≤ 1048576) := rls_few hsr (by omega)
  have hneg2 : decide (1048576 - (tmsSz ts : Int) - (rlsSz rs : Int) < 0) = false := by simp; omega
  rw [szRes_yes hsr]
  go_wp2_with fail
  refine (szGateRule_any r _ _ _ _ HM.out HI.out.len (by omega) (by omega)).mono ?_
  rintro e w3 ⟨rfl, hb⟩
  have hX3 := box_later hX2 zX2 hb
  have zX3 := Nat.lt_of_lt_of_le zX2 hb.size
  have hB3 := hB2.trans (hb.mono hB2.size)
  clear hb hX2 zX2 hB2
  by_cases hsx : (r.sz : Int) ≤ 1048576 - (tmsSz ts : Int) - (rlsSz rs : Int)
  rotate_left
  · rw [szRes_no (by omega)]
    go_wp2_with fail
    go_ret
    exact ⟨rfl, hB3⟩
  have HLR : Hid (r.vs.length ≤ 1048576) := by unfold Rl.sz at hsx; show _ ≤ _; omega
  have hneg3 : decide (1048576 - (tmsSz ts : Int) - (rlsSz rs : Int) - (r.sz : Int) < 0) = false := by simp; omega
  rw [szRes_yes hsx]
  go_wp2_with fail
  have hX := hX3
  have zX := zX3
  have HBB : Hid (Below w.heap.size w w3) := hB3
  clear hX3 zX3 hB3
  have hS3 : Below w3.heap.size w3 w3.drew := (Below.refl _ _).drew
  have hXc := box_later hX zX hS3
  have zXc : w.heap.size < w3.drew.heap.size := zX
  refine region_cut (fun A A' w' => ∃ u31 u32 u33 u34 u35 u36 u37 u30 u38 u39 P x ok, A' = ((((((((((((A.put (some 31) u31).put (some 32) u32).put (some 33) u33).put (some 34) u34).put (some 35) u35).put (some 36) u36).put (some 37) u37).put (some 30) u30).put (some 38) u38).put (some 39) u39).put (some 8) (.pointer (some ⟨P, 0, none⟩))).put (some 9) (.bool ok)) ∧ w3.heap.size ≤ P ∧ w'.heap[P]? = some (.cells #[.int .i64 x.vb, .string x.kd, .string x.tm, .string x.nm] 31) ∧ Gate.UPost ts rs r x ok ∧ Below w3.heap.size w3 w') ?_ ?_
  · go_region_held3 (fun w' => (∀ j, w'.cell? ⟨w.heap.size, j, none⟩ = (#[.slice a r.vs.length cap, .string r.kd, .string r.tm, .string r.px] : Array Value)[j]?)) (first | (intro j; rw [hXc]) | (intro j; rw [cell_alloc_old zXc, hXc]) | (intro j; rw [cell_set4 hnX, hXc]) | (intro j; rw [cell_alloc_drew zX, hX])) (first
      | (go_at_call 9; refine (toGateTeamS_any _ _ ts _ (HT.out.mono (by first | exact HBB.out.trans (hS3.mono HBB.out.size) | exact HBB.out.trans ((hS3.alloc hS3.size _).mono HBB.out.size) | exact HBB.out.trans ((((Below.refl w3.heap.size w3).alloc (Nat.le_refl _) (.cells #[.int .i64 0, .string ByteArray.empty, .string ByteArray.empty, .string ByteArray.empty] 31)).drew).mono HBB.out.size))) HLT.out).mono ?_; rintro e w4 ⟨rfl, hown, hb⟩; have htN := hown.at HTS.out.1 HTS.out.2; clear hown; (try simp at htN); (first | (have hN := hS3.trans (hb.mono hS3.size); (try have HZ := zero_next HZ hb)) | (have hA := hS3.alloc hS3.size (.cells #[.int .i64 0, .string ByteArray.empty, .string ByteArray.empty, .string ByteArray.empty] 31); have hN := hA.trans (hb.mono hA.size); have hlZ := hS3.size; have HZ := zero_new hb; clear hA) | (have hA := ((Below.refl w3.heap.size w3).alloc (Nat.le_refl _) (.cells #[.int .i64 0, .string ByteArray.empty, .string ByteArray.empty, .string ByteArray.empty] 31)).drew; have hN := hA.trans (hb.mono hA.size); have hlZ := Nat.le_refl w3.heap.size; have HZ := zero_new' hb; clear hA)); (try have hZc := blk_cells HZ.out); (try have hZf := blk_frozen HZ.out); have hS3 := hN; have hXc := box_later hX zX hS3; have zXc := Nat.lt_of_lt_of_le zX hS3.size; (try have hnX := Nat.ne_of_lt (Nat.lt_of_lt_of_le zX hlZ)); clear hN hb; have ht := htN; clear htN)
      | (go_at_call 10; refine (toGateRuleS_any _ _ rs _ (HR.out.mono (by first | exact HBB.out.trans (hS3.mono HBB.out.size) | exact HBB.out.trans ((hS3.alloc hS3.size _).mono HBB.out.size) | exact HBB.out.trans ((((Below.refl w3.heap.size w3).alloc (Nat.le_refl _) (.cells #[.int .i64 0, .string ByteArray.empty, .string ByteArray.empty, .string ByteArray.empty] 31)).drew).mono HBB.out.size))) HLS.out.1 HLS.out.2).mono ?_; rintro e w4 ⟨rfl, hown, hb⟩; have hrsN := hown.at HRS.out.1 HRS.out.2; clear hown; (try simp at hrsN); have ht := (by first | exact ht.mono hb | exact (ht.mono ((Below.refl _ _).alloc (Nat.le_refl _) _)).mono hb : TmsAt w4 _ ts); (first | (have hN := hS3.trans (hb.mono hS3.size); (try have HZ := zero_next HZ hb)) | (have hA := hS3.alloc hS3.size (.cells #[.int .i64 0, .string ByteArray.empty, .string ByteArray.empty, .string ByteArray.empty] 31); have hN := hA.trans (hb.mono hA.size); have hlZ := hS3.size; have HZ := zero_new hb; clear hA) | (have hA := ((Below.refl w3.heap.size w3).alloc (Nat.le_refl _) (.cells #[.int .i64 0, .string ByteArray.empty, .string ByteArray.empty, .string ByteArray.empty] 31)).drew; have hN := hA.trans (hb.mono hA.size); have hlZ := Nat.le_refl w3.heap.size; have HZ := zero_new' hb; clear hA)); (try have hZc := blk_cells HZ.out); (try have hZf := blk_frozen HZ.out); have hS3 := hN; have hXc := box_later hX zX hS3; have zXc := Nat.lt_of_lt_of_le zX hS3.size; (try have hnX := Nat.ne_of_lt (Nat.lt_of_lt_of_le zX hlZ)); clear hN hb; have hrs := hrsN; clear hrsN)
      | (go_at_call 11; refine (toGateRule_any r _ _ _ (HI.out.mono (by first | exact HBB.out.trans (hS3.mono HBB.out.size) | exact HBB.out.trans ((hS3.alloc hS3.size _).mono HBB.out.size) | exact HBB.out.trans ((((Below.refl w3.heap.size w3).alloc (Nat.le_refl _) (.cells #[.int .i64 0, .string ByteArray.empty, .string ByteArray.empty, .string ByteArray.empty] 31)).drew).mono HBB.out.size))) HLR.out).mono ?_; rintro e w4 ⟨bk3, rfl, hlo, hhi, hbk, hb⟩; unfold Rl.cells; have hriN := heap_ints hbk HI.out.len; clear hlo hhi hbk; (try simp at hriN); have ht := (by first | exact ht.mono hb | exact (ht.mono ((Below.refl _ _).alloc (Nat.le_refl _) _)).mono hb : TmsAt w4 _ ts); have hrs := (by first | exact hrs.mono hb | exact (hrs.mono ((Below.refl _ _).alloc (Nat.le_refl _) _)).mono hb : RlsAt w4 _ rs); (first | (have hN := hS3.trans (hb.mono hS3.size); (try have HZ := zero_next HZ hb)) | (have hA := hS3.alloc hS3.size (.cells #[.int .i64 0, .string ByteArray.empty, .string ByteArray.empty, .string ByteArray.empty] 31); have hN := hA.trans (hb.mono hA.size); have hlZ := hS3.size; have HZ := zero_new hb; clear hA) | (have hA := ((Below.refl w3.heap.size w3).alloc (Nat.le_refl _) (.cells #[.int .i64 0, .string ByteArray.empty, .string ByteArray.empty, .string ByteArray.empty] 31)).drew; have hN := hA.trans (hb.mono hA.size); have hlZ := Nat.le_refl w3.heap.size; have HZ := zero_new' hb; clear hA)); (try have hZc := blk_cells HZ.out); (try have hZf := blk_frozen HZ.out); have hS3 := hN; have hXc := box_later hX zX hS3; have zXc := Nat.lt_of_lt_of_le zX hS3.size; (try have hnX := Nat.ne_of_lt (Nat.lt_of_lt_of_le zX hlZ)); clear hN hb; have hri := hriN; clear hriN)
      | (go_at_call 8; refine (specUncovered_any _ _ ts _ _ rs r _ _ _ (by first | exact ht | exact ht.mono ((Below.refl _ _).alloc (Nat.le_refl _) _)) (by first | exact hrs | exact hrs.mono ((Below.refl _ _).alloc (Nat.le_refl _) _)) HM.out (by first | exact hri | exact hri.mono ((Below.refl _ _).alloc (Nat.le_refl _) _)) HLT.out HLS.out.1).mono ?_; rintro e w4 ⟨x, ok, rfl, hu, hb⟩; unfold Ac.cells; clear ht hrs hri; (first | (have hN := hS3.trans (hb.mono hS3.size); (try have HZ := zero_next HZ hb)) | (have hA := hS3.alloc hS3.size (.cells #[.int .i64 0, .string ByteArray.empty, .string ByteArray.empty, .string ByteArray.empty] 31); have hN := hA.trans (hb.mono hA.size); have hlZ := hS3.size; have HZ := zero_new hb; clear hA) | (have hA := ((Below.refl w3.heap.size w3).alloc (Nat.le_refl _) (.cells #[.int .i64 0, .string ByteArray.empty, .string ByteArray.empty, .string ByteArray.empty] 31)).drew; have hN := hA.trans (hb.mono hA.size); have hlZ := Nat.le_refl w3.heap.size; have HZ := zero_new' hb; clear hA)); (try have hZc := blk_cells HZ.out); (try have hZf := blk_frozen HZ.out); have hS3 := hN; have hXc := box_later hX zX hS3; have zXc := Nat.lt_of_lt_of_le zX hS3.size; (try have hnX := Nat.ne_of_lt (Nat.lt_of_lt_of_le zX hlZ)); clear hN hb))
    · exact ⟨rfl, _, _, _, _, _, _, _, _, _, _, _, _, _, rfl, hS3.size, alloc_at _ _, hu, hS3.alloc hS3.size _⟩
    all_goals exact ⟨rfl, _, _, _, _, _, _, _, _, _, _, _, _, _, rfl, hlZ, set4_at HZ.out _ _ _ _, hu, act4_below hS3 hlZ _ _ _ _⟩
  rintro A' w4 ⟨u31, u32, u33, u34, u35, u36, u37, u30, u38, u39, P, x, ok, rfl, hbP, hKP, hPP, hb⟩
  simp only [Act.put, List.setIfInBounds_toArray, List.set_cons_zero, List.set_cons_succ]
  have hX4 := box_later hX zX hb
  have zX4 := Nat.lt_of_lt_of_le zX hb.size
  have hB4 := HBB.out.trans (hb.mono HBB.out.size)
  have hP4 := blk_cells hKP
  have zP4 : P < w4.heap.size := (Array.getElem?_eq_some_iff.1 hKP).1
  clear HBB hS3 hb hKP hX zX hXc zXc
  have HU : Hid (Gate.UPost ts rs r x ok) := hPP
  clear hPP hbP
  go_wp2_with fail
  refine (toGateTeamS_any _ _ ts _ (HT.out.mono hB4) HLT.out).mono ?_
  rintro e w5 ⟨rfl, hown, hb⟩
  have kt5 := hown.at HTS.out.1 HTS.out.2
  have hX5 := box_later hX4 zX4 hb
  have zX5 := Nat.lt_of_lt_of_le zX4 hb.size
  have hP5 := box_later hP4 zP4 hb
  have zP5 := Nat.lt_of_lt_of_le zP4 hb.size
  have hB5 := hB4.trans (hb.mono hB4.size)
  clear hb hX4 zX4 hP4 zP4 hB4 hown
  go_wp2_with fail
  refine (toGateRuleS_any _ _ rs _ (HR.out.mono hB5) HLS.out.1 HLS.out.2).mono ?_
  rintro e w6 ⟨rfl, hown, hb⟩
  have kr6 := hown.at HRS.out.1 HRS.out.2
  have hX6 := box_later hX5 zX5 hb
  have zX6 := Nat.lt_of_lt_of_le zX5 hb.size
  have hP6 := box_later hP5 zP5 hb
  have zP6 := Nat.lt_of_lt_of_le zP5 hb.size
  have kt6 := kt5.mono hb
  have hB6 := hB5.trans (hb.mono hB5.size)
  clear hb hX5 zX5 hP5 zP5 kt5 hB5 hown
  go_wp2_with fail
  refine (toGateRule_any r _ _ _ (HI.out.mono hB6) HLR.out).mono ?_
  rintro e w7 ⟨bk, rfl, hlo, hhi, hbk, hb⟩
  have ki7 := heap_ints hbk HI.out.len
  have hX7 := box_later hX6 zX6 hb
  have zX7 := Nat.lt_of_lt_of_le zX6 hb.size
  have hP7 := box_later hP6 zP6 hb
  have zP7 := Nat.lt_of_lt_of_le zP6 hb.size
  have kt7 := kt6.mono hb
  have kr7 := kr6.mono hb
  have hB7 := hB6.trans (hb.mono hB6.size)
  clear hb hX6 zX6 hP6 zP6 kt6 kr6 hB6 hlo hhi hbk
  unfold Rl.cells
  go_wp2_with fail
  have hb : Below w7.heap.size w7 (w7.alloc (.cells #[.slice (some ⟨bk, 0, none⟩) r.vs.length r.vs.length, .string r.kd, .string r.tm, .string r.px] 38)) := (Below.refl _ _).alloc (Nat.le_refl _) _
  have hN := box_new w7 #[.slice (some ⟨bk, 0, none⟩) r.vs.length r.vs.length, .string r.kd, .string r.tm, .string r.px] 38
  obtain ⟨w8, hN0⟩ : ∃ w8, w8 = w7.alloc (.cells #[.slice (some ⟨bk, 0, none⟩) r.vs.length r.vs.length, .string r.kd, .string r.tm, .string r.px] 38) := ⟨_, rfl⟩
  have hNz : w7.heap.size < w8.heap.size := by rw [hN0]; simp
  rw [← hN0] at hb hN ⊢
  clear hN0
  have hX8 := box_later hX7 zX7 hb
  have zX8 := Nat.lt_of_lt_of_le zX7 hb.size
  have hP8 := box_later hP7 zP7 hb
  have zP8 := Nat.lt_of_lt_of_le zP7 hb.size
  have kt8 := kt7.mono hb
  have kr8 := kr7.mono hb
  have ki8 := ki7.mono hb
  have hB8 := hB7.trans (hb.mono hB7.size)
  clear hb hX7 zX7 hP7 zP7 kt7 kr7 ki7 hB7
  have hV8 := hN
  have zV8 := hNz
  clear hN hNz
  refine (implUncovered_any _ _ ts _ _ rs r _ _ _ kt8 kr8 HM.out ki8 (HTB.out.mono hB8) HLT.out HLS.out.1).mono ?_
  rintro e w9 ⟨y, ok2, rfl, hu2, hb⟩
  have hX9 := box_later hX8 zX8 hb
  have zX9 := Nat.lt_of_lt_of_le zX8 hb.size
  have hP9 := box_later hP8 zP8 hb
  have zP9 := Nat.lt_of_lt_of_le zP8 hb.size
  have hV9 := box_later hV8 zV8 hb
  have zV9 := Nat.lt_of_lt_of_le zV8 hb.size
  have kt9 := kt8.mono hb
  have kr9 := kr8.mono hb
  have ki9 := ki8.mono hb
  have hB9 := hB8.trans (hb.mono hB8.size)
  clear hb hX8 zX8 hP8 zP8 hV8 zV8 kt8 kr8 ki8 hB8
  obtain ⟨hxy, hok⟩ := hu2.one HU.out
  subst hxy
  subst hok
  clear hu2 HU
  unfold Ac.cells
  go_wp2_with fail
  have hb : Below w9.heap.size w9 (w9.alloc (.cells #[.int .i64 y.vb, .string y.kd, .string y.tm, .string y.nm] 31)) := (Below.refl _ _).alloc (Nat.le_refl _) _
  have hN := box_new w9 #[.int .i64 y.vb, .string y.kd, .string y.tm, .string y.nm] 31
  obtain ⟨wA, hN0⟩ : ∃ wA, wA = w9.alloc (.cells #[.int .i64 y.vb, .string y.kd, .string y.tm, .string y.nm] 31) := ⟨_, rfl⟩
  have hNz : w9.heap.size < wA.heap.size := by rw [hN0]; simp
  rw [← hN0] at hb hN ⊢
  clear hN0
  have hX10 := box_later hX9 zX9 hb
  have zX10 := Nat.lt_of_lt_of_le zX9 hb.size
  have hP10 := box_later hP9 zP9 hb
  have zP10 := Nat.lt_of_lt_of_le zP9 hb.size
  have hV10 := box_later hV9 zV9 hb
  have zV10 := Nat.lt_of_lt_of_le zV9 hb.size
  have kt10 := kt9.mono hb
  have kr10 := kr9.mono hb
  have ki10 := ki9.mono hb
  have hB10 := hB9.trans (hb.mono hB9.size)
  clear hb hX9 zX9 hP9 zP9 hV9 zV9 kt9 kr9 ki9 hB9
  have hG10 := hN
  have zG10 := hNz
  clear hN hNz
  have hnn : (ok2 != ok2) = false := by cases ok2 <;> rfl
  refine (eqGateAct_yes y _).mono ?_
  rintro e wB ⟨rfl, hb⟩
  have hX11 := box_later hX10 zX10 hb
  have zX11 := Nat.lt_of_lt_of_le zX10 hb.size
  have hP11 := box_later hP10 zP10 hb
  have zP11 := Nat.lt_of_lt_of_le zP10 hb.size
  have hV11 := box_later hV10 zV10 hb
  have zV11 := Nat.lt_of_lt_of_le zV10 hb.size
  have hG11 := box_later hG10 zG10 hb
  have zG11 := Nat.lt_of_lt_of_le zG10 hb.size
  have kt11 := kt10.mono hb
  have kr11 := kr10.mono hb
  have ki11 := ki10.mono hb
  have hB11 := hB10.trans (hb.mono hB10.size)
  clear hb hX10 zX10 hP10 zP10 hV10 zV10 hG10 zG10 kt10 kr10 ki10 hB10
  clear hP11 zP11
  clear hG11 zG11
  go_wp2_with fail
  refine (toGateTeamS_any _ _ ts _ (HT.out.mono hB11) HLT.out).mono ?_
  rintro e wC ⟨rfl, hown, hb⟩
  have kt212 := hown.at HTS.out.1 HTS.out.2
  have hX12 := box_later hX11 zX11 hb
  have zX12 := Nat.lt_of_lt_of_le zX11 hb.size
  have hV12 := box_later hV11 zV11 hb
  have zV12 := Nat.lt_of_lt_of_le zV11 hb.size
  have kt12 := kt11.mono hb
  have kr12 := kr11.mono hb
  have ki12 := ki11.mono hb
  have hB12 := hB11.trans (hb.mono hB11.size)
  clear hb hX11 zX11 hV11 zV11 kt11 kr11 ki11 hB11 hown
  go_wp2_with fail
  refine (eqGateTeamS_yes _ _ _ _ ts _ kt12 kt212).mono ?_
  rintro e wD ⟨rfl, hb⟩
  have hX13 := box_later hX12 zX12 hb
  have zX13 := Nat.lt_of_lt_of_le zX12 hb.size
  have hV13 := box_later hV12 zV12 hb
  have zV13 := Nat.lt_of_lt_of_le zV12 hb.size
  have kt13 := kt12.mono hb
  have kr13 := kr12.mono hb
  have ki13 := ki12.mono hb
  have kt213 := kt212.mono hb
  have hB13 := hB12.trans (hb.mono hB12.size)
  clear hb hX12 zX12 hV12 zV12 kt12 kr12 ki12 kt212 hB12
  clear kt13
  clear kt213
  go_wp2_with fail
  refine (toGateRuleS_any _ _ rs _ (HR.out.mono hB13) HLS.out.1 HLS.out.2).mono ?_
  rintro e wE ⟨rfl, hown, hb⟩
  have kr214 := hown.at HRS.out.1 HRS.out.2
  have hX14 := box_later hX13 zX13 hb
  have zX14 := Nat.lt_of_lt_of_le zX13 hb.size
  have hV14 := box_later hV13 zV13 hb
  have zV14 := Nat.lt_of_lt_of_le zV13 hb.size
  have kr14 := kr13.mono hb
  have ki14 := ki13.mono hb
  have hB14 := hB13.trans (hb.mono hB13.size)
  clear hb hX13 zX13 hV13 zV13 kr13 ki13 hB13 hown
  go_wp2_with fail
  refine (eqGateRuleS_yes _ _ _ _ rs _ kr14 kr214).mono ?_
  rintro e wF ⟨rfl, hb⟩
  have hX15 := box_later hX14 zX14 hb
  have zX15 := Nat.lt_of_lt_of_le zX14 hb.size
  have hV15 := box_later hV14 zV14 hb
  have zV15 := Nat.lt_of_lt_of_le zV14 hb.size
  have kr15 := kr14.mono hb
  have ki15 := ki14.mono hb
  have kr215 := kr214.mono hb
  have hB15 := hB14.trans (hb.mono hB14.size)
  clear hb hX14 zX14 hV14 zV14 kr14 ki14 kr214 hB14
  clear kr15
  clear kr215
  go_wp2_with fail
  have hX := box_later hX15 zX15 (Below.refl wF.heap.size wF).drew
  have zX : w.heap.size < wF.drew.heap.size := zX15
  have hV := box_later hV15 zV15 (Below.refl wF.heap.size wF).drew
  have zV : w7.heap.size < wF.drew.heap.size := zV15
  have ki := ki15.mono (Below.refl wF.heap.size wF).drew
  have hB := hB15.drew
  clear hX15 zX15 hV15 zV15 ki15 hB15
  go_region_held3 (fun w' => (∀ j, w'.cell? ⟨w.heap.size, j, none⟩ = (#[.slice a r.vs.length cap, .string r.kd, .string r.tm, .string r.px] : Array Value)[j]?) ∧ (∀ j, w'.cell? ⟨w7.heap.size, j, none⟩ = (#[.slice (some ⟨bk, 0, none⟩) r.vs.length r.vs.length, .string r.kd, .string r.tm, .string r.px] : Array Value)[j]?)) (exact ⟨hX, hV⟩) (first
    | (go_at_call 11; refine (toGateRule_any r _ _ _ (by exact HI.out.mono hB) HLR.out).mono ?_; rintro e wG ⟨bk2, rfl, hlo, hhi, hbk, hb⟩; unfold Rl.cells; have ki2 := heap_ints hbk HI.out.len; clear hlo hhi hbk; have hX := box_later hX zX hb; have hV := box_later hV zV hb; have ki := ki.mono hb; have hB := hB.trans (hb.mono hB.size); have zX := Nat.lt_of_lt_of_le zX hb.size; have zV := Nat.lt_of_lt_of_le zV hb.size; clear hb)
    | (go_at_call 16; refine (eqGateRule_yes r _ _ _ _ _ (by exact ki) (by exact ki2)).mono ?_; rintro e wG ⟨rfl, hb⟩; clear ki2; have hX := box_later hX zX hb; have hV := box_later hV zV hb; have ki := ki.mono hb; have hB := hB.trans (hb.mono hB.size); have zX := Nat.lt_of_lt_of_le zX hb.size; have zV := Nat.lt_of_lt_of_le zV hb.size; clear hb))
  have hX16 := hX
  have zX16 := zX
  have hV16 := hV
  have zV16 := zV
  have ki16 := ki
  have hB16 := hB
  clear hX zX hV zV ki hB
  go_wp2_with fail
  go_ret
  exact ⟨rfl, hB16⟩

end Go.Proofs.YtimhinpekngceaaDoor
