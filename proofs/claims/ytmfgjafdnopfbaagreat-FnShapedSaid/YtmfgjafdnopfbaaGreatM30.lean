import Derived.Test.YtmfgjafdnopfbaaGreatM27
import Derived.Test.YtmfgjafdnopfbaaGreatM09
import Derived.Test.YtmfgjafdnopfbaaGreatM18
import Derived.Test.YtmfgjafdnopfbaaGreatM04
import Derived.Test.YtmfgjafdnopfbaaGreatM05
import Derived.Test.YtmfgjafdnopfbaaGreatM07
import Derived.Test.YtmfgjafdnopfbaaGreatM20
import Derived.Deep.Cut
import Derived.Test.YtmfgjafdnopfbaaGreatM08
namespace Go.Proofs.YtmfgjafdnopfbaaGreat
open Go.RowKit
namespace Gate
def qy (kd fld : ByteArray) (row : List ByteArray) (m : Mnd) : Bool := !(decide (m.kd = kd) && decide (m.fd = fld)) || ((!isSet m.wh || has row m.wh) && (!isSet m.fr || has row m.fr))
def zaR (ms : List Mnd) (kd fld : ByteArray) (row : List ByteArray) : Bool := ms.all (qy kd fld row)
end Gate
set_option maxRecDepth 20000 in
set_option maxHeartbeats 4000000 in
theorem zgr (a ra : Option Addr) (cap rcap : Nat) (ms : List Mnd) (kd fld : ByteArray) (row : List ByteArray) (w : World) (hm : qg w a ms) (hr : zZ w ra row) (hml : ms.length <= 12) :
    Calls Tryz.prog 70 #[.slice a ms.length cap, .string kd, .string fld, .slice ra row.length rcap] w fun e w' => e = .returned (.bool (Gate.zaR ms kd fld row)) /\ Below w.heap.size w w' := by
  have HM := qO hm hr
  clear hm hr
  go_enter Tryz.func70, Tryz.ntmps70
  go_wp2_with fail
  go_loopw [9] (fun iv wr => ∃ k : Nat, k <= ms.length /\ iv = .int .i64 k /\ (ms.take k).all (Gate.qy kd fld row) = true /\ Below w.heap.size w wr) (fun iv _ => ms.length - (intOf iv).toNat)
  case atStart => exact ⟨0, Nat.zero_le _, rfl, rfl, Below.refl _ _⟩
  case round =>
    obtain ⟨k, hk, rfl, hall, hB⟩ := hrel
    have HB := hid hB
    have HA : Hid ((ms.take k).all (Gate.qy kd fld row) = true) := hall
    by_cases hlt : k < ms.length
    · obtain ⟨b, off, rfl, hb, c0, c1, c2, c3, c4, c5⟩ := HM.out.1.load hB k hlt
      have hltI : (k : Int) < (ms.length : Int) := by omega
      have HTK : Hid ((ms.take (k + 1)).all (Gate.qy kd fld row) = Gate.qy kd fld row ms[k]) := by
        unfold Hid; rw [List.take_succ_eq_append_getElem hlt, List.all_append, HA.out]; simp
      have HNO : Hid (Gate.qy kd fld row ms[k] = false -> Gate.zaR ms kd fld row = false) := by
        intro h
        unfold Gate.zaR
        rw [List.all_eq_false]; exact ⟨_, List.getElem_mem hlt, by rw [h]; simp⟩
      have HBA : Hid (Below w.heap.size w (wr.alloc (.cells #[.string ms[k].kd, .string ms[k].fd, .string ms[k].wh, .string ms[k].wi, .string ms[k].pt, .string ms[k].fr] 56))) := hB.alloc hB.size _
      clear hall hB HA
      by_cases e1 : ms[k].kd = kd
      rotate_left
      · have he1 : (ms[k].kd.toList == kd.toList) = false := by rw [Gate.beq_toList]; simpa using e1
        have HY : Hid (Gate.qy kd fld row ms[k] = true) := by unfold Hid Gate.qy; simp [e1]
        clear e1
        go_wp2_with fail
        exact ⟨⟨k + 1, by omega, by go_num, by rw [HTK.out]; exact HY.out, HBA.out⟩, z8 hlt⟩
      have he1 : (ms[k].kd.toList == kd.toList) = true := by rw [Gate.beq_toList]; simpa using e1
      by_cases e2 : ms[k].fd = fld
      rotate_left
      · have he2 : (ms[k].fd.toList == fld.toList) = false := by rw [Gate.beq_toList]; simpa using e2
        have HY : Hid (Gate.qy kd fld row ms[k] = true) := by unfold Hid Gate.qy; simp [e2]
        clear e1 e2
        go_wp2_with fail
        exact ⟨⟨k + 1, by omega, by go_num, by rw [HTK.out]; exact HY.out, HBA.out⟩, z8 hlt⟩
      have he2 : (ms[k].fd.toList == fld.toList) = true := by rw [Gate.beq_toList]; simpa using e2
      have HRD : Hid (Gate.qy kd fld row ms[k] = ((!Gate.isSet ms[k].wh || Gate.has row ms[k].wh) && (!Gate.isSet ms[k].fr || Gate.has row ms[k].fr))) := by unfold Hid Gate.qy; simp [e1, e2]
      clear e1 e2
      rcases hwh : ms[k].wh.toList.isEmpty with _ | _ <;> rcases hfr : ms[k].fr.toList.isEmpty with _ | _
      all_goals go_wp2_with fail
      · skip
        have h := za5 ra rcap row ms[k].wh _ (HM.out.2.mono HBA.out)
        rcases hh1 : Gate.has row ms[k].wh with _ | _
        · rw [hh1] at h
          refine h.mono ?_
          rintro e w3 ⟨rfl, rfl⟩
          have HF : Hid (Gate.zaR ms kd fld row = false) := HNO.out (by rw [HRD.out]; unfold Gate.isSet; simp [*])
          clear h
          go_wp2_with fail
          go_ret
          exact ⟨by rw [HF.out]; rfl, HBA.out⟩
        · rw [hh1] at h
          refine h.mono ?_
          rintro e w3 ⟨rfl, rfl⟩
          clear h
          go_wp2_with fail
          have h := za5 ra rcap row ms[k].fr _ (HM.out.2.mono HBA.out)
          rcases hh2 : Gate.has row ms[k].fr with _ | _
          · rw [hh2] at h
            refine h.mono ?_
            rintro e w3 ⟨rfl, rfl⟩
            have HF : Hid (Gate.zaR ms kd fld row = false) := HNO.out (by rw [HRD.out]; unfold Gate.isSet; simp [*])
            clear h
            go_wp2_with fail
            go_ret
            exact ⟨by rw [HF.out]; rfl, HBA.out⟩
          · rw [hh2] at h
            refine h.mono ?_
            rintro e w3 ⟨rfl, rfl⟩
            clear h
            go_wp2_with fail
            have HY : Hid (Gate.qy kd fld row ms[k] = true) := by unfold Hid; rw [HRD.out]; unfold Gate.isSet; simp [*]
            exact ⟨⟨k + 1, by omega, by go_num, by rw [HTK.out]; exact HY.out, HBA.out⟩, z8 hlt⟩
      · skip
        have h := za5 ra rcap row ms[k].wh _ (HM.out.2.mono HBA.out)
        rcases hh1 : Gate.has row ms[k].wh with _ | _
        · rw [hh1] at h
          refine h.mono ?_
          rintro e w3 ⟨rfl, rfl⟩
          have HF : Hid (Gate.zaR ms kd fld row = false) := HNO.out (by rw [HRD.out]; unfold Gate.isSet; simp [*])
          clear h
          go_wp2_with fail
          go_ret
          exact ⟨by rw [HF.out]; rfl, HBA.out⟩
        · rw [hh1] at h
          refine h.mono ?_
          rintro e w3 ⟨rfl, rfl⟩
          clear h
          go_wp2_with fail
          have HY : Hid (Gate.qy kd fld row ms[k] = true) := by unfold Hid; rw [HRD.out]; unfold Gate.isSet; simp [*]
          exact ⟨⟨k + 1, by omega, by go_num, by rw [HTK.out]; exact HY.out, HBA.out⟩, z8 hlt⟩
      · skip
        have h := za5 ra rcap row ms[k].fr _ (HM.out.2.mono HBA.out)
        rcases hh2 : Gate.has row ms[k].fr with _ | _
        · rw [hh2] at h
          refine h.mono ?_
          rintro e w3 ⟨rfl, rfl⟩
          have HF : Hid (Gate.zaR ms kd fld row = false) := HNO.out (by rw [HRD.out]; unfold Gate.isSet; simp [*])
          clear h
          go_wp2_with fail
          go_ret
          exact ⟨by rw [HF.out]; rfl, HBA.out⟩
        · rw [hh2] at h
          refine h.mono ?_
          rintro e w3 ⟨rfl, rfl⟩
          clear h
          go_wp2_with fail
          have HY : Hid (Gate.qy kd fld row ms[k] = true) := by unfold Hid; rw [HRD.out]; unfold Gate.isSet; simp [*]
          exact ⟨⟨k + 1, by omega, by go_num, by rw [HTK.out]; exact HY.out, HBA.out⟩, z8 hlt⟩
      · skip
        have HY : Hid (Gate.qy kd fld row ms[k] = true) := by unfold Hid; rw [HRD.out]; unfold Gate.isSet; simp [*]
        exact ⟨⟨k + 1, by omega, by go_num, by rw [HTK.out]; exact HY.out, HBA.out⟩, z8 hlt⟩
    · have e : k = ms.length := by omega
      rw [e, List.take_of_length_le (Nat.le_refl _)] at hall
      have HF : Hid (Gate.zaR ms kd fld row = true) := hall
      subst e
      clear hall HA hB
      go_wp2_with fail
      go_ret
      exact ⟨by rw [HF.out]; rfl, HB.out⟩
end Go.Proofs.YtmfgjafdnopfbaaGreat

namespace Go.Proofs.YtmfgjafdnopfbaaGreat
open Go.RowKit
set_option maxHeartbeats 2000000 in
theorem zc3 (a a' : Option Addr) (cap cap' : Nat) (ss : List ByteArray) (w : World) (h : zZ w a ss) (h' : zZ w a' ss) :
    Calls Tryz.prog 15 #[.slice a ss.length cap, .slice a' ss.length cap'] w fun e w' => e = .returned (.bool true) /\ Below w.heap.size w w' := by
  have hl := h.len
  unfold maxLen at hl
  go_enter Tryz.func15, Tryz.ntmps15
  go_wp2_with fail
  go_loopw [5] (fun vi wr => ∃ k : Nat, k <= ss.length /\ vi = .int .i64 (k : Int) /\ Below w.heap.size w wr) (fun vi _ => ss.length - (intOf vi).toNat)
  case atStart => exact ⟨0, by omega, rfl, Below.refl _ _⟩
  case round =>
    obtain ⟨k, hk, rfl, hb⟩ := hrel
    by_cases hlt : k < ss.length
    · have hI : (k : Int) < (ss.length : Int) := by omega
      obtain ⟨b, off, rfl, hbl, hc⟩ := h.cells (fun e => by rw [e] at hlt; simp at hlt)
      obtain ⟨b', off', rfl, hbl', hc'⟩ := h'.cells (fun e => by rw [e] at hlt; simp at hlt)
      have c1 : wr.drew.cell? ⟨b, off + k, none⟩ = some (.string ss[k]) := (hb.drew.cell (p := ⟨b, off + k, none⟩) hbl).trans (hc k hlt)
      have c2 : wr.drew.cell? ⟨b', off' + k, none⟩ = some (.string ss[k]) := (hb.drew.cell (p := ⟨b', off' + k, none⟩) hbl').trans (hc' k hlt)
      clear hc hc'
      go_upto_region 6 with fail
      refine wp_region_held_drew (S := fun w' => w'.cell? ⟨b, off + k, none⟩ = some (.string ss[k]) /\ w'.cell? ⟨b', off' + k, none⟩ = some (.string ss[k])) (by kernel_rfl) ⟨c1, c2⟩ (fun hHeld => ?_)
      refine tG 0 ?_; refine tG 1 ?_; refine tG 2 ?_; refine tG 3 ?_; refine tG 4 ?_; refine tG 5 ?_; refine tG 6 ?_; refine tG 7 ?_; refine tG 8 ?_
      refine wpAnyH_done (by kernel_rfl) ?_ _
      clear c1 c2 hHeld
      have hbd := hb.drew
      go_wp2_with fail
      exact ⟨⟨k + 1, by omega, by go_num, hbd⟩, by simp [intOf]; omega⟩
    · have hI : ¬ (k : Int) < (ss.length : Int) := by omega
      go_wp2_with fail
      go_ret
      exact ⟨rfl, hb⟩
theorem zdc (a : Option Addr) (cap : Nat) (fs : List Fld) (v : ByteArray) (w : World) (hw : yc w a fs) :
    Calls Tryz.prog 29 #[.slice a fs.length cap, .string v] w fun e w' => e = .returned (.int .i64 (max (Gate.zG fs v) 0)) /\ w' = w := by
  have hl := hw.len
  unfold maxLen at hl
  go_enter Tryz.func29, Tryz.ntmps29
  go_wp2
  go_loop [5] (fun i => ∃ k : Nat, k <= fs.length /\ i = .int .i64 k /\ Gate.hasName (fs.take k) v = false) (fun i => fs.length - (intOf i).toNat)
  case atStart => exact ⟨0, Nat.zero_le _, rfl, rfl⟩
  case round =>
    obtain ⟨k, hk, rfl, hno⟩ := hrel
    by_cases hlt : k < fs.length
    · obtain ⟨b, off, rfl, hb, hr⟩ := hw.rows (by rintro rfl; simp at hlt)
      obtain ⟨wa, wcap, hf⟩ := hr k hlt
      obtain ⟨c0, c1, c2, c3, c4, c5, c6, c7, c8, c9, c10⟩ := hf.load
      clear hw hr hf c1 c2 c3 c4 c5 c6 c7 c8 c9 c10
      by_cases he : fs[k].nm = v
      · have hbe : (fs[k].nm.toList == v.toList) = true := by rw [Gate.beq_toList]; simpa using he
        have HB : Hid (max (Gate.zG fs v) 0 = (k : Int)) := by unfold Hid; rw [Gate.zaz fs v k hlt hno he]; omega
        clear he hno
        go_wp2
        go_ret
        exact ⟨by rw [HB.out]; rfl, rfl⟩
      · have hbe : (fs[k].nm.toList == v.toList) = false := by rw [Gate.beq_toList]; simpa using he
        have HS : Hid (Gate.hasName (fs.take (k + 1)) v = false) := by unfold Hid; rw [Gate.zaX fs v k hlt, hno, decide_eq_false he]; rfl
        clear he hno
        go_wp2
        go_round
        case rel => exact ⟨k + 1, by omega, by go_num, HS.out⟩
        case measure => simp [intOf]; omega
    · have HA : Hid (max (Gate.zG fs v) 0 = 0) := by unfold Hid; rw [Gate.zaV fs v (by rw [<- Gate.zcm fs v k (by omega)]; exact hno)]; rfl
      clear hno hw
      go_wp2
      go_ret
      exact ⟨by rw [HA.out]; rfl, rfl⟩
set_option maxRecDepth 10000 in
set_option maxHeartbeats 4000000 in
theorem zgE (kd nm tm : ByteArray) (en : Bool) (vr : Int) (vs hs : List ByteArray) (va ha va' ha' : Option Addr) (c1 c2 c3 c4 : Nat) (w : World) (h1 : zZ w va vs) (h2 : zZ w ha hs) (h3 : zZ w va' vs) (h4 : zZ w ha' hs) :
    Calls Tryz.prog 6 #[.agg #[.string kd, .string nm, .string tm, .slice va vs.length c1, .bool en, .slice ha hs.length c2, .int .i64 vr], .agg #[.string kd, .string nm, .string tm, .slice va' vs.length c3, .bool en, .slice ha' hs.length c4, .int .i64 vr]] w fun e w' => e = .returned (.bool true) /\ Below w.heap.size w w' := by
  have HS := zae h1 h2 h3 h4
  clear h1 h2 h3 h4
  go_enter Tryz.func6, Tryz.ntmps6
  go_upto_region 1 with fail
  have hb := yC w (.cells #[.string kd, .string nm, .string tm, .slice va vs.length c1, .bool en, .slice ha hs.length c2, .int .i64 vr] 27) (.cells #[.string kd, .string nm, .string tm, .slice va' vs.length c3, .bool en, .slice ha' hs.length c4, .int .i64 vr] 27)
  have k1 := (zq w (.cells #[.string kd, .string nm, .string tm, .slice va vs.length c1, .bool en, .slice ha hs.length c2, .int .i64 vr] 27) (.cells #[.string kd, .string nm, .string tm, .slice va' vs.length c3, .bool en, .slice ha' hs.length c4, .int .i64 vr] 27)).1
  have k2 := (zq w (.cells #[.string kd, .string nm, .string tm, .slice va vs.length c1, .bool en, .slice ha hs.length c2, .int .i64 vr] 27) (.cells #[.string kd, .string nm, .string tm, .slice va' vs.length c3, .bool en, .slice ha' hs.length c4, .int .i64 vr] 27)).2
  revert hb k1 k2
  generalize (w.alloc (.cells #[.string kd, .string nm, .string tm, .slice va vs.length c1, .bool en, .slice ha hs.length c2, .int .i64 vr] 27)).alloc (.cells #[.string kd, .string nm, .string tm, .slice va' vs.length c3, .bool en, .slice ha' hs.length c4, .int .i64 vr] 27) = W
  intro hb k1 k2
  have HB := yK hb k1 k2
  have cA := fun j => cell_of_block (o := j) k1
  have cB := fun j => cell_of_block (o := j) k2
  clear hb k1 k2
  go_wp2_with fail
  refine (zc3 va va' c1 c3 vs W (HS.out.1.mono HB.out.1) (HS.out.2.2.1.mono HB.out.1)).mono ?_
  rintro e w1 ⟨rfl, b1⟩
  have k1 := (b1.block _ (Array.getElem?_eq_some_iff.1 HB.out.2.1).1).trans HB.out.2.1
  have k2 := (b1.block _ (Array.getElem?_eq_some_iff.1 HB.out.2.2).1).trans HB.out.2.2
  have HB1 := hid (HB.out.1.trans (b1.mono HB.out.1.size))
  clear cA cB b1 HB
  have cA := fun j => cell_of_block (o := j) k1
  have cB := fun j => cell_of_block (o := j) k2
  have HB2 := qO k1 k2
  clear k1 k2
  go_wp2_with fail
  refine (zc3 ha ha' c2 c4 hs w1 (HS.out.2.1.mono HB1.out) (HS.out.2.2.2.mono HB1.out)).mono ?_
  rintro e w2 ⟨rfl, b2⟩
  have k1 := (b2.block _ (Array.getElem?_eq_some_iff.1 HB2.out.1).1).trans HB2.out.1
  have k2 := (b2.block _ (Array.getElem?_eq_some_iff.1 HB2.out.2).1).trans HB2.out.2
  have HB3 := hid (HB1.out.trans (b2.mono HB1.out.size))
  clear cA cB b2 HB1 HB2
  have cA := fun j => cell_of_block (o := j) k1
  have cB := fun j => cell_of_block (o := j) k2
  clear k1 k2
  go_wp2_with fail
  go_ret
  exact ⟨rfl, HB3.out⟩
set_option maxHeartbeats 2000000 in
theorem zgU (a : Option Addr) (cap : Nat) (ss : List Shp) (v : ByteArray) (w : World) (hw : yG w a ss) :
    Calls Tryz.prog 11 #[.agg #[.slice a ss.length cap, .slice none 0 0, .slice none 0 0], .string v] w fun e w' => ∃ fa fc, e = .returned (.slice fa (Gate.shapeOf ss v).fs.length fc) /\ yc w' fa (Gate.shapeOf ss v).fs /\ Below w.heap.size w w' := by
  have hl := hw.len
  unfold maxLen at hl
  have hb := (Below.refl w.heap.size w).alloc (Nat.le_refl _) (.cells #[.slice a ss.length cap, .slice none 0 0, .slice none 0 0] 38)
  have k1 := (MapKept.heap_alloc w (.cells #[.slice a ss.length cap, .slice none 0 0, .slice none 0 0] 38)).1
  have HW := qO (hw.mono hb) hb
  clear hw hb
  go_enter Tryz.func11, Tryz.ntmps11
  go_upto_region 1 with fail
  revert HW k1
  generalize w.alloc (.cells #[.slice a ss.length cap, .slice none 0 0, .slice none 0 0] 38) = W
  intro k1 HW
  have cL := fun j => cell_of_block (o := j) k1
  clear k1
  go_wp2_with fail
  go_loop [5] (fun i => ∃ k : Nat, k <= ss.length /\ i = .int .i64 k /\ Gate.zy (ss.take k) v = false) (fun i => ss.length - (intOf i).toNat)
  case atStart => exact ⟨0, Nat.zero_le _, rfl, rfl⟩
  case round =>
    obtain ⟨k, hk, rfl, hno⟩ := hrel
    by_cases hlt : k < ss.length
    · obtain ⟨b, off, rfl, hb, hr⟩ := HW.out.1.rows (by rintro rfl; simp at hlt)
      obtain ⟨fa, fcap, hs⟩ := hr k hlt
      have hck := hs.kind
      have hcl := hs.list
      have HF := hid hs.flds
      clear hr hs
      by_cases he : ss[k].kd = v
      · have hbe : (ss[k].kd.toList == v.toList) = true := by rw [Gate.beq_toList]; simpa using he
        have HB : Hid (Gate.shapeOf ss v = ss[k]) := Gate.zbh ss v k hlt hno he
        clear he hno
        go_wp2_with fail
        go_ret
        exact ⟨fa, ⟨fcap, by rw [HB.out]; rfl⟩, by rw [HB.out]; exact HF.out, HW.out.2⟩
      · have hbe : (ss[k].kd.toList == v.toList) = false := by rw [Gate.beq_toList]; simpa using he
        have HS : Hid (Gate.zy (ss.take (k + 1)) v = false) := by unfold Hid; rw [Gate.zaU ss v k hlt, hno, decide_eq_false he]; rfl
        clear he hno
        go_wp2_with fail
        go_round
        case rel => exact ⟨k + 1, by omega, by go_num, HS.out⟩
        case measure => simp [intOf]; omega
    · have HA : Hid (Gate.shapeOf ss v = Gate.jD) := Gate.za1 ss v (by rw [<- Gate.zbo ss v k (by omega)]; exact hno)
      clear hno
      go_wp2_with fail
      go_ret
      exact ⟨some ⟨W.heap.size, 0, none⟩, ⟨0, by rw [HA.out]; rfl⟩, by rw [HA.out]; exact ⟨by simp [Gate.jD], fun h => absurd rfl h⟩, HW.out.2.alloc HW.out.2.size _⟩
theorem zh9 (ss : List ByteArray) (k : Nat) (h : k < ss.length) : ss.reverse.take (k + 1) = ss.reverse.take k ++ [ss[ss.length - 1 - k]] := by
  rw [List.take_succ_eq_append_getElem (by simpa using h)]
  simp
set_option maxRecDepth 10000 in
set_option maxHeartbeats 4000000 in
theorem zbK (a : Option Addr) (cap : Nat) (ss : List ByteArray) (w : World) (h : zZ w a ss) (hl : ss.length <= 1048576) :
    Calls Tryz.prog 13 #[.slice a ss.length cap] w fun e w' => ∃ g c, e = .returned (.slice (some ⟨g, 0, none⟩) ss.length c) /\ zZ w' (some ⟨g, 0, none⟩) ss.reverse /\ Below w.heap.size w w' /\ w.heap.size <= g := by
  obtain ⟨i0, hi, hz0, hz1', hz2⟩ := info_parts Tryz.jC
  have HS := hid h
  clear h
  have hsub : IntKind.i64.wrap ((ss.length : Int) - 1) = (ss.length : Int) - 1 := by rw [IntKind.wrap_i64]; omega
  go_enter Tryz.func13, Tryz.ntmps13
  go_wp2_with fail
  go_loopw [3, 4] (fun vo vi wr => ∃ k : Nat, k <= ss.length /\ vi = .int .i64 ((ss.length : Int) - 1 - (k : Int)) /\ vo ≠ .slice none 0 0 /\ wr.ownsRow w.heap.size 9 1 vo k ((ss.reverse.take k).map Value.string) /\ Below w.heap.size w wr) (fun _ vi _ => (intOf vi + 1).toNat)
  case atStart => exact ⟨0, by omega, by simp, by simp, ⟨rfl, Or.inr ⟨w.heap.size, 0, #[], rfl, Nat.le_refl _, (MapKept.heap_alloc w _).1, Nat.le_refl _, by simp [maxLen], rfl, rfl⟩⟩, (Below.refl _ _).alloc (Nat.le_refl _) _⟩
  case round =>
    obtain ⟨k, hk, rfl, hne, hown, hb⟩ := hrel
    obtain ⟨g, c, rfl⟩ := zdA hown hne
    by_cases hlt : k < ss.length
    · have hge : (0 : Int) <= (ss.length : Int) - 1 - (k : Int) := by omega
      obtain ⟨m, hm⟩ : ∃ m : Nat, m = ss.length - 1 - k := ⟨_, rfl⟩
      have hmI : (ss.length : Int) - 1 - (k : Int) = (m : Int) := by omega
      have hml : m < ss.length := by omega
      obtain ⟨b, off, rfl, hbl, hc⟩ := (HS.out.mono hb).cells (fun e => by rw [e] at hlt; simp at hlt)
      have c1 := hc m hml
      have hmI2 : (m : Int) < (ss.length : Int) := by omega
      have hm0 : (0 : Int) <= (m : Int) := by omega
      have HO := qO hown hb
      have hst := hid (zh9 ss k hlt)
      have hw2 : IntKind.i64.wrap ((m : Int) - 1) = (ss.length : Int) - 1 - ((k + 1 : Nat) : Int) := by rw [IntKind.wrap_i64]; omega
      rw [hmI]
      have HM := hid hm
      clear hc hown hb hge hm hmI
      go_wp2_with (at_builtin; refine yM ?_)
      show wpList _ _ _ _ _ _
      refine wpList_append_own _ rfl (.tmp 13) (.tmp 18) 25 rfl w.heap.size 9 i0 (.string ByteArray.empty) 1 16 Tryz.underlying25 hi hz0 hz1' hz2 rfl (by decide) _ _ _ rfl (HO.out.1.alloc _) ⟨wr.heap.size, 0, none⟩ 1 1 [.string ss[m]] rfl rfl (zbC _ _ _) (by intro u hu; simp at hu; subst hu; rfl) (by unfold maxLen; omega) (by omega) (by have := HO.out.2.size; simp; omega) ?_
      intro v' w4 hown' hgr hnil
      clear c1
      go_wp2_with fail
      have hgb : ∀ g', (Value.slice (some ⟨g, 0, none⟩) k c).ownBlock = some g' -> w.heap.size <= g' := fun g' hg => (HO.out.1.lt g' hg).1
      have hbl2 := zaM (Below.refl w.heap.size wr) HO.out.2.size hgr hgb
      refine ⟨⟨k + 1, by omega, rfl, (fun e => by have := (hnil.1 e).2; omega), ?_, HO.out.2.trans hbl2⟩, by have := HM.out; simp [intOf]; omega⟩
      rw [hst.out, List.map_append]
      have hm := HM.out
      subst hm
      exact hown'
    · have hge : ¬ (0 : Int) <= (ss.length : Int) - 1 - (k : Int) := by omega
      obtain rfl : k = ss.length := by omega
      have HO := qO hown hb
      clear hown hb
      go_wp2_with fail
      go_ret
      have e1 : ss.reverse.take ss.length = ss.reverse := List.take_of_length_le (by simp)
      have h1 := HO.out.1
      rw [e1] at h1
      have h2 : (ss.reverse).length = ss.length := by simp
      rw [<- h2] at h1
      exact ⟨g, ⟨c, rfl⟩, by rw [List.length_reverse] at h1; exact zdm (by rw [List.length_reverse]; exact h1) (by rw [List.length_reverse]; unfold maxLen; omega) (fun s hs => HS.out.small s (List.mem_reverse.1 hs)), HO.out.2, (HO.out.1.lt g rfl).1⟩
end Go.Proofs.YtmfgjafdnopfbaaGreat

namespace Go.Proofs.YtmfgjafdnopfbaaGreat
open Go.RowKit
namespace Gate
def j4 (s : Shp) (i : Nat) : ByteArray := (s.fs.getD i zbr).nm
def jd (s : Shp) (ms : List Mnd) (row : List ByteArray) (i : Nat) : Bool := !has row (j4 s i) && zaR ms s.kd (j4 s i) row
def zcF (s : Shp) (ms : List Mnd) (row : List ByteArray) : List ByteArray := match (List.range s.fs.length).find? (jd s ms row) with | none => row | some i => row ++ [j4 s i]
def yu (s : Shp) (ms : List Mnd) : Nat -> List ByteArray
  | 0 => []
  | k + 1 => zcF s ms (yu s ms k)
theorem zfH (s : Shp) (ms : List Mnd) (row : List ByteArray) : (zcF s ms row).length <= row.length + 1 := by
  unfold zcF; split
  · omega
  · simp
theorem zcn (s : Shp) (ms : List Mnd) : ∀ k, (yu s ms k).length <= k
  | 0 => Nat.le_refl _
  | k + 1 => Nat.le_trans (zfH s ms _) (by have := zcn s ms k; omega)
theorem zci (s : Shp) (ms : List Mnd) : ∀ k, ∀ x ∈ yu s ms k, ∃ i, i < s.fs.length /\ x = j4 s i
  | 0, x, h => by cases h
  | k + 1, x, h => by
    have h' : x ∈ zcF s ms (yu s ms k) := h
    unfold zcF at h'
    split at h'
    · exact zci s ms k x h'
    · rename_i i hi
      rw [List.mem_append, List.mem_singleton] at h'
      rcases h' with h' | h'
      · exact zci s ms k x h'
      · exact ⟨i, List.mem_range.1 (List.mem_of_find?_eq_some hi), h'⟩
end Gate
set_option maxRecDepth 20000 in
set_option maxHeartbeats 4000000 in
theorem zff (fa ma : Option Addr) (fcap mcap : Nat) (s : Shp) (ms : List Mnd) (w : World) (hf : yc w fa s.fs) (hm : qg w ma ms) (hml : ms.length <= 12) (hn : s.fs.length <= 6) :
    Calls Tryz.prog 37 #[.agg #[.string s.kd, .slice fa s.fs.length fcap], .slice ma ms.length mcap] w fun e w' => ∃ v, e = .returned v /\ w'.ownsRow w.heap.size 9 1 v (Gate.yu s ms s.fs.length).length ((Gate.yu s ms s.fs.length).map Value.string) /\ Below w.heap.size w w' := by
  have HM := qO hf hm
  have HSM : Hid (∀ k, ∀ x ∈ Gate.yu s ms k, x.size <= maxLen) := by
    intro k x hx
    obtain ⟨i, hi, rfl⟩ := Gate.zci s ms k x hx
    unfold Gate.j4
    rw [Gate.getD_at _ _ _ hi]
    exact (hf.smalls.small i hi).1.nm
  obtain ⟨i0, hi0, hz0, hz1', hz2⟩ := info_parts Tryz.jC
  clear hf hm
  go_enter Tryz.func37, Tryz.ntmps37
  go_wp2_with fail
  have hnI : (s.fs.length : Int) <= 6 := by omega
  go_loopw [5, 6] (fun v0 iv wr => ∃ (k : Nat) (v : Value), v = v0 /\ k <= s.fs.length /\ iv = .int .i64 k /\ wr.ownsRow (w.heap.size + 1) 9 1 v (Gate.yu s ms k).length ((Gate.yu s ms k).map Value.string) /\ wr.heap[w.heap.size]? = some (.cells #[.string s.kd, .slice fa s.fs.length fcap] 45) /\ Below w.heap.size w wr) (fun _ iv _ => s.fs.length - (intOf iv).toNat)
  case atStart => exact ⟨0, _, rfl, Nat.zero_le _, rfl, ⟨rfl, .inr ⟨w.heap.size + 1, 0, #[], rfl, Nat.le_refl _, (zq _ _ _).2, Nat.le_refl _, by simp [maxLen], rfl, rfl⟩⟩, (zq _ _ _).1, yC _ _ _⟩
  case round =>
    obtain ⟨k, v, hv, hk, rfl, hown, hbox, hB⟩ := hrel
    subst hv
    obtain ⟨va, vcap, rfl⟩ := qB hown
    have HW := yK hown hbox hB
    have hXr : ∀ j, wr.cell? ⟨w.heap.size, j, none⟩ = (#[.string s.kd, .slice fa s.fs.length fcap] : Array Value)[j]? := fun j => cell_of_block hbox
    have hzr := (Array.getElem?_eq_some_iff.1 hbox).1
    have HGL : Hid ((Gate.yu s ms k).length <= 6) := by have := Gate.zcn s ms k; show _ <= _; omega
    clear hown hbox hB
    by_cases hlt : k < s.fs.length
    · have hltI : (k : Int) < (s.fs.length : Int) := by omega
      go_wp2_with fail
      clear hXr
      obtain ⟨wo, hwo⟩ : ∃ wo, wo = wr := ⟨_, rfl⟩
      have HWO : Hid (wo.ownsRow (w.heap.size + 1) 9 1 (.slice va (Gate.yu s ms k).length vcap) (Gate.yu s ms k).length ((Gate.yu s ms k).map Value.string) /\ wo.heap[w.heap.size]? = some (.cells #[.string s.kd, .slice fa s.fs.length fcap] 45) /\ Below w.heap.size w wo /\ w.heap.size < wo.heap.size) := by rw [hwo]; exact ⟨HW.out.1, HW.out.2.1, HW.out.2.2, hzr⟩
      have HWE := hid hwo
      clear hwo HW hzr
      go_loopw [5, 7] (fun v1 iv wq => ∃ i : Nat, i <= s.fs.length /\ iv = .int .i64 i /\ v1 = .slice va (Gate.yu s ms k).length vcap /\ (∀ q, q < i -> Gate.jd s ms (Gate.yu s ms k) q = false) /\ Below wo.heap.size wo wq) (fun _ iv _ => s.fs.length - (intOf iv).toNat)
      case atStart => exact ⟨0, Nat.zero_le _, rfl, rfl, fun q h => absurd h (by omega), by rw [HWE.out]; exact Below.refl _ _⟩
      case round =>
        obtain ⟨i, hi, rfl, rfl, hno, hBq⟩ := hrel
        have HQ := zeY hno hBq (qF HWO.out.1 hBq) ((hBq.block _ HWO.out.2.2.2).trans HWO.out.2.1) (HWO.out.2.2.1.trans (hBq.mono HWO.out.2.2.1.size))
        have hXq := zak HQ.out.2.2.2.1
        have hzq := (Array.getElem?_eq_some_iff.1 HQ.out.2.2.2.1).1
        clear hno hBq
        by_cases hil : i < s.fs.length
        · have hilI : (i : Int) < (s.fs.length : Int) := by omega
          obtain ⟨fb, foff, rfl, hfb, hr⟩ := HM.out.1.rows (by intro e; rw [e] at hil; simp at hil)
          obtain ⟨wa, wcap, hf0⟩ := hr i hil
          obtain ⟨c0, c1, c2, c3, c4, c5, c6, c7, c8, c9, c10⟩ := (hf0.mono hfb HQ.out.2.2.2.2).load
          have HNM : Hid (Gate.j4 s i = s.fs[i].nm) := by unfold Hid Gate.j4; rw [Gate.getD_at _ _ _ hil]
          have HST := hid (zdm HQ.out.2.2.1 (by have := HGL.out; unfold maxLen; omega) (HSM.out k))
          have HFIND : Hid (Gate.jd s ms (Gate.yu s ms k) i = true -> Gate.yu s ms (k + 1) = Gate.yu s ms k ++ [s.fs[i].nm]) := by
            intro h
            show Gate.zcF s ms (Gate.yu s ms k) = _
            unfold Gate.zcF
            have : (List.range s.fs.length).find? (Gate.jd s ms (Gate.yu s ms k)) = some i := by
              rw [List.find?_range_eq_some]
              exact ⟨h, List.mem_range.2 hil, fun j hj => by rw [HQ.out.1 j hj]; rfl⟩
            rw [this]
            show Gate.yu s ms k ++ [Gate.j4 s i] = _
            rw [HNM.out]
          clear hr hf0 c1 c2 c3 c4 c5 c6 c7 c8 c9 c10
          go_wp2_with fail
          have h := za5 va vcap (Gate.yu s ms k) s.fs[i].nm wr HST.out
          rcases hh : Gate.has (Gate.yu s ms k) s.fs[i].nm with _ | _
          rotate_left
          · rw [hh] at h
            refine h.mono ?_
            rintro e w3 ⟨rfl, rfl⟩
            have HNR : Hid (∀ q, q < i + 1 -> Gate.jd s ms (Gate.yu s ms k) q = false) := by
              intro q hq
              rcases Nat.lt_or_ge q i with h1 | h1
              · exact HQ.out.1 q h1
              · have e : q = i := by omega
                subst e; unfold Gate.jd; rw [HNM.out, hh]; rfl
            clear h hh
            go_wp2_with fail
            exact ⟨⟨i + 1, by omega, by go_num, rfl, HNR.out, HQ.out.2.1⟩, z8 hil⟩
          rw [hh] at h
          refine h.mono ?_
          rintro e w3' ⟨rfl, hw3⟩
          rw [hw3]
          clear hw3 w3'
          have HRN : Hid (Gate.jd s ms (Gate.yu s ms k) i = Gate.zaR ms s.kd s.fs[i].nm (Gate.yu s ms k)) := by unfold Hid Gate.jd; rw [HNM.out, hh]; rfl
          clear h hh
          go_wp2_with fail
          have h := zgr ma va mcap vcap ms s.kd s.fs[i].nm (Gate.yu s ms k) wr (HM.out.2.mono HQ.out.2.2.2.2) HST.out hml
          rcases hh : Gate.zaR ms s.kd s.fs[i].nm (Gate.yu s ms k) with _ | _
          · rw [hh] at h
            refine h.mono ?_
            rintro e w3 ⟨rfl, hb3⟩
            have HNR : Hid ((∀ q, q < i + 1 -> Gate.jd s ms (Gate.yu s ms k) q = false) /\ Below wo.heap.size wo w3) := by
              refine ⟨fun q hq => ?_, HQ.out.2.1.trans (hb3.mono HQ.out.2.1.size)⟩
              rcases Nat.lt_or_ge q i with h1 | h1
              · exact HQ.out.1 q h1
              · have e : q = i := by omega
                subst e; rw [HRN.out, hh]
            clear h hh hb3
            go_wp2_with fail
            exact ⟨⟨i + 1, by omega, by go_num, rfl, HNR.out.1, HNR.out.2⟩, z8 hil⟩
          rw [hh] at h
          refine h.mono ?_
          rintro e w3 ⟨rfl, hb3⟩
          have HG1 := hid (HFIND.out (by rw [HRN.out, hh]))
          have H3 := zae (qF HQ.out.2.2.1 hb3) ((hb3.block _ hzq).trans HQ.out.2.2.2.1) (HQ.out.2.2.2.2.trans (hb3.mono HQ.out.2.2.2.2.size)) (Nat.lt_of_lt_of_le hzq hb3.size)
          clear h hh hb3 hXq c0
          go_wp2_with (at_builtin; refine yM ?_)
          show wpList _ _ _ _ _ _
          refine wpList_append_own _ rfl (.tmp 42) (.tmp 44) 25 rfl (w.heap.size + 1) 9 i0 (.string ByteArray.empty) 1 16 Tryz.underlying25 hi0 hz0 hz1' hz2 rfl (by decide) (.slice va (Gate.yu s ms k).length vcap) _ _ rfl (H3.out.1.alloc _) ⟨w3.heap.size, 0, none⟩ 1 1 [.string s.fs[i].nm] rfl rfl (zbC _ _ _) (by intro u hu; simp at hu; subst hu; rfl) (by have := HGL.out; unfold maxLen; omega) (by have := HGL.out; omega) (by have := H3.out.2.2.2; simp; omega) ?_
          intro v' w4 hown' hgr _
          obtain ⟨va', vcap', rfl⟩ := qB hown'
          have hgb : ∀ g, (Value.slice va (Gate.yu s ms k).length vcap).ownBlock = some g -> w.heap.size + 1 <= g := fun g hg => (H3.out.1.lt g hg).1
          have HY : Hid (w4.ownsRow (w.heap.size + 1) 9 1 (.slice va' ((Gate.yu s ms k).length + 1) vcap') (Gate.yu s ms (k + 1)).length ((Gate.yu s ms (k + 1)).map Value.string) /\ w4.heap[w.heap.size]? = some (.cells #[.string s.kd, .slice (some ⟨fb, foff, none⟩) s.fs.length fcap] 45) /\ Below w.heap.size w w4) := by
            refine ⟨by rw [HG1.out, List.length_append, List.map_append]; exact hown', ?_, zaM H3.out.2.2.1 H3.out.2.2.1.size hgr (fun g hg => by have := hgb g hg; omega)⟩
            exact (jS hgr (by have := H3.out.2.2.2; simp; omega) (fun g hg => by have := hgb g hg; omega)).trans ((Below.heap_alloc _ _ _ H3.out.2.2.2).trans H3.out.2.1)
          clear hown' hgr hgb
          go_wp2_with fail
          exact ⟨⟨k + 1, _, rfl, by omega, by go_num, HY.out.1, HY.out.2.1, HY.out.2.2⟩, z8 hlt⟩
        · have e : i = s.fs.length := by omega
          have HN : Hid (Gate.yu s ms (k + 1) = Gate.yu s ms k) := by
            show Gate.zcF s ms (Gate.yu s ms k) = _
            unfold Gate.zcF
            have : (List.range s.fs.length).find? (Gate.jd s ms (Gate.yu s ms k)) = none := by
              rw [List.find?_eq_none]
              intro q hq
              rw [HQ.out.1 q (by rw [e]; exact List.mem_range.1 hq)]
              simp
            rw [this]
          subst e
          go_wp2_with fail
          exact ⟨⟨k + 1, _, rfl, by omega, by go_num, by rw [HN.out]; exact HQ.out.2.2.1, HQ.out.2.2.2.1, HQ.out.2.2.2.2⟩, z8 hlt⟩
    · have e : k = s.fs.length := by omega
      subst e
      go_wp2_with fail
      go_ret
      exact ⟨_, rfl, zbn HW.out.1 (by omega), HW.out.2.2⟩
end Go.Proofs.YtmfgjafdnopfbaaGreat
