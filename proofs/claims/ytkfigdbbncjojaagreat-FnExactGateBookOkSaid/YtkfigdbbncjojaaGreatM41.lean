import Derived.Test.YtkfigdbbncjojaaGreatM39
import Derived.Test.YtkfigdbbncjojaaGreatM08
import Derived.Test.YtkfigdbbncjojaaGreatM03
import Derived.Test.YtkfigdbbncjojaaGreatM06
namespace Go.Proofs.YtkfigdbbncjojaaGreat
open Go.RowKit
namespace Gate
def yJ (kd fld : ByteArray) (row : List ByteArray) (m : Mnd) : Bool := !(decide (m.kd = kd) && decide (m.fd = fld)) || ((!isSet m.wh || has row m.wh) && (!isSet m.fr || has row m.fr))
def zbc (ms : List Mnd) (kd fld : ByteArray) (row : List ByteArray) : Bool := ms.all (yJ kd fld row)
end Gate
set_option maxRecDepth 20000 in
set_option maxHeartbeats 4000000 in
theorem zku (a ra : Option Addr) (cap rcap : Nat) (ms : List Mnd) (kd fld : ByteArray) (row : List ByteArray) (w : World) (hm : y5 w a ms) (hr : zB w ra row) (hml : ms.length <= 12) :
    Calls Tryz.prog 140 #[.slice a ms.length cap, .string kd, .string fld, .slice ra row.length rcap] w fun e w' => e = .returned (.bool (Gate.zbc ms kd fld row)) /\ Below w.heap.size w w' := by
  have HM := jO hm hr
  clear hm hr
  go_enter Tryz.func140, Tryz.ntmps140
  go_wp2_with fail
  go_loopw [9] (fun iv wr => ∃ k : Nat, k <= ms.length /\ iv = .int .i64 k /\ (ms.take k).all (Gate.yJ kd fld row) = true /\ Below w.heap.size w wr) (fun iv _ => ms.length - (intOf iv).toNat)
  case atStart => exact ⟨0, Nat.zero_le _, rfl, rfl, Below.refl _ _⟩
  case round =>
    obtain ⟨k, hk, rfl, hall, hB⟩ := hrel
    have HB := hid hB
    have HA : Hid ((ms.take k).all (Gate.yJ kd fld row) = true) := hall
    by_cases hlt : k < ms.length
    · obtain ⟨b, off, rfl, hb, c0, c1, c2, c3, c4, c5⟩ := HM.out.1.load hB k hlt
      have hltI : (k : Int) < (ms.length : Int) := by omega
      have HTK : Hid ((ms.take (k + 1)).all (Gate.yJ kd fld row) = Gate.yJ kd fld row ms[k]) := by
        unfold Hid; rw [List.take_succ_eq_append_getElem hlt, List.all_append, HA.out]; simp
      have HNO : Hid (Gate.yJ kd fld row ms[k] = false -> Gate.zbc ms kd fld row = false) := by
        intro h
        unfold Gate.zbc
        rw [List.all_eq_false]; exact ⟨_, List.getElem_mem hlt, by rw [h]; simp⟩
      have HBA : Hid (Below w.heap.size w (wr.alloc (.cells #[.string ms[k].kd, .string ms[k].fd, .string ms[k].wh, .string ms[k].wi, .string ms[k].pt, .string ms[k].fr] 129))) := hB.alloc hB.size _
      clear hall hB HA
      by_cases e1 : ms[k].kd = kd
      rotate_left
      · have he1 : (ms[k].kd.toList == kd.toList) = false := by rw [Gate.beq_toList]; simpa using e1
        have HY : Hid (Gate.yJ kd fld row ms[k] = true) := by unfold Hid Gate.yJ; simp [e1]
        clear e1
        go_wp2_with fail
        exact ⟨⟨k + 1, by omega, by go_num, by rw [HTK.out]; exact HY.out, HBA.out⟩, zm hlt⟩
      have he1 : (ms[k].kd.toList == kd.toList) = true := by rw [Gate.beq_toList]; simpa using e1
      by_cases e2 : ms[k].fd = fld
      rotate_left
      · have he2 : (ms[k].fd.toList == fld.toList) = false := by rw [Gate.beq_toList]; simpa using e2
        have HY : Hid (Gate.yJ kd fld row ms[k] = true) := by unfold Hid Gate.yJ; simp [e2]
        clear e1 e2
        go_wp2_with fail
        exact ⟨⟨k + 1, by omega, by go_num, by rw [HTK.out]; exact HY.out, HBA.out⟩, zm hlt⟩
      have he2 : (ms[k].fd.toList == fld.toList) = true := by rw [Gate.beq_toList]; simpa using e2
      have HRD : Hid (Gate.yJ kd fld row ms[k] = ((!Gate.isSet ms[k].wh || Gate.has row ms[k].wh) && (!Gate.isSet ms[k].fr || Gate.has row ms[k].fr))) := by unfold Hid Gate.yJ; simp [e1, e2]
      clear e1 e2
      rcases hwh : ms[k].wh.toList.isEmpty with _ | _ <;> rcases hfr : ms[k].fr.toList.isEmpty with _ | _
      all_goals go_wp2_with fail
      · skip
        have h := zbm ra rcap row ms[k].wh _ (HM.out.2.mono HBA.out)
        rcases hh1 : Gate.has row ms[k].wh with _ | _
        · rw [hh1] at h
          refine h.mono ?_
          rintro e w3 ⟨rfl, rfl⟩
          have HF : Hid (Gate.zbc ms kd fld row = false) := HNO.out (by rw [HRD.out]; unfold Gate.isSet; simp [*])
          clear h
          go_wp2_with fail
          go_ret
          exact ⟨by rw [HF.out]; rfl, HBA.out⟩
        · rw [hh1] at h
          refine h.mono ?_
          rintro e w3 ⟨rfl, rfl⟩
          clear h
          go_wp2_with fail
          have h := zbm ra rcap row ms[k].fr _ (HM.out.2.mono HBA.out)
          rcases hh2 : Gate.has row ms[k].fr with _ | _
          · rw [hh2] at h
            refine h.mono ?_
            rintro e w3 ⟨rfl, rfl⟩
            have HF : Hid (Gate.zbc ms kd fld row = false) := HNO.out (by rw [HRD.out]; unfold Gate.isSet; simp [*])
            clear h
            go_wp2_with fail
            go_ret
            exact ⟨by rw [HF.out]; rfl, HBA.out⟩
          · rw [hh2] at h
            refine h.mono ?_
            rintro e w3 ⟨rfl, rfl⟩
            clear h
            go_wp2_with fail
            have HY : Hid (Gate.yJ kd fld row ms[k] = true) := by unfold Hid; rw [HRD.out]; unfold Gate.isSet; simp [*]
            exact ⟨⟨k + 1, by omega, by go_num, by rw [HTK.out]; exact HY.out, HBA.out⟩, zm hlt⟩
      · skip
        have h := zbm ra rcap row ms[k].wh _ (HM.out.2.mono HBA.out)
        rcases hh1 : Gate.has row ms[k].wh with _ | _
        · rw [hh1] at h
          refine h.mono ?_
          rintro e w3 ⟨rfl, rfl⟩
          have HF : Hid (Gate.zbc ms kd fld row = false) := HNO.out (by rw [HRD.out]; unfold Gate.isSet; simp [*])
          clear h
          go_wp2_with fail
          go_ret
          exact ⟨by rw [HF.out]; rfl, HBA.out⟩
        · rw [hh1] at h
          refine h.mono ?_
          rintro e w3 ⟨rfl, rfl⟩
          clear h
          go_wp2_with fail
          have HY : Hid (Gate.yJ kd fld row ms[k] = true) := by unfold Hid; rw [HRD.out]; unfold Gate.isSet; simp [*]
          exact ⟨⟨k + 1, by omega, by go_num, by rw [HTK.out]; exact HY.out, HBA.out⟩, zm hlt⟩
      · skip
        have h := zbm ra rcap row ms[k].fr _ (HM.out.2.mono HBA.out)
        rcases hh2 : Gate.has row ms[k].fr with _ | _
        · rw [hh2] at h
          refine h.mono ?_
          rintro e w3 ⟨rfl, rfl⟩
          have HF : Hid (Gate.zbc ms kd fld row = false) := HNO.out (by rw [HRD.out]; unfold Gate.isSet; simp [*])
          clear h
          go_wp2_with fail
          go_ret
          exact ⟨by rw [HF.out]; rfl, HBA.out⟩
        · rw [hh2] at h
          refine h.mono ?_
          rintro e w3 ⟨rfl, rfl⟩
          clear h
          go_wp2_with fail
          have HY : Hid (Gate.yJ kd fld row ms[k] = true) := by unfold Hid; rw [HRD.out]; unfold Gate.isSet; simp [*]
          exact ⟨⟨k + 1, by omega, by go_num, by rw [HTK.out]; exact HY.out, HBA.out⟩, zm hlt⟩
      · skip
        have HY : Hid (Gate.yJ kd fld row ms[k] = true) := by unfold Hid; rw [HRD.out]; unfold Gate.isSet; simp [*]
        exact ⟨⟨k + 1, by omega, by go_num, by rw [HTK.out]; exact HY.out, HBA.out⟩, zm hlt⟩
    · have e : k = ms.length := by omega
      rw [e, List.take_of_length_le (Nat.le_refl _)] at hall
      have HF : Hid (Gate.zbc ms kd fld row = true) := hall
      subst e
      clear hall HA hB
      go_wp2_with fail
      go_ret
      exact ⟨by rw [HF.out]; rfl, HB.out⟩
end Go.Proofs.YtkfigdbbncjojaaGreat

namespace Go.Proofs.YtkfigdbbncjojaaGreat
open Go.RowKit
namespace Gate
def yE (ls : List Lg) (tick : Int) (p : Pu) : Bool := ji ls p.tm p.rs && (zy p.dr && (within p.am 1 1000000 && within p.un tick (tick + 10)))
noncomputable def yD (b : Bk) : Bool := decide (b.ps.length <= 24) && (zaP jl b.ps && b.ps.all (yE b.ls b.tick))
end Gate
set_option maxHeartbeats 1000000 in
theorem zcd (p : Pu) (w : World) : Calls Tryz.prog 128 #[.agg p.cells] w fun e w' => e = .returned (y9 p.tm p.rs) /\ Below w.heap.size w w' := by
  unfold Pu.cells y9
  go_enter Tryz.func128, Tryz.ntmps128
  go_wp2_with fail
  refine bodyPost_ret (v := .agg #[.string p.tm, .string p.rs]) (by simp [results, Tryz.results128, go_sem]) rfl ⟨rfl, ?_⟩
  first | exact zq _ _ _ | exact ((zq _ _ _).setCell (by simp) _).setCell (by simp) _ | exact ((zq _ _ _).setCell (by show _ <= _ + 1; omega) _).setCell (by show _ <= _ + 1; omega) _
set_option maxHeartbeats 1000000 in
theorem zaJ (p : Lg) (w : World) : Calls Tryz.prog 130 #[.agg p.cells] w fun e w' => e = .returned (y9 p.tm p.rs) /\ Below w.heap.size w w' := by
  unfold Lg.cells y9
  go_enter Tryz.func130, Tryz.ntmps130
  go_wp2_with fail
  refine bodyPost_ret (v := .agg #[.string p.tm, .string p.rs]) (by simp [results, Tryz.results130, go_sem]) rfl ⟨rfl, ?_⟩
  first | exact zq _ _ _ | exact ((zq _ _ _).setCell (by simp) _).setCell (by simp) _ | exact ((zq _ _ _).setCell (by show _ <= _ + 1; omega) _).setCell (by show _ <= _ + 1; omega) _
set_option maxHeartbeats 1000000 in
theorem zfQ (a : Option Addr) (cap : Nat) (ms : List Lg) (tm rs : ByteArray) (w : World) (hw : zbo w a ms) (hl : ms.length <= 1000) (hr : Gate.rising Gate.yL ms) :
    Calls Tryz.prog 127 #[.slice a ms.length cap, y9 tm rs] w fun e w' => (∃ p : Nat, e = .returned (.tuple #[.int .i64 p, .bool (Gate.ji ms tm rs)]) /\ Gate.zc2 ms tm rs p) /\ Below w.heap.size w w' := by
  unfold y9
  go_enter Tryz.func127, Tryz.ntmps127
  go_wp2_with fail
  refine (ze8 _ _ ms ⟨tm, rs, 0, 0⟩ _ (hw.mono ((Below.refl _ _).alloc (Nat.le_refl _) _)) hl hr).mono ?_
  rintro e w1 ⟨⟨p, rfl, hp⟩, hb⟩
  have hB1 : Below w.heap.size w w1 := ((Below.refl _ _).alloc (Nat.le_refl _) _).trans (hb.mono (by simp))
  clear hb
  go_wp2_with fail
  go_ret2
  exact ⟨⟨p, rfl, hp⟩, hB1⟩
set_option maxHeartbeats 4000000 in
theorem zin (b : Bk) (a0 a1 a2 a3 : Option Addr) (c0 c1 c2 c3 : Nat) (w : World) (hb : qY w b a0 a1 a2 a3) (hrl : Gate.rising Gate.yL b.ls) (hll : b.ls.length <= 10) (htk : 0 <= b.tick /\ b.tick <= 1000000) :
    Calls Tryz.prog 75 #[.agg (b.cells a0 a1 a2 a3 c0 c1 c2 c3)] w fun e w' => e = .returned (.bool (Gate.yD b)) /\ Below w.heap.size w w' := by
  have HK := hid hb
  have HRL := jO hrl hll
  clear hb hrl hll
  unfold Bk.cells
  by_cases hln : b.ps.length <= 24
  rotate_left
  · have HF : Hid (Gate.yD b = false) := by unfold Hid Gate.yD; rw [decide_eq_false hln]; rfl
    have hg : (24 : Int) < (b.ps.length : Int) := by omega
    go_enter Tryz.func75, Tryz.ntmps75
    go_wp2_with fail
    go_ret
    exact ⟨ze HF.out.symm, (Below.refl _ _).alloc (Nat.le_refl _) _⟩
  have hg : decide ((24 : Int) < (b.ps.length : Int)) = false := by simp; omega
  have HLN : Hid (b.ps.length <= 24) := hln
  clear hln
  go_enter Tryz.func75, Tryz.ntmps75
  go_wp2_with fail
  have hX0 := zH w (bC b a0 a1 a2 a3 c0 c1 c2 c3) 47
  have HB0 : Hid (Below w.heap.size w (w.alloc (.cells (bC b a0 a1 a2 a3 c0 c1 c2 c3) 47))) := (Below.refl _ _).alloc (Nat.le_refl _) _
  obtain ⟨W0, hW0⟩ : ∃ W0, W0 = w.alloc (.cells (bC b a0 a1 a2 a3 c0 c1 c2 c3) 47) := ⟨_, rfl⟩
  have hz0 : w.heap.size < W0.heap.size := by rw [hW0]; simp
  rw [<- hW0] at HB0 hX0 ⊢
  clear hW0
  refine (zf6 _ _ b.ps _ (HK.out.ps.mono HB0.out)).mono ?_
  rintro e w1 ⟨rfl, hb1⟩
  have HB1 := hid (HB0.out.trans (hb1.mono HB0.out.size))
  have hX1 := za hX0 hz0 hb1
  have hz1 := Nat.lt_of_lt_of_le hz0 hb1.size
  clear hb1 hX0 hz0 HB0
  by_cases has : Gate.zaP Gate.jl b.ps = true
  rotate_left
  · have has' : Gate.zaP Gate.jl b.ps = false := by simpa using has
    have HF : Hid (Gate.yD b = false) := by unfold Hid Gate.yD; rw [has']; simp
    rw [has']
    clear has has'
    go_wp2_with fail
    go_ret
    exact ⟨ze HF.out.symm, HB1.out⟩
  have HG : Hid (Gate.yD b = b.ps.all (Gate.yE b.ls b.tick)) := by unfold Hid Gate.yD; rw [has, decide_eq_true HLN.out]; rfl
  rw [has]
  clear has
  go_wp2_with fail
  go_loopw [20] (fun iv wr => ∃ k : Nat, k <= b.ps.length /\ iv = .int .i64 k /\ Hid ((b.ps.take k).all (Gate.yE b.ls b.tick) = true /\ Below w1.heap.size w1 wr)) (fun iv _ => b.ps.length - (intOf iv).toNat)
  case atStart => exact ⟨0, Nat.zero_le _, rfl, by simp, Below.refl _ _⟩
  case round =>
    obtain ⟨k, hk, rfl, HQ⟩ := hrel
    have hkn : k <= 24 := by have := HLN.out; omega
    by_cases hlt : k < b.ps.length
    · obtain ⟨ob, off, rfl, hob, d0, d1, d2, d3, d4⟩ := HK.out.ps.load (HB1.out.trans (HQ.out.2.mono HB1.out.size)) k hlt
      have hob' := Nat.lt_of_lt_of_le hob (HB1.out.trans (HQ.out.2.mono HB1.out.size)).size
      have hltI : (k : Int) < (b.ps.length : Int) := by omega
      have hX := za hX1 hz1 HQ.out.2
      have hz : w.heap.size < wr.heap.size := Nat.lt_of_lt_of_le hz1 HQ.out.2.size
      have HSn : Hid ((b.ps.take (k + 1)).all (Gate.yE b.ls b.tick) = ((b.ps.take k).all (Gate.yE b.ls b.tick) && (Gate.yE b.ls b.tick) b.ps[k])) := Gate.yS _ _ _ hlt
      have HBo : Hid (∀ ob, Below w1.heap.size w1 (wr.alloc ob)) := fun ob => HQ.out.2.alloc HQ.out.2.size _
      have HBw : Hid (∀ W, Below w1.heap.size w1 W -> Below w.heap.size w W) := fun W hW => HB1.out.trans (hW.mono HB1.out.size)
      have HNo : Hid ((Gate.yE b.ls b.tick) b.ps[k] = false -> Gate.yD b = false) := fun h => by rw [HG.out]; exact Gate.jF _ _ _ hlt h
      have HYes : Hid ((Gate.yE b.ls b.tick) b.ps[k] = true -> (b.ps.take (k + 1)).all (Gate.yE b.ls b.tick) = true) := fun h => by rw [HSn.out, HQ.out.1, h]; rfl
      have HSm : Hid b.ps[k].Small := HK.out.ps.small k hlt
      go_wp2_with fail
      have hbN : Below wr.heap.size wr (wr.alloc (.cells #[.string b.ps[k].dr, .string b.ps[k].tm, .string b.ps[k].rs, .int .i64 b.ps[k].am, .int .i64 b.ps[k].un] 122)) := (Below.refl _ _).alloc (Nat.le_refl _) _
      have hN := zH wr #[.string b.ps[k].dr, .string b.ps[k].tm, .string b.ps[k].rs, .int .i64 b.ps[k].am, .int .i64 b.ps[k].un] 122
      obtain ⟨w2, hw2⟩ : ∃ w2, w2 = wr.alloc (.cells #[.string b.ps[k].dr, .string b.ps[k].tm, .string b.ps[k].rs, .int .i64 b.ps[k].am, .int .i64 b.ps[k].un] 122) := ⟨_, rfl⟩
      have hn2 : wr.heap.size < w2.heap.size := by rw [hw2]; simp
      rw [<- hw2] at hbN hN ⊢
      have HB2 : Hid (Below w1.heap.size w1 w2) := by unfold Hid; rw [hw2]; exact HBo.out _
      have hX2 := za hX hz hbN
      have hzX2 := Nat.lt_trans hz hn2
      clear hw2 d0 d1 d2 d3 d4 hX hbN
      have hS : (∀ j, w2.drew.cell? ⟨w.heap.size, j, none⟩ = (bC b a0 a1 a2 (some ⟨ob, off, none⟩) c0 c1 c2 c3)[j]?) /\ (∀ j, w2.drew.cell? ⟨wr.heap.size, j, none⟩ = (#[.string b.ps[k].dr, .string b.ps[k].tm, .string b.ps[k].rs, .int .i64 b.ps[k].am, .int .i64 b.ps[k].un] : Array Value)[j]?) := ⟨hX2, hN⟩
      have hB := HB2.out.drew
      have hzx := hzX2
      have hzn := hn2
      clear hX2 hN
      go_region_held3 (fun w' => (∀ j, w'.cell? ⟨w.heap.size, j, none⟩ = (bC b a0 a1 a2 (some ⟨ob, off, none⟩) c0 c1 c2 c3)[j]?) /\ (∀ j, w'.cell? ⟨wr.heap.size, j, none⟩ = (#[.string b.ps[k].dr, .string b.ps[k].tm, .string b.ps[k].rs, .int .i64 b.ps[k].am, .int .i64 b.ps[k].un] : Array Value)[j]?)) (exact hS) (first
        | (go_at_call 128; refine (zcd b.ps[k] _).mono ?_; rintro e w3 ⟨rfl, hb3⟩; have hS := (⟨za hS.1 hzx hb3, za hS.2 hzn hb3⟩ : _ /\ _); have hB := hB.trans (hb3.mono hB.size); have hzx := Nat.lt_of_lt_of_le hzx hb3.size; have hzn := Nat.lt_of_lt_of_le hzn hb3.size; clear hb3)
        | (go_at_call 127; refine (zfQ _ _ b.ls b.ps[k].tm b.ps[k].rs _ (by exact HK.out.ls.mono (HBw.out _ hB)) (by have := HRL.out.2; omega) HRL.out.1).mono ?_; rintro e w3 ⟨⟨pl, rfl, _⟩, hb3⟩; have hS := (⟨za hS.1 hzx hb3, za hS.2 hzn hb3⟩ : _ /\ _); have hB := hB.trans (hb3.mono hB.size); have hzx := Nat.lt_of_lt_of_le hzx hb3.size; have hzn := Nat.lt_of_lt_of_le hzn hb3.size; clear hb3))
      have HB3 := hid hB
      have hX3 := hS.1
      have hN3 := hS.2
      clear hS hB
      have htk1 := htk
      have HN1 : ∀ v, Gate.zy b.ps[k].dr = v -> Hid (∀ W, Calls Tryz.prog 108 #[.string b.ps[k].dr] W fun e w' => e = .returned (.bool v) /\ w' = W) := fun v h W => zu h (zL _ W HSm.out.dr)
      have HW1 : ∀ v, Gate.within b.ps[k].am 1 1000000 = v -> Hid (∀ W, Calls Tryz.prog 113 #[.int .i64 b.ps[k].am, .int .i64 1, .int .i64 1000000] W fun e w' => e = .returned (.bool v) /\ w' = W) := fun v h W => zu h (qx _ _ _ W)
      have HW2 : ∀ v, Gate.within b.ps[k].un b.tick (b.tick + 10) = v -> Hid (∀ W, Calls Tryz.prog 113 #[.int .i64 b.ps[k].un, .int .i64 b.tick, .int .i64 (b.tick + 10)] W fun e w' => e = .returned (.bool v) /\ w' = W) := fun v h W => zu h (qx _ _ _ W)
      by_cases t1 : Gate.ji b.ls b.ps[k].tm b.ps[k].rs = true
      rotate_left
      · have HF : Hid (Gate.yD b = false) := HNo.out (by unfold Gate.yE; rw [Bool.eq_false_iff.2 t1]; rfl)
        rw [Bool.eq_false_iff.2 t1]
        clear HN1 HW1 HW2 t1
        go_wp2_with fail
        go_ret
        exact ⟨ze HF.out.symm, HBw.out _ HB3.out⟩
      rw [t1]
      by_cases t2 : Gate.zy b.ps[k].dr = true
      rotate_left
      · have HF : Hid (Gate.yD b = false) := HNo.out (by unfold Gate.yE; rw [t1, Bool.eq_false_iff.2 t2]; rfl)
        have Ht2 := HN1 false (Bool.eq_false_iff.2 t2)
        clear HN1 HW1 HW2 t1 t2
        go_wp2_with fail
        refine (Ht2.out _).mono ?_
        rintro e w4 ⟨rfl, rfl⟩
        go_wp2_with fail
        go_ret
        exact ⟨ze HF.out.symm, HBw.out _ HB3.out⟩
      have Ht2 := HN1 true t2
      by_cases t3 : Gate.within b.ps[k].am 1 1000000 = true
      rotate_left
      · have HF : Hid (Gate.yD b = false) := HNo.out (by unfold Gate.yE; rw [t1, t2, Bool.eq_false_iff.2 t3]; rfl)
        have Ht3 := HW1 false (Bool.eq_false_iff.2 t3)
        clear HN1 HW1 HW2 t1 t2 t3
        go_wp2_with fail
        refine (Ht2.out _).mono ?_
        rintro e w4 ⟨rfl, rfl⟩
        go_wp2_with fail
        refine (Ht3.out _).mono ?_
        rintro e w4 ⟨rfl, rfl⟩
        go_wp2_with fail
        go_ret
        exact ⟨ze HF.out.symm, HBw.out _ HB3.out⟩
      have Ht3 := HW1 true t3
      by_cases t4 : Gate.within b.ps[k].un b.tick (b.tick + 10) = true
      rotate_left
      · have HF : Hid (Gate.yD b = false) := HNo.out (by unfold Gate.yE; rw [t1, t2, t3, Bool.eq_false_iff.2 t4]; rfl)
        have Ht4 := HW2 false (Bool.eq_false_iff.2 t4)
        clear HN1 HW1 HW2 t1 t2 t3 t4
        go_wp2_with fail
        refine (Ht2.out _).mono ?_
        rintro e w4 ⟨rfl, rfl⟩
        go_wp2_with fail
        refine (Ht3.out _).mono ?_
        rintro e w4 ⟨rfl, rfl⟩
        go_wp2_with fail
        refine (Ht4.out _).mono ?_
        rintro e w4 ⟨rfl, rfl⟩
        go_wp2_with fail
        go_ret
        exact ⟨ze HF.out.symm, HBw.out _ HB3.out⟩
      have Ht4 := HW2 true t4
      have HY : Hid ((b.ps.take (k + 1)).all (Gate.yE b.ls b.tick) = true) := HYes.out (by unfold Gate.yE; rw [t1, t2, t3, t4]; rfl)
      clear HN1 HW1 HW2 t1 t2 t3 t4
      go_wp2_with fail
      refine (Ht2.out _).mono ?_
      rintro e w4 ⟨rfl, rfl⟩
      go_wp2_with fail
      refine (Ht3.out _).mono ?_
      rintro e w4 ⟨rfl, rfl⟩
      go_wp2_with fail
      refine (Ht4.out _).mono ?_
      rintro e w4 ⟨rfl, rfl⟩
      go_wp2_with fail
      exact ⟨⟨k + 1, by omega, by go_num, HY.out, HB3.out⟩, zm hlt⟩
    · have e : k = b.ps.length := by omega
      subst e
      have HE : Hid (Gate.yD b = true) := by
        unfold Hid
        rw [HG.out]
        have h := HQ.out.1
        rw [List.take_of_length_le (Nat.le_refl _)] at h
        exact h
      have HBe := hid (HB1.out.trans (HQ.out.2.mono HB1.out.size))
      clear hlt hk HQ
      go_wp2_with fail
      go_ret
      exact ⟨ze HE.out.symm, HBe.out⟩
end Go.Proofs.YtkfigdbbncjojaaGreat

namespace Go.Proofs.YtkfigdbbncjojaaGreat
open Go.RowKit
namespace Gate
def zab (s : Shp) (i : Nat) : ByteArray := (s.fs.getD i zaA).nm
def qH (s : Shp) (ms : List Mnd) (row : List ByteArray) (i : Nat) : Bool := !has row (zab s i) && zbc ms s.kd (zab s i) row
def zc1 (s : Shp) (ms : List Mnd) (row : List ByteArray) : List ByteArray := match (List.range s.fs.length).find? (qH s ms row) with | none => row | some i => row ++ [zab s i]
def zT (s : Shp) (ms : List Mnd) : Nat -> List ByteArray
  | 0 => []
  | k + 1 => zc1 s ms (zT s ms k)
theorem zjc (s : Shp) (ms : List Mnd) (row : List ByteArray) : (zc1 s ms row).length <= row.length + 1 := by
  unfold zc1; split
  · omega
  · simp
theorem zdl (s : Shp) (ms : List Mnd) : ∀ k, (zT s ms k).length <= k
  | 0 => Nat.le_refl _
  | k + 1 => Nat.le_trans (zjc s ms _) (by have := zdl s ms k; omega)
theorem zdo (s : Shp) (ms : List Mnd) : ∀ k, ∀ x ∈ zT s ms k, ∃ i, i < s.fs.length /\ x = zab s i
  | 0, x, h => by cases h
  | k + 1, x, h => by
    have h' : x ∈ zc1 s ms (zT s ms k) := h
    unfold zc1 at h'
    split at h'
    · exact zdo s ms k x h'
    · rename_i i hi
      rw [List.mem_append, List.mem_singleton] at h'
      rcases h' with h' | h'
      · exact zdo s ms k x h'
      · exact ⟨i, List.mem_range.1 (List.mem_of_find?_eq_some hi), h'⟩
end Gate
set_option maxRecDepth 20000 in
set_option maxHeartbeats 4000000 in
theorem ziQ (fa ma : Option Addr) (fcap mcap : Nat) (s : Shp) (ms : List Mnd) (w : World) (hf : zW w fa s.fs) (hm : y5 w ma ms) (hml : ms.length <= 12) (hn : s.fs.length <= 6) :
    Calls Tryz.prog 89 #[.agg #[.string s.kd, .slice fa s.fs.length fcap], .slice ma ms.length mcap] w fun e w' => ∃ v, e = .returned v /\ w'.ownsRow w.heap.size 9 1 v (Gate.zT s ms s.fs.length).length ((Gate.zT s ms s.fs.length).map Value.string) /\ Below w.heap.size w w' := by
  have HM := jO hf hm
  have HSM : Hid (∀ k, ∀ x ∈ Gate.zT s ms k, x.size <= maxLen) := by
    intro k x hx
    obtain ⟨i, hi, rfl⟩ := Gate.zdo s ms k x hx
    unfold Gate.zab
    rw [Gate.getD_at _ _ _ hi]
    exact (hf.smalls.small i hi).1.nm
  obtain ⟨i0, hi0, hz0, hz1', hz2⟩ := info_parts Tryz.zcm
  clear hf hm
  go_enter Tryz.func89, Tryz.ntmps89
  go_wp2_with fail
  have hnI : (s.fs.length : Int) <= 6 := by omega
  go_loopw [5, 6] (fun v0 iv wr => ∃ (k : Nat) (v : Value), v = v0 /\ k <= s.fs.length /\ iv = .int .i64 k /\ wr.ownsRow (w.heap.size + 1) 9 1 v (Gate.zT s ms k).length ((Gate.zT s ms k).map Value.string) /\ wr.heap[w.heap.size]? = some (.cells #[.string s.kd, .slice fa s.fs.length fcap] 127) /\ Below w.heap.size w wr) (fun _ iv _ => s.fs.length - (intOf iv).toNat)
  case atStart => exact ⟨0, _, rfl, Nat.zero_le _, rfl, ⟨rfl, .inr ⟨w.heap.size + 1, 0, #[], rfl, Nat.le_refl _, (zP _ _ _).2, Nat.le_refl _, by simp [maxLen], rfl, rfl⟩⟩, (zP _ _ _).1, zq _ _ _⟩
  case round =>
    obtain ⟨k, v, hv, hk, rfl, hown, hbox, hB⟩ := hrel
    subst hv
    obtain ⟨va, vcap, rfl⟩ := yM hown
    have HW := zee hown hbox hB
    have hXr : ∀ j, wr.cell? ⟨w.heap.size, j, none⟩ = (#[.string s.kd, .slice fa s.fs.length fcap] : Array Value)[j]? := fun j => cell_of_block hbox
    have hzr := (Array.getElem?_eq_some_iff.1 hbox).1
    have HGL : Hid ((Gate.zT s ms k).length <= 6) := by have := Gate.zdl s ms k; show _ <= _; omega
    clear hown hbox hB
    by_cases hlt : k < s.fs.length
    · have hltI : (k : Int) < (s.fs.length : Int) := by omega
      go_wp2_with fail
      clear hXr
      obtain ⟨wo, hwo⟩ : ∃ wo, wo = wr := ⟨_, rfl⟩
      have HWO : Hid (wo.ownsRow (w.heap.size + 1) 9 1 (.slice va (Gate.zT s ms k).length vcap) (Gate.zT s ms k).length ((Gate.zT s ms k).map Value.string) /\ wo.heap[w.heap.size]? = some (.cells #[.string s.kd, .slice fa s.fs.length fcap] 127) /\ Below w.heap.size w wo /\ w.heap.size < wo.heap.size) := by rw [hwo]; exact ⟨HW.out.1, HW.out.2.1, HW.out.2.2, hzr⟩
      have HWE := hid hwo
      clear hwo HW hzr
      go_loopw [5, 7] (fun v1 iv wq => ∃ i : Nat, i <= s.fs.length /\ iv = .int .i64 i /\ v1 = .slice va (Gate.zT s ms k).length vcap /\ (∀ q, q < i -> Gate.qH s ms (Gate.zT s ms k) q = false) /\ Below wo.heap.size wo wq) (fun _ iv _ => s.fs.length - (intOf iv).toNat)
      case atStart => exact ⟨0, Nat.zero_le _, rfl, rfl, fun q h => absurd h (by omega), by rw [HWE.out]; exact Below.refl _ _⟩
      case round =>
        obtain ⟨i, hi, rfl, rfl, hno, hBq⟩ := hrel
        have HQ := znz hno hBq (qy HWO.out.1 hBq) ((hBq.block _ HWO.out.2.2.2).trans HWO.out.2.1) (HWO.out.2.2.1.trans (hBq.mono HWO.out.2.2.1.size))
        have hXq := zay HQ.out.2.2.2.1
        have hzq := (Array.getElem?_eq_some_iff.1 HQ.out.2.2.2.1).1
        clear hno hBq
        by_cases hil : i < s.fs.length
        · have hilI : (i : Int) < (s.fs.length : Int) := by omega
          obtain ⟨fb, foff, rfl, hfb, hr⟩ := HM.out.1.rows (by intro e; rw [e] at hil; simp at hil)
          obtain ⟨wa, wcap, hf0⟩ := hr i hil
          obtain ⟨c0, c1, c2, c3, c4, c5, c6, c7, c8, c9, c10⟩ := (hf0.mono hfb HQ.out.2.2.2.2).load
          have HNM : Hid (Gate.zab s i = s.fs[i].nm) := by unfold Hid Gate.zab; rw [Gate.getD_at _ _ _ hil]
          have HST := hid (zjK HQ.out.2.2.1 (by have := HGL.out; unfold maxLen; omega) (HSM.out k))
          have HFIND : Hid (Gate.qH s ms (Gate.zT s ms k) i = true -> Gate.zT s ms (k + 1) = Gate.zT s ms k ++ [s.fs[i].nm]) := by
            intro h
            show Gate.zc1 s ms (Gate.zT s ms k) = _
            unfold Gate.zc1
            have : (List.range s.fs.length).find? (Gate.qH s ms (Gate.zT s ms k)) = some i := by
              rw [List.find?_range_eq_some]
              exact ⟨h, List.mem_range.2 hil, fun j hj => by rw [HQ.out.1 j hj]; rfl⟩
            rw [this]
            show Gate.zT s ms k ++ [Gate.zab s i] = _
            rw [HNM.out]
          clear hr hf0 c1 c2 c3 c4 c5 c6 c7 c8 c9 c10
          go_wp2_with fail
          have h := zbm va vcap (Gate.zT s ms k) s.fs[i].nm wr HST.out
          rcases hh : Gate.has (Gate.zT s ms k) s.fs[i].nm with _ | _
          rotate_left
          · rw [hh] at h
            refine h.mono ?_
            rintro e w3 ⟨rfl, rfl⟩
            have HNR : Hid (∀ q, q < i + 1 -> Gate.qH s ms (Gate.zT s ms k) q = false) := by
              intro q hq
              rcases Nat.lt_or_ge q i with h1 | h1
              · exact HQ.out.1 q h1
              · have e : q = i := by omega
                subst e; unfold Gate.qH; rw [HNM.out, hh]; rfl
            clear h hh
            go_wp2_with fail
            exact ⟨⟨i + 1, by omega, by go_num, rfl, HNR.out, HQ.out.2.1⟩, zm hil⟩
          rw [hh] at h
          refine h.mono ?_
          rintro e w3' ⟨rfl, hw3⟩
          rw [hw3]
          clear hw3 w3'
          have HRN : Hid (Gate.qH s ms (Gate.zT s ms k) i = Gate.zbc ms s.kd s.fs[i].nm (Gate.zT s ms k)) := by unfold Hid Gate.qH; rw [HNM.out, hh]; rfl
          clear h hh
          go_wp2_with fail
          have h := zku ma va mcap vcap ms s.kd s.fs[i].nm (Gate.zT s ms k) wr (HM.out.2.mono HQ.out.2.2.2.2) HST.out hml
          rcases hh : Gate.zbc ms s.kd s.fs[i].nm (Gate.zT s ms k) with _ | _
          · rw [hh] at h
            refine h.mono ?_
            rintro e w3 ⟨rfl, hb3⟩
            have HNR : Hid ((∀ q, q < i + 1 -> Gate.qH s ms (Gate.zT s ms k) q = false) /\ Below wo.heap.size wo w3) := by
              refine ⟨fun q hq => ?_, HQ.out.2.1.trans (hb3.mono HQ.out.2.1.size)⟩
              rcases Nat.lt_or_ge q i with h1 | h1
              · exact HQ.out.1 q h1
              · have e : q = i := by omega
                subst e; rw [HRN.out, hh]
            clear h hh hb3
            go_wp2_with fail
            exact ⟨⟨i + 1, by omega, by go_num, rfl, HNR.out.1, HNR.out.2⟩, zm hil⟩
          rw [hh] at h
          refine h.mono ?_
          rintro e w3 ⟨rfl, hb3⟩
          have HG1 := hid (HFIND.out (by rw [HRN.out, hh]))
          have H3 := zkz (qy HQ.out.2.2.1 hb3) ((hb3.block _ hzq).trans HQ.out.2.2.2.1) (HQ.out.2.2.2.2.trans (hb3.mono HQ.out.2.2.2.2.size)) (Nat.lt_of_lt_of_le hzq hb3.size)
          clear h hh hb3 hXq c0
          go_wp2_with (at_builtin; refine zff ?_)
          show wpList _ _ _ _ _ _
          refine wpList_append_own _ rfl (.tmp 42) (.tmp 44) 87 rfl (w.heap.size + 1) 9 i0 (.string ByteArray.empty) 1 16 Tryz.underlying87 hi0 hz0 hz1' hz2 rfl (by decide) (.slice va (Gate.zT s ms k).length vcap) _ _ rfl (H3.out.1.alloc _) ⟨w3.heap.size, 0, none⟩ 1 1 [.string s.fs[i].nm] rfl rfl (zdf _ _ _) (by intro u hu; simp at hu; subst hu; rfl) (by have := HGL.out; unfold maxLen; omega) (by have := HGL.out; omega) (by have := H3.out.2.2.2; simp; omega) ?_
          intro v' w4 hown' hgr _
          obtain ⟨va', vcap', rfl⟩ := yM hown'
          have hgb : ∀ g, (Value.slice va (Gate.zT s ms k).length vcap).ownBlock = some g -> w.heap.size + 1 <= g := fun g hg => (H3.out.1.lt g hg).1
          have HY : Hid (w4.ownsRow (w.heap.size + 1) 9 1 (.slice va' ((Gate.zT s ms k).length + 1) vcap') (Gate.zT s ms (k + 1)).length ((Gate.zT s ms (k + 1)).map Value.string) /\ w4.heap[w.heap.size]? = some (.cells #[.string s.kd, .slice (some ⟨fb, foff, none⟩) s.fs.length fcap] 127) /\ Below w.heap.size w w4) := by
            refine ⟨by rw [HG1.out, List.length_append, List.map_append]; exact hown', ?_, zbN H3.out.2.2.1 H3.out.2.2.1.size hgr (fun g hg => by have := hgb g hg; omega)⟩
            exact (jR hgr (by have := H3.out.2.2.2; simp; omega) (fun g hg => by have := hgb g hg; omega)).trans ((Below.heap_alloc _ _ _ H3.out.2.2.2).trans H3.out.2.1)
          clear hown' hgr hgb
          go_wp2_with fail
          exact ⟨⟨k + 1, _, rfl, by omega, by go_num, HY.out.1, HY.out.2.1, HY.out.2.2⟩, zm hlt⟩
        · have e : i = s.fs.length := by omega
          have HN : Hid (Gate.zT s ms (k + 1) = Gate.zT s ms k) := by
            show Gate.zc1 s ms (Gate.zT s ms k) = _
            unfold Gate.zc1
            have : (List.range s.fs.length).find? (Gate.qH s ms (Gate.zT s ms k)) = none := by
              rw [List.find?_eq_none]
              intro q hq
              rw [HQ.out.1 q (by rw [e]; exact List.mem_range.1 hq)]
              simp
            rw [this]
          subst e
          go_wp2_with fail
          exact ⟨⟨k + 1, _, rfl, by omega, by go_num, by rw [HN.out]; exact HQ.out.2.2.1, HQ.out.2.2.2.1, HQ.out.2.2.2.2⟩, zm hlt⟩
    · have e : k = s.fs.length := by omega
      subst e
      go_wp2_with fail
      go_ret
      exact ⟨_, rfl, zbK HW.out.1 (by omega), HW.out.2.2⟩
end Go.Proofs.YtkfigdbbncjojaaGreat

namespace Go.Proofs.YtkfigdbbncjojaaGreat
open Go.RowKit
namespace Gate
def zc0 {α : Type} (p : α -> Bool) (l : List α) : Int := if l.any p = true then (l.findIdx p : Int) else -1
theorem zl7 {α : Type} {p : α -> Bool} {l : List α} {k : Nat} (hk : k < l.length) (h : ∀ i (hi : i < l.length), i < k -> p l[i] = false) (hp : p l[k] = true) : zc0 p l = k := by
  unfold zc0
  rw [if_pos (List.any_eq_true.2 ⟨l[k], List.getElem_mem _, hp⟩)]
  have e : l.findIdx p = k := (List.findIdx_eq hk).2 ⟨hp, fun j hj => h j (by omega) hj⟩
  rw [e]
theorem zi0 {α : Type} {p : α -> Bool} {l : List α} (h : ∀ i (hi : i < l.length), p l[i] = false) : zc0 p l = -1 := by
  unfold zc0
  rw [if_neg]
  intro hc
  obtain ⟨x, hx, hp⟩ := List.any_eq_true.1 hc
  obtain ⟨i, hi, rfl⟩ := List.mem_iff_getElem.1 hx
  rw [h i hi] at hp
  cases hp
theorem zex {α : Type} (p : α -> Bool) (l : List α) : zc0 p l < 0 ↔ l.any p = false := by
  unfold zc0
  split
  · rename_i h; rw [h]; constructor
    · intro h'; omega
    · intro h'; cases h'
  · rename_i h
    exact ⟨fun _ => by simpa using h, fun _ => by omega⟩
def zbg (kd nm : ByteArray) (o : Ob) : Bool := decide (o.kd = kd) && decide (o.nm = nm)
def zdS (tm rs : ByteArray) (g : Lg) : Bool := decide (g.tm = tm) && decide (g.rs = rs)
def zlX (tm rs : ByteArray) (p : Pu) : Bool := decide (p.tm = tm) && decide (p.rs = rs)
def zao (ps : List Pu) (tm rs : ByteArray) : Nat -> Int
  | 0 => 0
  | k + 1 => zao ps tm rs k + (match ps[k]? with | some p => if zlX tm rs p = true then p.am else 0 | none => 0)
def out (ps : List Pu) (tm rs : ByteArray) : Int := zao ps tm rs ps.length
theorem zdy (ps : List Pu) (tm rs : ByteArray) (k : Nat) (h : k < ps.length) : zao ps tm rs (k + 1) = zao ps tm rs k + (if zlX tm rs ps[k] = true then ps[k].am else 0) := by
  simp only [zao, List.getElem?_eq_getElem h]
theorem zbk (ps : List Pu) (tm rs : ByteArray) (ha : ∀ i (h : i < ps.length), 0 <= ps[i].am /\ ps[i].am <= 1000000) : ∀ k, k <= ps.length -> 0 <= zao ps tm rs k /\ zao ps tm rs k <= k * 1000000
  | 0, _ => by simp [zao]
  | k + 1, h => by
    have h1 := zbk ps tm rs ha k (by omega)
    have h2 := ha k h
    rw [zdy ps tm rs k h]
    split <;> omega
end Gate
set_option maxHeartbeats 400000 in
theorem zfh (x y : ByteArray) (w : World) : Calls Tryz.prog 93 #[.string x, .string y] w fun e w' => e = .returned (.int .i64 (Gate.key x y)) /\ w' = w := by
  have k1 := Gate.zhC x y
  have k2 := Gate.zhC y x
  have k3 := Gate.zno x y
  have k4 := Gate.zkd x y
  unfold Gate.less at k1 k2
  by_cases h1 : Gate.key x y = -1
  · have HF := zhN h1
    have e1 : Op.bytesLess x.toList y.toList = true := by rw [k1]; simpa using h1
    clear k1 k2 k3 k4 h1
    go_enter Tryz.func93, Tryz.ntmps93
    go_wp2_with fail
    go_ret
    exact ⟨zk HF.out.symm, rfl⟩
  · have e1 : Op.bytesLess x.toList y.toList = false := by rw [k1]; simpa using h1
    by_cases h2 : Gate.key y x = -1
    · have HF : Hid (Gate.key x y = 1) := by unfold Hid; omega
      have e2 : Op.bytesLess y.toList x.toList = true := by rw [k2]; simpa using h2
      have e3 : (x.toList == y.toList) = false := by rw [Gate.beq_toList, decide_eq_false_iff_not]; intro e; have := (Gate.zaz x y).2 e; omega
      clear k1 k2 k3 k4 h1 h2
      go_enter Tryz.func93, Tryz.ntmps93
      go_wp2_with fail
      go_ret
      exact ⟨zk HF.out.symm, rfl⟩
    · have HF : Hid (Gate.key x y = 0) := by unfold Hid; omega
      have e2 : Op.bytesLess y.toList x.toList = false := by rw [k2]; simpa using h2
      have e3 : (x.toList == y.toList) = true := by rw [Gate.beq_toList, decide_eq_true_eq]; exact (Gate.zaz x y).1 HF.out
      clear k1 k2 k3 k4 h1 h2
      go_enter Tryz.func93, Tryz.ntmps93
      go_wp2_with fail
      go_ret
      exact ⟨zk HF.out.symm, rfl⟩
set_option maxHeartbeats 400000 in
theorem zeW (x y z u : ByteArray) (w : World) : Calls Tryz.prog 51 #[.string x, .string y, .string z, .string u] w fun e w' => e = .returned (.int .i64 (Gate.key2 x y z u)) /\ w' = w := by
  by_cases h : Gate.key x z = 0
  · have HF : Hid (Gate.key2 x y z u = Gate.key y u) := by unfold Hid Gate.key2; rw [if_pos h]
    have e1 : (Gate.key x z != 0) = false := by simpa using h
    clear h
    go_enter Tryz.func51, Tryz.ntmps51
    go_wp2_with (go_at_call 93; refine (zfh _ _ _).mono ?_; rintro e w2 ⟨rfl, rfl⟩)
    go_ret
    exact ⟨zk HF.out.symm, rfl⟩
  · have HF : Hid (Gate.key2 x y z u = Gate.key x z) := by unfold Hid Gate.key2; rw [if_neg h]
    have e1 : (Gate.key x z != 0) = true := by simpa using h
    clear h
    go_enter Tryz.func51, Tryz.ntmps51
    go_wp2_with (go_at_call 93; refine (zfh _ _ _).mono ?_; rintro e w2 ⟨rfl, rfl⟩)
    go_ret
    exact ⟨zk HF.out.symm, rfl⟩
set_option maxHeartbeats 400000 in
theorem zhd (p q : Pu) (w : World) : Calls Tryz.prog 59 #[.agg p.cells, .agg q.cells] w fun e w' => e = .returned (.int .i64 (Gate.jl p q)) /\ Below w.heap.size w w' := by
  unfold Pu.cells
  by_cases h : p.dr = q.dr
  · have HF : Hid (Gate.jl p q = Gate.key2 p.tm p.rs q.tm q.rs) := by unfold Hid Gate.jl; rw [if_pos ((Gate.zaz _ _).2 h)]
    have e1 : (p.dr.toList == q.dr.toList) = true := by rw [Gate.beq_toList]; simpa using h
    clear h
    go_enter Tryz.func59, Tryz.ntmps59
    go_wp2_with fail
    refine (zeW _ _ _ _ _).mono ?_
    rintro e w2 ⟨rfl, rfl⟩
    go_wp2_with fail
    go_ret
    exact ⟨zk HF.out.symm, zq _ _ _⟩
  · have HF : Hid (Gate.jl p q = Gate.key p.dr q.dr) := by unfold Hid Gate.jl; rw [if_neg (fun e => h ((Gate.zaz _ _).1 e))]
    have e1 : (p.dr.toList == q.dr.toList) = false := by rw [Gate.beq_toList]; simpa using h
    clear h
    go_enter Tryz.func59, Tryz.ntmps59
    go_wp2_with fail
    refine (zfh _ _ _).mono ?_
    rintro e w2 ⟨rfl, rfl⟩
    go_wp2_with fail
    go_ret
    exact ⟨zk HF.out.symm, zq _ _ _⟩
set_option maxHeartbeats 2000000 in
theorem znA (b : Bk) (a0 a1 a2 a3 : Option Addr) (c0 c1 c2 c3 : Nat) (kd nm : ByteArray) (w : World) (hb : qY w b a0 a1 a2 a3) (hl : b.os.length <= 1048576) :
    Calls Tryz.prog 55 #[.agg (b.cells a0 a1 a2 a3 c0 c1 c2 c3), .string kd, .string nm] w fun e w' => e = .returned (.int .i64 (Gate.zc0 (Gate.zbg kd nm) b.os)) /\ Below w.heap.size w w' := by
  have HK : Hid (qY w b a0 a1 a2 a3) := hb
  clear hb
  unfold Bk.cells
  go_enter Tryz.func55, Tryz.ntmps55
  go_wp2_with fail
  have hX0 := zH w (bC b a0 a1 a2 a3 c0 c1 c2 c3) 47
  have HB0 : Hid (Below w.heap.size w (w.alloc (.cells (bC b a0 a1 a2 a3 c0 c1 c2 c3) 47))) := (Below.refl _ _).alloc (Nat.le_refl _) _
  obtain ⟨W0, hW0⟩ : ∃ W0, W0 = w.alloc (.cells (bC b a0 a1 a2 a3 c0 c1 c2 c3) 47) := ⟨_, rfl⟩
  have hz0 : w.heap.size < W0.heap.size := by rw [hW0]; simp
  rw [<- hW0] at HB0 hX0 ⊢
  clear hW0
  go_loopw [7] (fun iv wr => ∃ k : Nat, k <= b.os.length /\ iv = .int .i64 k /\ Hid (∀ i (hi : i < b.os.length), i < k -> Gate.zbg kd nm b.os[i] = false) /\ wr = W0) (fun iv _ => b.os.length - (intOf iv).toNat)
  case atStart => exact ⟨0, Nat.zero_le _, rfl, fun i hi h => by omega, rfl⟩
  case round =>
    obtain ⟨k, hk, rfl, HQ, rfl⟩ := hrel
    have hkn : k <= 1048576 := by omega
    by_cases hlt : k < b.os.length
    · obtain ⟨ob, off, v0, v1, q0, q1, rfl, hob, hsm, hl0, hl1, d0, d1, d2, d3, d4, d5, d6⟩ := HK.out.os.load HB0.out k hlt
      have hltI : (k : Int) < (b.os.length : Int) := by omega
      clear hsm hl0 hl1
      by_cases h1 : b.os[k].kd = kd
      · have e1 : (b.os[k].kd.toList == kd.toList) = true := by rw [Gate.beq_toList]; simpa using h1
        by_cases h2 : b.os[k].nm = nm
        · have e2 : (b.os[k].nm.toList == nm.toList) = true := by rw [Gate.beq_toList]; simpa using h2
          have HF : Hid (Gate.zc0 (Gate.zbg kd nm) b.os = k) := Gate.zl7 hlt HQ.out (by unfold Gate.zbg; simp [h1, h2])
          clear h1 h2
          go_wp2_with fail
          go_ret
          exact ⟨zk HF.out.symm, HB0.out⟩
        · have e2 : (b.os[k].nm.toList == nm.toList) = false := by rw [Gate.beq_toList]; simpa using h2
          have HN : Hid (∀ i (hi : i < b.os.length), i < k + 1 -> Gate.zbg kd nm b.os[i] = false) := by
            intro i hi h
            rcases Nat.eq_or_lt_of_le (Nat.le_of_lt_succ h) with e | h'
            · subst e; unfold Gate.zbg; simp [h2]
            · exact HQ.out i hi h'
          clear h1 h2
          go_wp2_with fail
          exact ⟨⟨k + 1, by omega, by go_num, HN.out, trivial⟩, zm hlt⟩
      · have e1 : (b.os[k].kd.toList == kd.toList) = false := by rw [Gate.beq_toList]; simpa using h1
        have HN : Hid (∀ i (hi : i < b.os.length), i < k + 1 -> Gate.zbg kd nm b.os[i] = false) := by
          intro i hi h
          rcases Nat.eq_or_lt_of_le (Nat.le_of_lt_succ h) with e | h'
          · subst e; unfold Gate.zbg; simp [h1]
          · exact HQ.out i hi h'
        clear h1
        go_wp2_with fail
        exact ⟨⟨k + 1, by omega, by go_num, HN.out, trivial⟩, zm hlt⟩
    · have HF : Hid (Gate.zc0 (Gate.zbg kd nm) b.os = -1) := Gate.zi0 fun i hi => HQ.out i hi (by omega)
      clear HQ
      go_wp2_with fail
      go_ret
      exact ⟨zk HF.out.symm, HB0.out⟩
set_option maxHeartbeats 2000000 in
theorem zjq (b : Bk) (a0 a1 a2 a3 : Option Addr) (c0 c1 c2 c3 : Nat) (tm rs : ByteArray) (w : World) (hb : qY w b a0 a1 a2 a3) (hl : b.ls.length <= 1048576) :
    Calls Tryz.prog 58 #[.agg (b.cells a0 a1 a2 a3 c0 c1 c2 c3), .string tm, .string rs] w fun e w' => e = .returned (.int .i64 (Gate.zc0 (Gate.zdS tm rs) b.ls)) /\ Below w.heap.size w w' := by
  have HK : Hid (qY w b a0 a1 a2 a3) := hb
  clear hb
  unfold Bk.cells
  go_enter Tryz.func58, Tryz.ntmps58
  go_wp2_with fail
  have hX0 := zH w (bC b a0 a1 a2 a3 c0 c1 c2 c3) 47
  have HB0 : Hid (Below w.heap.size w (w.alloc (.cells (bC b a0 a1 a2 a3 c0 c1 c2 c3) 47))) := (Below.refl _ _).alloc (Nat.le_refl _) _
  obtain ⟨W0, hW0⟩ : ∃ W0, W0 = w.alloc (.cells (bC b a0 a1 a2 a3 c0 c1 c2 c3) 47) := ⟨_, rfl⟩
  have hz0 : w.heap.size < W0.heap.size := by rw [hW0]; simp
  rw [<- hW0] at HB0 hX0 ⊢
  clear hW0
  go_loopw [7] (fun iv wr => ∃ k : Nat, k <= b.ls.length /\ iv = .int .i64 k /\ Hid (∀ i (hi : i < b.ls.length), i < k -> Gate.zdS tm rs b.ls[i] = false) /\ wr = W0) (fun iv _ => b.ls.length - (intOf iv).toNat)
  case atStart => exact ⟨0, Nat.zero_le _, rfl, fun i hi h => by omega, rfl⟩
  case round =>
    obtain ⟨k, hk, rfl, HQ, rfl⟩ := hrel
    have hkn : k <= 1048576 := by omega
    by_cases hlt : k < b.ls.length
    · obtain ⟨ob, off, rfl, hob, d0, d1, d2, d3⟩ := HK.out.ls.load HB0.out k hlt
      have hltI : (k : Int) < (b.ls.length : Int) := by omega
      clear d2 d3
      by_cases h1 : b.ls[k].tm = tm
      · have e1 : (b.ls[k].tm.toList == tm.toList) = true := by rw [Gate.beq_toList]; simpa using h1
        by_cases h2 : b.ls[k].rs = rs
        · have e2 : (b.ls[k].rs.toList == rs.toList) = true := by rw [Gate.beq_toList]; simpa using h2
          have HF : Hid (Gate.zc0 (Gate.zdS tm rs) b.ls = k) := Gate.zl7 hlt HQ.out (by unfold Gate.zdS; simp [h1, h2])
          clear h1 h2
          go_wp2_with fail
          go_ret
          exact ⟨zk HF.out.symm, HB0.out⟩
        · have e2 : (b.ls[k].rs.toList == rs.toList) = false := by rw [Gate.beq_toList]; simpa using h2
          have HN : Hid (∀ i (hi : i < b.ls.length), i < k + 1 -> Gate.zdS tm rs b.ls[i] = false) := by
            intro i hi h
            rcases Nat.eq_or_lt_of_le (Nat.le_of_lt_succ h) with e | h'
            · subst e; unfold Gate.zdS; simp [h2]
            · exact HQ.out i hi h'
          clear h1 h2
          go_wp2_with fail
          exact ⟨⟨k + 1, by omega, by go_num, HN.out, trivial⟩, zm hlt⟩
      · have e1 : (b.ls[k].tm.toList == tm.toList) = false := by rw [Gate.beq_toList]; simpa using h1
        have HN : Hid (∀ i (hi : i < b.ls.length), i < k + 1 -> Gate.zdS tm rs b.ls[i] = false) := by
          intro i hi h
          rcases Nat.eq_or_lt_of_le (Nat.le_of_lt_succ h) with e | h'
          · subst e; unfold Gate.zdS; simp [h1]
          · exact HQ.out i hi h'
        clear h1
        go_wp2_with fail
        exact ⟨⟨k + 1, by omega, by go_num, HN.out, trivial⟩, zm hlt⟩
    · have HF : Hid (Gate.zc0 (Gate.zdS tm rs) b.ls = -1) := Gate.zi0 fun i hi => HQ.out i hi (by omega)
      clear HQ
      go_wp2_with fail
      go_ret
      exact ⟨zk HF.out.symm, HB0.out⟩
end Go.Proofs.YtkfigdbbncjojaaGreat
