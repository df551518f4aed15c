import Derived.Test.YtkfigdbbncjojaaGreatM40
import Derived.Test.YtkfigdbbncjojaaGreatM41
import Derived.Test.YtkfigdbbncjojaaGreatM28
namespace Go.Proofs.YtkfigdbbncjojaaGreat
open Go.RowKit
namespace Gate
def zaq (ss : List Shp) (m : Mnd) : Bool := zC ss m.kd && zcn (shapeOf ss m.kd).fs m
def za8 (ms : List Mnd) (s : Shp) : Bool := decide ((zT s ms s.fs.length).length = s.fs.length)
def qD (ss : List Shp) (ms : List Mnd) : Bool := zM ss && decide (ms.length <= 12) && ms.all (zaq ss) && ss.all (za8 ms)
end Gate
set_option maxHeartbeats 1000000 in
theorem zjy (a : Option Addr) (cap : Nat) (ss : List Shp) (m : Mnd) (w : World) (hw : yB w a ss) (hm : m.Small) :
    Calls Tryz.prog 88 #[.slice a ss.length cap, .agg m.cells] w fun e w' => e = .returned (.bool (Gate.zaq ss m)) /\ Below w.heap.size w w' := by
  by_cases hk : Gate.zC ss m.kd = true
  · refine (zjN a cap ss m w hw hm hk).mono ?_
    rintro e w' ⟨rfl, hb⟩
    exact ⟨by unfold Gate.zaq; rw [hk]; rfl, hb⟩
  · have hkf : Gate.zC ss m.kd = false := by simpa using hk
    have HF : Hid (Gate.zaq ss m = false) := by unfold Hid Gate.zaq; rw [hkf]; rfl
    unfold Mnd.cells
    have hba := (Below.refl w.heap.size w).alloc (Nat.le_refl _) (.cells #[.string m.kd, .string m.fd, .string m.wh, .string m.wi, .string m.pt, .string m.fr] 129)
    go_enter Tryz.func88, Tryz.ntmps88
    go_wp2_with fail
    refine (zdV _ _ _ _ _ (hw.mono hba) hkf).mono ?_
    rintro e w1 ⟨rfl, rfl⟩
    go_wp2_with fail
    go_ret
    exact ⟨by rw [HF.out]; rfl, hba⟩
set_option maxRecDepth 20000 in
set_option maxHeartbeats 4000000 in
theorem zcX (a a' : Option Addr) (cap cap' : Nat) (ss : List Shp) (ms : List Mnd) (w : World) (hw : yB w a ss) (hm : y5 w a' ms) :
    Calls Tryz.prog 47 #[.slice a ss.length cap, .slice a' ms.length cap'] w fun e w' => e = .returned (.bool (Gate.qD ss ms)) /\ Below w.heap.size w w' := by
  have HW := jO hw hm
  have hl := hw.len
  have hml := hm.len
  unfold maxLen at hl hml
  clear hw hm
  by_cases hok : Gate.zM ss = true
  rotate_left
  · have hokf : Gate.zM ss = false := by simpa using hok
    have HF : Hid (Gate.qD ss ms = false) := by unfold Hid Gate.qD; rw [hokf]; simp
    go_enter Tryz.func47, Tryz.ntmps47
    go_wp2_with fail
    have h := zaR a cap ss w HW.out.1
    rw [hokf] at h
    refine h.mono ?_
    rintro e w1 ⟨rfl, hb1⟩
    clear h
    go_wp2_with fail
    go_ret
    exact ⟨by rw [HF.out]; rfl, hb1⟩
  have HOK := hid hok
  by_cases h12 : ms.length <= 12
  rotate_left
  · have HF : Hid (Gate.qD ss ms = false) := by unfold Hid Gate.qD; rw [decide_eq_false h12]; simp
    go_enter Tryz.func47, Tryz.ntmps47
    go_wp2_with fail
    have h := zaR a cap ss w HW.out.1
    rw [hok] at h
    refine h.mono ?_
    rintro e w1 ⟨rfl, hb1⟩
    clear h hok
    go_wp2_with fail
    go_ret
    exact ⟨by rw [HF.out]; rfl, hb1⟩
  have h12I : (ms.length : Int) <= 12 := by omega
  go_enter Tryz.func47, Tryz.ntmps47
  go_wp2_with fail
  have h := zaR a cap ss w HW.out.1
  rw [hok] at h
  refine h.mono ?_
  rintro e w1 ⟨rfl, hb1⟩
  have HB1 := hid hb1
  clear h hok hb1
  go_wp2_with fail
  go_loopw [5] (fun iv wr => ∃ k : Nat, k <= ms.length /\ iv = .int .i64 k /\ (ms.take k).all (Gate.zaq ss) = true /\ Below w.heap.size w wr) (fun iv _ => ms.length - (intOf iv).toNat)
  case atStart => exact ⟨0, Nat.zero_le _, rfl, rfl, HB1.out⟩
  case round =>
    obtain ⟨k, hk, rfl, hall, hB⟩ := hrel
    have HB := hid hB
    have HA := hid hall
    clear hall hB
    by_cases hlt : k < ms.length
    · obtain ⟨b, off, rfl, hb, c0, c1, c2, c3, c4, c5⟩ := HW.out.2.load HB.out k hlt
      have hltI : (k : Int) < (ms.length : Int) := by omega
      have HSM := hid (HW.out.2.small k hlt)
      have HTK : Hid ((ms.take (k + 1)).all (Gate.zaq ss) = Gate.zaq ss ms[k]) := by
        unfold Hid; rw [List.take_succ_eq_append_getElem hlt, List.all_append, HA.out]; simp
      have HNO : Hid (Gate.zaq ss ms[k] = false -> Gate.qD ss ms = false) := by
        intro h
        have : ms.all (Gate.zaq ss) = false := by rw [List.all_eq_false]; exact ⟨_, List.getElem_mem hlt, by rw [h]; simp⟩
        unfold Gate.qD; rw [this]; simp
      go_wp2_with fail
      have h := zjy a cap ss ms[k] wr (HW.out.1.mono HB.out) HSM.out
      rcases hh : Gate.zaq ss ms[k] with _ | _
      · rw [hh] at h
        refine h.mono ?_
        rintro e w3 ⟨rfl, hb3⟩
        have HF := jO (HNO.out hh) (HB.out.trans (hb3.mono HB.out.size))
        clear h hb3 hh c0 c1 c2 c3 c4 c5
        go_wp2_with fail
        go_ret
        exact ⟨by rw [HF.out.1]; rfl, HF.out.2⟩
      · rw [hh] at h
        refine h.mono ?_
        rintro e w3 ⟨rfl, hb3⟩
        have HY : Hid ((ms.take (k + 1)).all (Gate.zaq ss) = true /\ Below w.heap.size w w3) := ⟨by rw [HTK.out]; exact hh, HB.out.trans (hb3.mono HB.out.size)⟩
        clear h hb3 hh c0 c1 c2 c3 c4 c5
        go_wp2_with fail
        exact ⟨⟨k + 1, by omega, by go_num, HY.out.1, HY.out.2⟩, zm hlt⟩
    · have e : k = ms.length := by omega
      have hall := HA.out
      rw [e, List.take_of_length_le (Nat.le_refl _)] at hall
      have HALL := hid hall
      subst e
      clear hall HA
      go_wp2_with fail
      have HBw := hid HB.out
      clear HB
      go_loopw [6] (fun iv wq => ∃ k : Nat, k <= ss.length /\ iv = .int .i64 k /\ (ss.take k).all (Gate.za8 ms) = true /\ Below w.heap.size w wq) (fun iv _ => ss.length - (intOf iv).toNat)
      case atStart => exact ⟨0, Nat.zero_le _, rfl, rfl, HBw.out⟩
      case round =>
        obtain ⟨k, hk, rfl, hall, hB⟩ := hrel
        have HB := hid hB
        have HA := hid hall
        clear hall hB
        by_cases hlt : k < ss.length
        · obtain ⟨b, off, rfl, hb, hr⟩ := HW.out.1.rows (by rintro rfl; simp at hlt)
          obtain ⟨fa, fcap, hs0⟩ := hr k hlt
          have HSI : Hid (∀ W, Below w.heap.size w W -> ziz W b (off + k * 2) ss[k] fa fcap) := fun W hbb => hs0.mono hb hbb
          have hck := (HSI.out _ HB.out).kind
          have hcl := (HSI.out _ HB.out).list
          have hltI : (k : Int) < (ss.length : Int) := by omega
          have HTK : Hid ((ss.take (k + 1)).all (Gate.za8 ms) = Gate.za8 ms ss[k]) := by
            unfold Hid; rw [List.take_succ_eq_append_getElem hlt, List.all_append, HA.out]; simp
          have HNO : Hid (Gate.za8 ms ss[k] = false -> Gate.qD ss ms = false) := by
            intro h
            have : ss.all (Gate.za8 ms) = false := by rw [List.all_eq_false]; exact ⟨_, List.getElem_mem hlt, by rw [h]; simp⟩
            unfold Gate.qD; rw [this]; simp
          have HFW := hid (Gate.zdU HOK.out k hlt)
          clear hr hs0
          go_wp2_with fail
          have hbc := HB.out.drew
          have hL := (⟨(HSI.out _ hbc).kind, (HSI.out _ hbc).list⟩ : _ /\ _)
          go_region_held3 (fun w' => w'.cell? ⟨b, off + k * 2, none⟩ = some (.string ss[k].kd) /\ w'.cell? ⟨b, off + k * 2 + 1, none⟩ = some (.slice fa ss[k].fs.length fcap)) (exact hL) (first
            | (go_at_call 89; refine (ziQ fa a' fcap cap' ss[k] ms _ (by exact (HSI.out _ hbc).flds) (by exact HW.out.2.mono hbc) h12 HFW.out).mono ?_; rintro e w5 ⟨v5, rfl, hrow, hb5⟩; obtain ⟨ra, rcap, rfl⟩ := yM hrow; have hbc := hbc.trans (hb5.mono hbc.size); have hL := (⟨(HSI.out _ hbc).kind, (HSI.out _ hbc).list⟩ : _ /\ _); clear hb5 hrow))
          by_cases hrk : (Gate.zT ss[k] ms ss[k].fs.length).length = ss[k].fs.length
          · have hrI : (((Gate.zT ss[k] ms ss[k].fs.length).length : Int) != (ss[k].fs.length : Int)) = false := by rw [hrk]; simp
            have HY : Hid ((ss.take (k + 1)).all (Gate.za8 ms) = true) := by unfold Hid; rw [HTK.out]; unfold Gate.za8; exact decide_eq_true hrk
            clear hrk
            go_wp2_with fail
            exact ⟨⟨k + 1, by omega, by go_num, HY.out, hbc⟩, zm hlt⟩
          · have hrI : (((Gate.zT ss[k] ms ss[k].fs.length).length : Int) != (ss[k].fs.length : Int)) = true := by rw [bne_iff_ne]; omega
            have HF : Hid (Gate.qD ss ms = false) := HNO.out (by unfold Gate.za8; exact decide_eq_false hrk)
            clear hrk
            go_wp2_with fail
            go_ret
            exact ⟨by rw [HF.out]; rfl, hbc⟩
        · have e : k = ss.length := by omega
          have hall := HA.out
          rw [e, List.take_of_length_le (Nat.le_refl _)] at hall
          have HF : Hid (Gate.qD ss ms = true) := by unfold Hid Gate.qD; rw [HALL.out, HOK.out, hall, decide_eq_true h12]; rfl
          subst e
          clear hall HA
          go_wp2_with fail
          go_ret
          exact ⟨by rw [HF.out]; rfl, HB.out⟩
end Go.Proofs.YtkfigdbbncjojaaGreat

namespace Go.Proofs.YtkfigdbbncjojaaGreat
open Go.RowKit
set_option maxHeartbeats 2000000 in
theorem zmm (b : Bk) (a0 a1 a2 a3 : Option Addr) (c0 c1 c2 c3 : Nat) (tm rs : ByteArray) (w : World) (hb : qY w b a0 a1 a2 a3) (hl : b.ps.length <= 1000) (ha : ∀ i (h : i < b.ps.length), 0 <= b.ps[i].am /\ b.ps[i].am <= 1000000) :
    Calls Tryz.prog 61 #[.agg (b.cells a0 a1 a2 a3 c0 c1 c2 c3), .string tm, .string rs] w fun e w' => e = .returned (.int .i64 (Gate.out b.ps tm rs)) /\ Below w.heap.size w w' := by
  have HK := hid hb
  have HA : Hid (∀ i (h : i < b.ps.length), 0 <= b.ps[i].am /\ b.ps[i].am <= 1000000) := ha
  clear hb ha
  unfold Bk.cells
  go_enter Tryz.func61, Tryz.ntmps61
  go_wp2_with fail
  have hX0 := zH w (bC b a0 a1 a2 a3 c0 c1 c2 c3) 47
  have HB0 : Hid (Below w.heap.size w (w.alloc (.cells (bC b a0 a1 a2 a3 c0 c1 c2 c3) 47))) := (Below.refl _ _).alloc (Nat.le_refl _) _
  obtain ⟨W0, hW0⟩ : ∃ W0, W0 = w.alloc (.cells (bC b a0 a1 a2 a3 c0 c1 c2 c3) 47) := ⟨_, rfl⟩
  have hz0 : w.heap.size < W0.heap.size := by rw [hW0]; simp
  rw [<- hW0] at HB0 hX0 ⊢
  clear hW0
  go_loopw [7, 8] (fun nv iv wr => ∃ (k : Nat) (s : Int), k <= b.ps.length /\ iv = .int .i64 k /\ nv = .int .i64 s /\ Hid (s = Gate.zao b.ps tm rs k) /\ wr = W0) (fun _ iv _ => b.ps.length - (intOf iv).toNat)
  case atStart => exact ⟨0, 0, Nat.zero_le _, rfl, rfl, by simp [Gate.zao, Hid], rfl⟩
  case round =>
    obtain ⟨k, s, hk, rfl, rfl, HQ, rfl⟩ := hrel
    have hkn : k <= 1000 := by omega
    have hsb : 0 <= s /\ s <= 1000000000 := by have h1 := HQ.out; have h2 := Gate.zbk b.ps tm rs HA.out k hk; omega
    by_cases hlt : k < b.ps.length
    · obtain ⟨ob, off, rfl, hob, d0, d1, d2, d3, d4⟩ := HK.out.ps.load HB0.out k hlt
      have hltI : (k : Int) < (b.ps.length : Int) := by omega
      have HSt := hid (Gate.zdy b.ps tm rs k hlt)
      have hab := HA.out k hlt
      clear d0 d4
      by_cases h1 : b.ps[k].tm = tm
      · have e1 : (b.ps[k].tm.toList == tm.toList) = true := by rw [Gate.beq_toList]; simpa using h1
        by_cases h2 : b.ps[k].rs = rs
        · have e2 : (b.ps[k].rs.toList == rs.toList) = true := by rw [Gate.beq_toList]; simpa using h2
          have HN : Hid (Gate.zao b.ps tm rs (k + 1) = s + b.ps[k].am) := by unfold Hid; rw [HSt.out, <- HQ.out, if_pos (by unfold Gate.zlX; simp [h1, h2])]
          clear h1 h2
          go_wp2_with fail
          exact ⟨⟨k + 1, s + b.ps[k].am, by omega, by go_num, by go_num, HN.out.symm, trivial⟩, zm hlt⟩
        · have e2 : (b.ps[k].rs.toList == rs.toList) = false := by rw [Gate.beq_toList]; simpa using h2
          have HN : Hid (Gate.zao b.ps tm rs (k + 1) = s) := by unfold Hid; rw [HSt.out, <- HQ.out, if_neg (by unfold Gate.zlX; simp [h2])]; omega
          clear h1 h2
          go_wp2_with fail
          exact ⟨⟨k + 1, s, by omega, by go_num, rfl, HN.out.symm, trivial⟩, zm hlt⟩
      · have e1 : (b.ps[k].tm.toList == tm.toList) = false := by rw [Gate.beq_toList]; simpa using h1
        have HN : Hid (Gate.zao b.ps tm rs (k + 1) = s) := by unfold Hid; rw [HSt.out, <- HQ.out, if_neg (by unfold Gate.zlX; simp [h1])]; omega
        clear h1
        go_wp2_with fail
        exact ⟨⟨k + 1, s, by omega, by go_num, rfl, HN.out.symm, trivial⟩, zm hlt⟩
    · have e : k = b.ps.length := by omega
      subst e
      have HE : Hid (Gate.out b.ps tm rs = s) := by unfold Hid Gate.out; exact HQ.out.symm
      clear HQ hlt hk
      go_wp2_with fail
      go_ret
      exact ⟨zk HE.out.symm, HB0.out⟩
set_option maxHeartbeats 2000000 in
theorem zgt (a c : Option Addr) (ca cc : Nat) (xs ys : List ByteArray) (w : World) (hx : zB w a xs) (hy : zB w c ys) (hl : xs.length <= 1048576) (hl' : ys.length <= 1048576) :
    Calls Tryz.prog 52 #[.slice a xs.length ca, .slice c ys.length cc] w fun e w' => e = .returned (.bool (decide (xs = ys))) /\ Below w.heap.size w w' := by
  obtain ⟨r, hr⟩ : ∃ r, r = decide (xs = ys) := ⟨_, rfl⟩
  rw [<- hr]
  have HR := hid hr
  have HX := jO hx hy
  clear hr hx hy
  by_cases hn : xs.length = ys.length
  rotate_left
  · have HF : Hid (r = false) := by unfold Hid; rw [HR.out, decide_eq_false_iff_not]; intro e; exact hn (by rw [e])
    have e1 : ((xs.length : Int) != (ys.length : Int)) = true := by simp; omega
    clear hn
    go_enter Tryz.func52, Tryz.ntmps52
    go_wp2_with fail
    go_ret
    exact ⟨ze HF.out.symm, Below.refl _ _⟩
  have e1 : ((xs.length : Int) != (ys.length : Int)) = false := by simp; omega
  have HN := hid hn
  clear hn
  go_enter Tryz.func52, Tryz.ntmps52
  go_wp2_with fail
  go_loopw [5] (fun iv wr => ∃ k : Nat, k <= xs.length /\ iv = .int .i64 k /\ Hid ((∀ i (h : i < xs.length) (h' : i < ys.length), i < k -> xs[i] = ys[i]) /\ Below w.heap.size w wr)) (fun iv _ => xs.length - (intOf iv).toNat)
  case atStart => exact ⟨0, Nat.zero_le _, rfl, fun i h h' hk => by omega, Below.refl _ _⟩
  case round =>
    obtain ⟨k, hk, rfl, HQ⟩ := hrel
    have hkn : k <= 1048576 := by omega
    by_cases hlt : k < xs.length
    · have hlt' : k < ys.length := by have := HN.out; omega
      obtain ⟨p, po, rfl, hp, hpc⟩ := HX.out.1.cells (by intro e; rw [e] at hlt; simp at hlt)
      obtain ⟨q, qo, rfl, hq, hqc⟩ := HX.out.2.cells (by intro e; rw [e] at hlt'; simp at hlt')
      have c1 := (HQ.out.2.cell (p := ⟨p, po + k, none⟩) hp).trans (hpc k hlt)
      have c2 := (HQ.out.2.cell (p := ⟨q, qo + k, none⟩) hq).trans (hqc k hlt')
      have hltI : (k : Int) < (xs.length : Int) := by omega
      have hltI' : (k : Int) < (ys.length : Int) := by omega
      have hp' := Nat.lt_of_lt_of_le hp HQ.out.2.size
      have hq' := Nat.lt_of_lt_of_le hq HQ.out.2.size
      have HB := hid HQ.out.2
      clear hpc hqc
      by_cases he : xs[k] = ys[k]
      · have e2 : (xs[k].toList == ys[k].toList) = true := by rw [Gate.beq_toList]; simpa using he
        have HA : Hid (∀ i (h : i < xs.length) (h' : i < ys.length), i < k + 1 -> xs[i] = ys[i]) := by
          intro i h h' hi
          rcases Nat.eq_or_lt_of_le (Nat.le_of_lt_succ hi) with e | h2
          · subst e; exact he
          · exact HQ.out.1 i h h' h2
        clear he HQ
        go_wp2_with fail
        go_quiet (fail)
        go_wp2_with fail
        exact ⟨⟨k + 1, by omega, by go_num, HA.out, below_drewN HB.out _⟩, zm hlt⟩
      · have e2 : (xs[k].toList == ys[k].toList) = false := by rw [Gate.beq_toList]; simpa using he
        have HF : Hid (r = false) := by
          unfold Hid
          rw [HR.out, decide_eq_false_iff_not]
          intro e
          subst e
          exact he rfl
        clear he HQ
        go_wp2_with fail
        go_quiet (fail)
        go_wp2_with fail
        go_ret
        exact ⟨ze HF.out.symm, below_drewN HB.out _⟩
    · have HF : Hid (r = true) := by
        unfold Hid
        rw [HR.out, decide_eq_true_eq]
        exact List.ext_getElem HN.out fun i h h' => HQ.out.1 i h h' (by omega)
      have HB := hid HQ.out.2
      clear HQ
      go_wp2_with fail
      go_ret
      exact ⟨ze HF.out.symm, HB.out⟩
end Go.Proofs.YtkfigdbbncjojaaGreat
