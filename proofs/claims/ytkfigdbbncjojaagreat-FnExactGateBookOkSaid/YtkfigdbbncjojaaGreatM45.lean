import Derived.Test.YtkfigdbbncjojaaGreatM44
import Derived.Test.YtkfigdbbncjojaaGreatM34
import Derived.WalkMore
import Derived.Deep.RegionHeld3
namespace Go.Proofs.YtkfigdbbncjojaaGreat
open Go.RowKit
set_option maxHeartbeats 1000000 in
theorem zbq (s : Shp) (vs : List ByteArray) (v : ByteArray) (fa va : Option Addr) (fcap vcap : Nat) (w : World) (hf : zW w fa s.fs) (hv : zB w va vs) (hc : vs.length = s.fs.length) :
    Calls Tryz.prog 201 #[.agg #[.string s.kd, .slice fa s.fs.length fcap], .slice va vs.length vcap, .string v] w fun e w' => e = .returned (.string (Gate.qp s.fs vs v)) /\ Below w.heap.size w w' := by
  have hl := hv.len
  unfold maxLen at hl
  have hba := (Below.refl w.heap.size w).alloc (Nat.le_refl _) (.cells #[.string s.kd, .slice fa s.fs.length fcap] 127)
  rcases Gate.qX s.fs v with ⟨h1, _⟩ | ⟨i, hi, h1, _⟩
  · have HV : Hid (Gate.qp s.fs vs v = ByteArray.empty) := Gate.zd1 h1
    go_enter Tryz.func201, Tryz.ntmps201
    go_wp2_with fail
    have h := qA fa fcap s.fs v _ (hf.mono hba)
    rw [h1] at h
    refine h.mono ?_
    rintro e w1 ⟨rfl, hb1⟩
    clear h
    go_wp2_with fail
    go_ret
    exact ⟨by rw [HV.out]; rfl, hba.trans (hb1.mono hba.size)⟩
  · have hiv : i < vs.length := by omega
    have HV : Hid (Gate.qp s.fs vs v = vs[i]) := by unfold Hid; rw [Gate.zer h1, Gate.getD_at _ _ _ hiv]
    obtain ⟨b, off, rfl, hb, hcell⟩ := hv.cells (by rintro rfl; simp at hiv)
    go_enter Tryz.func201, Tryz.ntmps201
    go_wp2_with fail
    have h := qA fa fcap s.fs v _ (hf.mono hba)
    rw [h1] at h
    refine h.mono ?_
    rintro e w1 ⟨rfl, hb1⟩
    have hB1 : Below w.heap.size w w1 := hba.trans (hb1.mono hba.size)
    have hci : w1.cell? ⟨b, off + i, none⟩ = some (.string vs[i]) := (hB1.cell (p := ⟨b, off + i, none⟩) hb).trans (hcell i hiv)
    have hiI : (i : Int) < (vs.length : Int) := by omega
    have hi0 : decide ((i : Int) < 0) = false := by simp
    clear h hcell hba hb1
    go_wp2_with fail
    go_ret
    exact ⟨by rw [HV.out]; rfl, hB1⟩
end Go.Proofs.YtkfigdbbncjojaaGreat

namespace Go.Proofs.YtkfigdbbncjojaaGreat.Gate
open Go
theorem zj9 {fs : List Fld} {vs : List ByteArray} (v : ByteArray) (hv : ∀ x ∈ vs, x.size <= maxLen) : (qp fs vs v).size <= maxLen := by
  have he : ByteArray.empty.size <= maxLen := by show 0 <= _; exact Nat.zero_le _
  unfold qp
  split
  · rename_i j _
    rw [List.getD_eq_getElem?_getD]
    cases h : vs[j]? with
    | none => exact he
    | some x => exact hv x (List.mem_of_getElem? h)
  · exact he
theorem zhV {s : Shp} {ms : List Mnd} {vs : List ByteArray} (p : Nat) (hm : ∀ i (h : i < ms.length), ms[i].Small) (hv : ∀ x ∈ vs, x.size <= maxLen) : (decided s ms p vs).size <= maxLen := by
  unfold decided
  cases hf : ms.findSome? (gives s vs p) with
  | none =>
    show (vs.getD p ByteArray.empty).size <= maxLen
    rw [List.getD_eq_getElem?_getD]
    cases h : vs[p]? with
    | none => show 0 <= _; exact Nat.zero_le _
    | some x => exact hv x (List.mem_of_getElem? h)
  | some x =>
    show x.size <= maxLen
    obtain ⟨m, hmm, hg⟩ := List.exists_of_findSome?_eq_some hf
    obtain ⟨i, hi, rfl⟩ := List.mem_iff_getElem.1 hmm
    unfold gives at hg
    split at hg
    · split at hg
      · split at hg
        · rw [<- Option.some.inj hg]; exact zj9 _ hv
        · cases hg
      · rw [<- Option.some.inj hg]; exact (hm i hi).pt
    · cases hg
theorem zaX {s : Shp} {ms : List Mnd} (hm : ∀ i (h : i < ms.length), ms[i].Small) : ∀ (row : List Nat) (vs : List ByteArray), (∀ x ∈ vs, x.size <= maxLen) -> ∀ x ∈ zK (decided s ms) row vs, x.size <= maxLen
  | [], _, hv => hv
  | p :: row, vs, hv => by
    refine zaX hm row (vs.set p (decided s ms p vs)) (fun x hx => ?_)
    rcases List.mem_or_eq_of_mem_set hx with h | h
    · exact hv x h
    · rw [h]; exact zhV p hm hv
end Go.Proofs.YtkfigdbbncjojaaGreat.Gate

namespace Go.Proofs.YtkfigdbbncjojaaGreat
open Go.RowKit
set_option maxRecDepth 20000 in
set_option maxHeartbeats 4000000 in
theorem zfm (s : Shp) (ms : List Mnd) (vs : List ByteArray) (p : Nat) (fa ma va : Option Addr) (fcap mcap vcap : Nat) (w : World) (hf : zW w fa s.fs) (hm : y5 w ma ms) (hv : zB w va vs) (hc : vs.length = s.fs.length) (hp : p < s.fs.length) :
    Calls Tryz.prog 198 #[.agg #[.string s.kd, .slice fa s.fs.length fcap], .slice ma ms.length mcap, .slice va vs.length vcap, .int .i64 p] w fun e w' => e = .returned (.string (Gate.decided s ms p vs)) /\ Below w.heap.size w w' := by
  have hpv : p < vs.length := by omega
  have hl := hv.len
  have hml := hm.len
  unfold maxLen at hl hml
  have HH := zkz hf hm hv hc
  obtain ⟨b, off, rfl, hb, hcell⟩ := hv.cells (by rintro rfl; simp at hpv)
  have hcp := hcell p hpv
  have hpI : (p : Int) < (vs.length : Int) := by omega
  clear hf hm hv hcell hc
  go_enter Tryz.func198, Tryz.ntmps198
  go_wp2_with fail
  go_step3
  go_wp2_with fail
  go_step3
  go_wp2_with fail
  go_loopw [9, 19] (fun v0 iv wr => ∃ k : Nat, v0 = .string vs[p] /\ k <= ms.length /\ iv = .int .i64 k /\ (ms.take k).findSome? (Gate.gives s vs p) = none /\ Below (w.heap.size + 1) (w.alloc (.cells #[.string s.kd, .slice fa s.fs.length fcap] 127)) wr) (fun _ iv _ => ms.length - (intOf iv).toNat)
  case atStart => exact ⟨0, rfl, Nat.zero_le _, rfl, rfl, Below.refl _ _⟩
  case round =>
    obtain ⟨k, rfl, hk, rfl, hnone, hBw⟩ := hrel
    have HB : Hid (Below w.heap.size w wr /\ Below (w.heap.size + 1) (w.alloc (.cells #[.string s.kd, .slice fa s.fs.length fcap] 127)) wr) := ⟨((Below.refl _ _).alloc (Nat.le_refl _) _).trans (hBw.mono (by omega)), hBw⟩
    have hzr : w.heap.size < wr.heap.size := by have := hBw.size; simp at this; omega
    have hXr : ∀ j, wr.cell? ⟨w.heap.size, j, none⟩ = (#[.string s.kd, .slice fa s.fs.length fcap] : Array Value)[j]? := fun j => cell_of_block ((hBw.block w.heap.size (by omega)).trans (alloc_at _ _))
    have HN := hid hnone
    clear hnone hBw
    by_cases hlt : k < ms.length
    · obtain ⟨mb, moff, rfl, hmb, c0, c1, c2, c3, c4, c5⟩ := HH.out.2.1.load HB.out.1 k hlt
      have hltI : (k : Int) < (ms.length : Int) := by omega
      have hba := (Below.refl wr.heap.size wr).alloc (Nat.le_refl _) (.cells #[.string ms[k].kd, .string ms[k].fd, .string ms[k].wh, .string ms[k].wi, .string ms[k].pt, .string ms[k].fr] 129)
      have HBA := hid (HB.out.1.trans (hba.mono HB.out.1.size))
      go_wp2_with fail
      have HNX : Hid (Gate.gives s vs p ms[k] = none -> (ms.take (k + 1)).findSome? (Gate.gives s vs p) = none) := by
        intro h
        rw [List.take_succ_eq_append_getElem hlt, List.findSome?_append, HN.out]
        simp [h]
      have HSX : Hid (∀ x, Gate.gives s vs p ms[k] = some x -> Gate.decided s ms p vs = x) := by
        intro x h
        unfold Gate.decided
        have e : ms.findSome? (Gate.gives s vs p) = some x := by
          conv => lhs; rw [<- List.take_append_drop k ms, List.drop_eq_getElem_cons hlt]
          rw [List.findSome?_append, HN.out, List.findSome?_cons, h]
          rfl
        rw [e]; rfl
      refine (zbq s vs ms[k].fr fa _ fcap vcap _ (HH.out.1.mono HBA.out) (HH.out.2.2.1.mono HBA.out) HH.out.2.2.2).mono ?_
      rintro e w3 ⟨rfl, hb3⟩
      have HB3 := hid (hba.trans (hb3.mono hba.size))
      have hXm := za (zH wr _ _) (by simp) hb3
      have hzm : wr.heap.size < w3.heap.size := by have := hb3.size; simp at this; omega
      have hXs := za hXr hzr HB3.out
      have HBW3 := hid (HB.out.1.trans (HB3.out.mono HB.out.1.size))
      clear hba hb3 hXr c0 c1 c2 c3 c4 c5
      go_wp2_with fail
      have h := ziT ms[k] s fa fcap p w3 (HH.out.1.mono HBW3.out) hp
      rcases htt : Gate.turns ms[k] s p with _ | _
      · have HG : Hid (Gate.gives s vs p ms[k] = none) := by unfold Hid Gate.gives; simp [htt]
        rw [htt] at h
        refine h.mono ?_
        rintro e w4 ⟨rfl, hb4⟩
        have HBX := hid (HB.out.2.trans ((HB3.out.trans (hb4.mono HB3.out.size)).mono hzr))
        clear h hb4
        clear htt hXm hXs
        go_wp2_with fail
        exact ⟨⟨k + 1, rfl, by omega, by go_num, HNX.out HG.out, HBX.out⟩, zm hlt⟩
      rw [htt] at h
      refine h.mono ?_
      rintro e w4 ⟨rfl, hb4⟩
      have HB4 := hid (HB3.out.trans (hb4.mono HB3.out.size))
      have hXm4 := za hXm hzm hb4
      have hzm4 := Nat.lt_of_lt_of_le hzm hb4.size
      have hXs4 := za hXs (Nat.lt_trans hzr hzm) hb4
      have HBW4 := hid (HB.out.1.trans (HB4.out.mono HB.out.1.size))
      clear h hb4 hXm hXs
      rcases hwh : ms[k].wh.toList.isEmpty with _ | _
      · by_cases ev : Gate.qp s.fs vs ms[k].wh = ms[k].wi
        · have hev : ((Gate.qp s.fs vs ms[k].wh).toList == ms[k].wi.toList) = true := by rw [Gate.beq_toList]; simpa using ev
          have HEV : Hid (Gate.qp s.fs vs ms[k].wh = ms[k].wi) := ev
          clear ev
          go_wp2_with fail
          have hbd : Below w4.heap.size w4 w4.drew := (Below.refl _ _).drew
          have hXm5 := za hXm4 hzm4 hbd
          have hXs5 := za hXs4 (Nat.lt_trans hzr hzm4) hbd
          have hbc := HBW4.out.drew
          go_region_held3 (fun w' => (∀ j, w'.cell? ⟨wr.heap.size, j, none⟩ = (#[.string ms[k].kd, .string ms[k].fd, .string ms[k].wh, .string ms[k].wi, .string ms[k].pt, .string ms[k].fr] : Array Value)[j]?) /\ ∀ j, w'.cell? ⟨w.heap.size, j, none⟩ = (#[.string s.kd, .slice fa s.fs.length fcap] : Array Value)[j]?) (exact ⟨hXm5, hXs5⟩) (first
            | (go_at_call 201; refine (zbq s vs ms[k].wh fa _ fcap vcap _ (by exact HH.out.1.mono hbc) (by exact HH.out.2.2.1.mono hbc) HH.out.2.2.2).mono ?_; rintro e w5 ⟨rfl, hb5⟩; have hbd := hbd.trans (hb5.mono hbd.size); have hbc := hbc.trans (hb5.mono hbc.size); have hXm5 := za hXm4 hzm4 hbd; have hXs5 := za hXs4 (Nat.lt_trans hzr hzm4) hbd; clear hb5))
          have HBX := hid (HB.out.2.trans ((HB4.out.trans (hbd.mono HB4.out.size)).mono hzr))
          have HBY : Hid (Below w.heap.size w w5) := hbc
          clear hbd hbc hXm4 hXs4
          rcases hfr : ms[k].fr.toList.isEmpty with _ | _
          · rcases hF : (Gate.qp s.fs vs ms[k].fr).toList.isEmpty with _ | _
            · have HG : Hid (Gate.gives s vs p ms[k] = some (Gate.qp s.fs vs ms[k].fr)) := by unfold Hid Gate.gives Gate.isSet; simp [HEV.out, *]
              clear htt
              go_wp2_with fail
              rw [Exit.noGoto_ret]
              go_ret
              exact ⟨by rw [HSX.out _ HG.out]; rfl, HBY.out⟩
            · have HG : Hid (Gate.gives s vs p ms[k] = none) := by unfold Hid Gate.gives Gate.isSet; simp [HEV.out, *]
              clear htt
              go_wp2_with fail
              exact ⟨⟨k + 1, rfl, by omega, by go_num, HNX.out HG.out, HBX.out⟩, zm hlt⟩
          · have HG : Hid (Gate.gives s vs p ms[k] = some ms[k].pt) := by unfold Hid Gate.gives Gate.isSet; simp [HEV.out, *]
            clear htt
            go_wp2_with fail
            rw [Exit.noGoto_ret]
            go_ret
            exact ⟨by rw [HSX.out _ HG.out]; rfl, HBY.out⟩
        · have hev : ((Gate.qp s.fs vs ms[k].wh).toList == ms[k].wi.toList) = false := by rw [Gate.beq_toList]; simpa using ev
          have HG : Hid (Gate.gives s vs p ms[k] = none) := by unfold Hid Gate.gives Gate.isSet; simp [*]
          clear ev
          go_wp2_with fail
          have hbd : Below w4.heap.size w4 w4.drew := (Below.refl _ _).drew
          have hXm5 := za hXm4 hzm4 hbd
          have hXs5 := za hXs4 (Nat.lt_trans hzr hzm4) hbd
          have hbc := HBW4.out.drew
          go_region_held3 (fun w' => (∀ j, w'.cell? ⟨wr.heap.size, j, none⟩ = (#[.string ms[k].kd, .string ms[k].fd, .string ms[k].wh, .string ms[k].wi, .string ms[k].pt, .string ms[k].fr] : Array Value)[j]?) /\ ∀ j, w'.cell? ⟨w.heap.size, j, none⟩ = (#[.string s.kd, .slice fa s.fs.length fcap] : Array Value)[j]?) (exact ⟨hXm5, hXs5⟩) (first
            | (go_at_call 201; refine (zbq s vs ms[k].wh fa _ fcap vcap _ (by exact HH.out.1.mono hbc) (by exact HH.out.2.2.1.mono hbc) HH.out.2.2.2).mono ?_; rintro e w5 ⟨rfl, hb5⟩; have hbd := hbd.trans (hb5.mono hbd.size); have hbc := hbc.trans (hb5.mono hbc.size); have hXm5 := za hXm4 hzm4 hbd; have hXs5 := za hXs4 (Nat.lt_trans hzr hzm4) hbd; clear hb5))
          have HBX := hid (HB.out.2.trans ((HB4.out.trans (hbd.mono HB4.out.size)).mono hzr))
          have HBY := hid hbc
          clear hbd hbc hXm4 hXs4
          clear htt
          go_wp2_with fail
          exact ⟨⟨k + 1, rfl, by omega, by go_num, HNX.out HG.out, HBX.out⟩, zm hlt⟩
      · have HBX := hid (HB.out.2.trans (HB4.out.mono hzr))
        have HBY := hid HBW4.out
        rcases hfr : ms[k].fr.toList.isEmpty with _ | _
        · rcases hF : (Gate.qp s.fs vs ms[k].fr).toList.isEmpty with _ | _
          · have HG : Hid (Gate.gives s vs p ms[k] = some (Gate.qp s.fs vs ms[k].fr)) := by unfold Hid Gate.gives Gate.isSet; simp [*]
            clear htt
            go_wp2_with fail
            go_quiet (fail)
            go_wp2_with fail
            rw [Exit.noGoto_ret]
            go_ret
            exact ⟨by rw [HSX.out _ HG.out]; rfl, below_drewN HBY.out _⟩
          · have HG : Hid (Gate.gives s vs p ms[k] = none) := by unfold Hid Gate.gives Gate.isSet; simp [*]
            clear htt
            go_wp2_with fail
            go_quiet (fail)
            go_wp2_with fail
            exact ⟨⟨k + 1, rfl, by omega, by go_num, HNX.out HG.out, below_drewN HBX.out _⟩, zm hlt⟩
        · have HG : Hid (Gate.gives s vs p ms[k] = some ms[k].pt) := by unfold Hid Gate.gives Gate.isSet; simp [*]
          clear htt
          go_wp2_with fail
          go_quiet (fail)
          go_wp2_with fail
          rw [Exit.noGoto_ret]
          go_ret
          exact ⟨by rw [HSX.out _ HG.out]; rfl, below_drewN HBY.out _⟩
    · have e : k = ms.length := by omega
      have hn := HN.out
      rw [e, List.take_of_length_le (Nat.le_refl _)] at hn
      have HD : Hid (Gate.decided s ms p vs = vs[p]) := by unfold Hid Gate.decided; rw [hn, Gate.getD_at _ _ _ hpv]; rfl
      subst e
      clear hn HN
      go_wp2_with fail
      rw [Exit.noGoto_ret]
      go_ret
      exact ⟨by rw [HD.out]; rfl, HB.out.1⟩
end Go.Proofs.YtkfigdbbncjojaaGreat
