import Derived.Test.YtponiggfclcbgaaGreatM25
import Derived.Test.YtponiggfclcbgaaGreatM22
import Derived.WalkMore
import Derived.Deep.RegionHeld3
namespace Go.Proofs.YtponiggfclcbgaaGreat.Gate

/-- The value of the field of a name; without such a field, nothing. -/
def valAt (fs : List Fld) (vs : List ByteArray) (v : ByteArray) : ByteArray := match fs.findIdx? (fun f => decide (f.nm = v)) with | some j => vs.getD j ByteArray.empty | none => ByteArray.empty

/-- What a mend gives a field by the values as they are, if it applies. -/
def gives (s : Shp) (vs : List ByteArray) (p : Nat) (m : Mnd) : Option ByteArray :=
  if turns m s p = true ∧ ¬ (isSet m.wh = true ∧ valAt s.fs vs m.wh ≠ m.wi) then
    if isSet m.fr = true then (if isSet (valAt s.fs vs m.fr) = true then some (valAt s.fs vs m.fr) else none) else some m.pt
  else none

/-- What the deciding mend of a field gives it; without one, the value that it has. -/
def decided (s : Shp) (ms : List Mnd) (p : Nat) (vs : List ByteArray) : ByteArray := (ms.findSome? (gives s vs p)).getD (vs.getD p ByteArray.empty)

theorem valAt_of {fs : List Fld} {vs : List ByteArray} {v : ByteArray} {j : Nat} (h : fieldIx fs v = (j : Int)) : valAt fs vs v = vs.getD j ByteArray.empty := by
  unfold fieldIx at h
  unfold valAt
  cases hf : fs.findIdx? (fun f => decide (f.nm = v)) with
  | none => rw [hf] at h; simp at h
  | some k =>
    rw [hf] at h
    have : k = j := by simp only at h; omega
    rw [this]
theorem valAt_none {fs : List Fld} {vs : List ByteArray} {v : ByteArray} (h : fieldIx fs v = -1) : valAt fs vs v = ByteArray.empty := by
  unfold fieldIx at h
  unfold valAt
  cases hf : fs.findIdx? (fun f => decide (f.nm = v)) with
  | none => rfl
  | some k => rw [hf] at h; simp only at h; omega

theorem findSome_congr {α β : Type} {f g : α → Option β} : ∀ {l : List α}, (∀ x ∈ l, f x = g x) → l.findSome? f = l.findSome? g
  | [], _ => rfl
  | a :: l, h => by
    have h1 := h a (by simp)
    have h2 := findSome_congr (f := f) (g := g) (l := l) (fun x hx => h x (by simp [hx]))
    rw [List.findSome?_cons, List.findSome?_cons, h1, h2]

/-- A turn hangs on what it reads and on the place's own value. -/
theorem decided_hangs (s : Shp) (ms : List Mnd) : Hangs (readsN s ms) s.fs.length (decided s ms) := by
  intro p _ us vs _ _ hr hown
  have hgd : ∀ q, us[q]? = vs[q]? → us.getD q ByteArray.empty = vs.getD q ByteArray.empty := by
    intro q e
    rw [List.getD_eq_getElem?_getD, List.getD_eq_getElem?_getD, e]
  unfold decided
  have e : ms.findSome? (gives s us p) = ms.findSome? (gives s vs p) := by
    apply findSome_congr
    intro m hmm
    unfold gives
    by_cases ht : turns m s p = true
    · have hread : ∀ v ∈ readNames m, valAt s.fs us v = valAt s.fs vs v := by
        intro v hv'
        rcases field_cases s.fs v with ⟨h1, _⟩ | ⟨k, _, h1, _⟩
        · rw [valAt_none h1, valAt_none h1]
        · rw [valAt_of h1, valAt_of h1]
          apply hgd
          apply hr
          unfold readsN
          rw [List.mem_map]
          refine ⟨(k : Int), ?_, Int.toNat_natCast _⟩
          unfold readsI
          rw [List.mem_flatMap]
          refine ⟨m, hmm, ?_⟩
          rw [if_pos ht, List.mem_map]
          exact ⟨v, hv', h1⟩
      have hw : isSet m.wh = true → valAt s.fs us m.wh = valAt s.fs vs m.wh := fun hs => hread _ (by unfold readNames; rw [List.mem_filter]; exact ⟨by simp, hs⟩)
      have hf : isSet m.fr = true → valAt s.fs us m.fr = valAt s.fs vs m.fr := fun hs => hread _ (by unfold readNames; rw [List.mem_filter]; exact ⟨by simp, hs⟩)
      have c1 : (isSet m.wh = true ∧ valAt s.fs us m.wh ≠ m.wi) ↔ (isSet m.wh = true ∧ valAt s.fs vs m.wh ≠ m.wi) := by
        constructor
        · rintro ⟨a, b⟩; exact ⟨a, by rw [← hw a]; exact b⟩
        · rintro ⟨a, b⟩; exact ⟨a, by rw [hw a]; exact b⟩
      have c2 : (if isSet m.fr = true then (if isSet (valAt s.fs us m.fr) = true then some (valAt s.fs us m.fr) else none) else some m.pt) = (if isSet m.fr = true then (if isSet (valAt s.fs vs m.fr) = true then some (valAt s.fs vs m.fr) else none) else some m.pt) := by
        by_cases hsf : isSet m.fr = true
        · rw [hf hsf]
        · rw [if_neg hsf, if_neg hsf]
      rw [c2]
      by_cases hc : turns m s p = true ∧ ¬ (isSet m.wh = true ∧ valAt s.fs us m.wh ≠ m.wi)
      · have hc' : turns m s p = true ∧ ¬ (isSet m.wh = true ∧ valAt s.fs vs m.wh ≠ m.wi) := ⟨hc.1, fun h' => hc.2 (c1.2 h')⟩
        rw [if_pos hc, if_pos hc']
      · have hc' : ¬ (turns m s p = true ∧ ¬ (isSet m.wh = true ∧ valAt s.fs vs m.wh ≠ m.wi)) := fun h' => hc ⟨h'.1, fun h'' => h'.2 (c1.1 h'')⟩
        rw [if_neg hc, if_neg hc']
    · simp [ht]
  rw [e, hgd p hown]

end Go.Proofs.YtponiggfclcbgaaGreat.Gate

namespace Go.Proofs.YtponiggfclcbgaaGreat
open Go.RowKit

set_option maxHeartbeats 1000000 in
theorem valueNamed_any (s : Shp) (vs : List ByteArray) (v : ByteArray) (fa va : Option Addr) (fcap vcap : Nat) (w : World) (hf : FldsAt w fa s.fs) (hv : StrsAt w va vs) (hc : vs.length = s.fs.length) :
    Calls Tryz.prog 97 #[.agg #[.string s.kd, .slice fa s.fs.length fcap], .slice va vs.length vcap, .string v] w fun e w' => e = .returned (.string (Gate.valAt s.fs vs v)) ∧ Below w.heap.size w w' := by
  have hl := hv.len
  unfold maxLen at hl
  have hba := (Below.refl w.heap.size w).alloc (Nat.le_refl _) (.cells #[.string s.kd, .slice fa s.fs.length fcap] 69)
  rcases Gate.field_cases s.fs v with ⟨h1, _⟩ | ⟨i, hi, h1, _⟩
  · have HV : Hid (Gate.valAt s.fs vs v = ByteArray.empty) := Gate.valAt_none h1
    go_enter Tryz.func97, Tryz.ntmps97
    go_wp2_with fail
    have h := fieldPlace_any fa fcap s.fs v _ (hf.mono hba)
    rw [h1] at h
    refine h.mono ?_
    rintro e w1 ⟨rfl, hb1⟩
    clear h
    go_wp2_with fail
    go_ret
    exact ⟨by rw [HV.out]; rfl, hba.trans (hb1.mono hba.size)⟩
  · have hiv : i < vs.length := by omega
    have HV : Hid (Gate.valAt s.fs vs v = vs[i]) := by unfold Hid; rw [Gate.valAt_of h1, Gate.getD_at _ _ _ hiv]
    obtain ⟨b, off, rfl, hb, hcell⟩ := hv.cells (by rintro rfl; simp at hiv)
    go_enter Tryz.func97, Tryz.ntmps97
    go_wp2_with fail
    have h := fieldPlace_any fa fcap s.fs v _ (hf.mono hba)
    rw [h1] at h
    refine h.mono ?_
    rintro e w1 ⟨rfl, hb1⟩
    have hB1 : Below w.heap.size w w1 := hba.trans (hb1.mono hba.size)
    have hci : w1.cell? ⟨b, off + i, none⟩ = some (.string vs[i]) := (hB1.cell (p := ⟨b, off + i, none⟩) hb).trans (hcell i hiv)
    have hiI : (i : Int) < (vs.length : Int) := by omega
    have hi0 : decide ((i : Int) < 0) = false := by simp
    clear h hcell hba hb1
    go_wp2_with fail
    go_ret
    exact ⟨by rw [HV.out]; rfl, hB1⟩

end Go.Proofs.YtponiggfclcbgaaGreat

namespace Go.Proofs.YtponiggfclcbgaaGreat
open Go.RowKit

set_option maxRecDepth 20000 in
set_option maxHeartbeats 4000000 in
theorem decidedValue_any (s : Shp) (ms : List Mnd) (vs : List ByteArray) (p : Nat) (fa ma va : Option Addr) (fcap mcap vcap : Nat) (w : World) (hf : FldsAt w fa s.fs) (hm : MndsAt w ma ms) (hv : StrsAt w va vs) (hc : vs.length = s.fs.length) (hp : p < s.fs.length) :
    Calls Tryz.prog 70 #[.agg #[.string s.kd, .slice fa s.fs.length fcap], .slice ma ms.length mcap, .slice va vs.length vcap, .int .i64 p] w fun e w' => e = .returned (.string (Gate.decided s ms p vs)) ∧ Below w.heap.size w w' := by
  have hpv : p < vs.length := by omega
  have hl := hv.len
  have hml := hm.len
  unfold maxLen at hl hml
  have HH : Hid (FldsAt w fa s.fs ∧ MndsAt w ma ms ∧ StrsAt w va vs ∧ vs.length = s.fs.length) := ⟨hf, hm, hv, hc⟩
  obtain ⟨b, off, rfl, hb, hcell⟩ := hv.cells (by rintro rfl; simp at hpv)
  have hcp := hcell p hpv
  have hpI : (p : Int) < (vs.length : Int) := by omega
  clear hf hm hv hcell hc
  go_enter Tryz.func70, Tryz.ntmps70
  go_wp2_with fail
  go_step3
  go_wp2_with fail
  go_step3
  go_wp2_with fail
  go_loopw [9, 19] (fun v0 iv wr => ∃ k : Nat, v0 = .string vs[p] ∧ k ≤ ms.length ∧ iv = .int .i64 k ∧ (ms.take k).findSome? (Gate.gives s vs p) = none ∧ Below (w.heap.size + 1) (w.alloc (.cells #[.string s.kd, .slice fa s.fs.length fcap] 69)) wr) (fun _ iv _ => ms.length - (intOf iv).toNat)
  case atStart => exact ⟨0, rfl, Nat.zero_le _, rfl, rfl, Below.refl _ _⟩
  case round =>
    obtain ⟨k, rfl, hk, rfl, hnone, hBw⟩ := hrel
    have HB : Hid (Below w.heap.size w wr ∧ Below (w.heap.size + 1) (w.alloc (.cells #[.string s.kd, .slice fa s.fs.length fcap] 69)) wr) := ⟨((Below.refl _ _).alloc (Nat.le_refl _) _).trans (hBw.mono (by omega)), hBw⟩
    have hzr : w.heap.size < wr.heap.size := by have := hBw.size; simp at this; omega
    have hXr : ∀ j, wr.cell? ⟨w.heap.size, j, none⟩ = (#[.string s.kd, .slice fa s.fs.length fcap] : Array Value)[j]? := fun j => cell_of_block ((hBw.block w.heap.size (by omega)).trans (alloc_at _ _))
    have HN : Hid ((ms.take k).findSome? (Gate.gives s vs p) = none) := hnone
    clear hnone hBw
    by_cases hlt : k < ms.length
    · obtain ⟨mb, moff, rfl, hmb, c0, c1, c2, c3, c4, c5⟩ := HH.out.2.1.load HB.out.1 k hlt
      have hltI : (k : Int) < (ms.length : Int) := by omega
      have hba := (Below.refl wr.heap.size wr).alloc (Nat.le_refl _) (.cells #[.string ms[k].kd, .string ms[k].fd, .string ms[k].wh, .string ms[k].wi, .string ms[k].pt, .string ms[k].fr] 71)
      have HBA : Hid (Below w.heap.size w (wr.alloc (.cells #[.string ms[k].kd, .string ms[k].fd, .string ms[k].wh, .string ms[k].wi, .string ms[k].pt, .string ms[k].fr] 71))) := HB.out.1.trans (hba.mono HB.out.1.size)
      go_wp2_with fail
      have HNX : Hid (Gate.gives s vs p ms[k] = none → (ms.take (k + 1)).findSome? (Gate.gives s vs p) = none) := by
        intro h
        rw [List.take_succ_eq_append_getElem hlt, List.findSome?_append, HN.out]
        simp [h]
      have HSX : Hid (∀ x, Gate.gives s vs p ms[k] = some x → Gate.decided s ms p vs = x) := by
        intro x h
        unfold Gate.decided
        have e : ms.findSome? (Gate.gives s vs p) = some x := by
          conv => lhs; rw [← List.take_append_drop k ms, List.drop_eq_getElem_cons hlt]
          rw [List.findSome?_append, HN.out, List.findSome?_cons, h]
          rfl
        rw [e]; rfl
      refine (valueNamed_any s vs ms[k].fr fa _ fcap vcap _ (HH.out.1.mono HBA.out) (HH.out.2.2.1.mono HBA.out) HH.out.2.2.2).mono ?_
      rintro e w3 ⟨rfl, hb3⟩
      have HB3 : Hid (Below wr.heap.size wr w3) := hba.trans (hb3.mono hba.size)
      have hXm := box_later (box_new wr _ _) (by simp) hb3
      have hzm : wr.heap.size < w3.heap.size := by have := hb3.size; simp at this; omega
      have hXs := box_later hXr hzr HB3.out
      have HBW3 : Hid (Below w.heap.size w w3) := HB.out.1.trans (HB3.out.mono HB.out.1.size)
      clear hba hb3 hXr c0 c1 c2 c3 c4 c5
      go_wp2_with fail
      have h := turns_any ms[k] s fa fcap p w3 (HH.out.1.mono HBW3.out) hp
      rcases htt : Gate.turns ms[k] s p with _ | _
      · have HG : Hid (Gate.gives s vs p ms[k] = none) := by unfold Hid Gate.gives; simp [htt]
        rw [htt] at h
        refine h.mono ?_
        rintro e w4 ⟨rfl, hb4⟩
        have HBX : Hid (Below (w.heap.size + 1) (w.alloc (.cells #[.string s.kd, .slice fa s.fs.length fcap] 69)) w4) := HB.out.2.trans ((HB3.out.trans (hb4.mono HB3.out.size)).mono hzr)
        clear h hb4
        clear htt hXm hXs
        go_wp2_with fail
        exact ⟨⟨k + 1, rfl, by omega, by go_num, HNX.out HG.out, HBX.out⟩, step_less' hlt⟩
      rw [htt] at h
      refine h.mono ?_
      rintro e w4 ⟨rfl, hb4⟩
      have HB4 : Hid (Below wr.heap.size wr w4) := HB3.out.trans (hb4.mono HB3.out.size)
      have hXm4 := box_later hXm hzm hb4
      have hzm4 : wr.heap.size < w4.heap.size := Nat.lt_of_lt_of_le hzm hb4.size
      have hXs4 := box_later hXs (Nat.lt_trans hzr hzm) hb4
      have HBW4 : Hid (Below w.heap.size w w4) := HB.out.1.trans (HB4.out.mono HB.out.1.size)
      clear h hb4 hXm hXs
      rcases hwh : ms[k].wh.toList.isEmpty with _ | _
      · by_cases ev : Gate.valAt s.fs vs ms[k].wh = ms[k].wi
        · have hev : ((Gate.valAt s.fs vs ms[k].wh).toList == ms[k].wi.toList) = true := by rw [Gate.beq_toList]; simpa using ev
          have HEV : Hid (Gate.valAt s.fs vs ms[k].wh = ms[k].wi) := ev
          clear ev
          go_wp2_with fail
          have hbd : Below w4.heap.size w4 w4.drew := (Below.refl _ _).drew
          have hXm5 := box_later hXm4 hzm4 hbd
          have hXs5 := box_later hXs4 (Nat.lt_trans hzr hzm4) hbd
          have hbc : Below w.heap.size w w4.drew := HBW4.out.drew
          go_region_held3 (fun w' => (∀ j, w'.cell? ⟨wr.heap.size, j, none⟩ = (#[.string ms[k].kd, .string ms[k].fd, .string ms[k].wh, .string ms[k].wi, .string ms[k].pt, .string ms[k].fr] : Array Value)[j]?) ∧ ∀ j, w'.cell? ⟨w.heap.size, j, none⟩ = (#[.string s.kd, .slice fa s.fs.length fcap] : Array Value)[j]?) (exact ⟨hXm5, hXs5⟩) (first
            | (go_at_call 97; refine (valueNamed_any s vs ms[k].wh fa _ fcap vcap _ (by exact HH.out.1.mono hbc) (by exact HH.out.2.2.1.mono hbc) HH.out.2.2.2).mono ?_; rintro e w5 ⟨rfl, hb5⟩; have hbd := hbd.trans (hb5.mono hbd.size); have hbc := hbc.trans (hb5.mono hbc.size); have hXm5 := box_later hXm4 hzm4 hbd; have hXs5 := box_later hXs4 (Nat.lt_trans hzr hzm4) hbd; clear hb5))
          have HBX : Hid (Below (w.heap.size + 1) (w.alloc (.cells #[.string s.kd, .slice fa s.fs.length fcap] 69)) w5) := HB.out.2.trans ((HB4.out.trans (hbd.mono HB4.out.size)).mono hzr)
          have HBY : Hid (Below w.heap.size w w5) := hbc
          clear hbd hbc hXm4 hXs4
          rcases hfr : ms[k].fr.toList.isEmpty with _ | _
          · rcases hF : (Gate.valAt s.fs vs ms[k].fr).toList.isEmpty with _ | _
            · have HG : Hid (Gate.gives s vs p ms[k] = some (Gate.valAt s.fs vs ms[k].fr)) := by unfold Hid Gate.gives Gate.isSet; simp [HEV.out, *]
              clear htt
              go_wp2_with fail
              rw [Exit.noGoto_ret]
              go_ret
              exact ⟨by rw [HSX.out _ HG.out]; rfl, HBY.out⟩
            · have HG : Hid (Gate.gives s vs p ms[k] = none) := by unfold Hid Gate.gives Gate.isSet; simp [HEV.out, *]
              clear htt
              go_wp2_with fail
              exact ⟨⟨k + 1, rfl, by omega, by go_num, HNX.out HG.out, HBX.out⟩, step_less' hlt⟩
          · have HG : Hid (Gate.gives s vs p ms[k] = some ms[k].pt) := by unfold Hid Gate.gives Gate.isSet; simp [HEV.out, *]
            clear htt
            go_wp2_with fail
            rw [Exit.noGoto_ret]
            go_ret
            exact ⟨by rw [HSX.out _ HG.out]; rfl, HBY.out⟩
        · have hev : ((Gate.valAt s.fs vs ms[k].wh).toList == ms[k].wi.toList) = false := by rw [Gate.beq_toList]; simpa using ev
          have HG : Hid (Gate.gives s vs p ms[k] = none) := by unfold Hid Gate.gives Gate.isSet; simp [*]
          clear ev
          go_wp2_with fail
          have hbd : Below w4.heap.size w4 w4.drew := (Below.refl _ _).drew
          have hXm5 := box_later hXm4 hzm4 hbd
          have hXs5 := box_later hXs4 (Nat.lt_trans hzr hzm4) hbd
          have hbc : Below w.heap.size w w4.drew := HBW4.out.drew
          go_region_held3 (fun w' => (∀ j, w'.cell? ⟨wr.heap.size, j, none⟩ = (#[.string ms[k].kd, .string ms[k].fd, .string ms[k].wh, .string ms[k].wi, .string ms[k].pt, .string ms[k].fr] : Array Value)[j]?) ∧ ∀ j, w'.cell? ⟨w.heap.size, j, none⟩ = (#[.string s.kd, .slice fa s.fs.length fcap] : Array Value)[j]?) (exact ⟨hXm5, hXs5⟩) (first
            | (go_at_call 97; refine (valueNamed_any s vs ms[k].wh fa _ fcap vcap _ (by exact HH.out.1.mono hbc) (by exact HH.out.2.2.1.mono hbc) HH.out.2.2.2).mono ?_; rintro e w5 ⟨rfl, hb5⟩; have hbd := hbd.trans (hb5.mono hbd.size); have hbc := hbc.trans (hb5.mono hbc.size); have hXm5 := box_later hXm4 hzm4 hbd; have hXs5 := box_later hXs4 (Nat.lt_trans hzr hzm4) hbd; clear hb5))
          have HBX : Hid (Below (w.heap.size + 1) (w.alloc (.cells #[.string s.kd, .slice fa s.fs.length fcap] 69)) w5) := HB.out.2.trans ((HB4.out.trans (hbd.mono HB4.out.size)).mono hzr)
          have HBY : Hid (Below w.heap.size w w5) := hbc
          clear hbd hbc hXm4 hXs4
          clear htt
          go_wp2_with fail
          exact ⟨⟨k + 1, rfl, by omega, by go_num, HNX.out HG.out, HBX.out⟩, step_less' hlt⟩
      · have HBX : Hid (Below (w.heap.size + 1) (w.alloc (.cells #[.string s.kd, .slice fa s.fs.length fcap] 69)) w4) := HB.out.2.trans (HB4.out.mono hzr)
        have HBY : Hid (Below w.heap.size w w4) := HBW4.out
        rcases hfr : ms[k].fr.toList.isEmpty with _ | _
        · rcases hF : (Gate.valAt s.fs vs ms[k].fr).toList.isEmpty with _ | _
          · have HG : Hid (Gate.gives s vs p ms[k] = some (Gate.valAt s.fs vs ms[k].fr)) := by unfold Hid Gate.gives Gate.isSet; simp [*]
            clear htt
            go_wp2_with fail
            go_quiet (fail)
            go_wp2_with fail
            rw [Exit.noGoto_ret]
            go_ret
            exact ⟨by rw [HSX.out _ HG.out]; rfl, below_drewN HBY.out _⟩
          · have HG : Hid (Gate.gives s vs p ms[k] = none) := by unfold Hid Gate.gives Gate.isSet; simp [*]
            clear htt
            go_wp2_with fail
            go_quiet (fail)
            go_wp2_with fail
            exact ⟨⟨k + 1, rfl, by omega, by go_num, HNX.out HG.out, below_drewN HBX.out _⟩, step_less' hlt⟩
        · have HG : Hid (Gate.gives s vs p ms[k] = some ms[k].pt) := by unfold Hid Gate.gives Gate.isSet; simp [*]
          clear htt
          go_wp2_with fail
          go_quiet (fail)
          go_wp2_with fail
          rw [Exit.noGoto_ret]
          go_ret
          exact ⟨by rw [HSX.out _ HG.out]; rfl, below_drewN HBY.out _⟩
    · have e : k = ms.length := by omega
      have hn := HN.out
      rw [e, List.take_of_length_le (Nat.le_refl _)] at hn
      have HD : Hid (Gate.decided s ms p vs = vs[p]) := by unfold Hid Gate.decided; rw [hn, Gate.getD_at _ _ _ hpv]; rfl
      subst e
      clear hn HN
      go_wp2_with fail
      rw [Exit.noGoto_ret]
      go_ret
      exact ⟨by rw [HD.out]; rfl, HB.out.1⟩

end Go.Proofs.YtponiggfclcbgaaGreat
