import Derived.Test.YtfpeplbmfbepcaaGreatM23
import Derived.Deep.RegionHeld3
namespace Go.Proofs.YtfpeplbmfbepcaaGreat
open Go.RowKit
namespace Gate
def jr (fs : List Fld) (m : Mnd) (v : ByteArray) : Bool := !decide (v = m.fd) && plain fs v
def zaG (fs : List Fld) (m : Mnd) : Bool := !((!isSet m.wh && isSet m.wi) || (isSet m.pt == isSet m.fr)) && (!isSet m.pt || zeT (zdn fs m.fd) m.pt)
def zaC (fs : List Fld) (m : Mnd) : Bool := plain fs m.fd && (zL m).all (jr fs m) && zaG fs m
end Gate
set_option maxRecDepth 20000 in
set_option maxHeartbeats 4000000 in
theorem znC (r : Nat) (a : Option Addr) (cap : Nat) (fs : List Fld) (m : Mnd) (w : World) (hr : w.heap[r]? = some (.map qI 4)) (hw : zW w a fs) (hm : m.Small) :
    Calls Tryz.prog 143 #[.map (some r), .slice a fs.length cap, .agg m.cells] w fun e w' => e = .returned (.bool (Gate.zaC fs m)) /\ Below w.heap.size w w' := by
  have hcells : m.cells = #[.string m.kd, .string m.fd, .string m.wh, .string m.wi, .string m.pt, .string m.fr] := rfl
  have HW := hid hw
  have HR := hid hr
  have hl := hw.len
  unfold maxLen at hl
  clear hw hr
  rw [hcells]
  have hba := (Below.refl w.heap.size w).alloc (Nat.le_refl _) (.cells #[.string m.kd, .string m.fd, .string m.wh, .string m.wi, .string m.pt, .string m.fr] 125)
  by_cases hp : Gate.plain fs m.fd = true
  rotate_left
  · have hpf : Gate.plain fs m.fd = false := by simpa using hp
    have HF : Hid (Gate.zaC fs m = false) := by unfold Hid Gate.zaC; rw [hpf]; rfl
    go_enter Tryz.func143, Tryz.ntmps143
    go_wp2_with fail
    have h := zb5 a cap fs m.fd _ (HW.out.mono hba)
    rw [hpf] at h
    refine h.mono ?_
    rintro e w1 ⟨rfl, hb1⟩
    have HB1 := hid (hba.trans (hb1.mono hba.size))
    clear h hba hb1
    go_wp2_with fail
    go_ret
    exact ⟨by rw [HF.out]; rfl, HB1.out⟩
  have HP := hid hp
  go_enter Tryz.func143, Tryz.ntmps143
  go_wp2_with fail
  have h := zb5 a cap fs m.fd _ (HW.out.mono hba)
  rw [hp] at h
  refine h.mono ?_
  rintro e w1 ⟨rfl, hb1⟩
  have HB1 := hid (hba.trans (hb1.mono hba.size))
  have hX1 := za (zG w _ _) (by simp) hb1
  have hz1 : w.heap.size < w1.heap.size := by have := hb1.size; simp at this; omega
  clear h hba hb1 hp
  go_wp2_with fail
  refine (zeJ m w1).mono ?_
  rintro e w2 ⟨nv, rfl, hn, hb2⟩
  obtain ⟨na, ncap, rfl⟩ := yE hn
  have HN2 := hid hn
  have HB2 := hid (HB1.out.trans (hb2.mono HB1.out.size))
  have hX2 := za hX1 hz1 hb2
  have HX2 := hid hX2
  have hz2 : w.heap.size < w2.heap.size := Nat.lt_of_lt_of_le hz1 hb2.size
  have HNL : Hid ((Gate.zL m).length <= 2) := Gate.zda _
  clear hn hb2 hX1 hX2
  go_wp2_with fail
  go_loopw [17] (fun iv wr => ∃ k : Nat, k <= (Gate.zL m).length /\ iv = .int .i64 k /\ ((Gate.zL m).take k).all (Gate.jr fs m) = true /\ Below w2.heap.size w2 wr) (fun iv _ => (Gate.zL m).length - (intOf iv).toNat)
  case atStart => exact ⟨0, Nat.zero_le _, rfl, rfl, Below.refl _ _⟩
  case round =>
    obtain ⟨k, hk, rfl, hall, hB⟩ := hrel
    have HB := qJ hB (HB2.out.trans (hB.mono HB2.out.size))
    have HA := hid hall
    have hXr := za HX2.out hz2 hB
    have hzr := Nat.lt_of_lt_of_le hz2 hB.size
    clear hall hB
    by_cases hlt : k < (Gate.zL m).length
    · have hltI : (k : Int) < ((Gate.zL m).length : Int) := by omega
      obtain ⟨g, rfl, hcell⟩ : ∃ g, na = some ⟨g, 0, none⟩ /\ wr.cell? ⟨g, k, none⟩ = some (.string (Gate.zL m)[k]) := by
        have hrow := yA HN2.out HB.out.1
        obtain ⟨_, ⟨h0, h1⟩ | ⟨g, cap, cur, h0, h1⟩⟩ := id hrow
        · rw [h1] at hlt; exact absurd hlt (by omega)
        · cases h0
          refine ⟨g, rfl, ?_⟩
          rw [hrow.cellAt k (by omega)]
          simp [hlt]
      have HTK : Hid (((Gate.zL m).take (k + 1)).all (Gate.jr fs m) = Gate.jr fs m (Gate.zL m)[k]) := by
        unfold Hid; rw [List.take_succ_eq_append_getElem hlt, List.all_append, HA.out]; simp
      have HNO : Hid (Gate.jr fs m (Gate.zL m)[k] = false -> Gate.zaC fs m = false) := by
        intro h
        have : (Gate.zL m).all (Gate.jr fs m) = false := by
          rw [List.all_eq_false]; exact ⟨_, List.getElem_mem hlt, by rw [h]; simp⟩
        unfold Gate.zaC; rw [this]; simp
      revert HTK HNO hcell
      generalize (Gate.zL m)[k] = x
      intro hcell HTK HNO
      by_cases hx : x = m.fd
      · have hbe : (x.toList == m.fd.toList) = true := by rw [Gate.beq_toList]; simpa using hx
        have HF : Hid (Gate.zaC fs m = false) := HNO.out (by unfold Gate.jr; simp [hx])
        clear hx
        go_wp2_with fail
        go_ret
        exact ⟨by rw [HF.out]; rfl, HB.out.2⟩
      · have hbe : (x.toList == m.fd.toList) = false := by rw [Gate.beq_toList]; simpa using hx
        have HNX : Hid (Gate.jr fs m x = Gate.plain fs x) := by unfold Hid Gate.jr; simp [hx]
        clear hx
        go_wp2_with fail
        have h := zb5 a cap fs x wr (HW.out.mono HB.out.2)
        by_cases hp : Gate.plain fs x = true
        · rw [hp] at h
          refine h.mono ?_
          rintro e w3 ⟨rfl, hb3⟩
          have HP3 : Hid (((Gate.zL m).take (k + 1)).all (Gate.jr fs m) = true /\ Below w2.heap.size w2 w3) := ⟨by rw [HTK.out, HNX.out]; exact hp, HB.out.1.trans (hb3.mono HB.out.1.size)⟩
          clear h hp hb3
          go_wp2_with fail
          exact ⟨⟨k + 1, by omega, by rw [wrap_one (by have := HNL.out; omega)], HP3.out.1, HP3.out.2⟩, qK hlt (by have := HNL.out; omega)⟩
        · have hpf : Gate.plain fs x = false := by simpa using hp
          rw [hpf] at h
          refine h.mono ?_
          rintro e w3 ⟨rfl, hb3⟩
          have HF : Hid (Gate.zaC fs m = false /\ Below w.heap.size w w3) := ⟨HNO.out (by rw [HNX.out]; exact hpf), HB.out.2.trans (hb3.mono HB.out.2.size)⟩
          clear h hp hb3
          go_wp2_with fail
          go_ret
          exact ⟨by rw [HF.out.1]; rfl, HF.out.2⟩
    · have e : k = (Gate.zL m).length := by omega
      have hall := HA.out
      rw [e, List.take_of_length_le (Nat.le_refl _)] at hall
      have HM : Hid (Gate.zaC fs m = Gate.zaG fs m) := by unfold Hid Gate.zaC; rw [HP.out, hall]; simp
      subst e
      clear hall HA
      have HD : Hid (decide ((((Gate.zL m).length : Nat) : Int) < ((Gate.zL m).length : Int)) = false) := by unfold Hid; simp
      obtain ⟨fi, hfi, hix, hfind⟩ : ∃ fi, ∃ h : fi < fs.length, Gate.zT fs m.fd = (fi : Int) /\ fs.find? (fun f => decide (f.nm = m.fd)) = some fs[fi] := by
        rcases Gate.jA fs m.fd with ⟨_, h2⟩ | ⟨fi, hfi, h1, _, h3⟩
        · have := HP.out; rw [Gate.zaZ h2] at this; cases this
        · exact ⟨fi, hfi, h1, h3⟩
      have HFO : Hid (Gate.zdn fs m.fd = fs[fi]) := by unfold Hid Gate.zdn; rw [hfind]; rfl
      have HFP : Hid (∀ W, Below w.heap.size w W -> Calls Tryz.prog 185 #[.slice a fs.length cap, .string m.fd] W fun e w' => e = .returned (.int .i64 (fi : Int)) /\ Below W.heap.size W w') := by
        intro W hb
        have h := qG a cap fs m.fd W (HW.out.mono hb)
        rw [hix] at h
        exact h
      have hfiI : (fi : Int) < (fs.length : Int) := by omega
      have HSM := hid hm.pt
      have hrl := (Array.getElem?_eq_some_iff.1 HR.out).1
      clear hfind hix
      rcases hwh : m.wh.toList.isEmpty with _ | _ <;> rcases hwi : m.wi.toList.isEmpty with _ | _ <;> rcases hpt : m.pt.toList.isEmpty with _ | _ <;> rcases hfr : m.fr.toList.isEmpty with _ | _
      all_goals first
        | (have HT : Hid (Gate.zaG fs m = false) := (by unfold Hid Gate.zaG Gate.isSet; simp [hwh, hwi, hpt, hfr]); go_wp2_with fail; go_ret; exact ⟨by rw [HM.out, HT.out]; rfl, HB.out.2⟩)
        | (have HT : Hid (Gate.zaG fs m = true) := (by unfold Hid Gate.zaG Gate.isSet; simp [hwh, hwi, hpt, hfr]); go_wp2_with fail; go_quiet (fail); go_wp2_with fail; go_ret; exact ⟨by rw [HM.out, HT.out]; rfl, below_drewN HB.out.2 _⟩)
        | skip
      all_goals
        have HT : Hid (Gate.zaG fs m = Gate.zeT fs[fi] m.pt) := by unfold Hid Gate.zaG; rw [HFO.out]; unfold Gate.isSet; simp [hwh, hwi, hpt, hfr]
        obtain ⟨fb, foff, rfl, hfb, hrows⟩ := HW.out.rows (by rintro rfl; simp at hfi)
        obtain ⟨wa, wcap, hf0⟩ := hrows fi hfi
        have HFI : Hid (∀ W, Below w.heap.size w W -> zeC W fb (foff + fi * 11) fs[fi] wa wcap) := fun W hb => hf0.mono hfb hb
        have HBD := hid HB.out.2.drew
        have hbc := HBD.out
        have hXc := za HX2.out hz2 (HB.out.1.drew)
        have hL := (HFI.out _ hbc).load
        have hbW := HB.out.1.drew
        clear hrows hf0
        go_wp2_with fail
        go_region_held3 (fun w' => (∀ j, w'.cell? ⟨w.heap.size, j, none⟩ = (#[.string m.kd, .string m.fd, .string m.wh, .string m.wi, .string m.pt, .string m.fr] : Array Value)[j]?) /\ w'.cell? ⟨fb, foff + fi * 11, none⟩ = some (.string fs[fi].nm) /\ w'.cell? ⟨fb, foff + fi * 11 + 1, none⟩ = some (.int .i64 fs[fi].kd) /\ w'.cell? ⟨fb, foff + fi * 11 + 2, none⟩ = some (.int .i64 fs[fi].ls) /\ w'.cell? ⟨fb, foff + fi * 11 + 3, none⟩ = some (.int .i64 fs[fi].ms) /\ w'.cell? ⟨fb, foff + fi * 11 + 4, none⟩ = some (.slice wa fs[fi].ws.length wcap) /\ w'.cell? ⟨fb, foff + fi * 11 + 5, none⟩ = some (.string fs[fi].to) /\ w'.cell? ⟨fb, foff + fi * 11 + 6, none⟩ = some (.int .i64 fs[fi].rl) /\ w'.cell? ⟨fb, foff + fi * 11 + 7, none⟩ = some (.bool fs[fi].mu) /\ w'.cell? ⟨fb, foff + fi * 11 + 8, none⟩ = some (.bool fs[fi].fx) /\ w'.cell? ⟨fb, foff + fi * 11 + 9, none⟩ = some (.string fs[fi].df) /\ w'.cell? ⟨fb, foff + fi * 11 + 10, none⟩ = some (.string fs[fi].wg)) (exact ⟨hXc, hL⟩) (first
          | (go_at_call 185; refine (HFP.out _ hbc).mono ?_; rintro e w5 ⟨rfl, hb5⟩; have hbW := hbW.trans (hb5.mono hbW.size); have hbc := hbc.trans (hb5.mono hbc.size); have hXc := za HX2.out hz2 hbW; have hL := (HFI.out _ hbc).load; clear hb5)
          | (go_at_call 184; refine (zeD r _ _ _ _ _ _ _ _ _ _ _ _ _ _ _ (by exact (hbc.block r hrl).trans HR.out) HSM.out (by exact (HFI.out _ hbc).strs)).mono ?_; rintro e w5 ⟨rfl, hb5⟩; have hbW := hbW.trans (hb5.mono hbW.size); have hbc := hbc.trans (hb5.mono hbc.size); have hXc := za HX2.out hz2 hbW; have hL := (HFI.out _ hbc).load; clear hb5))
        go_wp2_with fail
        go_ret
        exact ⟨by rw [HM.out, HT.out]; rfl, hbc⟩
end Go.Proofs.YtfpeplbmfbepcaaGreat
