import Derived.Test.YtkfigdbbncjojaaGreatM35
import Derived.Deep.RegionHeld3
import Derived.Deep.QuietTactic
import Derived.BigQuiet
import Derived.Test.YtkfigdbbncjojaaGreatM02
namespace Go.Proofs.YtkfigdbbncjojaaGreat
open Go.RowKit
namespace Gate
def qZ (fs : List Fld) (m : Mnd) (v : ByteArray) : Bool := !decide (v = m.fd) && plain fs v
def zac (fs : List Fld) (m : Mnd) : Bool := !((!isSet m.wh && isSet m.wi) || (isSet m.pt == isSet m.fr)) && (!isSet m.pt || zdO (zcs fs m.fd) m.pt)
def j4 (fs : List Fld) (m : Mnd) : Bool := plain fs m.fd && (zI m).all (qZ fs m) && zac fs m
end Gate
set_option maxRecDepth 20000 in
set_option maxHeartbeats 4000000 in
theorem zlU (r : Nat) (a : Option Addr) (cap : Nat) (fs : List Fld) (m : Mnd) (w : World) (hr : w.heap[r]? = some (.map qB 4)) (hw : zW w a fs) (hm : m.Small) :
    Calls Tryz.prog 106 #[.map (some r), .slice a fs.length cap, .agg m.cells] w fun e w' => e = .returned (.bool (Gate.j4 fs m)) /\ Below w.heap.size w w' := by
  have hcells : m.cells = #[.string m.kd, .string m.fd, .string m.wh, .string m.wi, .string m.pt, .string m.fr] := rfl
  have HW := hid hw
  have HR := hid hr
  have hl := hw.len
  unfold maxLen at hl
  clear hw hr
  rw [hcells]
  have hba := (Below.refl w.heap.size w).alloc (Nat.le_refl _) (.cells #[.string m.kd, .string m.fd, .string m.wh, .string m.wi, .string m.pt, .string m.fr] 129)
  by_cases hp : Gate.plain fs m.fd = true
  rotate_left
  · have hpf : Gate.plain fs m.fd = false := by simpa using hp
    have HF : Hid (Gate.j4 fs m = false) := by unfold Hid Gate.j4; rw [hpf]; rfl
    go_enter Tryz.func106, Tryz.ntmps106
    go_wp2_with fail
    have h := zbv a cap fs m.fd _ (HW.out.mono hba)
    rw [hpf] at h
    refine h.mono ?_
    rintro e w1 ⟨rfl, hb1⟩
    have HB1 := hid (hba.trans (hb1.mono hba.size))
    clear h hba hb1
    go_wp2_with fail
    go_ret
    exact ⟨by rw [HF.out]; rfl, HB1.out⟩
  have HP := hid hp
  go_enter Tryz.func106, Tryz.ntmps106
  go_wp2_with fail
  have h := zbv a cap fs m.fd _ (HW.out.mono hba)
  rw [hp] at h
  refine h.mono ?_
  rintro e w1 ⟨rfl, hb1⟩
  have HB1 := hid (hba.trans (hb1.mono hba.size))
  have hX1 := za (zH w _ _) (by simp) hb1
  have hz1 : w.heap.size < w1.heap.size := by have := hb1.size; simp at this; omega
  clear h hba hb1 hp
  go_wp2_with fail
  refine (zdF m w1).mono ?_
  rintro e w2 ⟨nv, rfl, hn, hb2⟩
  obtain ⟨na, ncap, rfl⟩ := yM hn
  have HN2 := hid hn
  have HB2 := hid (HB1.out.trans (hb2.mono HB1.out.size))
  have hX2 := za hX1 hz1 hb2
  have HX2 := hid hX2
  have hz2 : w.heap.size < w2.heap.size := Nat.lt_of_lt_of_le hz1 hb2.size
  have HNL : Hid ((Gate.zI m).length <= 2) := Gate.zcG _
  clear hn hb2 hX1 hX2
  go_wp2_with fail
  go_loopw [17] (fun iv wr => ∃ k : Nat, k <= (Gate.zI m).length /\ iv = .int .i64 k /\ ((Gate.zI m).take k).all (Gate.qZ fs m) = true /\ Below w2.heap.size w2 wr) (fun iv _ => (Gate.zI m).length - (intOf iv).toNat)
  case atStart => exact ⟨0, Nat.zero_le _, rfl, rfl, Below.refl _ _⟩
  case round =>
    obtain ⟨k, hk, rfl, hall, hB⟩ := hrel
    have HB := jO hB (HB2.out.trans (hB.mono HB2.out.size))
    have HA := hid hall
    have hXr := za HX2.out hz2 hB
    have hzr := Nat.lt_of_lt_of_le hz2 hB.size
    clear hall hB
    by_cases hlt : k < (Gate.zI m).length
    · have hltI : (k : Int) < ((Gate.zI m).length : Int) := by omega
      obtain ⟨g, rfl, hcell⟩ : ∃ g, na = some ⟨g, 0, none⟩ /\ wr.cell? ⟨g, k, none⟩ = some (.string (Gate.zI m)[k]) := by
        have hrow := qy HN2.out HB.out.1
        obtain ⟨_, ⟨h0, h1⟩ | ⟨g, cap, cur, h0, h1⟩⟩ := id hrow
        · rw [h1] at hlt; exact absurd hlt (by omega)
        · cases h0
          refine ⟨g, rfl, ?_⟩
          rw [hrow.cellAt k (by omega)]
          simp [hlt]
      have HTK : Hid (((Gate.zI m).take (k + 1)).all (Gate.qZ fs m) = Gate.qZ fs m (Gate.zI m)[k]) := by
        unfold Hid; rw [List.take_succ_eq_append_getElem hlt, List.all_append, HA.out]; simp
      have HNO : Hid (Gate.qZ fs m (Gate.zI m)[k] = false -> Gate.j4 fs m = false) := by
        intro h
        have : (Gate.zI m).all (Gate.qZ fs m) = false := by
          rw [List.all_eq_false]; exact ⟨_, List.getElem_mem hlt, by rw [h]; simp⟩
        unfold Gate.j4; rw [this]; simp
      revert HTK HNO hcell
      generalize (Gate.zI m)[k] = x
      intro hcell HTK HNO
      by_cases hx : x = m.fd
      · have hbe : (x.toList == m.fd.toList) = true := by rw [Gate.beq_toList]; simpa using hx
        have HF : Hid (Gate.j4 fs m = false) := HNO.out (by unfold Gate.qZ; simp [hx])
        clear hx
        go_wp2_with fail
        go_ret
        exact ⟨by rw [HF.out]; rfl, HB.out.2⟩
      · have hbe : (x.toList == m.fd.toList) = false := by rw [Gate.beq_toList]; simpa using hx
        have HNX : Hid (Gate.qZ fs m x = Gate.plain fs x) := by unfold Hid Gate.qZ; simp [hx]
        clear hx
        go_wp2_with fail
        have h := zbv a cap fs x wr (HW.out.mono HB.out.2)
        by_cases hp : Gate.plain fs x = true
        · rw [hp] at h
          refine h.mono ?_
          rintro e w3 ⟨rfl, hb3⟩
          have HP3 : Hid (((Gate.zI m).take (k + 1)).all (Gate.qZ fs m) = true /\ Below w2.heap.size w2 w3) := ⟨by rw [HTK.out, HNX.out]; exact hp, HB.out.1.trans (hb3.mono HB.out.1.size)⟩
          clear h hp hb3
          go_wp2_with fail
          exact ⟨⟨k + 1, by omega, by rw [wrap_one (by have := HNL.out; omega)], HP3.out.1, HP3.out.2⟩, zdz hlt (by have := HNL.out; omega)⟩
        · have hpf : Gate.plain fs x = false := by simpa using hp
          rw [hpf] at h
          refine h.mono ?_
          rintro e w3 ⟨rfl, hb3⟩
          have HF : Hid (Gate.j4 fs m = false /\ Below w.heap.size w w3) := ⟨HNO.out (by rw [HNX.out]; exact hpf), HB.out.2.trans (hb3.mono HB.out.2.size)⟩
          clear h hp hb3
          go_wp2_with fail
          go_ret
          exact ⟨by rw [HF.out.1]; rfl, HF.out.2⟩
    · have e : k = (Gate.zI m).length := by omega
      have hall := HA.out
      rw [e, List.take_of_length_le (Nat.le_refl _)] at hall
      have HM : Hid (Gate.j4 fs m = Gate.zac fs m) := by unfold Hid Gate.j4; rw [HP.out, hall]; simp
      subst e
      clear hall HA
      have HD : Hid (decide ((((Gate.zI m).length : Nat) : Int) < ((Gate.zI m).length : Int)) = false) := by unfold Hid; simp
      obtain ⟨fi, hfi, hix, hfind⟩ : ∃ fi, ∃ h : fi < fs.length, Gate.zQ fs m.fd = (fi : Int) /\ fs.find? (fun f => decide (f.nm = m.fd)) = some fs[fi] := by
        rcases Gate.qX fs m.fd with ⟨_, h2⟩ | ⟨fi, hfi, h1, _, h3⟩
        · have := HP.out; rw [Gate.zas h2] at this; cases this
        · exact ⟨fi, hfi, h1, h3⟩
      have HFO : Hid (Gate.zcs fs m.fd = fs[fi]) := by unfold Hid Gate.zcs; rw [hfind]; rfl
      have HFP : Hid (∀ W, Below w.heap.size w W -> Calls Tryz.prog 154 #[.slice a fs.length cap, .string m.fd] W fun e w' => e = .returned (.int .i64 (fi : Int)) /\ Below W.heap.size W w') := by
        intro W hb
        have h := qA a cap fs m.fd W (HW.out.mono hb)
        rw [hix] at h
        exact h
      have hfiI : (fi : Int) < (fs.length : Int) := by omega
      have HSM := hid hm.pt
      have hrl := (Array.getElem?_eq_some_iff.1 HR.out).1
      clear hfind hix
      rcases hwh : m.wh.toList.isEmpty with _ | _ <;> rcases hwi : m.wi.toList.isEmpty with _ | _ <;> rcases hpt : m.pt.toList.isEmpty with _ | _ <;> rcases hfr : m.fr.toList.isEmpty with _ | _
      all_goals first
        | (have HT : Hid (Gate.zac fs m = false) := (by unfold Hid Gate.zac Gate.isSet; simp [hwh, hwi, hpt, hfr]); go_wp2_with fail; go_ret; exact ⟨by rw [HM.out, HT.out]; rfl, HB.out.2⟩)
        | (have HT : Hid (Gate.zac fs m = true) := (by unfold Hid Gate.zac Gate.isSet; simp [hwh, hwi, hpt, hfr]); go_wp2_with fail; go_quiet (fail); go_wp2_with fail; go_ret; exact ⟨by rw [HM.out, HT.out]; rfl, below_drewN HB.out.2 _⟩)
        | skip
      all_goals
        have HT : Hid (Gate.zac fs m = Gate.zdO fs[fi] m.pt) := by unfold Hid Gate.zac; rw [HFO.out]; unfold Gate.isSet; simp [hwh, hwi, hpt, hfr]
        obtain ⟨fb, foff, rfl, hfb, hrows⟩ := HW.out.rows (by rintro rfl; simp at hfi)
        obtain ⟨wa, wcap, hf0⟩ := hrows fi hfi
        have HFI : Hid (∀ W, Below w.heap.size w W -> zdK W fb (foff + fi * 11) fs[fi] wa wcap) := fun W hb => hf0.mono hfb hb
        have HBD := hid HB.out.2.drew
        have hbc := HBD.out
        have hXc := za HX2.out hz2 (HB.out.1.drew)
        have hL := (HFI.out _ hbc).load
        have hbW := HB.out.1.drew
        clear hrows hf0
        go_wp2_with fail
        go_region_held3 (fun w' => (∀ j, w'.cell? ⟨w.heap.size, j, none⟩ = (#[.string m.kd, .string m.fd, .string m.wh, .string m.wi, .string m.pt, .string m.fr] : Array Value)[j]?) /\ w'.cell? ⟨fb, foff + fi * 11, none⟩ = some (.string fs[fi].nm) /\ w'.cell? ⟨fb, foff + fi * 11 + 1, none⟩ = some (.int .i64 fs[fi].kd) /\ w'.cell? ⟨fb, foff + fi * 11 + 2, none⟩ = some (.int .i64 fs[fi].ls) /\ w'.cell? ⟨fb, foff + fi * 11 + 3, none⟩ = some (.int .i64 fs[fi].ms) /\ w'.cell? ⟨fb, foff + fi * 11 + 4, none⟩ = some (.slice wa fs[fi].ws.length wcap) /\ w'.cell? ⟨fb, foff + fi * 11 + 5, none⟩ = some (.string fs[fi].to) /\ w'.cell? ⟨fb, foff + fi * 11 + 6, none⟩ = some (.int .i64 fs[fi].rl) /\ w'.cell? ⟨fb, foff + fi * 11 + 7, none⟩ = some (.bool fs[fi].mu) /\ w'.cell? ⟨fb, foff + fi * 11 + 8, none⟩ = some (.bool fs[fi].fx) /\ w'.cell? ⟨fb, foff + fi * 11 + 9, none⟩ = some (.string fs[fi].df) /\ w'.cell? ⟨fb, foff + fi * 11 + 10, none⟩ = some (.string fs[fi].wg)) (exact ⟨hXc, hL⟩) (first
          | (go_at_call 154; refine (HFP.out _ hbc).mono ?_; rintro e w5 ⟨rfl, hb5⟩; have hbW := hbW.trans (hb5.mono hbW.size); have hbc := hbc.trans (hb5.mono hbc.size); have hXc := za HX2.out hz2 hbW; have hL := (HFI.out _ hbc).load; clear hb5)
          | (go_at_call 153; refine (zdQ r _ _ _ _ _ _ _ _ _ _ _ _ _ _ _ (by exact (hbc.block r hrl).trans HR.out) HSM.out (by exact (HFI.out _ hbc).strs)).mono ?_; rintro e w5 ⟨rfl, hb5⟩; have hbW := hbW.trans (hb5.mono hbW.size); have hbc := hbc.trans (hb5.mono hbc.size); have hXc := za HX2.out hz2 hbW; have hL := (HFI.out _ hbc).load; clear hb5))
        go_wp2_with fail
        go_ret
        exact ⟨by rw [HM.out, HT.out]; rfl, hbc⟩
end Go.Proofs.YtkfigdbbncjojaaGreat

namespace Go.Proofs.YtkfigdbbncjojaaGreat
open Go.RowKit
namespace Gate
theorem znS (a b : ByteArray) : key a b < 0 ↔ less a b = true := by
  rw [zhC, decide_eq_true_eq]
  have := zkd a b
  omega
theorem ziR {a b c : ByteArray} (h : key a b < 0) (h' : key b c < 0) : key a c < 0 := by
  rw [znS] at h h' ⊢
  exact zai _ _ _ h h'
theorem zlK {a b c d e f : ByteArray} (h : key2 a b c d < 0) (h' : key2 c d e f < 0) : key2 a b e f < 0 := by
  unfold key2 at h h' ⊢
  by_cases h1 : key a c = 0
  · rw [if_pos h1] at h
    have e1 := (zaz a c).1 h1
    subst e1
    by_cases h2 : key a e = 0
    · rw [if_pos h2] at h' ⊢
      exact ziR h h'
    · rw [if_neg h2] at h' ⊢
      exact h'
  · rw [if_neg h1] at h
    by_cases h2 : key c e = 0
    · have e1 := (zaz c e).1 h2
      subst e1
      rw [if_neg h1]
      exact h
    · rw [if_neg h2] at h'
      have h3 := ziR h h'
      rw [if_neg (by omega)]
      exact h3
theorem zaw {a b c : Lg} (h : yL a b < 0) (h' : yL b c < 0) : yL a c < 0 := zlK h h'
theorem ze6 {a b c d : ByteArray} : key2 a b c d = 0 ↔ a = c /\ b = d := by
  unfold key2
  by_cases h : key a c = 0
  · rw [if_pos h, zaz]
    exact ⟨fun e => ⟨(zaz a c).1 h, e⟩, fun e => e.2⟩
  · rw [if_neg h]
    exact ⟨fun e => absurd e h, fun e => absurd ((zaz a c).2 e.1) h⟩
theorem zb9 {α : Type} {key : α -> α -> Int} (ht : ∀ a b c : α, key a b < 0 -> key b c < 0 -> key a c < 0) {ms : List α} (h : rising key ms) : ∀ (j : Nat) (hj : j < ms.length) (i : Nat) (hi : i < j), key (ms[i]'(by omega)) ms[j] < 0
  | 0, _, i, hi => by omega
  | j + 1, hj, i, hi => by
    rcases Nat.lt_or_ge i j with hlt | hge
    · have hjl : j < ms.length := by omega
      have hil : i < ms.length := by omega
      exact ht ms[i] ms[j] ms[j + 1] (zb9 ht h j hjl i hlt) (h j hj)
    · have e : i = j := by omega
      subst e
      exact h i hj
def ji (ls : List Lg) (tm rs : ByteArray) : Bool := ls.any fun g => decide (g.tm = tm) && decide (g.rs = rs)
structure zc2 (ls : List Lg) (tm rs : ByteArray) (p : Nat) : Prop where
  le : p <= ls.length
  below : ∀ i (h : i < ls.length), i < p -> key2 ls[i].tm ls[i].rs tm rs < 0
  above : ∀ i (h : i < ls.length), p <= i -> 0 <= key2 ls[i].tm ls[i].rs tm rs
theorem zc2.found {ls : List Lg} {tm rs : ByteArray} {p : Nat} (h : zc2 ls tm rs p) (hr : rising yL ls) : ji ls tm rs = true ↔ ∃ hp : p < ls.length, ls[p].tm = tm /\ ls[p].rs = rs := by
  unfold ji
  rw [List.any_eq_true]
  constructor
  · rintro ⟨g, hg, he⟩
    obtain ⟨i, hi, rfl⟩ := List.mem_iff_getElem.1 hg
    simp only [Bool.and_eq_true, decide_eq_true_eq] at he
    have hz : key2 ls[i].tm ls[i].rs tm rs = 0 := ze6.2 he
    have hpi : p <= i := by
      rcases Nat.lt_or_ge i p with hlt | hge
      · have := h.below i hi hlt; omega
      · exact hge
    rcases Nat.eq_or_lt_of_le hpi with e | hlt
    · subst e; exact ⟨hi, he⟩
    · have h1 := zb9 (fun a b c => zaw (a := a) (b := b) (c := c)) hr i hi p hlt
      have h2 := h.above p (by omega) (Nat.le_refl _)
      unfold yL at h1
      rw [he.1, he.2] at h1
      omega
  · rintro ⟨hp, he⟩
    exact ⟨ls[p], List.getElem_mem _, by simp [he.1, he.2]⟩
end Gate
end Go.Proofs.YtkfigdbbncjojaaGreat

namespace Go.Proofs.YtkfigdbbncjojaaGreat.Gate
theorem zfa {ss : List Shp} (h : zM ss = true) (i : Nat) (hi : i < ss.length) : yA ss i = true := by
  unfold zM at h
  rw [Bool.and_eq_true] at h
  exact zfN hi h.2
theorem zlZ {ss : List Shp} (h : zM ss = true) : ∀ (j : Nat) (hj : j < ss.length) (i : Nat) (hi : i < j), less (ss[i]'(by omega)).kd ss[j].kd = true := by
  intro j
  induction j with
  | zero => intro _ i hi; omega
  | succ j ih =>
    intro hj i hi
    have h1 := zfa h (j + 1) hj
    rw [zeI ss j hj] at h1
    simp only [Bool.and_eq_true] at h1
    have h2 := h1.1.2
    rcases Nat.lt_or_ge i j with hlt | hge
    · exact zai _ _ _ (ih (by omega) i hlt) h2
    · have e : i = j := by omega
      subst e; exact h2
theorem zcw {ss : List Shp} (h : zM ss = true) (i : Nat) (hi : i < ss.length) : shapeOf ss ss[i].kd = ss[i] := by
  refine zco ss _ i hi ?_ rfl
  unfold zC
  rw [List.any_eq_false]
  intro x hx
  obtain ⟨k, hk, rfl⟩ := List.mem_iff_getElem.1 hx
  have hk' : k < i := by simp at hk; omega
  have h1 := zlZ h i hi k hk'
  simp only [List.getElem_take, decide_eq_true_eq]
  intro e
  unfold less at h1
  rw [e, zaU] at h1
  cases h1
theorem zdU {ss : List Shp} (h : zM ss = true) (i : Nat) (hi : i < ss.length) : ss[i].fs.length <= 6 := by
  have h1 := zfa h i hi
  unfold yA at h1
  rw [getD_at ss i _ hi] at h1
  simp only [Bool.and_eq_true] at h1
  have h2 := h1.2
  unfold yC at h2
  simp only [Bool.and_eq_true, decide_eq_true_eq] at h2
  exact h2.1
def jc (ss : List Shp) (m : Mnd) : Bool := zC ss m.kd && j4 (shapeOf ss m.kd).fs m
def rowOk (ms : List Mnd) (s : Shp) : Bool := (zD (zh s ms) s.fs.length).1
def zY (ss : List Shp) (ms : List Mnd) : Bool := decide (ms.length <= 12) && zM ss && ms.all (jc ss) && ss.all (rowOk ms)
theorem zg1 {ss : List Shp} {ms : List Mnd} (h : zM ss = true) (hm : ms.all (jc ss) = true) (i : Nat) (hi : i < ss.length) : ∀ q, q < ss[i].fs.length -> ∀ x ∈ zZ ss[i] ms q, 0 <= x /\ x < ss[i].fs.length := by
  intro q _ x hx
  unfold zZ at hx
  obtain ⟨m, hmm, hx⟩ := List.mem_flatMap.1 hx
  by_cases ht : turns m ss[i] q = true
  · rw [if_pos ht] at hx
    obtain ⟨v, hv, rfl⟩ := List.mem_map.1 hx
    unfold turns at ht
    simp only [Bool.and_eq_true, decide_eq_true_eq] at ht
    have h1 := List.all_eq_true.1 hm m hmm
    unfold jc at h1
    rw [ht.1, zcw h i hi] at h1
    simp only [Bool.and_eq_true] at h1
    have h2 := h1.2
    unfold j4 at h2
    simp only [Bool.and_eq_true] at h2
    have h3 := List.all_eq_true.1 h2.1.2 v hv
    unfold qZ at h3
    simp only [Bool.and_eq_true] at h3
    rcases qX ss[i].fs v with ⟨_, h5⟩ | ⟨k, hk, h4, _⟩
    · rw [zas h5] at h3; exact absurd h3.2 (by simp)
    · rw [h4]; omega
  · rw [if_neg ht] at hx; cases hx
end Go.Proofs.YtkfigdbbncjojaaGreat.Gate

namespace Go.Proofs.YtkfigdbbncjojaaGreat
open Go.RowKit
set_option maxHeartbeats 4000000 in
theorem ze8 (a : Option Addr) (cap : Nat) (ms : List Lg) (t : Lg) (w : World) (hw : zbo w a ms) (hl : ms.length <= 1000) (hr : Gate.rising Gate.yL ms) :
    Calls Tryz.prog 171 #[.slice a ms.length cap, .agg t.cells, .func (.func 123) #[] #[]] w fun e w' => (∃ p : Nat, e = .returned (.tuple #[.int .i64 p, .bool (Gate.ji ms t.tm t.rs)]) /\ Gate.zc2 ms t.tm t.rs p) /\ Below w.heap.size w w' := by
  have HW := hid hw
  have HR : Hid (Gate.rising Gate.yL ms) := hr
  clear hw hr
  unfold Lg.cells
  go_enter Tryz.func171, Tryz.ntmps171
  go_wp2_with fail
  have hT0 := zH w #[.string t.tm, .string t.rs, .int .i64 t.mo, .int .i64 t.fr] 124
  have HB0 : Hid (Below w.heap.size w (w.alloc (.cells #[.string t.tm, .string t.rs, .int .i64 t.mo, .int .i64 t.fr] 124))) := (Below.refl _ _).alloc (Nat.le_refl _) _
  obtain ⟨W0, hW0⟩ : ∃ W0, W0 = w.alloc (.cells #[.string t.tm, .string t.rs, .int .i64 t.mo, .int .i64 t.fr] 124) := ⟨_, rfl⟩
  have hz0 : w.heap.size < W0.heap.size := by rw [hW0]; simp
  rw [<- hW0] at HB0 hT0 ⊢
  clear hW0
  have hlI : (ms.length : Int) <= 1000 := by omega
  go_loopw [9, 10] (fun iv jv wr => ∃ lo hi : Nat, iv = .int .i64 lo /\ jv = .int .i64 hi /\ lo <= hi /\ hi <= ms.length /\ Hid ((∀ i (h : i < ms.length), i < lo -> Gate.yL ms[i] t < 0) /\ (∀ i (h : i < ms.length), hi <= i -> 0 <= Gate.yL ms[i] t) /\ Below W0.heap.size W0 wr)) (fun iv jv _ => (intOf jv).toNat - (intOf iv).toNat)
  case atStart => exact ⟨0, ms.length, rfl, rfl, Nat.zero_le _, Nat.le_refl _, fun i h h' => by omega, fun i h h' => by omega, Below.refl _ _⟩
  case round =>
    obtain ⟨lo, hi, rfl, rfl, hlh, hhn, HQ⟩ := hrel
    have hT := za hT0 hz0 HQ.out.2.2
    have hzT := Nat.lt_of_lt_of_le hz0 HQ.out.2.2.size
    have HBr := hid (HB0.out.trans (HQ.out.2.2.mono HB0.out.size))
    have HBW : Hid (∀ W, Below w.heap.size w W -> Below wr.heap.size wr W -> Below W0.heap.size W0 W) := fun W _ h => HQ.out.2.2.trans (h.mono HQ.out.2.2.size)
    have hloI : (lo : Int) <= 1000 := by omega
    have hhiI : (hi : Int) <= 1000 := by omega
    by_cases hlt : lo < hi
    · obtain ⟨m, hm⟩ : ∃ m, m = (lo + hi) / 2 := ⟨_, rfl⟩
      have HM1 : Hid (lo <= m /\ m < hi) := ⟨by omega, by omega⟩
      have hml : m < ms.length := by omega
      have hmI : ((lo : Int) + (hi : Int)) / 2 = (m : Int) := by omega
      clear hm
      obtain ⟨b, off, rfl, hb, d0, d1, d2, d3⟩ := HW.out.load HBr.out m hml
      have hb' := Nat.lt_of_lt_of_le hb HBr.out.size
      have hmlI : (m : Int) < (ms.length : Int) := by omega
      have hS : (∀ j, wr.drew.cell? ⟨w.heap.size, j, none⟩ = (#[.string t.tm, .string t.rs, .int .i64 t.mo, .int .i64 t.fr] : Array Value)[j]?) /\ wr.drew.cell? ⟨b, off + m * 4, none⟩ = some (.string ms[m].tm) /\ wr.drew.cell? ⟨b, off + m * 4 + 1, none⟩ = some (.string ms[m].rs) /\ wr.drew.cell? ⟨b, off + m * 4 + 2, none⟩ = some (.int .i64 ms[m].mo) /\ wr.drew.cell? ⟨b, off + m * 4 + 3, none⟩ = some (.int .i64 ms[m].fr) := ⟨hT, d0, d1, d2, d3⟩
      clear d0 d1 d2 d3 hT
      go_wp2_with fail
      go_region_held3 (fun w' => (∀ j, w'.cell? ⟨w.heap.size, j, none⟩ = (#[.string t.tm, .string t.rs, .int .i64 t.mo, .int .i64 t.fr] : Array Value)[j]?) /\ w'.cell? ⟨b, off + m * 4, none⟩ = some (.string ms[m].tm) /\ w'.cell? ⟨b, off + m * 4 + 1, none⟩ = some (.string ms[m].rs) /\ w'.cell? ⟨b, off + m * 4 + 2, none⟩ = some (.int .i64 ms[m].mo) /\ w'.cell? ⟨b, off + m * 4 + 3, none⟩ = some (.int .i64 ms[m].fr)) (exact hS) (first | (go_at_call 123; refine (zbd ms[m] t _).mono ?_; rintro e w2 ⟨rfl, hb2⟩; have hS := (⟨za hS.1 hzT hb2, (hb2.cell (p := ⟨b, _, none⟩) hb').trans hS.2.1, (hb2.cell (p := ⟨b, _, none⟩) hb').trans hS.2.2.1, (hb2.cell (p := ⟨b, _, none⟩) hb').trans hS.2.2.2.1, (hb2.cell (p := ⟨b, _, none⟩) hb').trans hS.2.2.2.2⟩ : _ /\ _ /\ _ /\ _ /\ _); have hB2 := HBr.out.drew.trans (hb2.mono HBr.out.drew.size); have hB2' := (Below.refl wr.heap.size wr).drew.trans hb2; clear hb2))
      have HB2 := hid (HBW.out w2 hB2 hB2')
      by_cases hk : Gate.yL ms[m] t < 0
      · have hd : decide (Gate.yL ms[m] t < 0) = true := by simpa using hk
        have HA : Hid (∀ i (h : i < ms.length), i < m + 1 -> Gate.yL ms[i] t < 0) := by
          intro i hi him
          rcases Nat.eq_or_lt_of_le (Nat.le_of_lt_succ him) with e | hlt'
          · subst e; exact hk
          · exact Gate.zaw (Gate.zb9 (fun a b c => Gate.zaw (a := a) (b := b) (c := c)) HR.out m hml i hlt') hk
        rw [hd]
        clear hd hk hS
        go_wp2_with fail
        exact ⟨⟨m + 1, hi, by go_num, rfl, HM1.out.2, hhn, HA.out, HQ.out.2.1, HB2.out⟩, by have := HM1.out; show (hi : Int).toNat - ((m : Int) + 1).toNat < (hi : Int).toNat - (lo : Int).toNat; omega⟩
      · have hd : decide (Gate.yL ms[m] t < 0) = false := by simpa using hk
        have HA : Hid (∀ i (h : i < ms.length), m <= i -> 0 <= Gate.yL ms[i] t) := by
          intro i hi him
          rcases Nat.eq_or_lt_of_le him with e | hlt'
          · subst e; omega
          · rcases Int.lt_or_le (Gate.yL ms[i] t) 0 with h1 | h1
            · exact absurd (Gate.zaw (Gate.zb9 (fun a b c => Gate.zaw (a := a) (b := b) (c := c)) HR.out i hi m hlt') h1) hk
            · exact h1
        rw [hd]
        clear hd hk hS
        go_wp2_with fail
        exact ⟨⟨lo, m, rfl, rfl, HM1.out.1, Nat.le_of_lt hml, HQ.out.1, HA.out, HB2.out⟩, by have := HM1.out; show (m : Int).toNat - (lo : Int).toNat < (hi : Int).toNat - (lo : Int).toNat; omega⟩
    · have e : hi = lo := by omega
      subst e
      have HA : Hid (Gate.zc2 ms t.tm t.rs hi) := ⟨hhn, HQ.out.1, HQ.out.2.1⟩
      clear HQ
      by_cases hn : hi < ms.length
      · obtain ⟨b, off, rfl, hb, d0, d1, d2, d3⟩ := HW.out.load HBr.out hi hn
        have hb' : b < wr.heap.size := Nat.lt_of_lt_of_le hb HBr.out.size
        have hnI : (hi : Int) < (ms.length : Int) := by omega
        have hS : (∀ j, wr.drew.cell? ⟨w.heap.size, j, none⟩ = (#[.string t.tm, .string t.rs, .int .i64 t.mo, .int .i64 t.fr] : Array Value)[j]?) /\ wr.drew.cell? ⟨b, off + hi * 4, none⟩ = some (.string ms[hi].tm) /\ wr.drew.cell? ⟨b, off + hi * 4 + 1, none⟩ = some (.string ms[hi].rs) /\ wr.drew.cell? ⟨b, off + hi * 4 + 2, none⟩ = some (.int .i64 ms[hi].mo) /\ wr.drew.cell? ⟨b, off + hi * 4 + 3, none⟩ = some (.int .i64 ms[hi].fr) := ⟨hT, d0, d1, d2, d3⟩
        have HFd : Hid (Gate.ji ms t.tm t.rs = (Gate.yL ms[hi] t == 0)) := by
          unfold Hid
          rw [Bool.eq_iff_iff, HA.out.found HR.out, beq_iff_eq]
          unfold Gate.yL
          rw [Gate.ze6]
          exact ⟨fun h => h.2, fun h => ⟨hn, h⟩⟩
        clear d0 d1 d2 d3 hT hlt
        go_wp2_with fail
        go_region_held3 (fun w' => (∀ j, w'.cell? ⟨w.heap.size, j, none⟩ = (#[.string t.tm, .string t.rs, .int .i64 t.mo, .int .i64 t.fr] : Array Value)[j]?) /\ w'.cell? ⟨b, off + hi * 4, none⟩ = some (.string ms[hi].tm) /\ w'.cell? ⟨b, off + hi * 4 + 1, none⟩ = some (.string ms[hi].rs) /\ w'.cell? ⟨b, off + hi * 4 + 2, none⟩ = some (.int .i64 ms[hi].mo) /\ w'.cell? ⟨b, off + hi * 4 + 3, none⟩ = some (.int .i64 ms[hi].fr)) (exact hS) (first | (go_at_call 123; refine (zbd ms[hi] t _).mono ?_; rintro e w2 ⟨rfl, hb2⟩; have hS := (⟨za hS.1 hzT hb2, (hb2.cell (p := ⟨b, _, none⟩) hb').trans hS.2.1, (hb2.cell (p := ⟨b, _, none⟩) hb').trans hS.2.2.1, (hb2.cell (p := ⟨b, _, none⟩) hb').trans hS.2.2.2.1, (hb2.cell (p := ⟨b, _, none⟩) hb').trans hS.2.2.2.2⟩ : _ /\ _ /\ _ /\ _ /\ _); have hB2 := HBr.out.drew.trans (hb2.mono HBr.out.drew.size); have hB2' := (Below.refl wr.heap.size wr).drew.trans hb2; clear hb2))
        go_wp2_with fail
        go_ret2
        exact ⟨⟨hi, by rw [HFd.out]; rfl, HA.out⟩, hB2⟩
      · have hnI : ¬ (hi : Int) < (ms.length : Int) := by omega
        have HFd : Hid (Gate.ji ms t.tm t.rs = false) := by
          unfold Hid
          rw [Bool.eq_false_iff]
          intro h
          obtain ⟨hp, _⟩ := (HA.out.found HR.out).1 h
          exact hn hp
        clear hlt
        go_wp2_with fail
        go_quiet (fail)
        go_wp2_with fail
        go_ret2
        exact ⟨⟨hi, by rw [HFd.out]; rfl, HA.out⟩, below_drewN HBr.out _⟩
end Go.Proofs.YtkfigdbbncjojaaGreat
