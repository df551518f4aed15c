import Derived.Test.YtfpeplbmfbepcaaGreatM24
namespace Go.Proofs.YtfpeplbmfbepcaaGreat
open Go.RowKit
namespace Gate
def zaB {α : Type} (key : α -> α -> Int) (ms : List α) (k : Nat) : Prop := ∀ i (h : i + 1 < ms.length), i + 1 < k -> key ms[i] ms[i + 1] < 0
def rising {α : Type} (key : α -> α -> Int) (ms : List α) : Prop := ∀ i (h : i + 1 < ms.length), key ms[i] ms[i + 1] < 0
noncomputable def zbs {α : Type} (key : α -> α -> Int) (ms : List α) : Bool := @decide (rising key ms) (Classical.propDecidable _)
theorem zdD {α : Type} {key : α -> α -> Int} {ms : List α} {m : Nat} (h : zaB key ms (m + 1)) (hl : m + 1 < ms.length) (hk : key ms[m] ms[m + 1] < 0) : zaB key ms (m + 1 + 1) := by
  intro i hi hik
  rcases Nat.lt_or_ge i m with hlt | hge
  · exact h i hi (by omega)
  · have e : i = m := by omega
    subst e
    exact hk
theorem zfL {α : Type} {key : α -> α -> Int} {ms : List α} {m : Nat} (hl : m + 1 < ms.length) (hk : ¬ key ms[m] ms[m + 1] < 0) : zbs key ms = false := by
  unfold zbs
  simp only [decide_eq_false_iff_not]
  exact fun h => hk (h m hl)
theorem zfW {α : Type} {key : α -> α -> Int} {ms : List α} {m : Nat} (h : zaB key ms (m + 1)) (hl : ms.length <= m + 1) : zbs key ms = true := by
  unfold zbs
  simp only [decide_eq_true_eq]
  exact fun i hi => h i hi (by omega)
theorem zh9 {α : Type} (key : α -> α -> Int) (ms : List α) : zbs key ms = true ↔ rising key ms := by
  unfold zbs
  simp only [decide_eq_true_eq]
def zcH (a b : Int) : Int := if a < b then -1 else if b < a then 1 else 0
def zb4 (a b : Gr) : Int := zcH a.no b.no
end Gate
theorem zf0 {n m : Nat} (h : m + 1 < n) : n + 1 - (intOf (Value.int IntKind.i64 ((m : Int) + 1 + 1))).toNat < n + 1 - (intOf (Value.int IntKind.i64 ((m : Int) + 1))).toNat := by
  show n + 1 - ((m : Int) + 1 + 1).toNat < n + 1 - ((m : Int) + 1).toNat
  omega
theorem zoO (x : Int) (w : World) : Calls Tryz.prog 216 #[.int .i64 x] w fun e w' => e = .returned (.bool false) /\ w' = w := by
  have h : (x != x) = false := by simp
  go_enter Tryz.func216, Tryz.ntmps216
  go_wp2_with fail
  go_ret
  exact ⟨rfl, rfl⟩
set_option maxHeartbeats 1000000 in
theorem ziK (x y : Int) (w : World) : Calls Tryz.prog 198 #[.int .i64 x, .int .i64 y] w fun e w' => e = .returned (.int .i64 (Gate.zcH x y)) /\ w' = w := by
  have HN := hid zoO
  by_cases h1 : x < y
  · have HF : Hid (Gate.zcH x y = -1) := by unfold Hid Gate.zcH; rw [if_pos h1]
    go_enter Tryz.func198, Tryz.ntmps198
    go_wp2_with (go_at_call 216; refine (HN.out _ _).mono ?_; rintro e w2 ⟨rfl, rfl⟩)
    go_ret
    exact ⟨zl HF.out.symm, rfl⟩
  · by_cases h2 : y < x
    · have HF : Hid (Gate.zcH x y = 1) := by unfold Hid Gate.zcH; rw [if_neg h1, if_pos h2]
      go_enter Tryz.func198, Tryz.ntmps198
      go_wp2_with (go_at_call 216; refine (HN.out _ _).mono ?_; rintro e w2 ⟨rfl, rfl⟩)
      go_ret
      exact ⟨zl HF.out.symm, rfl⟩
    · have HF : Hid (Gate.zcH x y = 0) := by unfold Hid Gate.zcH; rw [if_neg h1, if_neg h2]
      go_enter Tryz.func198, Tryz.ntmps198
      go_wp2_with (go_at_call 216; refine (HN.out _ _).mono ?_; rintro e w2 ⟨rfl, rfl⟩)
      go_ret
      exact ⟨zl HF.out.symm, rfl⟩
set_option maxHeartbeats 1000000 in
theorem zil (g h : Gr) (a b : Option Addr) (c d : Nat) (w : World) :
    Calls Tryz.prog 156 #[.agg (g.cells a c), .agg (h.cells b d)] w fun e w' => e = .returned (.int .i64 (Gate.zb4 g h)) /\ Below w.heap.size w w' := by
  unfold Gr.cells
  go_enter Tryz.func156, Tryz.ntmps156
  go_wp2_with (go_at_call 198; refine (ziK _ _ _).mono ?_; rintro e w2 ⟨rfl, rfl⟩)
  go_ret
  exact ⟨rfl, zn _ _ _⟩
set_option maxHeartbeats 4000000 in
theorem zhw (a : Option Addr) (cap : Nat) (ms : List Ob) (w : World) (hw : zbn w a ms) :
    Calls Tryz.prog 151 #[.slice a ms.length cap, .func (.func 152) #[] #[]] w fun e w' => e = .returned (.bool (Gate.zbs Gate.zbc ms)) /\ Below w.heap.size w w' := by
  have hl := hw.len
  unfold maxLen at hl
  have HW := hid hw
  clear hw
  go_enter Tryz.func151, Tryz.ntmps151
  go_wp2_with fail
  go_loopw [5] (fun iv wr => ∃ m : Nat, iv = .int .i64 ((m : Int) + 1) /\ m <= ms.length /\ Hid (Gate.zaB Gate.zbc ms (m + 1) /\ Below w.heap.size w wr)) (fun iv _ => ms.length + 1 - (intOf iv).toNat)
  case atStart => exact ⟨0, rfl, Nat.zero_le _, fun i h h' => by omega, Below.refl _ _⟩
  case round =>
    obtain ⟨m, rfl, hml, HQ⟩ := hrel
    by_cases hlt : m + 1 < ms.length
    · have hm : m < ms.length := by omega
      obtain ⟨b, off, p0, p1, p2, p3, rfl, hb, _, _, _, d0, d1, d2, d3, d4, d5, d6⟩ := HW.out.load HQ.out.2 m hm
      obtain ⟨b2, off2, q0, q1, q2, q3, ha2, hbq, _, _, _, e0, e1, e2, e3, e4, e5, e6⟩ := HW.out.load HQ.out.2 (m + 1) hlt
      obtain ⟨rfl, rfl⟩ : b = b2 /\ off = off2 := by
        have h := ha2
        simpa using h
      have hb' := Nat.lt_of_lt_of_le hb HQ.out.2.size
      have hltI : (m : Int) + 1 < (ms.length : Int) := by omega
      have h0m : (0 : Int) <= (m : Int) := by omega
      have h01 : (0 : Int) <= (m : Int) + 1 := by omega
      have hsub : IntKind.i64.wrap ((m : Int) + 1 - 1) = (m : Int) := by rw [IntKind.wrap_i64]; omega
      have hsub2 : IntKind.i64.wrap (m : Int) = (m : Int) := by rw [IntKind.wrap_i64]; omega
      have hsub3 : wrap64 (m : Int) = (m : Int) := by unfold wrap64; omega
      have htn : ((m : Int) + 1).toNat = m + 1 := by omega
      have hlmI : (m : Int) < (ms.length : Int) := by omega
      have HBr := hid HQ.out.2
      have hS : wr.drew.cell? ⟨b, off + m * 7, none⟩ = some (.string ms[m].kd) /\ wr.drew.cell? ⟨b, off + m * 7 + 1, none⟩ = some (.string ms[m].nm) /\ wr.drew.cell? ⟨b, off + m * 7 + 2, none⟩ = some (.string ms[m].tm) /\ wr.drew.cell? ⟨b, off + m * 7 + 3, none⟩ = some (.slice p0 ms[m].vs.length p2) /\ wr.drew.cell? ⟨b, off + m * 7 + 4, none⟩ = some (.bool ms[m].en) /\ wr.drew.cell? ⟨b, off + m * 7 + 5, none⟩ = some (.slice p1 ms[m].hs.length p3) /\ wr.drew.cell? ⟨b, off + m * 7 + 6, none⟩ = some (.int .i64 ms[m].vr) /\ wr.drew.cell? ⟨b, off + (m + 1) * 7, none⟩ = some (.string ms[m + 1].kd) /\ wr.drew.cell? ⟨b, off + (m + 1) * 7 + 1, none⟩ = some (.string ms[m + 1].nm) /\ wr.drew.cell? ⟨b, off + (m + 1) * 7 + 2, none⟩ = some (.string ms[m + 1].tm) /\ wr.drew.cell? ⟨b, off + (m + 1) * 7 + 3, none⟩ = some (.slice q0 ms[m + 1].vs.length q2) /\ wr.drew.cell? ⟨b, off + (m + 1) * 7 + 4, none⟩ = some (.bool ms[m + 1].en) /\ wr.drew.cell? ⟨b, off + (m + 1) * 7 + 5, none⟩ = some (.slice q1 ms[m + 1].hs.length q3) /\ wr.drew.cell? ⟨b, off + (m + 1) * 7 + 6, none⟩ = some (.int .i64 ms[m + 1].vr) := ⟨d0, d1, d2, d3, d4, d5, d6, e0, e1, e2, e3, e4, e5, e6⟩
      clear d0 d1 d2 d3 d4 d5 d6 e0 e1 e2 e3 e4 e5 e6
      have HM := hid HQ.out.1
      clear HQ
      go_wp2_with fail
      go_region_held3 (fun w' => w'.cell? ⟨b, off + m * 7, none⟩ = some (.string ms[m].kd) /\ w'.cell? ⟨b, off + m * 7 + 1, none⟩ = some (.string ms[m].nm) /\ w'.cell? ⟨b, off + m * 7 + 2, none⟩ = some (.string ms[m].tm) /\ w'.cell? ⟨b, off + m * 7 + 3, none⟩ = some (.slice p0 ms[m].vs.length p2) /\ w'.cell? ⟨b, off + m * 7 + 4, none⟩ = some (.bool ms[m].en) /\ w'.cell? ⟨b, off + m * 7 + 5, none⟩ = some (.slice p1 ms[m].hs.length p3) /\ w'.cell? ⟨b, off + m * 7 + 6, none⟩ = some (.int .i64 ms[m].vr) /\ w'.cell? ⟨b, off + (m + 1) * 7, none⟩ = some (.string ms[m + 1].kd) /\ w'.cell? ⟨b, off + (m + 1) * 7 + 1, none⟩ = some (.string ms[m + 1].nm) /\ w'.cell? ⟨b, off + (m + 1) * 7 + 2, none⟩ = some (.string ms[m + 1].tm) /\ w'.cell? ⟨b, off + (m + 1) * 7 + 3, none⟩ = some (.slice q0 ms[m + 1].vs.length q2) /\ w'.cell? ⟨b, off + (m + 1) * 7 + 4, none⟩ = some (.bool ms[m + 1].en) /\ w'.cell? ⟨b, off + (m + 1) * 7 + 5, none⟩ = some (.slice q1 ms[m + 1].hs.length q3) /\ w'.cell? ⟨b, off + (m + 1) * 7 + 6, none⟩ = some (.int .i64 ms[m + 1].vr)) (exact hS) (first | (go_at_call 152; refine (zhG ms[m] ms[m + 1] p0 p1 q0 q1 p2 p3 q2 q3 _).mono ?_; rintro e w2 ⟨rfl, hb2⟩; have hS := (⟨(hb2.cell (p := ⟨b, _, none⟩) hb').trans hS.1, (hb2.cell (p := ⟨b, _, none⟩) hb').trans hS.2.1, (hb2.cell (p := ⟨b, _, none⟩) hb').trans hS.2.2.1, (hb2.cell (p := ⟨b, _, none⟩) hb').trans hS.2.2.2.1, (hb2.cell (p := ⟨b, _, none⟩) hb').trans hS.2.2.2.2.1, (hb2.cell (p := ⟨b, _, none⟩) hb').trans hS.2.2.2.2.2.1, (hb2.cell (p := ⟨b, _, none⟩) hb').trans hS.2.2.2.2.2.2.1, (hb2.cell (p := ⟨b, _, none⟩) hb').trans hS.2.2.2.2.2.2.2.1, (hb2.cell (p := ⟨b, _, none⟩) hb').trans hS.2.2.2.2.2.2.2.2.1, (hb2.cell (p := ⟨b, _, none⟩) hb').trans hS.2.2.2.2.2.2.2.2.2.1, (hb2.cell (p := ⟨b, _, none⟩) hb').trans hS.2.2.2.2.2.2.2.2.2.2.1, (hb2.cell (p := ⟨b, _, none⟩) hb').trans hS.2.2.2.2.2.2.2.2.2.2.2.1, (hb2.cell (p := ⟨b, _, none⟩) hb').trans hS.2.2.2.2.2.2.2.2.2.2.2.2.1, (hb2.cell (p := ⟨b, _, none⟩) hb').trans hS.2.2.2.2.2.2.2.2.2.2.2.2.2⟩ : _ /\ _ /\ _ /\ _ /\ _ /\ _ /\ _ /\ _ /\ _ /\ _ /\ _ /\ _ /\ _ /\ _); have hB2 := HBr.out.drew.trans (hb2.mono HBr.out.drew.size); clear hb2))
      by_cases hk : Gate.zbc ms[m] ms[m + 1] < 0
      · have HA := hid (Gate.zdD HM.out hlt hk)
        have hd : decide (0 <= Gate.zbc ms[m] ms[m + 1]) = false := by simp; omega
        rw [hd]
        clear hk hd
        go_wp2_with fail
        exact ⟨⟨m + 1, by go_num, by omega, HA.out, hB2⟩, zf0 (by omega)⟩
      · have HA := hid (Gate.zfL hlt hk)
        have hd : decide (0 <= Gate.zbc ms[m] ms[m + 1]) = true := by simp; omega
        rw [hd]
        clear hk hd
        go_wp2_with fail
        go_ret
        exact ⟨ze HA.out.symm, hB2⟩
    · have HA : Hid (Gate.zbs Gate.zbc ms = true) := Gate.zfW HQ.out.1 (by omega)
      have HB := hid HQ.out.2
      clear HQ
      go_wp2_with fail
      go_ret
      exact ⟨ze HA.out.symm, HB.out⟩
set_option maxHeartbeats 4000000 in
theorem zhS (a : Option Addr) (cap : Nat) (ms : List Gr) (w : World) (hw : zcd w a ms) :
    Calls Tryz.prog 155 #[.slice a ms.length cap, .func (.func 156) #[] #[]] w fun e w' => e = .returned (.bool (Gate.zbs Gate.zb4 ms)) /\ Below w.heap.size w w' := by
  have hl := hw.len
  unfold maxLen at hl
  have HW := hid hw
  clear hw
  go_enter Tryz.func155, Tryz.ntmps155
  go_wp2_with fail
  go_loopw [5] (fun iv wr => ∃ m : Nat, iv = .int .i64 ((m : Int) + 1) /\ m <= ms.length /\ Hid (Gate.zaB Gate.zb4 ms (m + 1) /\ Below w.heap.size w wr)) (fun iv _ => ms.length + 1 - (intOf iv).toNat)
  case atStart => exact ⟨0, rfl, Nat.zero_le _, fun i h h' => by omega, Below.refl _ _⟩
  case round =>
    obtain ⟨m, rfl, hml, HQ⟩ := hrel
    by_cases hlt : m + 1 < ms.length
    · have hm : m < ms.length := by omega
      obtain ⟨b, off, p0, p1, rfl, hb, _, _, d0, d1, d2, d3, d4, d5, d6⟩ := HW.out.load HQ.out.2 m hm
      obtain ⟨b2, off2, q0, q1, ha2, hbq, _, _, e0, e1, e2, e3, e4, e5, e6⟩ := HW.out.load HQ.out.2 (m + 1) hlt
      obtain ⟨rfl, rfl⟩ : b = b2 /\ off = off2 := by
        have h := ha2
        simpa using h
      have hb' := Nat.lt_of_lt_of_le hb HQ.out.2.size
      have hltI : (m : Int) + 1 < (ms.length : Int) := by omega
      have h0m : (0 : Int) <= (m : Int) := by omega
      have h01 : (0 : Int) <= (m : Int) + 1 := by omega
      have hsub : IntKind.i64.wrap ((m : Int) + 1 - 1) = (m : Int) := by rw [IntKind.wrap_i64]; omega
      have hsub2 : IntKind.i64.wrap (m : Int) = (m : Int) := by rw [IntKind.wrap_i64]; omega
      have hsub3 : wrap64 (m : Int) = (m : Int) := by unfold wrap64; omega
      have htn : ((m : Int) + 1).toNat = m + 1 := by omega
      have hlmI : (m : Int) < (ms.length : Int) := by omega
      have HBr := hid HQ.out.2
      have hS : wr.drew.cell? ⟨b, off + m * 7, none⟩ = some (.int .i64 ms[m].no) /\ wr.drew.cell? ⟨b, off + m * 7 + 1, none⟩ = some (.string ms[m].to) /\ wr.drew.cell? ⟨b, off + m * 7 + 2, none⟩ = some (.string ms[m].gb) /\ wr.drew.cell? ⟨b, off + m * 7 + 3, none⟩ = some (.slice p0 ms[m].r.vs.length p1) /\ wr.drew.cell? ⟨b, off + m * 7 + 4, none⟩ = some (.string ms[m].r.kd) /\ wr.drew.cell? ⟨b, off + m * 7 + 5, none⟩ = some (.string ms[m].r.tm) /\ wr.drew.cell? ⟨b, off + m * 7 + 6, none⟩ = some (.string ms[m].r.px) /\ wr.drew.cell? ⟨b, off + (m + 1) * 7, none⟩ = some (.int .i64 ms[m + 1].no) /\ wr.drew.cell? ⟨b, off + (m + 1) * 7 + 1, none⟩ = some (.string ms[m + 1].to) /\ wr.drew.cell? ⟨b, off + (m + 1) * 7 + 2, none⟩ = some (.string ms[m + 1].gb) /\ wr.drew.cell? ⟨b, off + (m + 1) * 7 + 3, none⟩ = some (.slice q0 ms[m + 1].r.vs.length q1) /\ wr.drew.cell? ⟨b, off + (m + 1) * 7 + 4, none⟩ = some (.string ms[m + 1].r.kd) /\ wr.drew.cell? ⟨b, off + (m + 1) * 7 + 5, none⟩ = some (.string ms[m + 1].r.tm) /\ wr.drew.cell? ⟨b, off + (m + 1) * 7 + 6, none⟩ = some (.string ms[m + 1].r.px) := ⟨d0, d1, d2, d3, d4, d5, d6, e0, e1, e2, e3, e4, e5, e6⟩
      clear d0 d1 d2 d3 d4 d5 d6 e0 e1 e2 e3 e4 e5 e6
      have HM := hid HQ.out.1
      clear HQ
      go_wp2_with fail
      go_region_held3 (fun w' => w'.cell? ⟨b, off + m * 7, none⟩ = some (.int .i64 ms[m].no) /\ w'.cell? ⟨b, off + m * 7 + 1, none⟩ = some (.string ms[m].to) /\ w'.cell? ⟨b, off + m * 7 + 2, none⟩ = some (.string ms[m].gb) /\ w'.cell? ⟨b, off + m * 7 + 3, none⟩ = some (.slice p0 ms[m].r.vs.length p1) /\ w'.cell? ⟨b, off + m * 7 + 4, none⟩ = some (.string ms[m].r.kd) /\ w'.cell? ⟨b, off + m * 7 + 5, none⟩ = some (.string ms[m].r.tm) /\ w'.cell? ⟨b, off + m * 7 + 6, none⟩ = some (.string ms[m].r.px) /\ w'.cell? ⟨b, off + (m + 1) * 7, none⟩ = some (.int .i64 ms[m + 1].no) /\ w'.cell? ⟨b, off + (m + 1) * 7 + 1, none⟩ = some (.string ms[m + 1].to) /\ w'.cell? ⟨b, off + (m + 1) * 7 + 2, none⟩ = some (.string ms[m + 1].gb) /\ w'.cell? ⟨b, off + (m + 1) * 7 + 3, none⟩ = some (.slice q0 ms[m + 1].r.vs.length q1) /\ w'.cell? ⟨b, off + (m + 1) * 7 + 4, none⟩ = some (.string ms[m + 1].r.kd) /\ w'.cell? ⟨b, off + (m + 1) * 7 + 5, none⟩ = some (.string ms[m + 1].r.tm) /\ w'.cell? ⟨b, off + (m + 1) * 7 + 6, none⟩ = some (.string ms[m + 1].r.px)) (exact hS) (first | (go_at_call 156; refine (zil ms[m] ms[m + 1] p0 q0 p1 q1 _).mono ?_; rintro e w2 ⟨rfl, hb2⟩; have hS := (⟨(hb2.cell (p := ⟨b, _, none⟩) hb').trans hS.1, (hb2.cell (p := ⟨b, _, none⟩) hb').trans hS.2.1, (hb2.cell (p := ⟨b, _, none⟩) hb').trans hS.2.2.1, (hb2.cell (p := ⟨b, _, none⟩) hb').trans hS.2.2.2.1, (hb2.cell (p := ⟨b, _, none⟩) hb').trans hS.2.2.2.2.1, (hb2.cell (p := ⟨b, _, none⟩) hb').trans hS.2.2.2.2.2.1, (hb2.cell (p := ⟨b, _, none⟩) hb').trans hS.2.2.2.2.2.2.1, (hb2.cell (p := ⟨b, _, none⟩) hb').trans hS.2.2.2.2.2.2.2.1, (hb2.cell (p := ⟨b, _, none⟩) hb').trans hS.2.2.2.2.2.2.2.2.1, (hb2.cell (p := ⟨b, _, none⟩) hb').trans hS.2.2.2.2.2.2.2.2.2.1, (hb2.cell (p := ⟨b, _, none⟩) hb').trans hS.2.2.2.2.2.2.2.2.2.2.1, (hb2.cell (p := ⟨b, _, none⟩) hb').trans hS.2.2.2.2.2.2.2.2.2.2.2.1, (hb2.cell (p := ⟨b, _, none⟩) hb').trans hS.2.2.2.2.2.2.2.2.2.2.2.2.1, (hb2.cell (p := ⟨b, _, none⟩) hb').trans hS.2.2.2.2.2.2.2.2.2.2.2.2.2⟩ : _ /\ _ /\ _ /\ _ /\ _ /\ _ /\ _ /\ _ /\ _ /\ _ /\ _ /\ _ /\ _ /\ _); have hB2 := HBr.out.drew.trans (hb2.mono HBr.out.drew.size); clear hb2))
      by_cases hk : Gate.zb4 ms[m] ms[m + 1] < 0
      · have HA := hid (Gate.zdD HM.out hlt hk)
        have hd : decide (0 <= Gate.zb4 ms[m] ms[m + 1]) = false := by simp; omega
        rw [hd]
        clear hk hd
        go_wp2_with fail
        exact ⟨⟨m + 1, by go_num, by omega, HA.out, hB2⟩, zf0 (by omega)⟩
      · have HA := hid (Gate.zfL hlt hk)
        have hd : decide (0 <= Gate.zb4 ms[m] ms[m + 1]) = true := by simp; omega
        rw [hd]
        clear hk hd
        go_wp2_with fail
        go_ret
        exact ⟨ze HA.out.symm, hB2⟩
    · have HA : Hid (Gate.zbs Gate.zb4 ms = true) := Gate.zfW HQ.out.1 (by omega)
      have HB := hid HQ.out.2
      clear HQ
      go_wp2_with fail
      go_ret
      exact ⟨ze HA.out.symm, HB.out⟩
set_option maxHeartbeats 4000000 in
theorem zhB (a : Option Addr) (cap : Nat) (ms : List Lg) (w : World) (hw : zck w a ms) :
    Calls Tryz.prog 158 #[.slice a ms.length cap, .func (.func 159) #[] #[]] w fun e w' => e = .returned (.bool (Gate.zbs Gate.yU ms)) /\ Below w.heap.size w w' := by
  have hl := hw.len
  unfold maxLen at hl
  have HW := hid hw
  clear hw
  go_enter Tryz.func158, Tryz.ntmps158
  go_wp2_with fail
  go_loopw [5] (fun iv wr => ∃ m : Nat, iv = .int .i64 ((m : Int) + 1) /\ m <= ms.length /\ Hid (Gate.zaB Gate.yU ms (m + 1) /\ Below w.heap.size w wr)) (fun iv _ => ms.length + 1 - (intOf iv).toNat)
  case atStart => exact ⟨0, rfl, Nat.zero_le _, fun i h h' => by omega, Below.refl _ _⟩
  case round =>
    obtain ⟨m, rfl, hml, HQ⟩ := hrel
    by_cases hlt : m + 1 < ms.length
    · have hm : m < ms.length := by omega
      obtain ⟨b, off, rfl, hb, d0, d1, d2, d3⟩ := HW.out.load HQ.out.2 m hm
      obtain ⟨b2, off2, ha2, hbq, e0, e1, e2, e3⟩ := HW.out.load HQ.out.2 (m + 1) hlt
      obtain ⟨rfl, rfl⟩ : b = b2 /\ off = off2 := by
        have h := ha2
        simpa using h
      have hb' := Nat.lt_of_lt_of_le hb HQ.out.2.size
      have hltI : (m : Int) + 1 < (ms.length : Int) := by omega
      have h0m : (0 : Int) <= (m : Int) := by omega
      have h01 : (0 : Int) <= (m : Int) + 1 := by omega
      have hsub : IntKind.i64.wrap ((m : Int) + 1 - 1) = (m : Int) := by rw [IntKind.wrap_i64]; omega
      have hsub2 : IntKind.i64.wrap (m : Int) = (m : Int) := by rw [IntKind.wrap_i64]; omega
      have hsub3 : wrap64 (m : Int) = (m : Int) := by unfold wrap64; omega
      have htn : ((m : Int) + 1).toNat = m + 1 := by omega
      have hlmI : (m : Int) < (ms.length : Int) := by omega
      have HBr := hid HQ.out.2
      have hS : wr.drew.cell? ⟨b, off + m * 4, none⟩ = some (.string ms[m].tm) /\ wr.drew.cell? ⟨b, off + m * 4 + 1, none⟩ = some (.string ms[m].rs) /\ wr.drew.cell? ⟨b, off + m * 4 + 2, none⟩ = some (.int .i64 ms[m].mo) /\ wr.drew.cell? ⟨b, off + m * 4 + 3, none⟩ = some (.int .i64 ms[m].fr) /\ wr.drew.cell? ⟨b, off + (m + 1) * 4, none⟩ = some (.string ms[m + 1].tm) /\ wr.drew.cell? ⟨b, off + (m + 1) * 4 + 1, none⟩ = some (.string ms[m + 1].rs) /\ wr.drew.cell? ⟨b, off + (m + 1) * 4 + 2, none⟩ = some (.int .i64 ms[m + 1].mo) /\ wr.drew.cell? ⟨b, off + (m + 1) * 4 + 3, none⟩ = some (.int .i64 ms[m + 1].fr) := ⟨d0, d1, d2, d3, e0, e1, e2, e3⟩
      clear d0 d1 d2 d3 e0 e1 e2 e3
      have HM := hid HQ.out.1
      clear HQ
      go_wp2_with fail
      go_region_held3 (fun w' => w'.cell? ⟨b, off + m * 4, none⟩ = some (.string ms[m].tm) /\ w'.cell? ⟨b, off + m * 4 + 1, none⟩ = some (.string ms[m].rs) /\ w'.cell? ⟨b, off + m * 4 + 2, none⟩ = some (.int .i64 ms[m].mo) /\ w'.cell? ⟨b, off + m * 4 + 3, none⟩ = some (.int .i64 ms[m].fr) /\ w'.cell? ⟨b, off + (m + 1) * 4, none⟩ = some (.string ms[m + 1].tm) /\ w'.cell? ⟨b, off + (m + 1) * 4 + 1, none⟩ = some (.string ms[m + 1].rs) /\ w'.cell? ⟨b, off + (m + 1) * 4 + 2, none⟩ = some (.int .i64 ms[m + 1].mo) /\ w'.cell? ⟨b, off + (m + 1) * 4 + 3, none⟩ = some (.int .i64 ms[m + 1].fr)) (exact hS) (first | (go_at_call 159; refine (zbS ms[m] ms[m + 1] _).mono ?_; rintro e w2 ⟨rfl, hb2⟩; have hS := (⟨(hb2.cell (p := ⟨b, _, none⟩) hb').trans hS.1, (hb2.cell (p := ⟨b, _, none⟩) hb').trans hS.2.1, (hb2.cell (p := ⟨b, _, none⟩) hb').trans hS.2.2.1, (hb2.cell (p := ⟨b, _, none⟩) hb').trans hS.2.2.2.1, (hb2.cell (p := ⟨b, _, none⟩) hb').trans hS.2.2.2.2.1, (hb2.cell (p := ⟨b, _, none⟩) hb').trans hS.2.2.2.2.2.1, (hb2.cell (p := ⟨b, _, none⟩) hb').trans hS.2.2.2.2.2.2.1, (hb2.cell (p := ⟨b, _, none⟩) hb').trans hS.2.2.2.2.2.2.2⟩ : _ /\ _ /\ _ /\ _ /\ _ /\ _ /\ _ /\ _); have hB2 := HBr.out.drew.trans (hb2.mono HBr.out.drew.size); clear hb2))
      by_cases hk : Gate.yU ms[m] ms[m + 1] < 0
      · have HA := hid (Gate.zdD HM.out hlt hk)
        have hd : decide (0 <= Gate.yU ms[m] ms[m + 1]) = false := by simp; omega
        rw [hd]
        clear hk hd
        go_wp2_with fail
        exact ⟨⟨m + 1, by go_num, by omega, HA.out, hB2⟩, zf0 (by omega)⟩
      · have HA := hid (Gate.zfL hlt hk)
        have hd : decide (0 <= Gate.yU ms[m] ms[m + 1]) = true := by simp; omega
        rw [hd]
        clear hk hd
        go_wp2_with fail
        go_ret
        exact ⟨ze HA.out.symm, hB2⟩
    · have HA : Hid (Gate.zbs Gate.yU ms = true) := Gate.zfW HQ.out.1 (by omega)
      have HB := hid HQ.out.2
      clear HQ
      go_wp2_with fail
      go_ret
      exact ⟨ze HA.out.symm, HB.out⟩
set_option maxHeartbeats 4000000 in
theorem zhT (a : Option Addr) (cap : Nat) (ms : List Pu) (w : World) (hw : zcV w a ms) :
    Calls Tryz.prog 161 #[.slice a ms.length cap, .func (.func 162) #[] #[]] w fun e w' => e = .returned (.bool (Gate.zbs Gate.jO ms)) /\ Below w.heap.size w w' := by
  have hl := hw.len
  unfold maxLen at hl
  have HW := hid hw
  clear hw
  go_enter Tryz.func161, Tryz.ntmps161
  go_wp2_with fail
  go_loopw [5] (fun iv wr => ∃ m : Nat, iv = .int .i64 ((m : Int) + 1) /\ m <= ms.length /\ Hid (Gate.zaB Gate.jO ms (m + 1) /\ Below w.heap.size w wr)) (fun iv _ => ms.length + 1 - (intOf iv).toNat)
  case atStart => exact ⟨0, rfl, Nat.zero_le _, fun i h h' => by omega, Below.refl _ _⟩
  case round =>
    obtain ⟨m, rfl, hml, HQ⟩ := hrel
    by_cases hlt : m + 1 < ms.length
    · have hm : m < ms.length := by omega
      obtain ⟨b, off, rfl, hb, d0, d1, d2, d3, d4⟩ := HW.out.load HQ.out.2 m hm
      obtain ⟨b2, off2, ha2, hbq, e0, e1, e2, e3, e4⟩ := HW.out.load HQ.out.2 (m + 1) hlt
      obtain ⟨rfl, rfl⟩ : b = b2 /\ off = off2 := by
        have h := ha2
        simpa using h
      have hb' := Nat.lt_of_lt_of_le hb HQ.out.2.size
      have hltI : (m : Int) + 1 < (ms.length : Int) := by omega
      have h0m : (0 : Int) <= (m : Int) := by omega
      have h01 : (0 : Int) <= (m : Int) + 1 := by omega
      have hsub : IntKind.i64.wrap ((m : Int) + 1 - 1) = (m : Int) := by rw [IntKind.wrap_i64]; omega
      have hsub2 : IntKind.i64.wrap (m : Int) = (m : Int) := by rw [IntKind.wrap_i64]; omega
      have hsub3 : wrap64 (m : Int) = (m : Int) := by unfold wrap64; omega
      have htn : ((m : Int) + 1).toNat = m + 1 := by omega
      have hlmI : (m : Int) < (ms.length : Int) := by omega
      have HBr := hid HQ.out.2
      have hS : wr.drew.cell? ⟨b, off + m * 5, none⟩ = some (.string ms[m].dr) /\ wr.drew.cell? ⟨b, off + m * 5 + 1, none⟩ = some (.string ms[m].tm) /\ wr.drew.cell? ⟨b, off + m * 5 + 2, none⟩ = some (.string ms[m].rs) /\ wr.drew.cell? ⟨b, off + m * 5 + 3, none⟩ = some (.int .i64 ms[m].am) /\ wr.drew.cell? ⟨b, off + m * 5 + 4, none⟩ = some (.int .i64 ms[m].un) /\ wr.drew.cell? ⟨b, off + (m + 1) * 5, none⟩ = some (.string ms[m + 1].dr) /\ wr.drew.cell? ⟨b, off + (m + 1) * 5 + 1, none⟩ = some (.string ms[m + 1].tm) /\ wr.drew.cell? ⟨b, off + (m + 1) * 5 + 2, none⟩ = some (.string ms[m + 1].rs) /\ wr.drew.cell? ⟨b, off + (m + 1) * 5 + 3, none⟩ = some (.int .i64 ms[m + 1].am) /\ wr.drew.cell? ⟨b, off + (m + 1) * 5 + 4, none⟩ = some (.int .i64 ms[m + 1].un) := ⟨d0, d1, d2, d3, d4, e0, e1, e2, e3, e4⟩
      clear d0 d1 d2 d3 d4 e0 e1 e2 e3 e4
      have HM := hid HQ.out.1
      clear HQ
      go_wp2_with fail
      go_region_held3 (fun w' => w'.cell? ⟨b, off + m * 5, none⟩ = some (.string ms[m].dr) /\ w'.cell? ⟨b, off + m * 5 + 1, none⟩ = some (.string ms[m].tm) /\ w'.cell? ⟨b, off + m * 5 + 2, none⟩ = some (.string ms[m].rs) /\ w'.cell? ⟨b, off + m * 5 + 3, none⟩ = some (.int .i64 ms[m].am) /\ w'.cell? ⟨b, off + m * 5 + 4, none⟩ = some (.int .i64 ms[m].un) /\ w'.cell? ⟨b, off + (m + 1) * 5, none⟩ = some (.string ms[m + 1].dr) /\ w'.cell? ⟨b, off + (m + 1) * 5 + 1, none⟩ = some (.string ms[m + 1].tm) /\ w'.cell? ⟨b, off + (m + 1) * 5 + 2, none⟩ = some (.string ms[m + 1].rs) /\ w'.cell? ⟨b, off + (m + 1) * 5 + 3, none⟩ = some (.int .i64 ms[m + 1].am) /\ w'.cell? ⟨b, off + (m + 1) * 5 + 4, none⟩ = some (.int .i64 ms[m + 1].un)) (exact hS) (first | (go_at_call 162; refine (ziN ms[m] ms[m + 1] _).mono ?_; rintro e w2 ⟨rfl, hb2⟩; have hS := (⟨(hb2.cell (p := ⟨b, _, none⟩) hb').trans hS.1, (hb2.cell (p := ⟨b, _, none⟩) hb').trans hS.2.1, (hb2.cell (p := ⟨b, _, none⟩) hb').trans hS.2.2.1, (hb2.cell (p := ⟨b, _, none⟩) hb').trans hS.2.2.2.1, (hb2.cell (p := ⟨b, _, none⟩) hb').trans hS.2.2.2.2.1, (hb2.cell (p := ⟨b, _, none⟩) hb').trans hS.2.2.2.2.2.1, (hb2.cell (p := ⟨b, _, none⟩) hb').trans hS.2.2.2.2.2.2.1, (hb2.cell (p := ⟨b, _, none⟩) hb').trans hS.2.2.2.2.2.2.2.1, (hb2.cell (p := ⟨b, _, none⟩) hb').trans hS.2.2.2.2.2.2.2.2.1, (hb2.cell (p := ⟨b, _, none⟩) hb').trans hS.2.2.2.2.2.2.2.2.2⟩ : _ /\ _ /\ _ /\ _ /\ _ /\ _ /\ _ /\ _ /\ _ /\ _); have hB2 := HBr.out.drew.trans (hb2.mono HBr.out.drew.size); clear hb2))
      by_cases hk : Gate.jO ms[m] ms[m + 1] < 0
      · have HA := hid (Gate.zdD HM.out hlt hk)
        have hd : decide (0 <= Gate.jO ms[m] ms[m + 1]) = false := by simp; omega
        rw [hd]
        clear hk hd
        go_wp2_with fail
        exact ⟨⟨m + 1, by go_num, by omega, HA.out, hB2⟩, zf0 (by omega)⟩
      · have HA := hid (Gate.zfL hlt hk)
        have hd : decide (0 <= Gate.jO ms[m] ms[m + 1]) = true := by simp; omega
        rw [hd]
        clear hk hd
        go_wp2_with fail
        go_ret
        exact ⟨ze HA.out.symm, hB2⟩
    · have HA : Hid (Gate.zbs Gate.jO ms = true) := Gate.zfW HQ.out.1 (by omega)
      have HB := hid HQ.out.2
      clear HQ
      go_wp2_with fail
      go_ret
      exact ⟨ze HA.out.symm, HB.out⟩
end Go.Proofs.YtfpeplbmfbepcaaGreat
