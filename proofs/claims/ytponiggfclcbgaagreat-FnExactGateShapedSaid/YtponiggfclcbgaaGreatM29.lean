import Derived.Test.YtponiggfclcbgaaGreatM28
import Derived.Test.YtponiggfclcbgaaGreatM13
import Derived.Test.YtponiggfclcbgaaGreatM23
import Derived.Test.YtponiggfclcbgaaGreatM26
import Derived.Test.YtponiggfclcbgaaGreatM24
import Derived.Test.YtponiggfclcbgaaGreatM06
import Derived.Deep.QuietTactic
import Derived.BigQuiet
import Derived.Test.YtponiggfclcbgaaGreatM17
import Derived.Test.YtponiggfclcbgaaGreatM25
namespace Go.Proofs.YtponiggfclcbgaaGreat
open Go.RowKit

namespace Gate
theorem shapeOf_mem {ss : List Shp} {v : ByteArray} (h : hasKind ss v = true) : ∃ i, ∃ hi : i < ss.length, shapeOf ss v = ss[i] := by
  unfold hasKind at h
  rw [List.any_eq_true] at h
  obtain ⟨x, hx, he⟩ := h
  unfold shapeOf
  cases hf : ss.find? (fun s => decide (s.kd = v)) with
  | none => rw [List.find?_eq_none] at hf; exact absurd he (hf x hx)
  | some y =>
    obtain ⟨i, hi, rfl⟩ := List.mem_iff_getElem.1 (List.mem_of_find?_eq_some hf)
    exact ⟨i, hi, rfl⟩

/-- What holds of an object that mends change. -/
theorem mend_facts {ss : List Shp} {ms : List Mnd} {o : Ob} (h : mendable ss ms o = true) : o.vs.length = (shapeOf ss o.kd).fs.length ∧ (shapeOf ss o.kd).fs.length ≤ 6 ∧ (∀ q, q < (shapeOf ss o.kd).fs.length → ∀ x ∈ readsI (shapeOf ss o.kd) ms q, 0 ≤ x ∧ x < (shapeOf ss o.kd).fs.length) ∧ (walkAll (readsN (shapeOf ss o.kd) ms) (shapeOf ss o.kd).fs.length).1 = true := by
  unfold mendable at h
  simp only [Bool.and_eq_true, decide_eq_true_eq] at h
  obtain ⟨hk, hl, hm⟩ := h
  obtain ⟨i, hi, e⟩ := shapeOf_mem hk
  unfold mendsOk at hm
  simp only [Bool.and_eq_true, decide_eq_true_eq] at hm
  obtain ⟨⟨⟨h12, hs⟩, ha⟩, hr⟩ := hm
  rw [e] at hl ⊢
  refine ⟨hl, fields_few hs i hi, reads_ok hs ha i hi, ?_⟩
  have := List.all_eq_true.1 hr ss[i] (List.getElem_mem hi)
  exact this

/-- The values that GateMended leaves. -/
def mendVs (ss : List Shp) (ms : List Mnd) (o : Ob) : List ByteArray := turnRow (decided (shapeOf ss o.kd) ms) (walkAll (readsN (shapeOf ss o.kd) ms) (shapeOf ss o.kd).fs.length).2.row o.vs
def mendRes (ss : List Shp) (ms : List Mnd) (o : Ob) : List ByteArray := if mendable ss ms o = true then mendVs ss ms o else o.vs
theorem mendRes_length (ss : List Shp) (ms : List Mnd) (o : Ob) : (mendRes ss ms o).length = o.vs.length := by
  unfold mendRes
  split
  · exact turnRow_length _ _ _
  · rfl
end Gate

set_option maxHeartbeats 4000000 in
theorem implMended_any (a0 ma : Option Addr) (cap0 mcap : Nat) (ss : List Shp) (ms : List Mnd) (o : Ob) (b off b' off' cap cap' : Nat) (w : World) (hw : ShpsAt w a0 ss) (hm : MndsAt w ma ms) (ho : ObAt w o (some ⟨b, off, none⟩) (some ⟨b', off', none⟩)) (hl : o.vs.length ≤ 1048576) (hl' : o.hs.length ≤ 1048576) (hml : ms.length ≤ 1048576) :
    Calls Tryz.prog 13 #[.slice a0 ss.length cap0, .slice ma ms.length mcap, .agg #[.string o.kd, .string o.nm, .string o.tm, .slice (some ⟨b, off, none⟩) o.vs.length cap, .bool o.en, .slice (some ⟨b', off', none⟩) o.hs.length cap', .int .i64 o.vr]] w (FillPost o (Gate.mendRes ss ms o) w) := by
  have HH : Hid (ShpsAt w a0 ss ∧ MndsAt w ma ms ∧ ObAt w o (some ⟨b, off, none⟩) (some ⟨b', off', none⟩) ∧ o.vs.length ≤ maxLen) := ⟨hw, hm, ho, ho.vals.len⟩
  clear hw hm ho
  by_cases hmd : Gate.mendable ss ms o = true
  · have hmd : Gate.mendable ss ms o = true := hmd

    have HFA : Hid _ := Gate.mend_facts hmd
    have HRES : Hid (Gate.mendRes ss ms o = Gate.mendVs ss ms o) := by unfold Hid Gate.mendRes; rw [if_pos hmd]
    go_enter Tryz.func13, Tryz.ntmps13
    go_wp2_with fail
    have hb2 := below2' w (.cells #[.string o.kd, .string o.nm, .string o.tm, .slice (some ⟨b, off, none⟩) o.vs.length cap, .bool o.en, .slice (some ⟨b', off', none⟩) o.hs.length cap', .int .i64 o.vr] 30) (.cells #[.string ByteArray.empty, .string ByteArray.empty, .string ByteArray.empty, .slice none 0 0, .bool false, .slice none 0 0, .int .i64 0] 30)
    have h1 := mendShape_any a0 ma cap0 mcap ss ms o (some ⟨b, off, none⟩) (some ⟨b', off', none⟩) cap cap' _ (HH.out.1.mono hb2) (HH.out.2.1.mono hb2) hml HH.out.2.2.2
    rw [hmd] at h1
    refine h1.mono ?_
    rintro e w1 ⟨fa, fcap, rfl, hfl0, hb1⟩
    have HFL : Hid (FldsAt w1 fa (Gate.shapeOf ss o.kd).fs) := hfl0.mono hb1
    have HO1 : Hid (w1.heap[w.heap.size]? = some (.cells #[.string o.kd, .string o.nm, .string o.tm, .slice (some ⟨b, off, none⟩) o.vs.length cap, .bool o.en, .slice (some ⟨b', off', none⟩) o.hs.length cap', .int .i64 o.vr] 30)) := (hb1.block w.heap.size (by simp; omega)).trans (two_blocks _ _ _).1
    have HR1 : Hid (w1.heap[w.heap.size + 1]? = some (.cells #[.string ByteArray.empty, .string ByteArray.empty, .string ByteArray.empty, .slice none 0 0, .bool false, .slice none 0 0, .int .i64 0] 30)) := (hb1.block (w.heap.size + 1) (by simp)).trans (two_blocks _ _ _).2
    have hX1 : ∀ j, w1.cell? ⟨w.heap.size, j, none⟩ = (#[.string o.kd, .string o.nm, .string o.tm, .slice (some ⟨b, off, none⟩) o.vs.length cap, .bool o.en, .slice (some ⟨b', off', none⟩) o.hs.length cap', .int .i64 o.vr] : Array Value)[j]? := fun j => cell_of_block HO1.out
    have hz1 : w.heap.size + 1 < w1.heap.size := by have := hb1.size; simp at this; omega
    have hz0 : w.heap.size < w1.heap.size := by omega
    have hB1 : Below w.heap.size w w1 := hb2.trans (hb1.mono (by simp; omega))
    clear h1 hb1 hfl0 hb2 hmd
    go_wp2_with fail
    have hbs := (Below.refl w1.heap.size w1).alloc (Nat.le_refl _) (.cells #[.string (Gate.shapeOf ss o.kd).kd, .slice fa (Gate.shapeOf ss o.kd).fs.length fcap] 69)
    have hRW := (hbs.block _ hz1).trans HR1.out
    have hzW : w.heap.size + 1 < (w1.alloc (.cells #[.string (Gate.shapeOf ss o.kd).kd, .slice fa (Gate.shapeOf ss o.kd).fs.length fcap] 69)).heap.size := Nat.lt_of_lt_of_le hz1 hbs.size
    have hBW := hB1.trans (hbs.mono hB1.size)
    have hFW := HFL.out.mono hbs
    clear hbs
    refine (mended_any o (Gate.shapeOf ss o.kd) ms fa ma fcap mcap b off b' off' cap cap' _ hFW (HH.out.2.1.mono hBW) (HH.out.2.2.1.mono hBW) hl hl' HFA.out.1 hml HFA.out.2.1 HFA.out.2.2.1 HFA.out.2.2.2).mono ?_
    rintro e w4 ⟨a, dap, a', dap', m, rfl, ht, hm, hsm, ht', hb4⟩
    have hR4 : w4.heap[w.heap.size + 1]? = some (.cells #[.string ByteArray.empty, .string ByteArray.empty, .string ByteArray.empty, .slice none 0 0, .bool false, .slice none 0 0, .int .i64 0] 30) := (hb4.block (w.heap.size + 1) hzW).trans hRW
    have hRc : ∀ j, w4.cell? ⟨w.heap.size + 1, j, none⟩ = (#[.string ByteArray.empty, .string ByteArray.empty, .string ByteArray.empty, .slice none 0 0, .bool false, .slice none 0 0, .int .i64 0] : Array Value)[j]? := fun j => cell_of_block hR4
    have hRf : ∀ j, w4.frozen? ⟨w.heap.size + 1, j, none⟩ = false := fun j => frozen_of_block hR4
    have HX : Hid (TxtsOwn (w.heap.size + 1 + 1) w4 a (Gate.mendVs ss ms o) ∧ (∀ g, a = some g → g.block < m) ∧ w.heap.size + 1 + 1 ≤ m ∧ TxtsOwn m w4 a' o.hs ∧ Below w.heap.size w w4) := ⟨ht.low hzW, hm, Nat.le_trans hzW hsm, ht', hBW.trans (hb4.mono hBW.size)⟩
    clear ht hm hsm ht' hb4 hR4 hBW hRW hFW
    go_wp2_with fail
    refine bodyPost_ret (v := (.agg #[.string o.kd, .string o.nm, .string o.tm, .slice a o.vs.length dap, .bool o.en, .slice a' o.hs.length dap', .int .i64 o.vr])) (by simp [results, Tryz.results13, go_sem, hRc]) rfl ?_
    obtain ⟨ht, hm, hsm, ht', hB⟩ := HX.out
    rw [HRES.out]
    exact ⟨a, dap, a', dap', m, rfl, (put7_own ht _ (by omega) _ _ _ _ _ _ _).low (by omega), hm, by omega, put7_own ht' _ (by omega) _ _ _ _ _ _ _, put7_below hB _ (by omega) _ _ _ _ _ _ _⟩
  · have hmd : Gate.mendable ss ms o = false := by simpa using hmd
    have HRES : Hid (Gate.mendRes ss ms o = o.vs) := by unfold Hid Gate.mendRes; rw [if_neg (by rw [hmd]; simp)]
    go_enter Tryz.func13, Tryz.ntmps13
    go_wp2_with fail
    have hb2 := below2' w (.cells #[.string o.kd, .string o.nm, .string o.tm, .slice (some ⟨b, off, none⟩) o.vs.length cap, .bool o.en, .slice (some ⟨b', off', none⟩) o.hs.length cap', .int .i64 o.vr] 30) (.cells #[.string ByteArray.empty, .string ByteArray.empty, .string ByteArray.empty, .slice none 0 0, .bool false, .slice none 0 0, .int .i64 0] 30)
    have h1 := mendShape_any a0 ma cap0 mcap ss ms o (some ⟨b, off, none⟩) (some ⟨b', off', none⟩) cap cap' _ (HH.out.1.mono hb2) (HH.out.2.1.mono hb2) hml HH.out.2.2.2
    rw [hmd] at h1
    refine h1.mono ?_
    rintro e w1 ⟨fa, fcap, rfl, hfl0, hb1⟩
    have HFL : Hid (FldsAt w1 fa (Gate.shapeOf ss o.kd).fs) := hfl0.mono hb1
    have HO1 : Hid (w1.heap[w.heap.size]? = some (.cells #[.string o.kd, .string o.nm, .string o.tm, .slice (some ⟨b, off, none⟩) o.vs.length cap, .bool o.en, .slice (some ⟨b', off', none⟩) o.hs.length cap', .int .i64 o.vr] 30)) := (hb1.block w.heap.size (by simp; omega)).trans (two_blocks _ _ _).1
    have HR1 : Hid (w1.heap[w.heap.size + 1]? = some (.cells #[.string ByteArray.empty, .string ByteArray.empty, .string ByteArray.empty, .slice none 0 0, .bool false, .slice none 0 0, .int .i64 0] 30)) := (hb1.block (w.heap.size + 1) (by simp)).trans (two_blocks _ _ _).2
    have hX1 : ∀ j, w1.cell? ⟨w.heap.size, j, none⟩ = (#[.string o.kd, .string o.nm, .string o.tm, .slice (some ⟨b, off, none⟩) o.vs.length cap, .bool o.en, .slice (some ⟨b', off', none⟩) o.hs.length cap', .int .i64 o.vr] : Array Value)[j]? := fun j => cell_of_block HO1.out
    have hz1 : w.heap.size + 1 < w1.heap.size := by have := hb1.size; simp at this; omega
    have hz0 : w.heap.size < w1.heap.size := by omega
    have hB1 : Below w.heap.size w w1 := hb2.trans (hb1.mono (by simp; omega))
    clear h1 hb1 hfl0 hb2 hmd
    go_wp2_with fail
    have hbs := (Below.refl w1.heap.size w1).alloc (Nat.le_refl _) (.cells #[.string (Gate.shapeOf ss o.kd).kd, .slice fa (Gate.shapeOf ss o.kd).fs.length fcap] 69)
    have hRW := (hbs.block _ hz1).trans HR1.out
    have hzW : w.heap.size + 1 < (w1.alloc (.cells #[.string (Gate.shapeOf ss o.kd).kd, .slice fa (Gate.shapeOf ss o.kd).fs.length fcap] 69)).heap.size := Nat.lt_of_lt_of_le hz1 hbs.size
    have hBW := hB1.trans (hbs.mono hB1.size)
    have hFW := HFL.out.mono hbs
    clear hbs
    refine (copyObject_any o b off b' off' cap cap' _ (HH.out.2.2.1.mono hBW) hl hl').mono ?_
    rintro e w4 ⟨a, dap, a', dap', m, rfl, ht, hm, hsm, ht', hb4⟩
    have hR4 : w4.heap[w.heap.size + 1]? = some (.cells #[.string ByteArray.empty, .string ByteArray.empty, .string ByteArray.empty, .slice none 0 0, .bool false, .slice none 0 0, .int .i64 0] 30) := (hb4.block (w.heap.size + 1) hzW).trans hRW
    have hRc : ∀ j, w4.cell? ⟨w.heap.size + 1, j, none⟩ = (#[.string ByteArray.empty, .string ByteArray.empty, .string ByteArray.empty, .slice none 0 0, .bool false, .slice none 0 0, .int .i64 0] : Array Value)[j]? := fun j => cell_of_block hR4
    have hRf : ∀ j, w4.frozen? ⟨w.heap.size + 1, j, none⟩ = false := fun j => frozen_of_block hR4
    have HX : Hid (TxtsOwn (w.heap.size + 1 + 1) w4 a (o.vs) ∧ (∀ g, a = some g → g.block < m) ∧ w.heap.size + 1 + 1 ≤ m ∧ TxtsOwn m w4 a' o.hs ∧ Below w.heap.size w w4) := ⟨ht.low hzW, hm, Nat.le_trans hzW hsm, ht', hBW.trans (hb4.mono hBW.size)⟩
    clear ht hm hsm ht' hb4 hR4 hBW hRW hFW
    go_wp2_with fail
    refine bodyPost_ret (v := (.agg #[.string o.kd, .string o.nm, .string o.tm, .slice a o.vs.length dap, .bool o.en, .slice a' o.hs.length dap', .int .i64 o.vr])) (by simp [results, Tryz.results13, go_sem, hRc]) rfl ?_
    obtain ⟨ht, hm, hsm, ht', hB⟩ := HX.out
    rw [HRES.out]
    exact ⟨a, dap, a', dap', m, rfl, (put7_own ht _ (by omega) _ _ _ _ _ _ _).low (by omega), hm, by omega, put7_own ht' _ (by omega) _ _ _ _ _ _ _, put7_below hB _ (by omega) _ _ _ _ _ _ _⟩

end Go.Proofs.YtponiggfclcbgaaGreat

namespace Go.Proofs.YtponiggfclcbgaaGreat
open Go.RowKit

theorem as_int {P : Program} {f : FuncId} {args : Array Value} {w : World} {b c : Int} {R : World → Prop} (hb : b = c) (h : Calls P f args w fun e w' => e = .returned (.int .i64 b) ∧ R w') : Calls P f args w fun e w' => e = .returned (.int .i64 c) ∧ R w' := by
  subst hb; exact h
theorem ret_str' {a b : ByteArray} (h : a = b) : Ending.returned (.string a) = .returned (.string b) := by rw [h]

theorem Gate.read_in {s : Shp} {ms : List Mnd} {p : Nat} (hrd : ∀ x ∈ Gate.readsI s ms p, 0 ≤ x ∧ x < s.fs.length) {m : Mnd} (hm : m ∈ ms) (ht : Gate.turns m s p = true) {v : ByteArray} (hv : v ∈ Gate.readNames m) : ∃ j : Nat, j < s.fs.length ∧ Gate.fieldIx s.fs v = (j : Int) := by
  have h := hrd (Gate.fieldIx s.fs v) (by
    unfold Gate.readsI; rw [List.mem_flatMap]; refine ⟨m, hm, ?_⟩; rw [if_pos ht]; exact List.mem_map.2 ⟨v, hv, rfl⟩)
  exact ⟨(Gate.fieldIx s.fs v).toNat, by omega, by omega⟩

set_option maxRecDepth 20000 in
set_option maxHeartbeats 8000000 in
theorem l3Decided_any (s : Shp) (ms : List Mnd) (o : Ob) (vs : List ByteArray) (p : Nat) (fa ma va ha : Option Addr) (fcap mcap vcap hcap : Nat) (w : World) (hf : FldsAt w fa s.fs) (hm : MndsAt w ma ms) (hv : StrsAt w va vs) (hc : vs.length = s.fs.length) (hp : p < s.fs.length) (hix : Gate.fieldIx s.fs s.fs[p].nm = (p : Int)) (hkd : o.kd = s.kd) (hrd : ∀ x ∈ Gate.readsI s ms p, 0 ≤ x ∧ x < s.fs.length) :
    Calls Tryz.prog 66 #[.slice fa s.fs.length fcap, .slice ma ms.length mcap, .agg #[.string o.kd, .string o.nm, .string o.tm, .slice va vs.length vcap, .bool o.en, .slice ha o.hs.length hcap, .int .i64 o.vr], .string s.fs[p].nm] w fun e w' => e = .returned (.string (Gate.decided s ms p vs)) ∧ Below w.heap.size w w' := by
  have hpv : p < vs.length := by omega
  have hl := hv.len
  have hml := hm.len
  unfold maxLen at hl hml
  obtain ⟨vb, voff, rfl, hvb, hcell⟩ := hv.cells (by rintro rfl; simp at hpv)
  have HH : Hid (FldsAt w fa s.fs ∧ MndsAt w ma ms ∧ vs.length = s.fs.length ∧ (∀ i (h : i < vs.length), w.cell? ⟨vb, voff + i, none⟩ = some (.string vs[i])) ∧ Gate.fieldIx s.fs s.fs[p].nm = (p : Int) ∧ o.kd = s.kd ∧ (∀ x ∈ Gate.readsI s ms p, 0 ≤ x ∧ x < s.fs.length)) := ⟨hf, hm, hc, hcell, hix, hkd, hrd⟩
  clear hf hm hv hc hcell hix hkd hrd
  go_enter Tryz.func66, Tryz.ntmps66
  go_wp2_with fail
  go_loopw [9] (fun iv wr => ∃ k : Nat, k ≤ ms.length ∧ iv = .int .i64 k ∧ (ms.take k).findSome? (Gate.gives s vs p) = none ∧ Below (w.heap.size + 1) (w.alloc (.cells #[.string o.kd, .string o.nm, .string o.tm, .slice (some ⟨vb, voff, none⟩) vs.length vcap, .bool o.en, .slice ha o.hs.length hcap, .int .i64 o.vr] 30)) wr) (fun iv _ => ms.length - (intOf iv).toNat)
  case atStart => exact ⟨0, Nat.zero_le _, rfl, rfl, Below.refl _ _⟩
  case round =>
    obtain ⟨k, hk, rfl, hnone, hBw⟩ := hrel
    have HB : Hid (Below w.heap.size w wr ∧ Below (w.heap.size + 1) (w.alloc (.cells #[.string o.kd, .string o.nm, .string o.tm, .slice (some ⟨vb, voff, none⟩) vs.length vcap, .bool o.en, .slice ha o.hs.length hcap, .int .i64 o.vr] 30)) wr) := ⟨((Below.refl _ _).alloc (Nat.le_refl _) _).trans (hBw.mono (by omega)), hBw⟩
    have hzr : w.heap.size < wr.heap.size := by have := hBw.size; simp at this; omega
    have hXr : ∀ j, wr.cell? ⟨w.heap.size, j, none⟩ = (#[.string o.kd, .string o.nm, .string o.tm, .slice (some ⟨vb, voff, none⟩) vs.length vcap, .bool o.en, .slice ha o.hs.length hcap, .int .i64 o.vr] : Array Value)[j]? := fun j => cell_of_block ((hBw.block w.heap.size (by omega)).trans (alloc_at _ _))
    have HV : Hid (∀ i (h : i < vs.length), wr.cell? ⟨vb, voff + i, none⟩ = some (.string vs[i])) := fun i h => (HB.out.1.cell (p := ⟨vb, voff + i, none⟩) hvb).trans (HH.out.2.2.2.1 i h)
    have hvz : vb < wr.heap.size := Nat.lt_of_lt_of_le hvb HB.out.1.size
    have HN : Hid ((ms.take k).findSome? (Gate.gives s vs p) = none) := hnone
    have HFm : Hid (∀ ob n, FldsAt ((wr.alloc ob).drewN n) fa s.fs) := fun ob n => (HH.out.1.mono HB.out.1).mono (below_drewN ((Below.refl _ _).alloc (Nat.le_refl _) _) n)
    have HFr : Hid (∀ n, FldsAt (wr.drewN n) fa s.fs) := fun n => (HH.out.1.mono HB.out.1).mono (below_drewN (Below.refl _ _) n)
    clear hnone hBw
    by_cases hlt : k < ms.length
    · obtain ⟨mb, moff, rfl, hmb, c0, c1, c2, c3, c4, c5⟩ := HH.out.2.1.load HB.out.1 k hlt
      have hltI : (k : Int) < (ms.length : Int) := by omega
      have hmz : mb < wr.heap.size := Nat.lt_of_lt_of_le hmb HB.out.1.size
      have HNX : Hid (Gate.gives s vs p ms[k] = none → (ms.take (k + 1)).findSome? (Gate.gives s vs p) = none) := by
        intro h
        rw [List.take_succ_eq_append_getElem hlt, List.findSome?_append, HN.out]
        simp [h]
      have HSX : Hid (∀ x, Gate.gives s vs p ms[k] = some x → Gate.decided s ms p vs = x) := by
        intro x h
        unfold Gate.decided
        have e : ms.findSome? (Gate.gives s vs p) = some x := by
          conv => lhs; rw [← List.take_append_drop k ms, List.drop_eq_getElem_cons hlt]
          rw [List.findSome?_append, HN.out, List.findSome?_cons, h]
          rfl
        rw [e]; rfl
      have HBE : Hid (∀ ob n, Below (w.heap.size + 1) (w.alloc (.cells #[.string o.kd, .string o.nm, .string o.tm, .slice (some ⟨vb, voff, none⟩) vs.length vcap, .bool o.en, .slice ha o.hs.length hcap, .int .i64 o.vr] 30)) ((wr.alloc ob).drewN n)) := fun ob n => HB.out.2.trans ((below_drewN ((Below.refl _ _).alloc (Nat.le_refl _) _) n).mono (by omega))
      have HBR : Hid (∀ ob n, Below w.heap.size w ((wr.alloc ob).drewN n)) := fun ob n => HB.out.1.trans ((below_drewN ((Below.refl _ _).alloc (Nat.le_refl _) _) n).mono (by omega))
      have HTU : Hid (Gate.turns ms[k] s p = ((ms[k].kd.toList == o.kd.toList) && (ms[k].fd.toList == s.fs[p].nm.toList))) := by
        rw [Hid, Gate.beq_toList, Gate.beq_toList, HH.out.2.2.2.2.2.1]; unfold Gate.turns; rw [Gate.getD_at s.fs p _ hp]
      clear HN
      by_cases hkd : (ms[k].kd.toList == o.kd.toList) = true
      rotate_left
      · have hkf : (ms[k].kd.toList == o.kd.toList) = false := by simpa using hkd
        have HG : Hid (Gate.gives s vs p ms[k] = none) := by unfold Hid Gate.gives; rw [if_neg]; rintro ⟨h, _⟩; rw [HTU.out, hkf] at h; simp at h
        clear hkd
        go_wp2_with fail
        go_quiet (fail)
        go_wp2_with fail
        exact ⟨⟨k + 1, by omega, by go_num, HNX.out HG.out, HBE.out _ _⟩, by simp [intOf]; omega⟩
      by_cases hfd : (ms[k].fd.toList == s.fs[p].nm.toList) = true
      rotate_left
      · have hff : (ms[k].fd.toList == s.fs[p].nm.toList) = false := by simpa using hfd
        have HG : Hid (Gate.gives s vs p ms[k] = none) := by unfold Hid Gate.gives; rw [if_neg]; rintro ⟨h, _⟩; rw [HTU.out, hff] at h; simp at h
        clear hfd
        go_wp2_with fail
        go_quiet (fail)
        go_wp2_with fail
        exact ⟨⟨k + 1, by omega, by go_num, HNX.out HG.out, HBE.out _ _⟩, by simp [intOf]; omega⟩
      have HT : Hid (Gate.turns ms[k] s p = true) := by rw [Hid, HTU.out, hkd, hfd]; rfl
      have HRD : Hid (∀ v ∈ Gate.readNames ms[k], ∃ j : Nat, j < s.fs.length ∧ Gate.fieldIx s.fs v = (j : Int)) := fun v hv => Gate.read_in HH.out.2.2.2.2.2.2 (List.getElem_mem hlt) HT.out hv
      by_cases hwh : ms[k].wh.toList.isEmpty = true
      · have HW : Hid (¬ (Gate.isSet ms[k].wh = true ∧ Gate.valAt s.fs vs ms[k].wh ≠ ms[k].wi)) := by rintro ⟨h, _⟩; unfold Gate.isSet at h; rw [hwh] at h; cases h
        by_cases hfr : ms[k].fr.toList.isEmpty = true
        · have HG : Hid (Gate.gives s vs p ms[k] = some ms[k].pt) := by
            unfold Hid Gate.gives; rw [if_pos ⟨HT.out, HW.out⟩, if_neg (by unfold Gate.isSet; rw [hfr]; simp)]
          go_wp2_with fail
          go_quiet (fail)
          go_wp2_with fail
          go_ret
          exact ⟨ret_str' (HSX.out _ HG.out).symm, HBR.out _ _⟩
        · have hfs : ms[k].fr.toList.isEmpty = false := by simpa using hfr
          have his : Gate.isSet ms[k].fr = true := by unfold Gate.isSet; rw [hfs]; rfl
          obtain ⟨jf, hjf, hjx⟩ := HRD.out ms[k].fr (by unfold Gate.readNames; simp [his])
          have HJF : Hid (Gate.fieldIx s.fs ms[k].fr = (jf : Int)) := hjx
          have hjv : jf < vs.length := by have := HH.out.2.2.1; omega
          have HVA : Hid (Gate.valAt s.fs vs ms[k].fr = vs[jf]) := by rw [Hid, Gate.valAt_of hjx, Gate.getD_at vs jf _ hjv]
          have cf := HV.out jf hjv
          have hjI : (jf : Int) < (vs.length : Int) := by omega
          have hj0 : (0 : Int) ≤ (jf : Int) := by omega
          clear hfr hjx
          by_cases hve : vs[jf].toList.isEmpty = true
          · have HG : Hid (Gate.gives s vs p ms[k] = none) := by
              unfold Hid Gate.gives; rw [if_pos ⟨HT.out, HW.out⟩, if_pos his, if_neg (by unfold Gate.isSet; rw [HVA.out, hve]; simp)]
            go_wp2_with fail
            go_quiet (fail)
            go_wp2_with fail
            obtain ⟨W5, hW5⟩ : ∃ W5, W5 = (wr.alloc (.cells #[.string ms[k].kd, .string ms[k].fd, .string ms[k].wh, .string ms[k].wi, .string ms[k].pt, .string ms[k].fr] 71)).drewN nq := ⟨_, rfl⟩
            have hb5 : Below wr.heap.size wr W5 := by rw [hW5]; exact below_drewN ((Below.refl _ _).alloc (Nat.le_refl _) _) _
            have hM5 : ∀ j, W5.cell? ⟨wr.heap.size, j, none⟩ = (#[.string ms[k].kd, .string ms[k].fd, .string ms[k].wh, .string ms[k].wi, .string ms[k].pt, .string ms[k].fr] : Array Value)[j]? := by rw [hW5]; exact box_new wr _ _
            have hm5 : wr.heap.size < W5.heap.size := by rw [hW5]; show wr.heap.size < (wr.alloc _).heap.size; simp
            have hX5 := box_later hXr hzr hb5
            have hz5 : w.heap.size < W5.heap.size := by omega
            have cf5 : W5.cell? ⟨vb, voff + jf, none⟩ = some (.string vs[jf]) := (hb5.cell (p := ⟨vb, voff + jf, none⟩) hvz).trans cf
            have hv5 : vb < W5.heap.size := by omega
            have HF5 : Hid (∀ n, FldsAt (W5.drewN n) fa s.fs) := fun n => ((HH.out.1.mono HB.out.1).mono hb5).mono (below_drewN (Below.refl _ _) n)
            have HE5 : Hid (Below (w.heap.size + 1) (w.alloc (.cells #[.string o.kd, .string o.nm, .string o.tm, .slice (some ⟨vb, voff, none⟩) vs.length vcap, .bool o.en, .slice ha o.hs.length hcap, .int .i64 o.vr] 30)) W5) := HB.out.2.trans (hb5.mono (by omega))
            have HR5 : Hid (Below w.heap.size w W5) := HB.out.1.trans (hb5.mono (by omega))
            rw [← hW5]
            clear hW5
            go_quiet ((go_at_call 67; exact Calls.quiet_of_same (as_int HJF.out (l3Field_any _ _ s.fs _ _ (by exact HF5.out _)))))
            go_wp2_with fail
            exact ⟨⟨k + 1, by omega, by go_num, HNX.out HG.out, below_drewN HE5.out _⟩, by simp [intOf]; omega⟩
          · have hvs : vs[jf].toList.isEmpty = false := by simpa using hve
            have HG : Hid (Gate.gives s vs p ms[k] = some vs[jf]) := by
              unfold Hid Gate.gives; rw [if_pos ⟨HT.out, HW.out⟩, if_pos his, if_pos (by unfold Gate.isSet; rw [HVA.out, hvs]; rfl), HVA.out]
            clear hve
            go_wp2_with fail
            go_quiet (fail)
            go_wp2_with fail
            obtain ⟨W5, hW5⟩ : ∃ W5, W5 = (wr.alloc (.cells #[.string ms[k].kd, .string ms[k].fd, .string ms[k].wh, .string ms[k].wi, .string ms[k].pt, .string ms[k].fr] 71)).drewN nq := ⟨_, rfl⟩
            have hb5 : Below wr.heap.size wr W5 := by rw [hW5]; exact below_drewN ((Below.refl _ _).alloc (Nat.le_refl _) _) _
            have hM5 : ∀ j, W5.cell? ⟨wr.heap.size, j, none⟩ = (#[.string ms[k].kd, .string ms[k].fd, .string ms[k].wh, .string ms[k].wi, .string ms[k].pt, .string ms[k].fr] : Array Value)[j]? := by rw [hW5]; exact box_new wr _ _
            have hm5 : wr.heap.size < W5.heap.size := by rw [hW5]; show wr.heap.size < (wr.alloc _).heap.size; simp
            have hX5 := box_later hXr hzr hb5
            have hz5 : w.heap.size < W5.heap.size := by omega
            have cf5 : W5.cell? ⟨vb, voff + jf, none⟩ = some (.string vs[jf]) := (hb5.cell (p := ⟨vb, voff + jf, none⟩) hvz).trans cf
            have hv5 : vb < W5.heap.size := by omega
            have HF5 : Hid (∀ n, FldsAt (W5.drewN n) fa s.fs) := fun n => ((HH.out.1.mono HB.out.1).mono hb5).mono (below_drewN (Below.refl _ _) n)
            have HE5 : Hid (Below (w.heap.size + 1) (w.alloc (.cells #[.string o.kd, .string o.nm, .string o.tm, .slice (some ⟨vb, voff, none⟩) vs.length vcap, .bool o.en, .slice ha o.hs.length hcap, .int .i64 o.vr] 30)) W5) := HB.out.2.trans (hb5.mono (by omega))
            have HR5 : Hid (Below w.heap.size w W5) := HB.out.1.trans (hb5.mono (by omega))
            rw [← hW5]
            clear hW5
            go_quiet ((go_at_call 67; exact Calls.quiet_of_same (as_int HJF.out (l3Field_any _ _ s.fs _ _ (by exact HF5.out _)))))
            go_wp2_with fail
            go_ret
            exact ⟨ret_str' (HSX.out _ HG.out).symm, below_drewN HR5.out _⟩
      · have hws : ms[k].wh.toList.isEmpty = false := by simpa using hwh
        have hisw : Gate.isSet ms[k].wh = true := by unfold Gate.isSet; rw [hws]; rfl
        obtain ⟨jw, hjw, hjx⟩ := HRD.out ms[k].wh (by unfold Gate.readNames; simp [hisw])
        have HJW : Hid (Gate.fieldIx s.fs ms[k].wh = (jw : Int)) := hjx
        have hjwv : jw < vs.length := by have := HH.out.2.2.1; omega
        have HVW : Hid (Gate.valAt s.fs vs ms[k].wh = vs[jw]) := by rw [Hid, Gate.valAt_of hjx, Gate.getD_at vs jw _ hjwv]
        have cw := HV.out jw hjwv
        have hjwI : (jw : Int) < (vs.length : Int) := by omega
        have hjw0 : (0 : Int) ≤ (jw : Int) := by omega
        clear hwh hjx
        by_cases hwe : (vs[jw].toList == ms[k].wi.toList) = true
        · have HW : Hid (¬ (Gate.isSet ms[k].wh = true ∧ Gate.valAt s.fs vs ms[k].wh ≠ ms[k].wi)) := by
            rintro ⟨_, h⟩; rw [HVW.out] at h; rw [Gate.beq_toList] at hwe; exact h (by simpa using hwe)
          by_cases hfr : ms[k].fr.toList.isEmpty = true
          · have HG : Hid (Gate.gives s vs p ms[k] = some ms[k].pt) := by
              unfold Hid Gate.gives; rw [if_pos ⟨HT.out, HW.out⟩, if_neg (by unfold Gate.isSet; rw [hfr]; simp)]
            go_wp2_with fail
            go_quiet ((go_at_call 67; exact Calls.quiet_of_same (as_int HJW.out (l3Field_any _ _ s.fs _ _ (by exact HFm.out _ _)))))
            go_wp2_with fail
            go_ret
            exact ⟨ret_str' (HSX.out _ HG.out).symm, HBR.out _ _⟩
          · have hfs : ms[k].fr.toList.isEmpty = false := by simpa using hfr
            have his : Gate.isSet ms[k].fr = true := by unfold Gate.isSet; rw [hfs]; rfl
            obtain ⟨jf, hjf, hjx⟩ := HRD.out ms[k].fr (by unfold Gate.readNames; simp [his])
            have HJF : Hid (Gate.fieldIx s.fs ms[k].fr = (jf : Int)) := hjx
            have hjv : jf < vs.length := by have := HH.out.2.2.1; omega
            have HVA : Hid (Gate.valAt s.fs vs ms[k].fr = vs[jf]) := by rw [Hid, Gate.valAt_of hjx, Gate.getD_at vs jf _ hjv]
            have cf := HV.out jf hjv
            have hjI : (jf : Int) < (vs.length : Int) := by omega
            have hj0 : (0 : Int) ≤ (jf : Int) := by omega
            clear hfr hjx
            by_cases hve : vs[jf].toList.isEmpty = true
            · have HG : Hid (Gate.gives s vs p ms[k] = none) := by
                unfold Hid Gate.gives; rw [if_pos ⟨HT.out, HW.out⟩, if_pos his, if_neg (by unfold Gate.isSet; rw [HVA.out, hve]; simp)]
              go_wp2_with fail
              go_quiet ((go_at_call 67; exact Calls.quiet_of_same (as_int HJW.out (l3Field_any _ _ s.fs _ _ (by exact HFm.out _ _)))))
              go_wp2_with fail
              obtain ⟨W5, hW5⟩ : ∃ W5, W5 = (wr.alloc (.cells #[.string ms[k].kd, .string ms[k].fd, .string ms[k].wh, .string ms[k].wi, .string ms[k].pt, .string ms[k].fr] 71)).drewN nq := ⟨_, rfl⟩
              have hb5 : Below wr.heap.size wr W5 := by rw [hW5]; exact below_drewN ((Below.refl _ _).alloc (Nat.le_refl _) _) _
              have hM5 : ∀ j, W5.cell? ⟨wr.heap.size, j, none⟩ = (#[.string ms[k].kd, .string ms[k].fd, .string ms[k].wh, .string ms[k].wi, .string ms[k].pt, .string ms[k].fr] : Array Value)[j]? := by rw [hW5]; exact box_new wr _ _
              have hm5 : wr.heap.size < W5.heap.size := by rw [hW5]; show wr.heap.size < (wr.alloc _).heap.size; simp
              have hX5 := box_later hXr hzr hb5
              have hz5 : w.heap.size < W5.heap.size := by omega
              have cf5 : W5.cell? ⟨vb, voff + jf, none⟩ = some (.string vs[jf]) := (hb5.cell (p := ⟨vb, voff + jf, none⟩) hvz).trans cf
              have hv5 : vb < W5.heap.size := by omega
              have HF5 : Hid (∀ n, FldsAt (W5.drewN n) fa s.fs) := fun n => ((HH.out.1.mono HB.out.1).mono hb5).mono (below_drewN (Below.refl _ _) n)
              have HE5 : Hid (Below (w.heap.size + 1) (w.alloc (.cells #[.string o.kd, .string o.nm, .string o.tm, .slice (some ⟨vb, voff, none⟩) vs.length vcap, .bool o.en, .slice ha o.hs.length hcap, .int .i64 o.vr] 30)) W5) := HB.out.2.trans (hb5.mono (by omega))
              have HR5 : Hid (Below w.heap.size w W5) := HB.out.1.trans (hb5.mono (by omega))
              rw [← hW5]
              clear hW5
              go_quiet ((go_at_call 67; exact Calls.quiet_of_same (as_int HJF.out (l3Field_any _ _ s.fs _ _ (by exact HF5.out _)))))
              go_wp2_with fail
              exact ⟨⟨k + 1, by omega, by go_num, HNX.out HG.out, below_drewN HE5.out _⟩, by simp [intOf]; omega⟩
            · have hvs : vs[jf].toList.isEmpty = false := by simpa using hve
              have HG : Hid (Gate.gives s vs p ms[k] = some vs[jf]) := by
                unfold Hid Gate.gives; rw [if_pos ⟨HT.out, HW.out⟩, if_pos his, if_pos (by unfold Gate.isSet; rw [HVA.out, hvs]; rfl), HVA.out]
              clear hve
              go_wp2_with fail
              go_quiet ((go_at_call 67; exact Calls.quiet_of_same (as_int HJW.out (l3Field_any _ _ s.fs _ _ (by exact HFm.out _ _)))))
              go_wp2_with fail
              obtain ⟨W5, hW5⟩ : ∃ W5, W5 = (wr.alloc (.cells #[.string ms[k].kd, .string ms[k].fd, .string ms[k].wh, .string ms[k].wi, .string ms[k].pt, .string ms[k].fr] 71)).drewN nq := ⟨_, rfl⟩
              have hb5 : Below wr.heap.size wr W5 := by rw [hW5]; exact below_drewN ((Below.refl _ _).alloc (Nat.le_refl _) _) _
              have hM5 : ∀ j, W5.cell? ⟨wr.heap.size, j, none⟩ = (#[.string ms[k].kd, .string ms[k].fd, .string ms[k].wh, .string ms[k].wi, .string ms[k].pt, .string ms[k].fr] : Array Value)[j]? := by rw [hW5]; exact box_new wr _ _
              have hm5 : wr.heap.size < W5.heap.size := by rw [hW5]; show wr.heap.size < (wr.alloc _).heap.size; simp
              have hX5 := box_later hXr hzr hb5
              have hz5 : w.heap.size < W5.heap.size := by omega
              have cf5 : W5.cell? ⟨vb, voff + jf, none⟩ = some (.string vs[jf]) := (hb5.cell (p := ⟨vb, voff + jf, none⟩) hvz).trans cf
              have hv5 : vb < W5.heap.size := by omega
              have HF5 : Hid (∀ n, FldsAt (W5.drewN n) fa s.fs) := fun n => ((HH.out.1.mono HB.out.1).mono hb5).mono (below_drewN (Below.refl _ _) n)
              have HE5 : Hid (Below (w.heap.size + 1) (w.alloc (.cells #[.string o.kd, .string o.nm, .string o.tm, .slice (some ⟨vb, voff, none⟩) vs.length vcap, .bool o.en, .slice ha o.hs.length hcap, .int .i64 o.vr] 30)) W5) := HB.out.2.trans (hb5.mono (by omega))
              have HR5 : Hid (Below w.heap.size w W5) := HB.out.1.trans (hb5.mono (by omega))
              rw [← hW5]
              clear hW5
              go_quiet ((go_at_call 67; exact Calls.quiet_of_same (as_int HJF.out (l3Field_any _ _ s.fs _ _ (by exact HF5.out _)))))
              go_wp2_with fail
              go_ret
              exact ⟨ret_str' (HSX.out _ HG.out).symm, below_drewN HR5.out _⟩
        · have hwf : (vs[jw].toList == ms[k].wi.toList) = false := by simpa using hwe
          have HG : Hid (Gate.gives s vs p ms[k] = none) := by
            unfold Hid Gate.gives; rw [if_neg]; rintro ⟨_, h⟩
            exact h ⟨hisw, by rw [HVW.out]; intro e; rw [Gate.beq_toList] at hwf; simp [e] at hwf⟩
          clear hwe
          go_wp2_with fail
          go_quiet ((go_at_call 67; exact Calls.quiet_of_same (as_int HJW.out (l3Field_any _ _ s.fs _ _ (by exact HFm.out _ _)))))
          go_wp2_with fail
          exact ⟨⟨k + 1, by omega, by go_num, HNX.out HG.out, HBE.out _ _⟩, by simp [intOf]; omega⟩
    · have hnI : ¬ (k : Int) < (ms.length : Int) := by omega
      have HD : Hid (Gate.decided s ms p vs = vs[p]) := by
        have e : ms.findSome? (Gate.gives s vs p) = none := by have := HN.out; rwa [List.take_of_length_le (by omega)] at this
        unfold Hid Gate.decided; rw [e, Gate.getD_at vs p _ hpv]; rfl
      have HJP : Hid (Gate.fieldIx s.fs s.fs[p].nm = (p : Int)) := HH.out.2.2.2.2.1
      have cp := HV.out p hpv
      have hpI : (p : Int) < (vs.length : Int) := by omega
      have hp0 : (0 : Int) ≤ (p : Int) := by omega
      go_wp2_with fail
      go_quiet ((go_at_call 67; exact Calls.quiet_of_same (as_int HJP.out (l3Field_any _ _ s.fs _ _ (by exact HFr.out _)))))
      go_wp2_with fail
      go_ret
      exact ⟨ret_str' HD.out.symm, below_drewN HB.out.1 _⟩

end Go.Proofs.YtponiggfclcbgaaGreat

namespace Go.Proofs.YtponiggfclcbgaaGreat
open Go.RowKit

namespace Gate
theorem shapeOf_kd {ss : List Shp} {v : ByteArray} (h : hasKind ss v = true) : (shapeOf ss v).kd = v := by
  unfold hasKind at h
  rw [List.any_eq_true] at h
  obtain ⟨x, hx, he⟩ := h
  unfold shapeOf
  cases hf : ss.find? (fun s => decide (s.kd = v)) with
  | none => rw [List.find?_eq_none] at hf; exact absurd he (hf x hx)
  | some y => simpa using List.find?_some hf

theorem mendable_of {ss : List Shp} {ms : List Mnd} {o : Ob} (hm : mendsOk ss ms = true) : mendable ss ms o = wholeCount ss o := by
  unfold mendable wholeCount; rw [hm, Bool.and_true]

/-- What the specification's row is, of an object that mends change. -/
structure RowOf (ss : List Shp) (ms : List Mnd) (o : Ob) (pl : List Nat) : Prop where
  names : greedyN (shapeOf ss o.kd) ms (shapeOf ss o.kd).fs.length = pl.map (nmAt (shapeOf ss o.kd))
  topo : Topo (readsN (shapeOf ss o.kd) ms) (shapeOf ss o.kd).fs.length pl
  place : ∀ q (h : q < (shapeOf ss o.kd).fs.length), fieldIx (shapeOf ss o.kd).fs (shapeOf ss o.kd).fs[q].nm = (q : Int)
  kd : (shapeOf ss o.kd).kd = o.kd
  few : (shapeOf ss o.kd).fs.length ≤ 6
  reads : ∀ q, q < (shapeOf ss o.kd).fs.length → ∀ x ∈ readsI (shapeOf ss o.kd) ms q, 0 ≤ x ∧ x < (shapeOf ss o.kd).fs.length
  len : o.vs.length = (shapeOf ss o.kd).fs.length
  mends : ms.length ≤ 12
  res : mendVs ss ms o = turnRow (decided (shapeOf ss o.kd) ms) pl o.vs

theorem rowOf {ss : List Shp} {ms : List Mnd} {o : Ob} (hm : mendsOk ss ms = true) (hc : wholeCount ss o = true) : RowOf ss ms o (greedy (readsN (shapeOf ss o.kd) ms) (shapeOf ss o.kd).fs.length (shapeOf ss o.kd).fs.length) := by
  have hmd : mendable ss ms o = true := by rw [mendable_of hm]; exact hc
  obtain ⟨hl, h6, hr, hw⟩ := mend_facts hmd
  unfold wholeCount at hc
  simp only [Bool.and_eq_true] at hc
  obtain ⟨i, hi, e⟩ := shapeOf_mem hc.1
  have hkd := shapeOf_kd hc.1
  unfold mendsOk at hm
  simp only [Bool.and_eq_true, decide_eq_true_eq] at hm
  obtain ⟨⟨⟨h12, hs⟩, ha⟩, _⟩ := hm
  have hrd : ∀ p, p < (shapeOf ss o.kd).fs.length → ∀ q ∈ readsN (shapeOf ss o.kd) ms p, q < (shapeOf ss o.kd).fs.length := by
    intro p hp q hq
    unfold readsN at hq
    obtain ⟨x, hx, rfl⟩ := List.mem_map.1 hq
    have := hr p hp x hx
    omega
  have htw := walkAll_topo hrd hw
  have htg : Topo (readsN (shapeOf ss o.kd) ms) (shapeOf ss o.kd).fs.length (greedy (readsN (shapeOf ss o.kd) ms) (shapeOf ss o.kd).fs.length (shapeOf ss o.kd).fs.length) :=
    (greedy_part _ _ _).topo (greedy_full htw.ranked _ (Nat.le_refl _))
  refine ⟨?_, htg, ?_, hkd, h6, hr, hl, h12, ?_⟩
  · rw [e]; exact greedy_names hs ha i hi _
  · rw [e]
    intro q hq
    refine fieldIx_at ss[i].fs _ q hq ?_ rfl
    unfold hasName
    rw [List.any_eq_false]
    intro x hx
    obtain ⟨j, hj, rfl⟩ := List.mem_iff_getElem.1 hx
    have hjq : j < q := by simp at hj; omega
    simp only [List.getElem_take, decide_eq_true_eq]
    exact names_apart hs i hi j q hjq hq
  · exact turnRow_any htw htg (decided_hangs _ _) o.vs hl

theorem turnRow_snoc {α : Type} (D : Nat → List α → α) (pl : List Nat) (vs : List α) (k : Nat) (h : k < pl.length) : turnRow D (pl.take (k + 1)) vs = (turnRow D (pl.take k) vs).set pl[k] (D pl[k] (turnRow D (pl.take k) vs)) := by
  unfold turnRow; rw [List.take_succ_eq_append_getElem h, List.foldl_append]; rfl
end Gate

theorem own_cell {lo : Nat} {w : World} {g : Nat} {us : List ByteArray} (h : TxtsOwn lo w (some ⟨g, 0, none⟩) us) (p : Nat) (hp : p < us.length) : w.cell? ⟨g, p, none⟩ = some (.string us[p]) := by
  rcases h with ⟨h0, _⟩ | ⟨g', C, hg, _, hh, hc⟩
  · cases h0
  · cases hg; rw [cell_of_block hh, hc p hp]
theorem own_free {lo : Nat} {w : World} {g p : Nat} {us : List ByteArray} (h : TxtsOwn lo w (some ⟨g, 0, none⟩) us) (_hp : p < us.length) : w.frozen? ⟨g, p, none⟩ = false := by
  rcases h with ⟨h0, _⟩ | ⟨g', C, hg, _, hh, hc⟩
  · cases h0
  · cases hg; exact frozen_of_block hh

theorem row_open {w : World} {lo : Nat} {v : Value} {row : List ByteArray} (h : w.ownsRow lo 9 1 v row.length (row.map Value.string)) : ∃ ra rcap, v = .slice ra row.length rcap ∧ (row ≠ [] → ∃ rb, ra = some ⟨rb, 0, none⟩ ∧ lo ≤ rb ∧ rb < w.heap.size ∧ ∀ i (h : i < row.length), w.cell? ⟨rb, i, none⟩ = some (.string row[i])) := by
  obtain ⟨_, ⟨h0, h1⟩ | ⟨g, cp, cur, h0, h1⟩⟩ := id h
  · have e := List.length_eq_zero_iff.1 h1
    subst e
    exact ⟨none, 0, by rw [h0]; rfl, fun hn => absurd rfl hn⟩
  · subst h0
    refine ⟨some ⟨g, 0, none⟩, cp, rfl, fun _ => ⟨g, rfl, (h.lt g rfl).1, (h.lt g rfl).2, fun i hi => ?_⟩⟩
    rw [h.cellAt i (by omega)]
    simp [hi]

theorem l3Decided_any' (s : Shp) (ms : List Mnd) (o : Ob) (vs : List ByteArray) (n : Nat) (hn : vs.length = n) (p : Nat) (fa ma va ha : Option Addr) (fcap mcap vcap hcap : Nat) (w : World) (hf : FldsAt w fa s.fs) (hm : MndsAt w ma ms) (hv : StrsAt w va vs) (hc : vs.length = s.fs.length) (hp : p < s.fs.length) (hix : Gate.fieldIx s.fs s.fs[p].nm = (p : Int)) (hkd : o.kd = s.kd) (hrd : ∀ x ∈ Gate.readsI s ms p, 0 ≤ x ∧ x < s.fs.length) :
    Calls Tryz.prog 66 #[.slice fa s.fs.length fcap, .slice ma ms.length mcap, .agg #[.string o.kd, .string o.nm, .string o.tm, .slice va n vcap, .bool o.en, .slice ha o.hs.length hcap, .int .i64 o.vr], .string s.fs[p].nm] w fun e w' => e = .returned (.string (Gate.decided s ms p vs)) ∧ Below w.heap.size w w' := by
  subst hn
  exact l3Decided_any s ms o vs p fa ma va ha fcap mcap vcap hcap w hf hm hv hc hp hix hkd hrd

set_option maxRecDepth 20000 in
set_option maxHeartbeats 8000000 in
theorem l3Mended_any (a0 ma : Option Addr) (cap0 mcap : Nat) (ss : List Shp) (ms : List Mnd) (o : Ob) (b off b' off' cap cap' : Nat) (w : World) (hw : ShpsAt w a0 ss) (hm : MndsAt w ma ms) (ho : ObAt w o (some ⟨b, off, none⟩) (some ⟨b', off', none⟩)) (hl : o.vs.length ≤ 1048576) (hl' : o.hs.length ≤ 1048576) (hok : Gate.mendsOk ss ms = true) :
    Calls Tryz.prog 37 #[.slice a0 ss.length cap0, .slice ma ms.length mcap, .agg #[.string o.kd, .string o.nm, .string o.tm, .slice (some ⟨b, off, none⟩) o.vs.length cap, .bool o.en, .slice (some ⟨b', off', none⟩) o.hs.length cap', .int .i64 o.vr]] w (FillPost o (Gate.mendRes ss ms o) w) := by
  have hsl := hw.len
  unfold maxLen at hsl
  have HW : Hid (ShpsAt w a0 ss ∧ MndsAt w ma ms) := ⟨hw, hm⟩
  clear hw hm
  by_cases hc : Gate.wholeCount ss o = true
  rotate_left
  · have HC : Hid (Gate.wholeCount ss o = false) := by simpa [Hid] using hc
    have HRES : Hid (Gate.mendRes ss ms o = o.vs) := by unfold Hid Gate.mendRes; rw [if_neg (by rw [Gate.mendable_of hok]; exact hc)]
    have HH : Hid (ObAt w o (some ⟨b, off, none⟩) (some ⟨b', off', none⟩)) := ho
    clear hc ho
    go_enter Tryz.func37, Tryz.ntmps37
    go_wp2_with fail
    refine (l2Copy_any o b off b' off' cap cap' _ (HH.out.mono (below2' w (.cells #[.string o.kd, .string o.nm, .string o.tm, .slice (some ⟨b, off, none⟩) o.vs.length cap, .bool o.en, .slice (some ⟨b', off', none⟩) o.hs.length cap', .int .i64 o.vr] 30) (.cells #[.string ByteArray.empty, .string ByteArray.empty, .string ByteArray.empty, .slice none 0 0, .bool false, .slice none 0 0, .int .i64 0] 30))) hl hl').mono ?_
    rintro e w1 ⟨a, dap, a', dap', m, rfl, ht, hm, hsm, ht', hb1⟩
    have HO1 : Hid (w1.heap[w.heap.size]? = some (.cells #[.string o.kd, .string o.nm, .string o.tm, .slice (some ⟨b, off, none⟩) o.vs.length cap, .bool o.en, .slice (some ⟨b', off', none⟩) o.hs.length cap', .int .i64 o.vr] 30)) := (hb1.block w.heap.size (by simp; omega)).trans (two_blocks _ _ _).1
    have HR1 : Hid (w1.heap[w.heap.size + 1]? = some (.cells #[.string ByteArray.empty, .string ByteArray.empty, .string ByteArray.empty, .slice none 0 0, .bool false, .slice none 0 0, .int .i64 0] 30)) := (hb1.block (w.heap.size + 1) (by simp)).trans (two_blocks _ _ _).2
    have hX1 : ∀ j, w1.cell? ⟨w.heap.size, j, none⟩ = (#[.string o.kd, .string o.nm, .string o.tm, .slice (some ⟨b, off, none⟩) o.vs.length cap, .bool o.en, .slice (some ⟨b', off', none⟩) o.hs.length cap', .int .i64 o.vr] : Array Value)[j]? := fun j => cell_of_block HO1.out
    have hz1 : w.heap.size + 1 < w1.heap.size := by have := hb1.size; simp at this; omega
    have hz0 : w.heap.size < w1.heap.size := by omega
    have hB1 : Below w.heap.size w w1 := (below2' _ _ _).trans (hb1.mono (by simp; omega))
    have HT : Hid (TxtsOwn (w.heap.size + 1 + 1) w1 a o.vs ∧ (∀ g, a = some g → g.block < m) ∧ w.heap.size + 1 + 1 ≤ m ∧ TxtsOwn m w1 a' o.hs) := by
      simp only [World.size_alloc] at ht hsm
      exact ⟨ht, hm, hsm, ht'⟩
    clear ht hm hsm ht' hb1
    go_wp2_with fail
    have hbs := (Below.refl w1.heap.size w1).alloc (Nat.le_refl _) (.cells #[.string o.kd, .string o.nm, .string o.tm, .slice a o.vs.length dap, .bool o.en, .slice a' o.hs.length dap', .int .i64 o.vr] 30)
    have hBs := hB1.trans (hbs.mono hB1.size)
    refine (l2Fields_no a0 cap0 ss o _ _ cap cap' _ (HW.out.1.mono hBs) (HH.out.mono hBs) HC.out).mono ?_
    rintro e w2 ⟨v, rfl, hb2⟩
    have hba := hbs.trans (hb2.mono hbs.size)
    have hR2 := (hba.block _ hz1).trans HR1.out
    have hU2 : ∀ j, w2.cell? ⟨w1.heap.size, j, none⟩ = (#[.string o.kd, .string o.nm, .string o.tm, .slice a o.vs.length dap, .bool o.en, .slice a' o.hs.length dap', .int .i64 o.vr] : Array Value)[j]? := box_later (box_new w1 _ _) (by simp) hb2
    have hRc : ∀ j, w2.cell? ⟨w.heap.size + 1, j, none⟩ = (#[.string ByteArray.empty, .string ByteArray.empty, .string ByteArray.empty, .slice none 0 0, .bool false, .slice none 0 0, .int .i64 0] : Array Value)[j]? := fun j => cell_of_block hR2
    have hRf : ∀ j, w2.frozen? ⟨w.heap.size + 1, j, none⟩ = false := fun j => frozen_of_block hR2
    have HX : Hid (TxtsOwn (w.heap.size + 1 + 1) w2 a o.vs ∧ TxtsOwn m w2 a' o.hs ∧ Below w.heap.size w w2) := ⟨HT.out.1.mono hba, HT.out.2.2.2.mono hba, hB1.trans (hba.mono hB1.size)⟩
    clear hbs hBs hb2 hba hR2 hX1
    go_wp2_with fail
    refine bodyPost_ret (v := (.agg #[.string o.kd, .string o.nm, .string o.tm, .slice a o.vs.length dap, .bool o.en, .slice a' o.hs.length dap', .int .i64 o.vr])) (by simp [results, Tryz.results37, go_sem, hRc]) rfl ?_
    obtain ⟨ht, ht', hB⟩ := HX.out
    rw [HRES.out]
    exact ⟨a, dap, a', dap', m, rfl, (put7_own ht _ (by omega) _ _ _ _ _ _ _).low (by omega), HT.out.2.1, by have := HT.out.2.2.1; omega, put7_own ht' _ (by have := HT.out.2.2.1; omega) _ _ _ _ _ _ _, put7_below hB _ (by omega) _ _ _ _ _ _ _⟩
  have HC : Hid (Gate.wholeCount ss o = true) := hc
  have HRO : Hid (Gate.RowOf ss ms o (Gate.greedy (Gate.readsN (Gate.shapeOf ss o.kd) ms) (Gate.shapeOf ss o.kd).fs.length (Gate.shapeOf ss o.kd).fs.length)) := Gate.rowOf hok hc
  have HRES : Hid (Gate.mendRes ss ms o = Gate.mendVs ss ms o) := by unfold Hid Gate.mendRes; rw [if_pos (by rw [Gate.mendable_of hok]; exact hc)]
  have HK : Hid (Gate.hasKind ss o.kd = true) := by unfold Gate.wholeCount at hc; simp only [Bool.and_eq_true] at hc; exact hc.1
  have HH : Hid (ObAt w o (some ⟨b, off, none⟩) (some ⟨b', off', none⟩)) := ho
  clear hc ho
  go_enter Tryz.func37, Tryz.ntmps37
  go_wp2_with fail
  refine (l2Copy_any o b off b' off' cap cap' _ (HH.out.mono (below2' w (.cells #[.string o.kd, .string o.nm, .string o.tm, .slice (some ⟨b, off, none⟩) o.vs.length cap, .bool o.en, .slice (some ⟨b', off', none⟩) o.hs.length cap', .int .i64 o.vr] 30) (.cells #[.string ByteArray.empty, .string ByteArray.empty, .string ByteArray.empty, .slice none 0 0, .bool false, .slice none 0 0, .int .i64 0] 30))) hl hl').mono ?_
  rintro e w1 ⟨a, dap, a', dap', m, rfl, ht, hm, hsm, ht', hb1⟩
  have HO1 : Hid (w1.heap[w.heap.size]? = some (.cells #[.string o.kd, .string o.nm, .string o.tm, .slice (some ⟨b, off, none⟩) o.vs.length cap, .bool o.en, .slice (some ⟨b', off', none⟩) o.hs.length cap', .int .i64 o.vr] 30)) := (hb1.block w.heap.size (by simp; omega)).trans (two_blocks _ _ _).1
  have HR1 : Hid (w1.heap[w.heap.size + 1]? = some (.cells #[.string ByteArray.empty, .string ByteArray.empty, .string ByteArray.empty, .slice none 0 0, .bool false, .slice none 0 0, .int .i64 0] 30)) := (hb1.block (w.heap.size + 1) (by simp)).trans (two_blocks _ _ _).2
  have hX1 : ∀ j, w1.cell? ⟨w.heap.size, j, none⟩ = (#[.string o.kd, .string o.nm, .string o.tm, .slice (some ⟨b, off, none⟩) o.vs.length cap, .bool o.en, .slice (some ⟨b', off', none⟩) o.hs.length cap', .int .i64 o.vr] : Array Value)[j]? := fun j => cell_of_block HO1.out
  have hz1 : w.heap.size + 1 < w1.heap.size := by have := hb1.size; simp at this; omega
  have hz0 : w.heap.size < w1.heap.size := by omega
  have hB1 : Below w.heap.size w w1 := (below2' _ _ _).trans (hb1.mono (by simp; omega))
  have HT : Hid (TxtsOwn (w.heap.size + 1 + 1) w1 a o.vs ∧ (∀ g, a = some g → g.block < m) ∧ w.heap.size + 1 + 1 ≤ m ∧ TxtsOwn m w1 a' o.hs) := by
    simp only [World.size_alloc] at ht hsm
    exact ⟨ht, hm, hsm, ht'⟩
  clear ht hm hsm ht' hb1
  go_wp2_with fail
  have hbs := (Below.refl w1.heap.size w1).alloc (Nat.le_refl _) (.cells #[.string o.kd, .string o.nm, .string o.tm, .slice a o.vs.length dap, .bool o.en, .slice a' o.hs.length dap', .int .i64 o.vr] 30)
  have hBs := hB1.trans (hbs.mono hB1.size)
  refine (l2Fields_yes2 a0 cap0 ss o _ _ cap cap' w _ HW.out.1 hBs HC.out).mono ?_
  rintro e w2 ⟨fa, fcap, rfl, hf, hb2⟩
  have HFA : Hid (FldsAt w fa (Gate.shapeOf ss o.kd).fs) := hf
  have hba := hbs.trans (hb2.mono hbs.size)
  have HR2 : Hid (w2.heap[w.heap.size + 1]? = some (.cells #[.string ByteArray.empty, .string ByteArray.empty, .string ByteArray.empty, .slice none 0 0, .bool false, .slice none 0 0, .int .i64 0] 30)) := (hba.block _ hz1).trans HR1.out
  have HO2 : Hid (w2.heap[w.heap.size]? = some (.cells #[.string o.kd, .string o.nm, .string o.tm, .slice (some ⟨b, off, none⟩) o.vs.length cap, .bool o.en, .slice (some ⟨b', off', none⟩) o.hs.length cap', .int .i64 o.vr] 30)) := (hba.block _ hz0).trans HO1.out
  have HU2 : Hid (w2.heap[w1.heap.size]? = some (.cells #[.string o.kd, .string o.nm, .string o.tm, .slice a o.vs.length dap, .bool o.en, .slice a' o.hs.length dap', .int .i64 o.vr] 30)) := (hb2.block _ (by simp)).trans (alloc_at _ _)
  have HX2 : Hid (TxtsOwn (w.heap.size + 1 + 1) w2 a o.vs ∧ TxtsOwn m w2 a' o.hs ∧ Below w.heap.size w w2) := ⟨HT.out.1.mono hba, HT.out.2.2.2.mono hba, hB1.trans (hba.mono hB1.size)⟩
  have hz2 : w1.heap.size < w2.heap.size := (Array.getElem?_eq_some_iff.1 HU2.out).1
  have hX2 : ∀ j, w2.cell? ⟨w.heap.size, j, none⟩ = (#[.string o.kd, .string o.nm, .string o.tm, .slice (some ⟨b, off, none⟩) o.vs.length cap, .bool o.en, .slice (some ⟨b', off', none⟩) o.hs.length cap', .int .i64 o.vr] : Array Value)[j]? := fun j => cell_of_block HO2.out
  have hzo2 : w.heap.size < w2.heap.size := by omega
  clear hbs hBs hb2 hba hX1 hf
  go_wp2_with fail
  refine (l1Shape_yes _ _ _ _ _ (HW.out.1.mono HX2.out.2.2) HK.out).mono ?_
  rintro e w3 ⟨ix, hix, rfl, hsh, rfl⟩
  have HSh : Hid (Gate.shapeOf ss o.kd = ss[ix]) := hsh
  clear hsh
  obtain ⟨sb, soff, rfl, hsb0, hsr⟩ := HW.out.1.rows (by rintro rfl; simp at hix)
  obtain ⟨fa2, fcap2, hs0⟩ := hsr ix hix
  have hs := hs0.mono hsb0 HX2.out.2.2
  have hck := hs.kind
  have hcl := hs.list
  have HF2 : Hid (FldsAt w fa2 ss[ix].fs) := hs0.flds
  have hixI : (ix : Int) < (ss.length : Int) := by omega
  have hsbw : sb < w3.heap.size := Nat.lt_of_lt_of_le hsb0 HX2.out.2.2.size
  clear hsr hs hs0
  go_wp2_with fail
  refine (l3Row_any fa2 ma fcap2 mcap ss[ix] ms _ (HF2.out.mono HX2.out.2.2) (HW.out.2.mono HX2.out.2.2) HRO.out.mends (by have := HRO.out.few; rw [HSh.out] at this; exact this)).mono ?_
  rintro e w4 ⟨v, rfl, hrow, hb4⟩
  rw [← HSh.out, HRO.out.names] at hrow
  obtain ⟨ra, rcap, rfl, hrw⟩ := row_open (by rw [List.length_map]; rw [List.length_map] at hrow; exact hrow)
  rw [List.length_map]
  have HRO2 := HRO.out
  have HX4 : Hid (TxtsOwn (w.heap.size + 1 + 1) w4 a o.vs ∧ TxtsOwn m w4 a' o.hs ∧ Below w.heap.size w w4) := ⟨HX2.out.1.mono hb4, HX2.out.2.1.mono hb4, HX2.out.2.2.trans (hb4.mono HX2.out.2.2.size)⟩
  have HR4 : Hid (w4.heap[w.heap.size + 1]? = some (.cells #[.string ByteArray.empty, .string ByteArray.empty, .string ByteArray.empty, .slice none 0 0, .bool false, .slice none 0 0, .int .i64 0] 30)) := (hb4.block _ (by omega)).trans HR2.out
  have HU4 : Hid (w4.heap[w1.heap.size]? = some (.cells #[.string o.kd, .string o.nm, .string o.tm, .slice a o.vs.length dap, .bool o.en, .slice a' o.hs.length dap', .int .i64 o.vr] 30)) := (hb4.block _ hz2).trans HU2.out
  have HZ4 : Hid (w3.heap.size ≤ w4.heap.size) := hb4.size
  clear hb4 hX2 hck hcl HSh HF2 HRO hixI hrow
  revert HRO2 HFA hrw
  generalize Gate.greedy (Gate.readsN (Gate.shapeOf ss o.kd) ms) (Gate.shapeOf ss o.kd).fs.length (Gate.shapeOf ss o.kd).fs.length = pl
  intro HFA hrw hro
  have HRW : Hid (Gate.RowOf ss ms o pl) := hro
  have HVS : Hid (Gate.mendVs ss ms o = Gate.turnRow (Gate.decided (Gate.shapeOf ss o.kd) ms) pl o.vs) := hro.res
  have hpl6 : pl.length ≤ 6 := by
    have h1 := Gate.length_le_of pl (List.range (Gate.shapeOf ss o.kd).fs.length) hro.topo.nodup (fun x hx => List.mem_range.2 ((hro.topo.mem x).1 hx))
    rw [List.length_range] at h1
    have := hro.few
    omega
  clear hro
  go_wp2_with fail
  go_loopw [11] (fun i wr => ∃ k : Nat, k ≤ pl.length ∧ i = .int .i64 k ∧ TxtsOwn (w.heap.size + 1 + 1) wr a (Gate.turnRow (Gate.decided (Gate.shapeOf ss o.kd) ms) (pl.take k) o.vs) ∧ TxtsOwn m wr a' o.hs ∧ wr.heap[w.heap.size + 1]? = some (.cells #[.string ByteArray.empty, .string ByteArray.empty, .string ByteArray.empty, .slice none 0 0, .bool false, .slice none 0 0, .int .i64 0] 30) ∧ wr.heap[w1.heap.size]? = some (.cells #[.string o.kd, .string o.nm, .string o.tm, .slice a o.vs.length dap, .bool o.en, .slice a' o.hs.length dap', .int .i64 o.vr] 30) ∧ Below w.heap.size w wr ∧ w3.heap.size ≤ wr.heap.size ∧ (pl.map (Gate.nmAt (Gate.shapeOf ss o.kd)) ≠ [] → ∃ rb, ra = some ⟨rb, 0, none⟩ ∧ w3.heap.size ≤ rb ∧ rb < wr.heap.size ∧ ∀ i (h : i < (pl.map (Gate.nmAt (Gate.shapeOf ss o.kd))).length), wr.cell? ⟨rb, i, none⟩ = some (.string (pl.map (Gate.nmAt (Gate.shapeOf ss o.kd)))[i]))) (fun i _ => pl.length - (intOf i).toNat)
  case atStart => exact ⟨0, Nat.zero_le _, rfl, HX4.out.1, HX4.out.2.1, HR4.out, HU4.out, HX4.out.2.2, HZ4.out, hrw⟩
  case round =>
    obtain ⟨k, hk, rfl, ht, ht', hR, hO, hB, hz3, hrr⟩ := hrel
    by_cases hlt : k < pl.length
    · obtain ⟨rb, rfl, hrb0, hrbz, hrc⟩ := hrr (by intro h; have := congrArg List.length h; simp at this; rw [this] at hlt; simp at hlt)
      have hpn : pl[k] < (Gate.shapeOf ss o.kd).fs.length := (HRW.out.topo.mem _).1 (List.getElem_mem hlt)
      have hck := hrc k (by rw [List.length_map]; exact hlt)
      rw [List.getElem_map] at hck
      have hnm : Gate.nmAt (Gate.shapeOf ss o.kd) pl[k] = (Gate.shapeOf ss o.kd).fs[pl[k]].nm := by unfold Gate.nmAt; rw [Gate.getD_at _ _ _ hpn]
      rw [hnm] at hck
      have HTS : Hid (Gate.turnRow (Gate.decided (Gate.shapeOf ss o.kd) ms) (pl.take (k + 1)) o.vs = (Gate.turnRow (Gate.decided (Gate.shapeOf ss o.kd) ms) (pl.take k) o.vs).set pl[k] (Gate.decided (Gate.shapeOf ss o.kd) ms pl[k] (Gate.turnRow (Gate.decided (Gate.shapeOf ss o.kd) ms) (pl.take k) o.vs))) := Gate.turnRow_snoc _ pl o.vs k hlt
      have HUS : Hid (∀ x ∈ Gate.turnRow (Gate.decided (Gate.shapeOf ss o.kd) ms) (pl.take k) o.vs, x.size ≤ maxLen) := Gate.turnRow_small HW.out.2.small _ _ HH.out.vals.small
      have HLV : Hid ((Gate.turnRow (Gate.decided (Gate.shapeOf ss o.kd) ms) (pl.take k) o.vs).length = o.vs.length) := Gate.turnRow_length _ _ _
      have HRR : Hid (∀ i (h : i < (pl.map (Gate.nmAt (Gate.shapeOf ss o.kd))).length), wr.cell? ⟨rb, i, none⟩ = some (.string (pl.map (Gate.nmAt (Gate.shapeOf ss o.kd)))[i])) := hrc
      clear hrr hrc hnm
      revert hck HTS hpn
      generalize pl[k] = p
      intro hpn hck HTS
      revert HTS HLV HUS ht
      generalize Gate.turnRow (Gate.decided (Gate.shapeOf ss o.kd) ms) (pl.take k) o.vs = us
      intro ht HUS HLV HTS
      have hltI : (k : Int) < (pl.length : Int) := by omega
      have hpv : p < us.length := by rw [HLV.out, HRW.out.len]; exact hpn
      have hpI : (p : Int) < (o.vs.length : Int) := by have := HRW.out.len; omega
      obtain ⟨g, C, hga, hgl, hgh, hgc⟩ : ∃ g C, a = some ⟨g, 0, none⟩ ∧ w.heap.size + 1 + 1 ≤ g ∧ wr.heap[g]? = some (.cells C 9) ∧ ∀ i (h : i < us.length), C[i]? = some (.string us[i]) := by
        rcases ht with ⟨_, h0⟩ | h0
        · rw [h0] at hpv; simp at hpv
        · exact h0
      have hgm : g < m := HT.out.2.1 _ hga
      have hgw1 : g < w1.heap.size := HT.out.1.lt _ hga
      have hgw : g < wr.heap.size := by omega
      subst hga
      have hUS : StrsAt wr (some ⟨g, 0, none⟩) us := ht.at (by rw [HLV.out]; exact HH.out.vals.len) HUS.out
      have HJP : Hid (Gate.fieldIx (Gate.shapeOf ss o.kd).fs (Gate.shapeOf ss o.kd).fs[p].nm = (p : Int)) := HRW.out.place p hpn
      have hOc : ∀ j, wr.cell? ⟨w1.heap.size, j, none⟩ = (#[.string o.kd, .string o.nm, .string o.tm, .slice (some ⟨g, 0, none⟩) o.vs.length dap, .bool o.en, .slice a' o.hs.length dap', .int .i64 o.vr] : Array Value)[j]? := fun j => cell_of_block hO
      have hOz : w1.heap.size < wr.heap.size := (Array.getElem?_eq_some_iff.1 hO).1
      have hRk : (k : Int) < ((pl.map (Gate.nmAt (Gate.shapeOf ss o.kd))).length : Int) := by rw [List.length_map]; exact hltI
      have hkr : wr.cell? ⟨rb, 0 + k, none⟩ = some (.string (Gate.shapeOf ss o.kd).fs[p].nm) := by rw [Nat.zero_add]; exact hck
      have HX : Hid (TxtsOwn (w.heap.size + 1 + 1) wr (some ⟨g, 0, none⟩) us ∧ TxtsOwn m wr a' o.hs ∧ wr.heap[w.heap.size + 1]? = some (.cells #[.string ByteArray.empty, .string ByteArray.empty, .string ByteArray.empty, .slice none 0 0, .bool false, .slice none 0 0, .int .i64 0] 30) ∧ wr.heap[w1.heap.size]? = some (.cells #[.string o.kd, .string o.nm, .string o.tm, .slice (some ⟨g, 0, none⟩) o.vs.length dap, .bool o.en, .slice a' o.hs.length dap', .int .i64 o.vr] 30) ∧ Below w.heap.size w wr ∧ w3.heap.size ≤ wr.heap.size) := ⟨ht, ht', hR, hO, hB, hz3⟩
      clear ht ht' hR hO hB hz3 hgh hgc
      go_wp2_with fail
      have hb := (Below.refl wr.heap.size wr).drew
      have hS1 : ∀ j, wr.drew.cell? ⟨w1.heap.size, j, none⟩ = (#[.string o.kd, .string o.nm, .string o.tm, .slice (some ⟨g, 0, none⟩) o.vs.length dap, .bool o.en, .slice a' o.hs.length dap', .int .i64 o.vr] : Array Value)[j]? := hOc
      have hS2 : wr.drew.cell? ⟨rb, k, none⟩ = some (.string (Gate.shapeOf ss o.kd).fs[p].nm) := hck
      have hrg : rb ≠ g := by omega
      have how : w1.heap.size ≠ g := by omega
      clear hOc hck hkr
      go_region_held3 (fun w' => (∀ j, w'.cell? ⟨w1.heap.size, j, none⟩ = (#[.string o.kd, .string o.nm, .string o.tm, .slice (some ⟨g, 0, none⟩) o.vs.length dap, .bool o.en, .slice a' o.hs.length dap', .int .i64 o.vr] : Array Value)[j]?) ∧ w'.cell? ⟨rb, k, none⟩ = some (.string (Gate.shapeOf ss o.kd).fs[p].nm)) (first | exact ⟨hS1, hS2⟩ | exact ⟨hS3, hS4⟩) (first
        | (go_at_call 67; refine (as_int HJP.out (l3Field_any _ _ (Gate.shapeOf ss o.kd).fs _ _ (by exact HFA.out.mono (HX.out.2.2.2.2.1.trans (hb.mono HX.out.2.2.2.2.1.size))))).mono ?_; rintro e w5 ⟨rfl, rfl⟩)
        | (go_at_call 66; refine (l3Decided_any' (Gate.shapeOf ss o.kd) ms o us _ HLV.out p _ _ _ _ _ _ _ _ _ (by exact HFA.out.mono (HX.out.2.2.2.2.1.trans (hb.mono HX.out.2.2.2.2.1.size))) (by exact HW.out.2.mono (HX.out.2.2.2.2.1.trans (hb.mono HX.out.2.2.2.2.1.size))) (by exact hUS.mono hb) (by rw [HLV.out]; exact HRW.out.len) hpn HJP.out HRW.out.kd.symm (HRW.out.reads p hpn)).mono ?_; rintro e w6 ⟨rfl, hb6⟩; have hb := hb.trans (hb6.mono hb.size); have hS1 := box_later hS1 hOz hb6; have hS2 := (hb6.cell (p := ⟨rb, k, none⟩) hrbz).trans hS2; have hU6 := hUS.mono hb; have hG := HX.out.1.mono hb; clear hb6; have hS3 : ∀ j, (w6.setCell ⟨g, p, none⟩ (.string (Gate.decided (Gate.shapeOf ss o.kd) ms p us))).cell? ⟨w1.heap.size, j, none⟩ = (#[.string o.kd, .string o.nm, .string o.tm, .slice (some ⟨g, 0, none⟩) o.vs.length dap, .bool o.en, .slice a' o.hs.length dap', .int .i64 o.vr] : Array Value)[j]? := fun j => (cell_setCell_other how).trans (hS1 j); have hS4 : (w6.setCell ⟨g, p, none⟩ (.string (Gate.decided (Gate.shapeOf ss o.kd) ms p us))).cell? ⟨rb, k, none⟩ = some (.string (Gate.shapeOf ss o.kd).fs[p].nm) := (cell_setCell_other hrg).trans hS2; have hgc6 : w6.cell? ⟨g, p, none⟩ = some (.string us[p]) := own_cell hG p hpv; have hgf6 : w6.frozen? ⟨g, p, none⟩ = false := own_free hG hpv))
      go_wp2_with fail
      obtain ⟨ht, ht', hR, hO, hB, hz3⟩ := HX.out
      exact ⟨⟨k + 1, by omega, by go_num, by rw [HTS.out]; exact (ht.mono hb).set p _, (ht'.mono hb).setCell _ hgm _, (Below.heap_setCell _ _ _ _ (by show w.heap.size + 1 ≠ g; omega)).trans ((hb.block _ (by omega)).trans hR), (Below.heap_setCell _ _ _ _ (by show w1.heap.size ≠ g; omega)).trans ((hb.block _ hOz).trans hO), (hB.trans (hb.mono hB.size)).setCell (p := ⟨g, p, none⟩) (by show w.heap.size ≤ g; omega) _, by rw [World.size_setCell]; exact Nat.le_trans hz3 hb.size, fun _ => ⟨rb, rfl, hrb0, by rw [World.size_setCell]; exact Nat.lt_of_lt_of_le hrbz hb.size, fun i hi => (cell_setCell_other hrg).trans ((hb.cell (p := ⟨rb, i, none⟩) hrbz).trans (HRR.out i hi))⟩⟩, step_less' hlt⟩
    · have e : k = pl.length := by omega
      subst e
      rw [List.take_of_length_le (Nat.le_refl _), ← HVS.out] at ht
      have hRc : ∀ j, wr.cell? ⟨w.heap.size + 1, j, none⟩ = (#[.string ByteArray.empty, .string ByteArray.empty, .string ByteArray.empty, .slice none 0 0, .bool false, .slice none 0 0, .int .i64 0] : Array Value)[j]? := fun j => cell_of_block hR
      have hRf : ∀ j, wr.frozen? ⟨w.heap.size + 1, j, none⟩ = false := fun j => frozen_of_block hR
      have hOc : ∀ j, wr.cell? ⟨w1.heap.size, j, none⟩ = (#[.string o.kd, .string o.nm, .string o.tm, .slice a o.vs.length dap, .bool o.en, .slice a' o.hs.length dap', .int .i64 o.vr] : Array Value)[j]? := fun j => cell_of_block hO
      have hOz : w1.heap.size < wr.heap.size := (Array.getElem?_eq_some_iff.1 hO).1
      have HX : Hid (TxtsOwn (w.heap.size + 1 + 1) wr a (Gate.mendVs ss ms o) ∧ TxtsOwn m wr a' o.hs ∧ Below w.heap.size w wr) := ⟨ht, ht', hB⟩
      clear ht ht' hB hR hO hrr
      go_wp2_with fail
      refine bodyPost_ret (v := (.agg #[.string o.kd, .string o.nm, .string o.tm, .slice a o.vs.length dap, .bool o.en, .slice a' o.hs.length dap', .int .i64 o.vr])) (by simp [results, Tryz.results37, go_sem, hRc]) rfl ?_
      obtain ⟨ht, ht', hB⟩ := HX.out
      rw [HRES.out]
      exact ⟨a, dap, a', dap', m, rfl, (put7_own ht _ (by omega) _ _ _ _ _ _ _).low (by omega), HT.out.2.1, by have := HT.out.2.2.1; omega, put7_own ht' _ (by have := HT.out.2.2.1; omega) _ _ _ _ _ _ _, put7_below hB _ (by omega) _ _ _ _ _ _ _⟩

end Go.Proofs.YtponiggfclcbgaaGreat
