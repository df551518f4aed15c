import Derived.Test.YtponiggfclcbgaaGreatM01
import Derived.Below
import Derived.Test.YtponiggfclcbgaaGreatM13
import Derived.Test.YtponiggfclcbgaaGreatM16
import Derived.Deep.QuietTactic
import Derived.Deep.RegionHeld3
import Derived.Test.YtponiggfclcbgaaGreatM05
namespace Go.Proofs.YtponiggfclcbgaaGreat
open Go.RowKit

theorem cell_setCell_other {w : World} {p : Addr} {v : Value} {b o : Nat} (h : b ≠ p.block) : (w.setCell p v).cell? ⟨b, o, none⟩ = w.cell? ⟨b, o, none⟩ := by
  unfold World.cell?; rw [Below.heap_setCell _ _ _ _ h]

end Go.Proofs.YtponiggfclcbgaaGreat

namespace Go.Proofs.YtponiggfclcbgaaGreat
open Go.RowKit

namespace Gate
def fillWhole (ss : List Shp) (o : Ob) : List ByteArray := if wholeCount ss o = true then fillVs (shapeOf ss o.kd).fs o.vs else o.vs
theorem fillRes_ok {ss : List Shp} {o : Ob} (h : shapesOk ss = true) : fillRes ss o = fillWhole ss o := by
  unfold fillRes fillWhole wholeCount
  by_cases h1 : hasKind ss o.kd = true
  · by_cases h2 : o.vs.length = (shapeOf ss o.kd).fs.length
    · rw [if_pos ⟨h1, h, h2⟩, if_pos (by rw [h1]; simp [h2])]
    · rw [if_neg (fun hh => h2 hh.2.2), if_neg (by rw [h1]; simp [h2])]
  · rw [if_neg (fun hh => h1 hh.1), if_neg (by simp [h1])]
theorem fillRes_not {ss : List Shp} {o : Ob} (h : shapesOk ss = false) : fillRes ss o = o.vs := by
  unfold fillRes; rw [if_neg]; rintro ⟨_, h1, _⟩; rw [h] at h1; cases h1
end Gate

set_option maxHeartbeats 1000000 in
theorem l2Fields_yes2 (a0 : Option Addr) (cap0 : Nat) (ss : List Shp) (o : Ob) (a a' : Option Addr) (cap cap' : Nat) (w0 w : World) (hw0 : ShpsAt w0 a0 ss) (hbb : Below w0.heap.size w0 w) (hc : Gate.wholeCount ss o = true) :
    Calls Tryz.prog 64 #[.slice a0 ss.length cap0, .agg #[.string o.kd, .string o.nm, .string o.tm, .slice a o.vs.length cap, .bool o.en, .slice a' o.hs.length cap', .int .i64 o.vr]] w fun e w' => ∃ fa fcap, e = .returned (.tuple #[.slice fa (Gate.shapeOf ss o.kd).fs.length fcap, .bool true]) ∧ FldsAt w0 fa (Gate.shapeOf ss o.kd).fs ∧ Below w.heap.size w w' := by
  unfold Gate.wholeCount at hc
  simp only [Bool.and_eq_true, decide_eq_true_eq] at hc
  have HK : Hid (Gate.hasKind ss o.kd = true) := hc.1
  have HL : Hid (o.vs.length = (Gate.shapeOf ss o.kd).fs.length) := hc.2
  clear hc
  have hw := hw0.mono hbb
  have hl := hw.len
  unfold maxLen at hl
  go_enter Tryz.func64, Tryz.ntmps64
  go_wp2_with fail
  refine (l1Shape_yes _ _ _ _ _ (hw.mono ((Below.refl _ _).alloc (Nat.le_refl _) _)) HK.out).mono ?_
  rintro e w1 ⟨ix, hix, rfl, hsh, rfl⟩
  have HSh : Hid (Gate.shapeOf ss o.kd = ss[ix]) := hsh
  clear hsh
  obtain ⟨b, off, rfl, hb0, hr⟩ := hw0.rows (by rintro rfl; simp at hix)
  obtain ⟨fa, fcap, hs0⟩ := hr ix hix
  have hs := hs0.mono hb0 hbb
  have hcl := hs.list
  have hfl := hs0.flds
  have hixI : (ix : Int) < (ss.length : Int) := by omega
  have hix0 : decide ((ix : Int) < 0) = false := by simp
  have hneq : ((ss[ix].fs.length : Int) != (o.vs.length : Int)) = false := by have h1 := HL.out; have h2 := HSh.out; rw [h2] at h1; simp [h1]
  have hbw : b < w.heap.size := Nat.lt_of_lt_of_le hb0 hbb.size
  clear hr hs
  go_wp2_with fail
  go_quiet (fail)
  go_wp2_with fail
  go_ret2
  rw [HSh.out]
  exact ⟨fa, fcap, rfl, hfl, below_drewN ((Below.refl _ _).alloc (Nat.le_refl _) _) _⟩

set_option maxHeartbeats 4000000 in
theorem l2Fill_any (a0 : Option Addr) (cap0 : Nat) (ss : List Shp) (o : Ob) (b off b' off' cap cap' : Nat) (w : World) (hw : ShpsAt w a0 ss) (ho : ObAt w o (some ⟨b, off, none⟩) (some ⟨b', off', none⟩)) (hl : o.vs.length ≤ 1048576) (hl' : o.hs.length ≤ 1048576) :
    Calls Tryz.prog 72 #[.slice a0 ss.length cap0, .agg #[.string o.kd, .string o.nm, .string o.tm, .slice (some ⟨b, off, none⟩) o.vs.length cap, .bool o.en, .slice (some ⟨b', off', none⟩) o.hs.length cap', .int .i64 o.vr]] w (FillPost o (Gate.fillWhole ss o) w) := by
  by_cases hc : Gate.wholeCount ss o = true
  rotate_left
  · have HC : Hid (Gate.wholeCount ss o = false) := by simpa [Hid] using hc
    have HRES : Hid (Gate.fillWhole ss o = o.vs) := by unfold Hid Gate.fillWhole; rw [if_neg hc]
    clear hc
    have HH : Hid (ObAt w o (some ⟨b, off, none⟩) (some ⟨b', off', none⟩)) := ho
    clear ho
    go_enter Tryz.func72, Tryz.ntmps72
    go_wp2_with fail
    refine (l2Copy_any o b off b' off' cap cap' _ (HH.out.mono (below2' w (.cells #[.string o.kd, .string o.nm, .string o.tm, .slice (some ⟨b, off, none⟩) o.vs.length cap, .bool o.en, .slice (some ⟨b', off', none⟩) o.hs.length cap', .int .i64 o.vr] 30) (.cells #[.string ByteArray.empty, .string ByteArray.empty, .string ByteArray.empty, .slice none 0 0, .bool false, .slice none 0 0, .int .i64 0] 30))) hl hl').mono ?_
    rintro e w1 ⟨a, dap, a', dap', m, rfl, ht, hm, hsm, ht', hb1⟩
    have HO1 : Hid (w1.heap[w.heap.size]? = some (.cells #[.string o.kd, .string o.nm, .string o.tm, .slice (some ⟨b, off, none⟩) o.vs.length cap, .bool o.en, .slice (some ⟨b', off', none⟩) o.hs.length cap', .int .i64 o.vr] 30)) := (hb1.block w.heap.size (by simp; omega)).trans (two_blocks _ _ _).1
    have HR1 : Hid (w1.heap[w.heap.size + 1]? = some (.cells #[.string ByteArray.empty, .string ByteArray.empty, .string ByteArray.empty, .slice none 0 0, .bool false, .slice none 0 0, .int .i64 0] 30)) := (hb1.block (w.heap.size + 1) (by simp)).trans (two_blocks _ _ _).2
    have hX1 : ∀ j, w1.cell? ⟨w.heap.size, j, none⟩ = (#[.string o.kd, .string o.nm, .string o.tm, .slice (some ⟨b, off, none⟩) o.vs.length cap, .bool o.en, .slice (some ⟨b', off', none⟩) o.hs.length cap', .int .i64 o.vr] : Array Value)[j]? := fun j => cell_of_block HO1.out
    have hz1 : w.heap.size + 1 < w1.heap.size := by have := hb1.size; simp at this; omega
    have hz0 : w.heap.size < w1.heap.size := by omega
    have hB1 : Below w.heap.size w w1 := (below2' _ _ _).trans (hb1.mono (by simp; omega))
    have HT : Hid (TxtsOwn (w.heap.size + 1 + 1) w1 a o.vs ∧ (∀ g, a = some g → g.block < m) ∧ w.heap.size + 1 + 1 ≤ m ∧ TxtsOwn m w1 a' o.hs) := by
      simp only [World.size_alloc] at ht hsm
      exact ⟨ht, hm, hsm, ht'⟩
    clear ht hm hsm ht' hb1
    go_wp2_with fail
    have hbs := (Below.refl w1.heap.size w1).alloc (Nat.le_refl _) (.cells #[.string o.kd, .string o.nm, .string o.tm, .slice a o.vs.length dap, .bool o.en, .slice a' o.hs.length dap', .int .i64 o.vr] 30)
    have hBs := hB1.trans (hbs.mono hB1.size)
    refine (l2Fields_no a0 cap0 ss o _ _ cap cap' _ (hw.mono hBs) (HH.out.mono hBs) HC.out).mono ?_
    rintro e w2 ⟨v, rfl, hb2⟩
    have hba := hbs.trans (hb2.mono hbs.size)
    have hR2 := (hba.block _ hz1).trans HR1.out
    have hU2 : ∀ j, w2.cell? ⟨w1.heap.size, j, none⟩ = (#[.string o.kd, .string o.nm, .string o.tm, .slice a o.vs.length dap, .bool o.en, .slice a' o.hs.length dap', .int .i64 o.vr] : Array Value)[j]? := box_later (box_new w1 _ _) (by simp) hb2
    have hRc : ∀ j, w2.cell? ⟨w.heap.size + 1, j, none⟩ = (#[.string ByteArray.empty, .string ByteArray.empty, .string ByteArray.empty, .slice none 0 0, .bool false, .slice none 0 0, .int .i64 0] : Array Value)[j]? := fun j => cell_of_block hR2
    have hRf : ∀ j, w2.frozen? ⟨w.heap.size + 1, j, none⟩ = false := fun j => frozen_of_block hR2
    have HX : Hid (TxtsOwn (w.heap.size + 1 + 1) w2 a o.vs ∧ TxtsOwn m w2 a' o.hs ∧ Below w.heap.size w w2) := ⟨HT.out.1.mono hba, HT.out.2.2.2.mono hba, hB1.trans (hba.mono hB1.size)⟩
    clear hbs hBs hb2 hba hR2 hX1
    go_wp2_with fail
    refine bodyPost_ret (v := (.agg #[.string o.kd, .string o.nm, .string o.tm, .slice a o.vs.length dap, .bool o.en, .slice a' o.hs.length dap', .int .i64 o.vr])) (by simp [results, Tryz.results72, go_sem, hRc]) rfl ?_
    obtain ⟨ht, ht', hB⟩ := HX.out
    rw [HRES.out]
    exact ⟨a, dap, a', dap', m, rfl, (put7_own ht _ (by omega) _ _ _ _ _ _ _).low (by omega), HT.out.2.1, by have := HT.out.2.2.1; omega, put7_own ht' _ (by have := HT.out.2.2.1; omega) _ _ _ _ _ _ _, put7_below hB _ (by omega) _ _ _ _ _ _ _⟩
  have HC : Hid (Gate.wholeCount ss o = true) := hc
  have HRES : Hid (Gate.fillWhole ss o = Gate.fillVs (Gate.shapeOf ss o.kd).fs o.vs) := by unfold Hid Gate.fillWhole; rw [if_pos hc]
  have HCC : Hid (o.vs.length = (Gate.shapeOf ss o.kd).fs.length) := by unfold Gate.wholeCount at hc; simp only [Bool.and_eq_true, decide_eq_true_eq] at hc; exact hc.2
  clear hc
  have HH : Hid (ObAt w o (some ⟨b, off, none⟩) (some ⟨b', off', none⟩)) := ho
  clear ho
  go_enter Tryz.func72, Tryz.ntmps72
  go_wp2_with fail
  refine (l2Copy_any o b off b' off' cap cap' _ (HH.out.mono (below2' w (.cells #[.string o.kd, .string o.nm, .string o.tm, .slice (some ⟨b, off, none⟩) o.vs.length cap, .bool o.en, .slice (some ⟨b', off', none⟩) o.hs.length cap', .int .i64 o.vr] 30) (.cells #[.string ByteArray.empty, .string ByteArray.empty, .string ByteArray.empty, .slice none 0 0, .bool false, .slice none 0 0, .int .i64 0] 30))) hl hl').mono ?_
  rintro e w1 ⟨a, dap, a', dap', m, rfl, ht, hm, hsm, ht', hb1⟩
  have HO1 : Hid (w1.heap[w.heap.size]? = some (.cells #[.string o.kd, .string o.nm, .string o.tm, .slice (some ⟨b, off, none⟩) o.vs.length cap, .bool o.en, .slice (some ⟨b', off', none⟩) o.hs.length cap', .int .i64 o.vr] 30)) := (hb1.block w.heap.size (by simp; omega)).trans (two_blocks _ _ _).1
  have HR1 : Hid (w1.heap[w.heap.size + 1]? = some (.cells #[.string ByteArray.empty, .string ByteArray.empty, .string ByteArray.empty, .slice none 0 0, .bool false, .slice none 0 0, .int .i64 0] 30)) := (hb1.block (w.heap.size + 1) (by simp)).trans (two_blocks _ _ _).2
  have hX1 : ∀ j, w1.cell? ⟨w.heap.size, j, none⟩ = (#[.string o.kd, .string o.nm, .string o.tm, .slice (some ⟨b, off, none⟩) o.vs.length cap, .bool o.en, .slice (some ⟨b', off', none⟩) o.hs.length cap', .int .i64 o.vr] : Array Value)[j]? := fun j => cell_of_block HO1.out
  have hz1 : w.heap.size + 1 < w1.heap.size := by have := hb1.size; simp at this; omega
  have hz0 : w.heap.size < w1.heap.size := by omega
  have hB1 : Below w.heap.size w w1 := (below2' _ _ _).trans (hb1.mono (by simp; omega))
  have HT : Hid (TxtsOwn (w.heap.size + 1 + 1) w1 a o.vs ∧ (∀ g, a = some g → g.block < m) ∧ w.heap.size + 1 + 1 ≤ m ∧ TxtsOwn m w1 a' o.hs) := by
    simp only [World.size_alloc] at ht hsm
    exact ⟨ht, hm, hsm, ht'⟩
  clear ht hm hsm ht' hb1
  go_wp2_with fail
  have hbs := (Below.refl w1.heap.size w1).alloc (Nat.le_refl _) (.cells #[.string o.kd, .string o.nm, .string o.tm, .slice a o.vs.length dap, .bool o.en, .slice a' o.hs.length dap', .int .i64 o.vr] 30)
  have hBs := hB1.trans (hbs.mono hB1.size)
  refine (l2Fields_yes2 a0 cap0 ss o _ _ cap cap' w _ hw hBs HC.out).mono ?_
  rintro e w2 ⟨fa, fcap, rfl, hf, hb2⟩
  have hba := hbs.trans (hb2.mono hbs.size)
  have HR2 : Hid (w2.heap[w.heap.size + 1]? = some (.cells #[.string ByteArray.empty, .string ByteArray.empty, .string ByteArray.empty, .slice none 0 0, .bool false, .slice none 0 0, .int .i64 0] 30)) := (hba.block _ hz1).trans HR1.out
  have HU2 : Hid (w2.heap[w1.heap.size]? = some (.cells #[.string o.kd, .string o.nm, .string o.tm, .slice a o.vs.length dap, .bool o.en, .slice a' o.hs.length dap', .int .i64 o.vr] 30)) := (hb2.block _ (by simp)).trans (alloc_at _ _)
  have HX2 : Hid (TxtsOwn (w.heap.size + 1 + 1) w2 a o.vs ∧ TxtsOwn m w2 a' o.hs ∧ Below w.heap.size w w2) := ⟨HT.out.1.mono hba, HT.out.2.2.2.mono hba, hB1.trans (hba.mono hB1.size)⟩
  have hz2 : w1.heap.size < w2.heap.size := (Array.getElem?_eq_some_iff.1 HU2.out).1
  clear hbs hBs hb2 hba hX1 hw
  have hlen := hf.len
  unfold maxLen at hlen
  revert HRES HCC hf hlen
  generalize (Gate.shapeOf ss o.kd).fs = fs
  intro HRES HCC hf hlen
  go_wp2_with fail
  go_loopw [8] (fun i wr => ∃ k : Nat, k ≤ fs.length ∧ i = .int .i64 k ∧ TxtsOwn (w.heap.size + 1 + 1) wr a (Gate.fillTo fs o.vs k) ∧ TxtsOwn m wr a' o.hs ∧ wr.heap[w.heap.size + 1]? = some (.cells #[.string ByteArray.empty, .string ByteArray.empty, .string ByteArray.empty, .slice none 0 0, .bool false, .slice none 0 0, .int .i64 0] 30) ∧ wr.heap[w1.heap.size]? = some (.cells #[.string o.kd, .string o.nm, .string o.tm, .slice a o.vs.length dap, .bool o.en, .slice a' o.hs.length dap', .int .i64 o.vr] 30) ∧ Below w.heap.size w wr) (fun i _ => fs.length - (intOf i).toNat)
  case atStart => exact ⟨0, Nat.zero_le _, rfl, by rw [Gate.fillTo_zero]; exact HX2.out.1, HX2.out.2.1, HR2.out, HU2.out, HX2.out.2.2⟩
  case round =>
    obtain ⟨k, hk, rfl, ht, ht', hR, hO, hB⟩ := hrel
    have hOc : ∀ j, wr.cell? ⟨w1.heap.size, j, none⟩ = (#[.string o.kd, .string o.nm, .string o.tm, .slice a o.vs.length dap, .bool o.en, .slice a' o.hs.length dap', .int .i64 o.vr] : Array Value)[j]? := fun j => cell_of_block hO
    have hOz : w1.heap.size < wr.heap.size := (Array.getElem?_eq_some_iff.1 hO).1
    by_cases hlt : k < fs.length
    · have hltv : k < o.vs.length := by rw [HCC.out]; exact hlt
      obtain ⟨fb, foff, rfl, hfb, hr⟩ := hf.rows (by rintro rfl; simp at hlt)
      obtain ⟨wa, wcap, hf0⟩ := hr k hlt
      have hf1 := hf0.mono hfb hB
      obtain ⟨c0, c1, c2, c3, c4, c5, c6, c7, c8, c9, c10⟩ := hf1.load
      have hltI : (k : Int) < (fs.length : Int) := by omega
      have hltV : (k : Int) < (o.vs.length : Int) := by omega
      obtain ⟨g, C, hga, hgl, hgh, hgc⟩ : ∃ g C, a = some ⟨g, 0, none⟩ ∧ w.heap.size + 1 + 1 ≤ g ∧ wr.heap[g]? = some (.cells C 9) ∧ ∀ i (h : i < (Gate.fillTo fs o.vs k).length), C[i]? = some (.string (Gate.fillTo fs o.vs k)[i]) := by
        rcases ht with ⟨_, h0⟩ | h0
        · have := Gate.fillTo_length HCC.out k; rw [h0] at this; simp at this; omega
        · exact h0
      have hgm : g < m := HT.out.2.1 _ hga
      have hgw1 : g < w1.heap.size := HT.out.1.lt _ hga
      have hgw : g < wr.heap.size := by omega
      subst hga
      have hcell : wr.cell? ⟨g, k, none⟩ = some (.string o.vs[k]) := by
        have h1 := Gate.fillTo_at HCC.out k hlt
        have hkl : k < (Gate.fillTo fs o.vs k).length := by rw [Gate.fillTo_length HCC.out]; exact hltv
        rw [List.getElem?_eq_getElem hkl, List.getElem?_eq_getElem hltv] at h1
        rw [cell_of_block hgh, hgc k hkl, Option.some.inj h1]
      have hgf : wr.frozen? ⟨g, k, none⟩ = false := frozen_of_block hgh
      have HX : Hid (TxtsOwn (w.heap.size + 1 + 1) wr (some ⟨g, 0, none⟩) (Gate.fillTo fs o.vs k) ∧ TxtsOwn m wr a' o.hs ∧ wr.heap[w.heap.size + 1]? = some (.cells #[.string ByteArray.empty, .string ByteArray.empty, .string ByteArray.empty, .slice none 0 0, .bool false, .slice none 0 0, .int .i64 0] 30) ∧ wr.heap[w1.heap.size]? = some (.cells #[.string o.kd, .string o.nm, .string o.tm, .slice (some ⟨g, 0, none⟩) o.vs.length dap, .bool o.en, .slice a' o.hs.length dap', .int .i64 o.vr] 30) ∧ Below w.heap.size w wr) := ⟨ht, ht', hR, hO, hB⟩
      clear ht ht' hR hO hB hr hf0 hf1 hgh hgc hf
      by_cases hv : o.vs[k].toList.isEmpty = true
      · have HV : Hid (Gate.fillVal fs[k] o.vs[k] = fs[k].df) := by unfold Hid Gate.fillVal; rw [if_pos hv]
        go_wp2_with fail
        have hfg : fb ≠ g := by omega
        have hq1 : (wr.setCell ⟨g, k, none⟩ (.string fs[k].df)).drew.cell? ⟨w1.heap.size, 3, none⟩ = some (.slice (some ⟨g, 0, none⟩) o.vs.length dap) := (cell_setCell_other (by show w1.heap.size ≠ g; omega)).trans (hOc 3)
        have hq2 : (wr.setCell ⟨g, k, none⟩ (.string fs[k].df)).drew.cell? ⟨fb, foff + k * 11 + 9, none⟩ = some (.string fs[k].df) := (cell_setCell_other hfg).trans c9
        have hgd : wr.drew.frozen? ⟨g, k, none⟩ = false := hgf
        have hcd : wr.drew.cell? ⟨g, k, none⟩ = some (.string o.vs[k]) := hcell
        go_region_held3 (fun w' => w'.cell? ⟨w1.heap.size, 3, none⟩ = some (.slice (some ⟨g, 0, none⟩) o.vs.length dap) ∧ w'.cell? ⟨fb, foff + k * 11 + 9, none⟩ = some (.string fs[k].df)) (first | exact ⟨hOc 3, c9⟩ | exact ⟨hq1, hq2⟩) (fail)
        go_wp2_with fail
        obtain ⟨ht, ht', hR, hO, hB⟩ := HX.out
        exact ⟨⟨k + 1, by omega, by go_num, by rw [Gate.fillTo_succ HCC.out k hlt, HV.out]; exact ht.set k _, ht'.setCell _ hgm _, (Below.heap_setCell _ _ _ _ (by show w.heap.size + 1 ≠ g; omega)).trans hR, (Below.heap_setCell _ _ _ _ (by show w1.heap.size ≠ g; omega)).trans hO, (hB.setCell (p := ⟨g, k, none⟩) (by show w.heap.size ≤ g; omega) _).drew⟩, step_less' hlt⟩
      · have HV : Hid (Gate.fillVal fs[k] o.vs[k] = o.vs[k]) := by unfold Hid Gate.fillVal; rw [if_neg hv]
        go_wp2_with fail
        obtain ⟨ht, ht', hR, hO, hB⟩ := HX.out
        have hsame : (Gate.fillTo fs o.vs k).set k o.vs[k] = Gate.fillTo fs o.vs k := by
          have h1 := Gate.fillTo_at HCC.out k hlt
          have hkl : k < (Gate.fillTo fs o.vs k).length := by rw [Gate.fillTo_length HCC.out]; exact hltv
          rw [List.getElem?_eq_getElem hkl, List.getElem?_eq_getElem hltv] at h1
          rw [← Option.some.inj h1, List.set_getElem_self]
        exact ⟨⟨k + 1, by omega, by go_num, by rw [Gate.fillTo_succ HCC.out k hlt, HV.out, hsame]; exact ht, ht', hR, hO, hB⟩, step_less' hlt⟩
    · have e : k = fs.length := by omega
      subst e
      rw [Gate.fillTo_all HCC.out] at ht
      have hRc : ∀ j, wr.cell? ⟨w.heap.size + 1, j, none⟩ = (#[.string ByteArray.empty, .string ByteArray.empty, .string ByteArray.empty, .slice none 0 0, .bool false, .slice none 0 0, .int .i64 0] : Array Value)[j]? := fun j => cell_of_block hR
      have hRf : ∀ j, wr.frozen? ⟨w.heap.size + 1, j, none⟩ = false := fun j => frozen_of_block hR
      have HX : Hid (TxtsOwn (w.heap.size + 1 + 1) wr a (Gate.fillVs fs o.vs) ∧ TxtsOwn m wr a' o.hs ∧ Below w.heap.size w wr) := ⟨ht, ht', hB⟩
      clear ht ht' hB hR hO hf
      go_wp2_with fail
      refine bodyPost_ret (v := (.agg #[.string o.kd, .string o.nm, .string o.tm, .slice a o.vs.length dap, .bool o.en, .slice a' o.hs.length dap', .int .i64 o.vr])) (by simp [results, Tryz.results72, go_sem, hRc]) rfl ?_
      obtain ⟨ht, ht', hB⟩ := HX.out
      rw [HRES.out]
      exact ⟨a, dap, a', dap', m, rfl, (put7_own ht _ (by omega) _ _ _ _ _ _ _).low (by omega), HT.out.2.1, by have := HT.out.2.2.1; omega, put7_own ht' _ (by have := HT.out.2.2.1; omega) _ _ _ _ _ _ _, put7_below hB _ (by omega) _ _ _ _ _ _ _⟩

end Go.Proofs.YtponiggfclcbgaaGreat

namespace Go.Proofs.YtponiggfclcbgaaGreat
open Go.RowKit

def Fld.sz (f : Fld) : Nat := fldSz f.nm f.ws f.to f.df f.wg
def sumF (fs : List Fld) : Nat := (fs.map Fld.sz).sum
def fldsSz (fs : List Fld) : Nat := fs.length + sumF fs
def Shp.sz (s : Shp) : Nat := s.kd.size + fldsSz s.fs
def sumS (ss : List Shp) : Nat := (ss.map Shp.sz).sum
def shpsSz (ss : List Shp) : Nat := ss.length + sumS ss

theorem szGateField_yes (nm : ByteArray) (kd ls ms : Int) (a : Option Addr) (cap : Nat) (ws : List ByteArray) (to : ByteArray) (rl : Int) (mu fx : Bool) (df wg : ByteArray) (left : Int) (w : World) (hw : StrsAt w a ws) (h0 : 0 ≤ left) (h1 : left ≤ 1048576)
    (hnm : nm.size ≤ maxLen) (hto : to.size ≤ maxLen) (hdf : df.size ≤ maxLen) (hwg : wg.size ≤ maxLen) (h : (fldSz nm ws to df wg : Int) ≤ left) :
    Calls Tryz.prog 89 #[.agg #[.string nm, .int .i64 kd, .int .i64 ls, .int .i64 ms, .slice a ws.length cap, .string to, .int .i64 rl, .bool mu, .bool fx, .string df, .string wg], .int .i64 left] w fun e w' => e = .returned (.int .i64 (left - fldSz nm ws to df wg)) ∧ Below w.heap.size w w' := by
  refine (szGateField_any nm kd ls ms a cap ws to rl mu fx df wg left w hw h0 h1 hnm hto hdf hwg).mono ?_
  rintro e w' ⟨rfl, hb⟩
  exact ⟨ret_int (szRes_yes h), hb⟩

theorem szGateField_no (nm : ByteArray) (kd ls ms : Int) (a : Option Addr) (cap : Nat) (ws : List ByteArray) (to : ByteArray) (rl : Int) (mu fx : Bool) (df wg : ByteArray) (left : Int) (w : World) (hw : StrsAt w a ws) (h0 : 0 ≤ left) (h1 : left ≤ 1048576)
    (hnm : nm.size ≤ maxLen) (hto : to.size ≤ maxLen) (hdf : df.size ≤ maxLen) (hwg : wg.size ≤ maxLen) (h : ¬ (fldSz nm ws to df wg : Int) ≤ left) :
    Calls Tryz.prog 89 #[.agg #[.string nm, .int .i64 kd, .int .i64 ls, .int .i64 ms, .slice a ws.length cap, .string to, .int .i64 rl, .bool mu, .bool fx, .string df, .string wg], .int .i64 left] w fun e w' => e = .returned (.int .i64 (-1)) ∧ Below w.heap.size w w' := by
  refine (szGateField_any nm kd ls ms a cap ws to rl mu fx df wg left w hw h0 h1 hnm hto hdf hwg).mono ?_
  rintro e w' ⟨rfl, hb⟩
  exact ⟨ret_int (szRes_no h), hb⟩

set_option maxHeartbeats 1000000 in
theorem szGateFieldS_any (a : Option Addr) (cap : Nat) (fs : List Fld) (left : Int) (w : World) (hw : FldsAt w a fs) (h0 : 0 ≤ left) (h1 : left ≤ 1048576) :
    Calls Tryz.prog 60 #[.slice a fs.length cap, .int .i64 left] w fun e w' => e = .returned (.int .i64 (szRes (fldsSz fs) left)) ∧ Below w.heap.size w w' := by
  have hl := hw.len
  unfold maxLen at hl
  by_cases hfit : (fs.length : Int) ≤ left
  · go_enter Tryz.func60, Tryz.ntmps60
    go_wp2_with fail
    go_loopw [1, 5] (fun l i wr => ∃ k : Nat, k ≤ fs.length ∧ i = .int .i64 k ∧ 0 ≤ left - fs.length - sumF (fs.take k) ∧ l = .int .i64 (left - fs.length - sumF (fs.take k)) ∧ Below w.heap.size w wr) (fun _ i _ => fs.length - (intOf i).toNat)
    case atStart => exact ⟨0, Nat.zero_le _, rfl, by simp [sumF]; omega, by simp [sumF], Below.refl _ _⟩
    case round =>
      obtain ⟨k, hk, rfl, hpos, rfl, hB⟩ := hrel
      by_cases hlt : k < fs.length
      · obtain ⟨b, off, rfl, hb, hr⟩ := hw.rows (by rintro rfl; simp at hlt)
        obtain ⟨wa, wcap, hf0⟩ := hr k hlt
        have hf := hf0.mono hb hB
        obtain ⟨c0, c1, c2, c3, c4, c5, c6, c7, c8, c9, c10⟩ := hf.load
        have hsm := hf.small
        have hst := hf.strs
        have HS : Hid (sumF (fs.take (k + 1)) = sumF (fs.take k) + fs[k].sz) := sum_snoc Fld.sz fs k hlt
        have hle : sumF (fs.take (k + 1)) ≤ sumF fs := sum_le Fld.sz fs (k + 1)
        clear hw hr hf0 hf
        by_cases hneg : (fldSz fs[k].nm fs[k].ws fs[k].to fs[k].df fs[k].wg : Int) ≤ left - fs.length - sumF (fs.take k)
        · have HNG : Hid ((fldSz fs[k].nm fs[k].ws fs[k].to fs[k].df fs[k].wg : Int) ≤ left - fs.length - sumF (fs.take k)) := hneg
          clear hle
          go_wp2_with fail
          refine (szGateField_yes _ _ _ _ _ _ _ _ _ _ _ _ _ _ _ hst hpos (by omega) hsm.nm hsm.to hsm.df hsm.wg HNG.out).mono ?_
          rintro e w1 ⟨rfl, hb1⟩
          have hB1 := hB.trans (hb1.mono hB.size)
          clear hb1
          go_wp2_with fail
          exact ⟨⟨k + 1, by omega, by go_num, by rw [HS.out]; show 0 ≤ _ - ((_ + fldSz _ _ _ _ _ : Nat) : Int); omega, by rw [HS.out]; show Value.int _ _ = Value.int _ (_ - ((_ + fldSz _ _ _ _ _ : Nat) : Int)); congr 1; omega, hB1⟩, by simp [intOf]; omega⟩
        · have HF : Hid (szRes (fldsSz fs) left = -1) := szRes_no (by have := HS.out; unfold fldsSz; unfold Fld.sz at this; omega)
          have HNG : Hid (¬ (fldSz fs[k].nm fs[k].ws fs[k].to fs[k].df fs[k].wg : Int) ≤ left - fs.length - sumF (fs.take k)) := hneg
          clear hneg hle
          go_wp2_with fail
          refine (szGateField_no _ _ _ _ _ _ _ _ _ _ _ _ _ _ _ hst hpos (by omega) hsm.nm hsm.to hsm.df hsm.wg (by have := HNG.out; omega)).mono ?_
          rintro e w1 ⟨rfl, hb1⟩
          have hB1 := hB.trans (hb1.mono hB.size)
          clear hb1
          go_wp2_with fail
          go_ret
          exact ⟨ret_int HF.out.symm, hB1⟩
      · have HF : Hid (szRes (fldsSz fs) left = left - fs.length - sumF (fs.take k)) := by
          rw [List.take_of_length_le (by omega)] at hpos ⊢
          have e : szRes (fldsSz fs) left = left - fldsSz fs := szRes_yes (by unfold fldsSz; omega)
          unfold Hid; rw [e]; unfold fldsSz; omega
        clear hw
        go_wp2
        go_ret
        exact ⟨ret_int HF.out.symm, hB⟩
  · have HF : Hid (szRes (fldsSz fs) left = -1) := szRes_no (by unfold fldsSz; omega)
    clear hw
    go_enter Tryz.func60, Tryz.ntmps60
    go_wp2
    go_ret
    exact ⟨ret_int HF.out.symm, Below.refl _ _⟩

theorem szGateFieldS_yes (a : Option Addr) (cap : Nat) (fs : List Fld) (left : Int) (w : World) (hw : FldsAt w a fs) (h0 : 0 ≤ left) (h1 : left ≤ 1048576) (h : (fldsSz fs : Int) ≤ left) :
    Calls Tryz.prog 60 #[.slice a fs.length cap, .int .i64 left] w fun e w' => e = .returned (.int .i64 (left - fldsSz fs)) ∧ Below w.heap.size w w' := by
  refine (szGateFieldS_any a cap fs left w hw h0 h1).mono ?_
  rintro e w' ⟨rfl, hb⟩
  exact ⟨ret_int (szRes_yes h), hb⟩

theorem szGateFieldS_no (a : Option Addr) (cap : Nat) (fs : List Fld) (left : Int) (w : World) (hw : FldsAt w a fs) (h0 : 0 ≤ left) (h1 : left ≤ 1048576) (h : ¬ (fldsSz fs : Int) ≤ left) :
    Calls Tryz.prog 60 #[.slice a fs.length cap, .int .i64 left] w fun e w' => e = .returned (.int .i64 (-1)) ∧ Below w.heap.size w w' := by
  refine (szGateFieldS_any a cap fs left w hw h0 h1).mono ?_
  rintro e w' ⟨rfl, hb⟩
  exact ⟨ret_int (szRes_no h), hb⟩

set_option maxHeartbeats 1000000 in
theorem szGateShape_any (kd : ByteArray) (a : Option Addr) (cap : Nat) (fs : List Fld) (left : Int) (w : World) (hkd : kd.size ≤ maxLen) (hw : FldsAt w a fs) (h0 : 0 ≤ left) (h1 : left ≤ 1048576) :
    Calls Tryz.prog 32 #[.agg #[.string kd, .slice a fs.length cap], .int .i64 left] w fun e w' => e = .returned (.int .i64 (szRes (Shp.sz ⟨kd, fs⟩) left)) ∧ Below w.heap.size w w' := by
  unfold maxLen at hkd
  by_cases c1 : (kd.size : Int) ≤ left
  rotate_left
  · have HF : Hid (szRes (Shp.sz ⟨kd, fs⟩) left = -1) := szRes_no (by unfold Shp.sz; simp only; omega)
    go_enter Tryz.func32, Tryz.ntmps32
    go_wp2_with fail
    go_ret
    exact ⟨ret_int HF.out.symm, (Below.refl _ _).alloc (Nat.le_refl _) _⟩
  by_cases c2 : (fldsSz fs : Int) ≤ left - kd.size
  · have HF : Hid (szRes (Shp.sz ⟨kd, fs⟩) left = left - kd.size - fldsSz fs) := by
      have e : szRes (Shp.sz ⟨kd, fs⟩) left = left - Shp.sz ⟨kd, fs⟩ := szRes_yes (by unfold Shp.sz; simp only; omega)
      unfold Hid; rw [e]; unfold Shp.sz; simp only; omega
    go_enter Tryz.func32, Tryz.ntmps32
    go_wp2_with fail
    refine (szGateFieldS_yes _ _ _ _ _ (hw.mono ((Below.refl _ _).alloc (Nat.le_refl _) _)) (by omega) (by omega) (by omega)).mono ?_
    rintro e w1 ⟨rfl, hb1⟩
    go_wp2_with fail
    go_ret
    exact ⟨ret_int HF.out.symm, ((Below.refl _ _).alloc (Nat.le_refl _) _).trans (hb1.mono (by simp))⟩
  · have HF : Hid (szRes (Shp.sz ⟨kd, fs⟩) left = -1) := szRes_no (by unfold Shp.sz; simp only; omega)
    go_enter Tryz.func32, Tryz.ntmps32
    go_wp2_with fail
    refine (szGateFieldS_no _ _ _ _ _ (hw.mono ((Below.refl _ _).alloc (Nat.le_refl _) _)) (by omega) (by omega) (by omega)).mono ?_
    rintro e w1 ⟨rfl, hb1⟩
    go_wp2_with fail
    go_ret
    exact ⟨ret_int HF.out.symm, ((Below.refl _ _).alloc (Nat.le_refl _) _).trans (hb1.mono (by simp))⟩

theorem szGateShape_yes (kd : ByteArray) (a : Option Addr) (cap : Nat) (fs : List Fld) (left : Int) (w : World) (hkd : kd.size ≤ maxLen) (hw : FldsAt w a fs) (h0 : 0 ≤ left) (h1 : left ≤ 1048576) (h : (Shp.sz ⟨kd, fs⟩ : Int) ≤ left) :
    Calls Tryz.prog 32 #[.agg #[.string kd, .slice a fs.length cap], .int .i64 left] w fun e w' => e = .returned (.int .i64 (left - Shp.sz ⟨kd, fs⟩)) ∧ Below w.heap.size w w' := by
  refine (szGateShape_any kd a cap fs left w hkd hw h0 h1).mono ?_
  rintro e w' ⟨rfl, hb⟩
  exact ⟨ret_int (szRes_yes h), hb⟩

theorem szGateShape_no (kd : ByteArray) (a : Option Addr) (cap : Nat) (fs : List Fld) (left : Int) (w : World) (hkd : kd.size ≤ maxLen) (hw : FldsAt w a fs) (h0 : 0 ≤ left) (h1 : left ≤ 1048576) (h : ¬ (Shp.sz ⟨kd, fs⟩ : Int) ≤ left) :
    Calls Tryz.prog 32 #[.agg #[.string kd, .slice a fs.length cap], .int .i64 left] w fun e w' => e = .returned (.int .i64 (-1)) ∧ Below w.heap.size w w' := by
  refine (szGateShape_any kd a cap fs left w hkd hw h0 h1).mono ?_
  rintro e w' ⟨rfl, hb⟩
  exact ⟨ret_int (szRes_no h), hb⟩

set_option maxHeartbeats 1000000 in
theorem szGateShapeS_any (a : Option Addr) (cap : Nat) (ss : List Shp) (left : Int) (w : World) (hw : ShpsAt w a ss) (h0 : 0 ≤ left) (h1 : left ≤ 1048576) :
    Calls Tryz.prog 6 #[.slice a ss.length cap, .int .i64 left] w fun e w' => e = .returned (.int .i64 (szRes (shpsSz ss) left)) ∧ Below w.heap.size w w' := by
  have hl := hw.len
  unfold maxLen at hl
  by_cases hfit : (ss.length : Int) ≤ left
  · go_enter Tryz.func6, Tryz.ntmps6
    go_wp2_with fail
    go_loopw [1, 5] (fun l i wr => ∃ k : Nat, k ≤ ss.length ∧ i = .int .i64 k ∧ 0 ≤ left - ss.length - sumS (ss.take k) ∧ l = .int .i64 (left - ss.length - sumS (ss.take k)) ∧ Below w.heap.size w wr) (fun _ i _ => ss.length - (intOf i).toNat)
    case atStart => exact ⟨0, Nat.zero_le _, rfl, by simp [sumS]; omega, by simp [sumS], Below.refl _ _⟩
    case round =>
      obtain ⟨k, hk, rfl, hpos, rfl, hB⟩ := hrel
      by_cases hlt : k < ss.length
      · obtain ⟨b, off, rfl, hb, hr⟩ := hw.rows (by rintro rfl; simp at hlt)
        obtain ⟨fa, fcap, hs0⟩ := hr k hlt
        have hs := hs0.mono hb hB
        have hck := hs.kind
        have hcl := hs.list
        have hfl := hs.flds
        have hsm := hs.small
        have HS : Hid (sumS (ss.take (k + 1)) = sumS (ss.take k) + Shp.sz ⟨ss[k].kd, ss[k].fs⟩) := sum_snoc Shp.sz ss k hlt
        have hle : sumS (ss.take (k + 1)) ≤ sumS ss := sum_le Shp.sz ss (k + 1)
        clear hw hr hs0 hs
        by_cases hneg : (Shp.sz ⟨ss[k].kd, ss[k].fs⟩ : Int) ≤ left - ss.length - sumS (ss.take k)
        · have HNG : Hid ((Shp.sz ⟨ss[k].kd, ss[k].fs⟩ : Int) ≤ left - ss.length - sumS (ss.take k)) := hneg
          clear hle
          go_wp2_with fail
          refine (szGateShape_yes _ _ _ _ _ _ hsm hfl hpos (by omega) HNG.out).mono ?_
          rintro e w1 ⟨rfl, hb1⟩
          have hB1 := hB.trans (hb1.mono hB.size)
          clear hb1
          go_wp2_with fail
          exact ⟨⟨k + 1, by omega, by go_num, by rw [HS.out]; omega, by rw [HS.out]; congr 1; omega, hB1⟩, by simp [intOf]; omega⟩
        · have HF : Hid (szRes (shpsSz ss) left = -1) := szRes_no (by have := HS.out; unfold shpsSz; omega)
          have HNG : Hid (¬ (Shp.sz ⟨ss[k].kd, ss[k].fs⟩ : Int) ≤ left - ss.length - sumS (ss.take k)) := hneg
          clear hneg hle
          go_wp2_with fail
          refine (szGateShape_no _ _ _ _ _ _ hsm hfl hpos (by omega) (by have := HNG.out; omega)).mono ?_
          rintro e w1 ⟨rfl, hb1⟩
          have hB1 := hB.trans (hb1.mono hB.size)
          clear hb1
          go_wp2_with fail
          go_ret
          exact ⟨ret_int HF.out.symm, hB1⟩
      · have HF : Hid (szRes (shpsSz ss) left = left - ss.length - sumS (ss.take k)) := by
          rw [List.take_of_length_le (by omega)] at hpos ⊢
          have e : szRes (shpsSz ss) left = left - shpsSz ss := szRes_yes (by unfold shpsSz; omega)
          unfold Hid; rw [e]; unfold shpsSz; omega
        clear hw
        go_wp2
        go_ret
        exact ⟨ret_int HF.out.symm, hB⟩
  · have HF : Hid (szRes (shpsSz ss) left = -1) := szRes_no (by unfold shpsSz; omega)
    clear hw
    go_enter Tryz.func6, Tryz.ntmps6
    go_wp2
    go_ret
    exact ⟨ret_int HF.out.symm, Below.refl _ _⟩

end Go.Proofs.YtponiggfclcbgaaGreat
