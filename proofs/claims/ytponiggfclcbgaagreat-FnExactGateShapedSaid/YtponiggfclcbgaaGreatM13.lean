import Derived.Test.YtponiggfclcbgaaGreatM12
import Derived.Test.YtponiggfclcbgaaGreatM03
import Derived.Deep.QuietTactic
import Derived.BigQuiet
import Derived.Test.YtponiggfclcbgaaGreatM04
namespace Go.Proofs.YtponiggfclcbgaaGreat
open Go.RowKit

namespace Gate
/-- The values that GateFill leaves. -/
def fillRes (ss : List Shp) (o : Ob) : List ByteArray := if hasKind ss o.kd = true ∧ shapesOk ss = true ∧ o.vs.length = (shapeOf ss o.kd).fs.length then fillVs (shapeOf ss o.kd).fs o.vs else o.vs
theorem fillRes_length (ss : List Shp) (o : Ob) : (fillRes ss o).length = o.vs.length := by
  unfold fillRes
  split
  · rename_i h; exact fillVs_length h.2.2
  · rfl
end Gate

/-- What an answer of GateFill is: the object with those values, its lists in memory of their own. -/
def FillPost (o : Ob) (vs : List ByteArray) (w : World) (e : Ending) (w' : World) : Prop :=
  ∃ a dap a' dap' m, e = .returned (.agg #[.string o.kd, .string o.nm, .string o.tm, .slice a o.vs.length dap, .bool o.en, .slice a' o.hs.length dap', .int .i64 o.vr]) ∧ TxtsOwn w.heap.size w' a vs ∧ (∀ g, a = some g → g.block < m) ∧ w.heap.size ≤ m ∧ TxtsOwn m w' a' o.hs ∧ Below w.heap.size w w'

set_option maxHeartbeats 2000000 in
theorem implFill_any (a0 : Option Addr) (cap0 : Nat) (ss : List Shp) (o : Ob) (b off b' off' cap cap' : Nat) (w : World) (hw : ShpsAt w a0 ss) (ho : ObAt w o (some ⟨b, off, none⟩) (some ⟨b', off', none⟩)) (hl : o.vs.length ≤ 1048576) (hl' : o.hs.length ≤ 1048576) :
    Calls Tryz.prog 26 #[.slice a0 ss.length cap0, .agg #[.string o.kd, .string o.nm, .string o.tm, .slice (some ⟨b, off, none⟩) o.vs.length cap, .bool o.en, .slice (some ⟨b', off', none⟩) o.hs.length cap', .int .i64 o.vr]] w (FillPost o (Gate.fillRes ss o) w) := by
  by_cases hk : Gate.hasKind ss o.kd = true
  rotate_left
  · have hk : Gate.hasKind ss o.kd = false := by simpa using hk
    have HRES : Hid (Gate.fillRes ss o = o.vs) := by unfold Hid Gate.fillRes; rw [if_neg]; rintro ⟨h, _⟩; rw [hk] at h; cases h
    have HH : Hid (ObAt w o (some ⟨b, off, none⟩) (some ⟨b', off', none⟩)) := ho
    clear ho
    go_enter Tryz.func26, Tryz.ntmps26
    go_wp2_with fail
    have h1 := shapeOf_any a0 cap0 ss o.kd _ (hw.mono (below2' w (.cells #[.string o.kd, .string o.nm, .string o.tm, .slice (some ⟨b, off, none⟩) o.vs.length cap, .bool o.en, .slice (some ⟨b', off', none⟩) o.hs.length cap', .int .i64 o.vr] 30) (.cells #[.string ByteArray.empty, .string ByteArray.empty, .string ByteArray.empty, .slice none 0 0, .bool false, .slice none 0 0, .int .i64 0] 30)))
    rw [hk] at h1
    refine h1.mono ?_
    rintro e w1 ⟨fa, fcap, rfl, hfl0, hb1⟩
    have HFL : Hid (FldsAt w1 fa (Gate.shapeOf ss o.kd).fs) := hfl0.mono hb1
    have HO1 : Hid (w1.heap[w.heap.size]? = some (.cells #[.string o.kd, .string o.nm, .string o.tm, .slice (some ⟨b, off, none⟩) o.vs.length cap, .bool o.en, .slice (some ⟨b', off', none⟩) o.hs.length cap', .int .i64 o.vr] 30)) := (hb1.block w.heap.size (by simp; omega)).trans (two_blocks _ _ _).1
    have HR1 : Hid (w1.heap[w.heap.size + 1]? = some (.cells #[.string ByteArray.empty, .string ByteArray.empty, .string ByteArray.empty, .slice none 0 0, .bool false, .slice none 0 0, .int .i64 0] 30)) := (hb1.block (w.heap.size + 1) (by simp)).trans (two_blocks _ _ _).2
    have hX1 : ∀ j, w1.cell? ⟨w.heap.size, j, none⟩ = (#[.string o.kd, .string o.nm, .string o.tm, .slice (some ⟨b, off, none⟩) o.vs.length cap, .bool o.en, .slice (some ⟨b', off', none⟩) o.hs.length cap', .int .i64 o.vr] : Array Value)[j]? := fun j => cell_of_block HO1.out
    have hz1 : w.heap.size + 1 < w1.heap.size := by have := hb1.size; simp at this; omega
    have hz0 : w.heap.size < w1.heap.size := by omega
    have hB1 : Below w.heap.size w w1 := (below2' _ _ _).trans (hb1.mono (by simp; omega))
    have hlen := HFL.out.len
    unfold maxLen at hlen
    clear h1 hb1 hfl0
    go_wp2_with fail
    have hbs := (Below.refl w1.heap.size w1).alloc (Nat.le_refl _) (.cells #[.string (Gate.shapeOf ss o.kd).kd, .slice fa (Gate.shapeOf ss o.kd).fs.length fcap] 69)
    have hRW := (hbs.block _ hz1).trans HR1.out
    have hzW : w.heap.size + 1 < (w1.alloc (.cells #[.string (Gate.shapeOf ss o.kd).kd, .slice fa (Gate.shapeOf ss o.kd).fs.length fcap] 69)).heap.size := Nat.lt_of_lt_of_le hz1 hbs.size
    have hBW := hB1.trans (hbs.mono hB1.size)
    clear hbs
    refine (copyObject_any o b off b' off' cap cap' _ (HH.out.mono hBW) hl hl').mono ?_
    rintro e w4 ⟨a, dap, a', dap', m, rfl, ht, hm, hsm, ht', hb4⟩
    have hR4 : w4.heap[w.heap.size + 1]? = some (.cells #[.string ByteArray.empty, .string ByteArray.empty, .string ByteArray.empty, .slice none 0 0, .bool false, .slice none 0 0, .int .i64 0] 30) := (hb4.block (w.heap.size + 1) hzW).trans hRW
    have hRc : ∀ j, w4.cell? ⟨w.heap.size + 1, j, none⟩ = (#[.string ByteArray.empty, .string ByteArray.empty, .string ByteArray.empty, .slice none 0 0, .bool false, .slice none 0 0, .int .i64 0] : Array Value)[j]? := fun j => cell_of_block hR4
    have hRf : ∀ j, w4.frozen? ⟨w.heap.size + 1, j, none⟩ = false := fun j => frozen_of_block hR4
    have HX : Hid (TxtsOwn (w.heap.size + 1 + 1) w4 a (o.vs) ∧ (∀ g, a = some g → g.block < m) ∧ w.heap.size + 1 + 1 ≤ m ∧ TxtsOwn m w4 a' o.hs ∧ Below w.heap.size w w4) := ⟨ht.low hzW, hm, Nat.le_trans hzW hsm, ht', hBW.trans (hb4.mono hBW.size)⟩
    clear ht hm hsm ht' hb4 hR4 hBW hRW
    go_wp2_with fail
    refine bodyPost_ret (v := (.agg #[.string o.kd, .string o.nm, .string o.tm, .slice a o.vs.length dap, .bool o.en, .slice a' o.hs.length dap', .int .i64 o.vr])) (by simp [results, Tryz.results26, go_sem, hRc]) rfl ?_
    obtain ⟨ht, hm, hsm, ht', hB⟩ := HX.out
    rw [HRES.out]
    exact ⟨a, dap, a', dap', m, rfl, (put7_own ht _ (by omega) _ _ _ _ _ _ _).low (by omega), hm, by omega, put7_own ht' _ (by omega) _ _ _ _ _ _ _, put7_below hB _ (by omega) _ _ _ _ _ _ _⟩

  by_cases hok : Gate.shapesOk ss = true
  rotate_left
  · have hok : Gate.shapesOk ss = false := by simpa using hok
    have HRES : Hid (Gate.fillRes ss o = o.vs) := by unfold Hid Gate.fillRes; rw [if_neg]; rintro ⟨_, h, _⟩; rw [hok] at h; cases h
    have HH : Hid (ObAt w o (some ⟨b, off, none⟩) (some ⟨b', off', none⟩)) := ho
    clear ho
    go_enter Tryz.func26, Tryz.ntmps26
    go_wp2_with fail
    have h1 := shapeOf_any a0 cap0 ss o.kd _ (hw.mono (below2' w (.cells #[.string o.kd, .string o.nm, .string o.tm, .slice (some ⟨b, off, none⟩) o.vs.length cap, .bool o.en, .slice (some ⟨b', off', none⟩) o.hs.length cap', .int .i64 o.vr] 30) (.cells #[.string ByteArray.empty, .string ByteArray.empty, .string ByteArray.empty, .slice none 0 0, .bool false, .slice none 0 0, .int .i64 0] 30)))
    rw [hk] at h1
    refine h1.mono ?_
    rintro e w1 ⟨fa, fcap, rfl, hfl0, hb1⟩
    have HFL : Hid (FldsAt w1 fa (Gate.shapeOf ss o.kd).fs) := hfl0.mono hb1
    have HO1 : Hid (w1.heap[w.heap.size]? = some (.cells #[.string o.kd, .string o.nm, .string o.tm, .slice (some ⟨b, off, none⟩) o.vs.length cap, .bool o.en, .slice (some ⟨b', off', none⟩) o.hs.length cap', .int .i64 o.vr] 30)) := (hb1.block w.heap.size (by simp; omega)).trans (two_blocks _ _ _).1
    have HR1 : Hid (w1.heap[w.heap.size + 1]? = some (.cells #[.string ByteArray.empty, .string ByteArray.empty, .string ByteArray.empty, .slice none 0 0, .bool false, .slice none 0 0, .int .i64 0] 30)) := (hb1.block (w.heap.size + 1) (by simp)).trans (two_blocks _ _ _).2
    have hX1 : ∀ j, w1.cell? ⟨w.heap.size, j, none⟩ = (#[.string o.kd, .string o.nm, .string o.tm, .slice (some ⟨b, off, none⟩) o.vs.length cap, .bool o.en, .slice (some ⟨b', off', none⟩) o.hs.length cap', .int .i64 o.vr] : Array Value)[j]? := fun j => cell_of_block HO1.out
    have hz1 : w.heap.size + 1 < w1.heap.size := by have := hb1.size; simp at this; omega
    have hz0 : w.heap.size < w1.heap.size := by omega
    have hB1 : Below w.heap.size w w1 := (below2' _ _ _).trans (hb1.mono (by simp; omega))
    have hlen := HFL.out.len
    unfold maxLen at hlen
    clear h1 hb1 hfl0
    go_wp2_with fail
    have hbs := (Below.refl w1.heap.size w1).alloc (Nat.le_refl _) (.cells #[.string (Gate.shapeOf ss o.kd).kd, .slice fa (Gate.shapeOf ss o.kd).fs.length fcap] 69)
    have hBs := hB1.trans (hbs.mono hB1.size)
    have h2 := implShapesOk_any a0 cap0 ss _ (hw.mono hBs)
    rw [hok] at h2
    refine h2.mono ?_
    rintro e w2 ⟨rfl, hb2⟩
    have hRW := (hb2.block _ (Nat.lt_of_lt_of_le hz1 hbs.size)).trans ((hbs.block _ hz1).trans HR1.out)
    have hX2 : ∀ j, w2.cell? ⟨w.heap.size, j, none⟩ = (#[.string o.kd, .string o.nm, .string o.tm, .slice (some ⟨b, off, none⟩) o.vs.length cap, .bool o.en, .slice (some ⟨b', off', none⟩) o.hs.length cap', .int .i64 o.vr] : Array Value)[j]? := fun j => cell_of_block ((hb2.block _ (Nat.lt_of_lt_of_le hz0 hbs.size)).trans ((hbs.block _ hz0).trans HO1.out))
    have hS2 : ∀ j, w2.cell? ⟨w1.heap.size, j, none⟩ = (#[.string (Gate.shapeOf ss o.kd).kd, .slice fa (Gate.shapeOf ss o.kd).fs.length fcap] : Array Value)[j]? := box_later (box_new w1 _ _) (by simp) hb2
    have hzW : w.heap.size + 1 < w2.heap.size := Nat.lt_of_lt_of_le (Nat.lt_of_lt_of_le hz1 hbs.size) hb2.size
    have HF2 : Hid (FldsAt w2 fa (Gate.shapeOf ss o.kd).fs) := (HFL.out.mono hbs).mono hb2
    have hBW := hBs.trans (hb2.mono hBs.size)
    clear h2 hbs hBs hb2 hX1
    go_wp2_with fail
    refine (copyObject_any o b off b' off' cap cap' _ (HH.out.mono hBW) hl hl').mono ?_
    rintro e w4 ⟨a, dap, a', dap', m, rfl, ht, hm, hsm, ht', hb4⟩
    have hR4 : w4.heap[w.heap.size + 1]? = some (.cells #[.string ByteArray.empty, .string ByteArray.empty, .string ByteArray.empty, .slice none 0 0, .bool false, .slice none 0 0, .int .i64 0] 30) := (hb4.block (w.heap.size + 1) hzW).trans hRW
    have hRc : ∀ j, w4.cell? ⟨w.heap.size + 1, j, none⟩ = (#[.string ByteArray.empty, .string ByteArray.empty, .string ByteArray.empty, .slice none 0 0, .bool false, .slice none 0 0, .int .i64 0] : Array Value)[j]? := fun j => cell_of_block hR4
    have hRf : ∀ j, w4.frozen? ⟨w.heap.size + 1, j, none⟩ = false := fun j => frozen_of_block hR4
    have HX : Hid (TxtsOwn (w.heap.size + 1 + 1) w4 a (o.vs) ∧ (∀ g, a = some g → g.block < m) ∧ w.heap.size + 1 + 1 ≤ m ∧ TxtsOwn m w4 a' o.hs ∧ Below w.heap.size w w4) := ⟨ht.low hzW, hm, Nat.le_trans hzW hsm, ht', hBW.trans (hb4.mono hBW.size)⟩
    clear ht hm hsm ht' hb4 hR4 hBW hRW
    go_wp2_with fail
    refine bodyPost_ret (v := (.agg #[.string o.kd, .string o.nm, .string o.tm, .slice a o.vs.length dap, .bool o.en, .slice a' o.hs.length dap', .int .i64 o.vr])) (by simp [results, Tryz.results26, go_sem, hRc]) rfl ?_
    obtain ⟨ht, hm, hsm, ht', hB⟩ := HX.out
    rw [HRES.out]
    exact ⟨a, dap, a', dap', m, rfl, (put7_own ht _ (by omega) _ _ _ _ _ _ _).low (by omega), hm, by omega, put7_own ht' _ (by omega) _ _ _ _ _ _ _, put7_below hB _ (by omega) _ _ _ _ _ _ _⟩

  by_cases hc : o.vs.length = (Gate.shapeOf ss o.kd).fs.length
  rotate_left
  · have HRES : Hid (Gate.fillRes ss o = o.vs) := by unfold Hid Gate.fillRes; rw [if_neg]; rintro ⟨_, _, h⟩; exact hc h
    have hcI : ((o.vs.length : Int) != ((Gate.shapeOf ss o.kd).fs.length : Int)) = true := by rw [bne_iff_ne]; omega
    have HH : Hid (ObAt w o (some ⟨b, off, none⟩) (some ⟨b', off', none⟩)) := ho
    clear ho
    go_enter Tryz.func26, Tryz.ntmps26
    go_wp2_with fail
    have h1 := shapeOf_any a0 cap0 ss o.kd _ (hw.mono (below2' w (.cells #[.string o.kd, .string o.nm, .string o.tm, .slice (some ⟨b, off, none⟩) o.vs.length cap, .bool o.en, .slice (some ⟨b', off', none⟩) o.hs.length cap', .int .i64 o.vr] 30) (.cells #[.string ByteArray.empty, .string ByteArray.empty, .string ByteArray.empty, .slice none 0 0, .bool false, .slice none 0 0, .int .i64 0] 30)))
    rw [hk] at h1
    refine h1.mono ?_
    rintro e w1 ⟨fa, fcap, rfl, hfl0, hb1⟩
    have HFL : Hid (FldsAt w1 fa (Gate.shapeOf ss o.kd).fs) := hfl0.mono hb1
    have HO1 : Hid (w1.heap[w.heap.size]? = some (.cells #[.string o.kd, .string o.nm, .string o.tm, .slice (some ⟨b, off, none⟩) o.vs.length cap, .bool o.en, .slice (some ⟨b', off', none⟩) o.hs.length cap', .int .i64 o.vr] 30)) := (hb1.block w.heap.size (by simp; omega)).trans (two_blocks _ _ _).1
    have HR1 : Hid (w1.heap[w.heap.size + 1]? = some (.cells #[.string ByteArray.empty, .string ByteArray.empty, .string ByteArray.empty, .slice none 0 0, .bool false, .slice none 0 0, .int .i64 0] 30)) := (hb1.block (w.heap.size + 1) (by simp)).trans (two_blocks _ _ _).2
    have hX1 : ∀ j, w1.cell? ⟨w.heap.size, j, none⟩ = (#[.string o.kd, .string o.nm, .string o.tm, .slice (some ⟨b, off, none⟩) o.vs.length cap, .bool o.en, .slice (some ⟨b', off', none⟩) o.hs.length cap', .int .i64 o.vr] : Array Value)[j]? := fun j => cell_of_block HO1.out
    have hz1 : w.heap.size + 1 < w1.heap.size := by have := hb1.size; simp at this; omega
    have hz0 : w.heap.size < w1.heap.size := by omega
    have hB1 : Below w.heap.size w w1 := (below2' _ _ _).trans (hb1.mono (by simp; omega))
    have hlen := HFL.out.len
    unfold maxLen at hlen
    clear h1 hb1 hfl0
    go_wp2_with fail
    have hbs := (Below.refl w1.heap.size w1).alloc (Nat.le_refl _) (.cells #[.string (Gate.shapeOf ss o.kd).kd, .slice fa (Gate.shapeOf ss o.kd).fs.length fcap] 69)
    have hBs := hB1.trans (hbs.mono hB1.size)
    have h2 := implShapesOk_any a0 cap0 ss _ (hw.mono hBs)
    rw [hok] at h2
    refine h2.mono ?_
    rintro e w2 ⟨rfl, hb2⟩
    have hRW := (hb2.block _ (Nat.lt_of_lt_of_le hz1 hbs.size)).trans ((hbs.block _ hz1).trans HR1.out)
    have hX2 : ∀ j, w2.cell? ⟨w.heap.size, j, none⟩ = (#[.string o.kd, .string o.nm, .string o.tm, .slice (some ⟨b, off, none⟩) o.vs.length cap, .bool o.en, .slice (some ⟨b', off', none⟩) o.hs.length cap', .int .i64 o.vr] : Array Value)[j]? := fun j => cell_of_block ((hb2.block _ (Nat.lt_of_lt_of_le hz0 hbs.size)).trans ((hbs.block _ hz0).trans HO1.out))
    have hS2 : ∀ j, w2.cell? ⟨w1.heap.size, j, none⟩ = (#[.string (Gate.shapeOf ss o.kd).kd, .slice fa (Gate.shapeOf ss o.kd).fs.length fcap] : Array Value)[j]? := box_later (box_new w1 _ _) (by simp) hb2
    have hzW : w.heap.size + 1 < w2.heap.size := Nat.lt_of_lt_of_le (Nat.lt_of_lt_of_le hz1 hbs.size) hb2.size
    have HF2 : Hid (FldsAt w2 fa (Gate.shapeOf ss o.kd).fs) := (HFL.out.mono hbs).mono hb2
    have hBW := hBs.trans (hb2.mono hBs.size)
    clear h2 hbs hBs hb2 hX1
    go_wp2_with fail
    refine (copyObject_any o b off b' off' cap cap' _ (HH.out.mono hBW) hl hl').mono ?_
    rintro e w4 ⟨a, dap, a', dap', m, rfl, ht, hm, hsm, ht', hb4⟩
    have hR4 : w4.heap[w.heap.size + 1]? = some (.cells #[.string ByteArray.empty, .string ByteArray.empty, .string ByteArray.empty, .slice none 0 0, .bool false, .slice none 0 0, .int .i64 0] 30) := (hb4.block (w.heap.size + 1) hzW).trans hRW
    have hRc : ∀ j, w4.cell? ⟨w.heap.size + 1, j, none⟩ = (#[.string ByteArray.empty, .string ByteArray.empty, .string ByteArray.empty, .slice none 0 0, .bool false, .slice none 0 0, .int .i64 0] : Array Value)[j]? := fun j => cell_of_block hR4
    have hRf : ∀ j, w4.frozen? ⟨w.heap.size + 1, j, none⟩ = false := fun j => frozen_of_block hR4
    have HX : Hid (TxtsOwn (w.heap.size + 1 + 1) w4 a (o.vs) ∧ (∀ g, a = some g → g.block < m) ∧ w.heap.size + 1 + 1 ≤ m ∧ TxtsOwn m w4 a' o.hs ∧ Below w.heap.size w w4) := ⟨ht.low hzW, hm, Nat.le_trans hzW hsm, ht', hBW.trans (hb4.mono hBW.size)⟩
    clear ht hm hsm ht' hb4 hR4 hBW hRW
    go_wp2_with fail
    refine bodyPost_ret (v := (.agg #[.string o.kd, .string o.nm, .string o.tm, .slice a o.vs.length dap, .bool o.en, .slice a' o.hs.length dap', .int .i64 o.vr])) (by simp [results, Tryz.results26, go_sem, hRc]) rfl ?_
    obtain ⟨ht, hm, hsm, ht', hB⟩ := HX.out
    rw [HRES.out]
    exact ⟨a, dap, a', dap', m, rfl, (put7_own ht _ (by omega) _ _ _ _ _ _ _).low (by omega), hm, by omega, put7_own ht' _ (by omega) _ _ _ _ _ _ _, put7_below hB _ (by omega) _ _ _ _ _ _ _⟩

  have HRES : Hid (Gate.fillRes ss o = Gate.fillVs (Gate.shapeOf ss o.kd).fs o.vs) := by unfold Hid Gate.fillRes; rw [if_pos ⟨hk, hok, hc⟩]
  have HCC : Hid (o.vs.length = (Gate.shapeOf ss o.kd).fs.length) := hc
  have hcI : ((o.vs.length : Int) != ((Gate.shapeOf ss o.kd).fs.length : Int)) = false := by rw [hc]; simp
  clear hc
  have HH : Hid (ObAt w o (some ⟨b, off, none⟩) (some ⟨b', off', none⟩)) := ho
  clear ho
  go_enter Tryz.func26, Tryz.ntmps26
  go_wp2_with fail
  have h1 := shapeOf_any a0 cap0 ss o.kd _ (hw.mono (below2' w (.cells #[.string o.kd, .string o.nm, .string o.tm, .slice (some ⟨b, off, none⟩) o.vs.length cap, .bool o.en, .slice (some ⟨b', off', none⟩) o.hs.length cap', .int .i64 o.vr] 30) (.cells #[.string ByteArray.empty, .string ByteArray.empty, .string ByteArray.empty, .slice none 0 0, .bool false, .slice none 0 0, .int .i64 0] 30)))
  rw [hk] at h1
  refine h1.mono ?_
  rintro e w1 ⟨fa, fcap, rfl, hfl0, hb1⟩
  have HFL : Hid (FldsAt w1 fa (Gate.shapeOf ss o.kd).fs) := hfl0.mono hb1
  have HO1 : Hid (w1.heap[w.heap.size]? = some (.cells #[.string o.kd, .string o.nm, .string o.tm, .slice (some ⟨b, off, none⟩) o.vs.length cap, .bool o.en, .slice (some ⟨b', off', none⟩) o.hs.length cap', .int .i64 o.vr] 30)) := (hb1.block w.heap.size (by simp; omega)).trans (two_blocks _ _ _).1
  have HR1 : Hid (w1.heap[w.heap.size + 1]? = some (.cells #[.string ByteArray.empty, .string ByteArray.empty, .string ByteArray.empty, .slice none 0 0, .bool false, .slice none 0 0, .int .i64 0] 30)) := (hb1.block (w.heap.size + 1) (by simp)).trans (two_blocks _ _ _).2
  have hX1 : ∀ j, w1.cell? ⟨w.heap.size, j, none⟩ = (#[.string o.kd, .string o.nm, .string o.tm, .slice (some ⟨b, off, none⟩) o.vs.length cap, .bool o.en, .slice (some ⟨b', off', none⟩) o.hs.length cap', .int .i64 o.vr] : Array Value)[j]? := fun j => cell_of_block HO1.out
  have hz1 : w.heap.size + 1 < w1.heap.size := by have := hb1.size; simp at this; omega
  have hz0 : w.heap.size < w1.heap.size := by omega
  have hB1 : Below w.heap.size w w1 := (below2' _ _ _).trans (hb1.mono (by simp; omega))
  have hlen := HFL.out.len
  unfold maxLen at hlen
  clear h1 hb1 hfl0
  go_wp2_with fail
  have hbs := (Below.refl w1.heap.size w1).alloc (Nat.le_refl _) (.cells #[.string (Gate.shapeOf ss o.kd).kd, .slice fa (Gate.shapeOf ss o.kd).fs.length fcap] 69)
  have hBs := hB1.trans (hbs.mono hB1.size)
  have h2 := implShapesOk_any a0 cap0 ss _ (hw.mono hBs)
  rw [hok] at h2
  refine h2.mono ?_
  rintro e w2 ⟨rfl, hb2⟩
  have hRW := (hb2.block _ (Nat.lt_of_lt_of_le hz1 hbs.size)).trans ((hbs.block _ hz1).trans HR1.out)
  have hX2 : ∀ j, w2.cell? ⟨w.heap.size, j, none⟩ = (#[.string o.kd, .string o.nm, .string o.tm, .slice (some ⟨b, off, none⟩) o.vs.length cap, .bool o.en, .slice (some ⟨b', off', none⟩) o.hs.length cap', .int .i64 o.vr] : Array Value)[j]? := fun j => cell_of_block ((hb2.block _ (Nat.lt_of_lt_of_le hz0 hbs.size)).trans ((hbs.block _ hz0).trans HO1.out))
  have hS2 : ∀ j, w2.cell? ⟨w1.heap.size, j, none⟩ = (#[.string (Gate.shapeOf ss o.kd).kd, .slice fa (Gate.shapeOf ss o.kd).fs.length fcap] : Array Value)[j]? := box_later (box_new w1 _ _) (by simp) hb2
  have hzW : w.heap.size + 1 < w2.heap.size := Nat.lt_of_lt_of_le (Nat.lt_of_lt_of_le hz1 hbs.size) hb2.size
  have HF2 : Hid (FldsAt w2 fa (Gate.shapeOf ss o.kd).fs) := (HFL.out.mono hbs).mono hb2
  have hBW := hBs.trans (hb2.mono hBs.size)
  clear h2 hbs hBs hb2 hX1
  go_wp2_with fail
  refine (filled_any o _ _ fa fcap b off b' off' cap cap' _ HF2.out (HH.out.mono hBW) hl hl' HCC.out).mono ?_
  rintro e w4 ⟨a, dap, a', dap', m, rfl, ht, hm, hsm, ht', hb4⟩
  have hR4 : w4.heap[w.heap.size + 1]? = some (.cells #[.string ByteArray.empty, .string ByteArray.empty, .string ByteArray.empty, .slice none 0 0, .bool false, .slice none 0 0, .int .i64 0] 30) := (hb4.block (w.heap.size + 1) hzW).trans hRW
  have hRc : ∀ j, w4.cell? ⟨w.heap.size + 1, j, none⟩ = (#[.string ByteArray.empty, .string ByteArray.empty, .string ByteArray.empty, .slice none 0 0, .bool false, .slice none 0 0, .int .i64 0] : Array Value)[j]? := fun j => cell_of_block hR4
  have hRf : ∀ j, w4.frozen? ⟨w.heap.size + 1, j, none⟩ = false := fun j => frozen_of_block hR4
  have HX : Hid (TxtsOwn (w.heap.size + 1 + 1) w4 a (Gate.fillVs (Gate.shapeOf ss o.kd).fs o.vs) ∧ (∀ g, a = some g → g.block < m) ∧ w.heap.size + 1 + 1 ≤ m ∧ TxtsOwn m w4 a' o.hs ∧ Below w.heap.size w w4) := ⟨ht.low hzW, hm, Nat.le_trans hzW hsm, ht', hBW.trans (hb4.mono hBW.size)⟩
  clear ht hm hsm ht' hb4 hR4 hBW hRW
  go_wp2_with fail
  refine bodyPost_ret (v := (.agg #[.string o.kd, .string o.nm, .string o.tm, .slice a o.vs.length dap, .bool o.en, .slice a' o.hs.length dap', .int .i64 o.vr])) (by simp [results, Tryz.results26, go_sem, hRc]) rfl ?_
  obtain ⟨ht, hm, hsm, ht', hB⟩ := HX.out
  rw [HRES.out]
  exact ⟨a, dap, a', dap', m, rfl, (put7_own ht _ (by omega) _ _ _ _ _ _ _).low (by omega), hm, by omega, put7_own ht' _ (by omega) _ _ _ _ _ _ _, put7_below hB _ (by omega) _ _ _ _ _ _ _⟩

end Go.Proofs.YtponiggfclcbgaaGreat

namespace Go.Proofs.YtponiggfclcbgaaGreat
open Go.RowKit

def sumSz (ws : List ByteArray) : Nat := (ws.map ByteArray.size).sum
def strsSz (ws : List ByteArray) : Nat := ws.length + sumSz ws
theorem sumSz_snoc (ws : List ByteArray) (k : Nat) (h : k < ws.length) : sumSz (ws.take (k + 1)) = sumSz (ws.take k) + ws[k].size := by
  unfold sumSz; rw [List.take_succ_eq_append_getElem h, List.map_append, List.sum_append]; simp

theorem sumSz_le (ws : List ByteArray) (k : Nat) : sumSz (ws.take k) ≤ sumSz ws := by
  unfold sumSz
  conv => rhs; rw [← List.take_append_drop k ws]
  rw [List.map_append, List.sum_append]; omega

theorem sumSz_all (ws : List ByteArray) (k : Nat) (h : ws.length ≤ k) : sumSz (ws.take k) = sumSz ws := by rw [List.take_of_length_le h]

set_option maxHeartbeats 400000 in
theorem szStringS_any (a : Option Addr) (cap : Nat) (ws : List ByteArray) (left : Int) (w : World) (hw : StrsAt w a ws) (h0 : 0 ≤ left) (h1 : left ≤ 1048576) :
    Calls Tryz.prog 34 #[.slice a ws.length cap, .int .i64 left] w fun e w' => e = .returned (.int .i64 (szRes (strsSz ws) left)) ∧ w' = w := by
  have hl := hw.len
  unfold maxLen at hl
  by_cases hfit : (ws.length : Int) ≤ left
  · go_enter Tryz.func34, Tryz.ntmps34
    go_wp2
    go_loop [1, 5] (fun l i => ∃ k : Nat, k ≤ ws.length ∧ i = .int .i64 k ∧ 0 ≤ left - ws.length - sumSz (ws.take k) ∧ l = .int .i64 (left - ws.length - sumSz (ws.take k))) (fun _ i => ws.length - (intOf i).toNat)
    case atStart => exact ⟨0, Nat.zero_le _, rfl, by simp [sumSz]; omega, by simp [sumSz]⟩
    case round =>
      obtain ⟨k, hk, rfl, hpos, rfl⟩ := hrel
      by_cases hlt : k < ws.length
      · obtain ⟨b, off, rfl, hb, hc⟩ := hw.cells (by rintro rfl; simp at hlt)
        have hsm := hw.small _ (List.getElem_mem hlt)
        unfold maxLen at hsm
        clear hw
        have hck := hc k hlt
        have HS : Hid (sumSz (ws.take (k + 1)) = sumSz (ws.take k) + ws[k].size) := sumSz_snoc ws k hlt
        have hle := sumSz_le ws (k + 1)
        clear hc
        by_cases hneg : left - ws.length - sumSz (ws.take k) - ws[k].size < 0
        · have HF : Hid (szRes (strsSz ws) left = -1) := szRes_no (by have := HS.out; unfold strsSz; omega)
          clear hle
          go_wp2
          go_ret
          exact ⟨ret_int HF.out.symm, rfl⟩
        · clear hle
          go_wp2
          go_round
          case rel => exact ⟨k + 1, by omega, by go_num, by rw [HS.out]; omega, by rw [HS.out]; go_num⟩
          case measure => simp [intOf]; omega
      · have HF : Hid (szRes (strsSz ws) left = left - ws.length - sumSz (ws.take k)) := by
          rw [sumSz_all ws k (by omega)] at hpos ⊢
          have e : szRes (strsSz ws) left = left - strsSz ws := szRes_yes (by unfold strsSz; omega)
          unfold Hid; rw [e]; unfold strsSz; omega
        clear hw
        go_wp2
        go_ret
        exact ⟨ret_int HF.out.symm, rfl⟩
  · have HF : Hid (szRes (strsSz ws) left = -1) := szRes_no (by unfold strsSz; omega)
    clear hw
    go_enter Tryz.func34, Tryz.ntmps34
    go_wp2
    go_ret
    exact ⟨ret_int HF.out.symm, rfl⟩


set_option maxHeartbeats 400000 in
theorem eqStringS_yes (a a' : Option Addr) (cap cap' : Nat) (ws : List ByteArray) (w : World) (hw : StrsAt w a ws) (hw' : StrsAt w a' ws) :
    Calls Tryz.prog 44 #[.slice a ws.length cap, .slice a' ws.length cap'] w fun e w' => e = .returned (.bool true) ∧ Below w.heap.size w w' := by
  have hl := hw.len
  unfold maxLen at hl
  have hnn : ((ws.length : Int) != ws.length) = false := by simp
  go_enter Tryz.func44, Tryz.ntmps44
  go_wp2
  go_loopw [5] (fun i wr => ∃ k : Nat, k ≤ ws.length ∧ i = .int .i64 k ∧ ∃ n, wr = w.drewN n) (fun i _ => ws.length - (intOf i).toNat)
  case atStart => exact ⟨0, Nat.zero_le _, rfl, 0, rfl⟩
  case round =>
    obtain ⟨k, hk, rfl, nd, rfl⟩ := hrel
    by_cases hlt : k < ws.length
    · obtain ⟨b, off, rfl, hb, hc⟩ := hw.cells (by rintro rfl; simp at hlt)
      obtain ⟨b', off', rfl, hb', hc'⟩ := hw'.cells (by rintro rfl; simp at hlt)
      clear hw hw'
      have hck := hc k hlt
      have hck' := hc' k hlt
      have hltI : (k : Int) < (ws.length : Int) := by omega
      clear hc hc'
      go_wp2
      go_quiet (fail)
      go_wp2
      exact ⟨⟨k + 1, by omega, by go_num, nd + nq, rfl⟩, by simp [intOf]; omega⟩
    · clear hw hw'
      go_wp2
      go_ret
      exact ⟨rfl, below_drewN (Below.refl _ _) nd⟩

set_option maxHeartbeats 1000000 in
theorem eqGateField_yes (nm : ByteArray) (kd ls ms : Int) (a a' : Option Addr) (cap cap' : Nat) (ws : List ByteArray) (to : ByteArray) (rl : Int) (mu fx : Bool) (df wg : ByteArray) (w : World) (hw : StrsAt w a ws) (hw' : StrsAt w a' ws) :
    Calls Tryz.prog 98 #[.agg #[.string nm, .int .i64 kd, .int .i64 ls, .int .i64 ms, .slice a ws.length cap, .string to, .int .i64 rl, .bool mu, .bool fx, .string df, .string wg], .agg #[.string nm, .int .i64 kd, .int .i64 ls, .int .i64 ms, .slice a' ws.length cap', .string to, .int .i64 rl, .bool mu, .bool fx, .string df, .string wg]] w
      fun e w' => e = .returned (.bool true) ∧ Below w.heap.size w w' := by
  go_enter Tryz.func98, Tryz.ntmps98
  go_wp2_with (go_at_call 44; refine (eqStringS_yes _ _ _ _ _ _ (by exact hw.mono (below2' _ _ _)) (by exact hw'.mono (below2' _ _ _))).mono ?_; rintro e w1 ⟨rfl, hb1⟩; have hc1 := (bcell hb1).1; have hz1 := hb1.size; simp only [World.size_alloc] at hz1)
  go_ret
  exact ⟨rfl, (below2' _ _ _).trans (hb1.mono (by simp; omega))⟩

def fldSz (nm : ByteArray) (ws : List ByteArray) (to df wg : ByteArray) : Nat := nm.size + strsSz ws + to.size + df.size + wg.size

theorem szStringS_yes (a : Option Addr) (cap : Nat) (ws : List ByteArray) (left : Int) (w : World) (hw : StrsAt w a ws) (h0 : 0 ≤ left) (h1 : left ≤ 1048576) (h : (strsSz ws : Int) ≤ left) :
    Calls Tryz.prog 34 #[.slice a ws.length cap, .int .i64 left] w fun e w' => e = .returned (.int .i64 (left - strsSz ws)) ∧ w' = w := by
  refine (szStringS_any a cap ws left w hw h0 h1).mono ?_
  rintro e w' ⟨rfl, rfl⟩
  exact ⟨ret_int (szRes_yes h), rfl⟩

theorem szStringS_no (a : Option Addr) (cap : Nat) (ws : List ByteArray) (left : Int) (w : World) (hw : StrsAt w a ws) (h0 : 0 ≤ left) (h1 : left ≤ 1048576) (h : ¬ (strsSz ws : Int) ≤ left) :
    Calls Tryz.prog 34 #[.slice a ws.length cap, .int .i64 left] w fun e w' => e = .returned (.int .i64 (-1)) ∧ w' = w := by
  refine (szStringS_any a cap ws left w hw h0 h1).mono ?_
  rintro e w' ⟨rfl, rfl⟩
  exact ⟨ret_int (szRes_no h), rfl⟩

set_option maxHeartbeats 1000000 in
theorem szGateField_any (nm : ByteArray) (kd ls ms : Int) (a : Option Addr) (cap : Nat) (ws : List ByteArray) (to : ByteArray) (rl : Int) (mu fx : Bool) (df wg : ByteArray) (left : Int) (w : World) (hw : StrsAt w a ws) (h0 : 0 ≤ left) (h1 : left ≤ 1048576)
    (hnm : nm.size ≤ maxLen) (hto : to.size ≤ maxLen) (hdf : df.size ≤ maxLen) (hwg : wg.size ≤ maxLen) :
    Calls Tryz.prog 89 #[.agg #[.string nm, .int .i64 kd, .int .i64 ls, .int .i64 ms, .slice a ws.length cap, .string to, .int .i64 rl, .bool mu, .bool fx, .string df, .string wg], .int .i64 left] w fun e w' => e = .returned (.int .i64 (szRes (fldSz nm ws to df wg) left)) ∧ Below w.heap.size w w' := by
  unfold maxLen at hnm hto hdf hwg
  by_cases c1 : (nm.size : Int) ≤ left
  rotate_left
  · have HF : Hid (szRes (fldSz nm ws to df wg) left = -1) := szRes_no (by unfold fldSz; omega)
    go_enter Tryz.func89, Tryz.ntmps89
    go_wp2_with fail
    go_ret
    exact ⟨ret_int HF.out.symm, (Below.refl _ _).alloc (Nat.le_refl _) _⟩
  by_cases c2 : (strsSz ws : Int) ≤ left - nm.size
  rotate_left
  · have HF : Hid (szRes (fldSz nm ws to df wg) left = -1) := szRes_no (by unfold fldSz; omega)
    go_enter Tryz.func89, Tryz.ntmps89
    go_wp2_with (go_at_call 34; refine (szStringS_no _ _ _ _ _ (by exact hw.mono ((Below.refl _ _).alloc (Nat.le_refl _) _)) (by omega) (by omega) (by omega)).mono ?_; rintro e w1 ⟨rfl, rfl⟩)
    go_ret
    exact ⟨ret_int HF.out.symm, (Below.refl _ _).alloc (Nat.le_refl _) _⟩
  by_cases c3 : (to.size : Int) ≤ left - nm.size - strsSz ws
  rotate_left
  · have HF : Hid (szRes (fldSz nm ws to df wg) left = -1) := szRes_no (by unfold fldSz; omega)
    go_enter Tryz.func89, Tryz.ntmps89
    go_wp2_with (go_at_call 34; refine (szStringS_yes _ _ _ _ _ (by exact hw.mono ((Below.refl _ _).alloc (Nat.le_refl _) _)) (by omega) (by omega) (by omega)).mono ?_; rintro e w1 ⟨rfl, rfl⟩)
    go_ret
    exact ⟨ret_int HF.out.symm, (Below.refl _ _).alloc (Nat.le_refl _) _⟩
  by_cases c4 : (df.size : Int) ≤ left - nm.size - strsSz ws - to.size
  rotate_left
  · have HF : Hid (szRes (fldSz nm ws to df wg) left = -1) := szRes_no (by unfold fldSz; omega)
    go_enter Tryz.func89, Tryz.ntmps89
    go_wp2_with (go_at_call 34; refine (szStringS_yes _ _ _ _ _ (by exact hw.mono ((Below.refl _ _).alloc (Nat.le_refl _) _)) (by omega) (by omega) (by omega)).mono ?_; rintro e w1 ⟨rfl, rfl⟩)
    go_ret
    exact ⟨ret_int HF.out.symm, (Below.refl _ _).alloc (Nat.le_refl _) _⟩
  by_cases c5 : (wg.size : Int) ≤ left - nm.size - strsSz ws - to.size - df.size
  rotate_left
  · have HF : Hid (szRes (fldSz nm ws to df wg) left = -1) := szRes_no (by unfold fldSz; omega)
    go_enter Tryz.func89, Tryz.ntmps89
    go_wp2_with (go_at_call 34; refine (szStringS_yes _ _ _ _ _ (by exact hw.mono ((Below.refl _ _).alloc (Nat.le_refl _) _)) (by omega) (by omega) (by omega)).mono ?_; rintro e w1 ⟨rfl, rfl⟩)
    go_ret
    exact ⟨ret_int HF.out.symm, (Below.refl _ _).alloc (Nat.le_refl _) _⟩
  · have HF : Hid (szRes (fldSz nm ws to df wg) left = left - nm.size - strsSz ws - to.size - df.size - wg.size) := by
      have e : szRes (fldSz nm ws to df wg) left = left - fldSz nm ws to df wg := szRes_yes (by unfold fldSz; omega)
      unfold Hid; rw [e]; unfold fldSz; omega
    go_enter Tryz.func89, Tryz.ntmps89
    go_wp2_with (go_at_call 34; refine (szStringS_yes _ _ _ _ _ (by exact hw.mono ((Below.refl _ _).alloc (Nat.le_refl _) _)) (by omega) (by omega) (by omega)).mono ?_; rintro e w1 ⟨rfl, rfl⟩)
    go_ret
    exact ⟨ret_int HF.out.symm, (Below.refl _ _).alloc (Nat.le_refl _) _⟩

end Go.Proofs.YtponiggfclcbgaaGreat

namespace Go.Proofs.YtponiggfclcbgaaGreat
open Go.RowKit

set_option maxHeartbeats 1000000 in
theorem l1Ascending_any (a : Option Addr) (cap : Nat) (ws : List ByteArray) (w : World) (hw : StrsAt w a ws) :
    Calls Tryz.prog 116 #[.slice a ws.length cap] w fun e w' => e = .returned (.bool (Gate.asc ws)) ∧ ∃ n, w' = w.drewN n := by
  have hl := hw.len
  unfold maxLen at hl
  go_enter Tryz.func116, Tryz.ntmps116
  go_wp2
  go_loopw [3] (fun i wr => ∃ k : Nat, k ≤ ws.length ∧ i = .int .i64 k ∧ Gate.up (Gate.ascAt ws) k = true ∧ ∃ n, wr = w.drewN n) (fun i _ => ws.length - (intOf i).toNat)
  case atStart => exact ⟨0, Nat.zero_le _, rfl, rfl, 0, rfl⟩
  case round =>
    obtain ⟨k, hk, rfl, hup, hwr⟩ := hrel
    have HW : Hid (∃ n, wr = w.drewN n) := hwr
    by_cases hlt : k < ws.length
    · obtain ⟨b, off, rfl, hb, hc0⟩ := hw.cells (by rintro rfl; simp at hlt)
      have hc : ∀ i (h : i < ws.length), wr.cell? ⟨b, off + i, none⟩ = some (.string ws[i]) := by obtain ⟨n, rfl⟩ := hwr; exact hc0
      have hsm := hw.small _ (List.getElem_mem hlt)
      clear hw hc0 hwr
      have hck := hc k hlt
      have hltI : (k : Int) < (ws.length : Int) := by omega
      by_cases hn : Gate.nameOk ws[k] = true
      · have hn' := hn
        by_cases hk0 : k = 0
        · have HF : Hid (Gate.up (Gate.ascAt ws) (k + 1) = true) := by subst hk0; unfold Hid; rw [Gate.up_succ, Gate.ascAt_first hlt hn]; rfl
          have hg : decide (0 < k) = false := by simp; omega
          clear hn hc hup hk0
          go_wp2
          go_quiet ((go_at_call 90; exact Calls.quiet_of_same (as_bool hn' (l1NameOk_any _ _ hsm))))
          go_wp2
          obtain ⟨n, rfl⟩ := HW.out
          exact ⟨⟨k + 1, by omega, by go_num, HF.out, n + nq, by simp⟩, by simp [intOf]; omega⟩
        · obtain ⟨m, rfl⟩ : ∃ m, k = m + 1 := ⟨k - 1, by omega⟩
          have hcm := hc m (by omega)
          have HU : Hid (Gate.up (Gate.ascAt ws) (m + 1 + 1) = Gate.less ws[m] ws[m + 1]) := by unfold Hid; rw [Gate.up_succ, hup, Gate.ascAt_more hlt hn]; rfl
          have HN : Hid (Gate.less ws[m] ws[m + 1] = false → Gate.asc ws = false) := fun h => Gate.up_not hlt (by rw [Gate.ascAt_more hlt hn]; exact h)
          clear hn hc hup hk0
          by_cases hls : Gate.less ws[m] ws[m + 1] = true
          · have hls' : Op.bytesLess ws[m].toList ws[m + 1].toList = true := hls
            have HLS : Hid (Gate.less ws[m] ws[m + 1] = true) := hls
            clear hls
            go_wp2
            go_quiet ((go_at_call 90; exact Calls.quiet_of_same (as_bool hn' (l1NameOk_any _ _ hsm))))
            go_wp2
            obtain ⟨n, rfl⟩ := HW.out
            exact ⟨⟨m + 1 + 1, by omega, by go_num, by rw [HU.out, HLS.out], n + nq, by simp⟩, by simp [intOf]; omega⟩
          · have hls' : Op.bytesLess ws[m].toList ws[m + 1].toList = false := by simpa [Gate.less] using hls
            have HLS : Hid (Gate.less ws[m] ws[m + 1] = false) := hls'
            clear hls
            go_wp2
            go_quiet ((go_at_call 90; exact Calls.quiet_of_same (as_bool hn' (l1NameOk_any _ _ hsm))))
            go_wp2
            go_ret
            refine ⟨ret_bool (HN.out HLS.out).symm, ?_⟩
            obtain ⟨n, rfl⟩ := HW.out
            exact ⟨n + nq, by simp⟩
      · have hn' : Gate.nameOk ws[k] = false := by simpa using hn
        have HF : Hid (Gate.asc ws = false) := Gate.up_not hlt (Gate.ascAt_name hlt hn')
        clear hn hc hup
        go_wp2
        go_quiet ((go_at_call 90; exact Calls.quiet_of_same (as_bool hn' (l1NameOk_any _ _ hsm))))
        go_wp2
        go_ret
        refine ⟨ret_bool HF.out.symm, ?_⟩
        obtain ⟨n, rfl⟩ := HW.out
        exact ⟨n + nq, by simp⟩
    · have HF : Hid (Gate.asc ws = true) := by
        have e : k = ws.length := by omega
        subst e; exact hup
      clear hw hup hwr
      go_wp2
      go_ret
      exact ⟨ret_bool HF.out.symm, HW.out⟩

end Go.Proofs.YtponiggfclcbgaaGreat
