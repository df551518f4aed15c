import Derived.Test.YtponiggfclcbgaaGreatM07
import Derived.Test.YtponiggfclcbgaaGreatM01
import Derived.Test.YtponiggfclcbgaaGreatM06
import Derived.Laws.IdiomStrings
namespace Go.Proofs.YtponiggfclcbgaaGreat
open Go.RowKit

theorem two_blocks (w : World) (o1 o2 : Obj) : ((w.alloc o1).alloc o2).heap[w.heap.size]? = some o1 ∧ ((w.alloc o1).alloc o2).heap[w.heap.size + 1]? = some o2 := by
  refine ⟨(Below.heap_alloc _ _ _ (by simp)).trans (alloc_at _ _), ?_⟩
  have h := alloc_at (w.alloc o1) o2
  simpa using h

/-- A list of texts in a block of its own, from 'lo' on, is not touched by a write elsewhere. -/
theorem TxtsOwn.setCell {lo : Nat} {w : World} {a : Option Addr} {ws : List ByteArray} (h : TxtsOwn lo w a ws) (p : Addr) (hp : p.block < lo) (v : Value) : TxtsOwn lo (w.setCell p v) a ws := by
  rcases h with ⟨rfl, rfl⟩ | ⟨g, C, rfl, hg, hh, hc⟩
  · exact Or.inl ⟨rfl, rfl⟩
  · exact Or.inr ⟨g, C, rfl, hg, (Below.heap_setCell _ _ _ _ (by omega)).trans hh, hc⟩
theorem TxtsOwn.low {lo lo' : Nat} {w : World} {a : Option Addr} {ws : List ByteArray} (h : TxtsOwn lo w a ws) (hl : lo' ≤ lo) : TxtsOwn lo' w a ws := by
  rcases h with ⟨rfl, rfl⟩ | ⟨g, C, rfl, hg, hh, hc⟩
  · exact Or.inl ⟨rfl, rfl⟩
  · exact Or.inr ⟨g, C, rfl, by omega, hh, hc⟩

set_option maxHeartbeats 1000000 in
theorem copyObject_any (o : Ob) (b off b' off' cap cap' : Nat) (w : World) (ho : ObAt w o (some ⟨b, off, none⟩) (some ⟨b', off', none⟩)) (hl : o.vs.length ≤ 1048576) (hl' : o.hs.length ≤ 1048576) :
    Calls Tryz.prog 42 #[.agg #[.string o.kd, .string o.nm, .string o.tm, .slice (some ⟨b, off, none⟩) o.vs.length cap, .bool o.en, .slice (some ⟨b', off', none⟩) o.hs.length cap', .int .i64 o.vr]] w
      fun e w' => ∃ a dap a' dap' m, e = .returned (.agg #[.string o.kd, .string o.nm, .string o.tm, .slice a o.vs.length dap, .bool o.en, .slice a' o.hs.length dap', .int .i64 o.vr]) ∧ TxtsOwn w.heap.size w' a o.vs ∧ (∀ g, a = some g → g.block < m) ∧ w.heap.size ≤ m ∧ TxtsOwn m w' a' o.hs ∧ Below w.heap.size w w' := by
  go_enter Tryz.func42, Tryz.ntmps42
  go_wp2_with fail
  refine (copyTexts_any _ _ _ _ _ (ho.vals.mono (below2' _ _ _)) hl).mono ?_
  rintro e w1 ⟨v, rfl, hown1, hb1⟩
  obtain ⟨a, dap, rfl, ht1⟩ := TxtsOwn.of_row hown1
  have hk1 : w1.heap[w.heap.size]? = some (.cells #[.string o.kd, .string o.nm, .string o.tm, .slice (some ⟨b, off, none⟩) o.vs.length cap, .bool o.en, .slice (some ⟨b', off', none⟩) o.hs.length cap', .int .i64 o.vr] 30) := (hb1.block w.heap.size (by simp; omega)).trans (two_blocks _ _ _).1
  have hr1 : w1.heap[w.heap.size + 1]? = some (.cells #[.string ByteArray.empty, .string ByteArray.empty, .string ByteArray.empty, .slice none 0 0, .bool false, .slice none 0 0, .int .i64 0] 30) := (hb1.block (w.heap.size + 1) (by simp)).trans (two_blocks _ _ _).2
  have HT : Hid (TxtsOwn (w.heap.size + 1 + 1) w1 a o.vs) := by unfold Hid; simpa using ht1
  have hz1 : w.heap.size + 1 < w1.heap.size := by have := hb1.size; simp at this; omega
  have hB1 : Below w.heap.size w w1 := (below2' _ _ _).trans (hb1.mono (by simp; omega))
  have HK : Hid (w1.heap[w.heap.size]? = some (.cells #[.string o.kd, .string o.nm, .string o.tm, .slice (some ⟨b, off, none⟩) o.vs.length cap, .bool o.en, .slice (some ⟨b', off', none⟩) o.hs.length cap', .int .i64 o.vr] 30)) := hk1
  have HRR : Hid (w1.heap[w.heap.size + 1]? = some (.cells #[.string ByteArray.empty, .string ByteArray.empty, .string ByteArray.empty, .slice none 0 0, .bool false, .slice none 0 0, .int .i64 0] 30)) := hr1
  have hX1 : ∀ j, w1.cell? ⟨w.heap.size, j, none⟩ = (#[.string o.kd, .string o.nm, .string o.tm, .slice (some ⟨b, off, none⟩) o.vs.length cap, .bool o.en, .slice (some ⟨b', off', none⟩) o.hs.length cap', .int .i64 o.vr] : Array Value)[j]? := fun j => cell_of_block hk1
  have hF1 : ∀ j, w1.frozen? ⟨w.heap.size, j, none⟩ = false := fun j => frozen_of_block hk1
  clear hb1 hown1 ht1 hk1 hr1
  go_wp2_with fail
  have hB1' := hB1.setCell (p := ⟨w.heap.size, 3, none⟩) (Nat.le_refl _) (.slice a o.vs.length dap)
  refine (copyTexts_any _ _ _ _ _ (ho.holds.mono hB1') hl').mono ?_
  rintro e w2 ⟨v, rfl, hown2, hb2⟩
  obtain ⟨a', dap', rfl, ht2⟩ := TxtsOwn.of_row hown2
  have hk2 : w2.heap[w.heap.size]? = some (.cells #[.string o.kd, .string o.nm, .string o.tm, .slice a o.vs.length dap, .bool o.en, .slice (some ⟨b', off', none⟩) o.hs.length cap', .int .i64 o.vr] 30) := (hb2.block w.heap.size (by simp [World.setCell]; omega)).trans (heap_setCell_at HK.out _)
  have hr2 : w2.heap[w.heap.size + 1]? = some (.cells #[.string ByteArray.empty, .string ByteArray.empty, .string ByteArray.empty, .slice none 0 0, .bool false, .slice none 0 0, .int .i64 0] 30) := (hb2.block (w.heap.size + 1) (by simp [World.setCell]; omega)).trans ((Below.heap_setCell _ _ _ _ (by simp)).trans HRR.out)
  have HT2 : Hid (TxtsOwn (w.heap.size + 1 + 1) w2 a o.vs) := (HT.out.setCell _ (by simp; omega) _).mono hb2
  have HU2 : Hid (TxtsOwn w1.heap.size w2 a' o.hs) := by unfold Hid; simpa [World.setCell] using ht2
  have HM : Hid (∀ g, a = some g → g.block < w1.heap.size) := by
    intro g hg
    rcases HT.out with ⟨h0, _⟩ | ⟨g', C, h0, _, hh, _⟩
    · rw [h0] at hg; cases hg
    · rw [h0] at hg; cases hg; exact (Array.getElem?_eq_some_iff.1 hh).1
  have hz2 : w.heap.size + 1 < w2.heap.size := by have := hb2.size; simp [World.setCell] at this; omega
  have hB2 : Below w.heap.size w w2 := hB1'.trans (hb2.mono hB1'.size)
  have hX2 : ∀ j, w2.cell? ⟨w.heap.size, j, none⟩ = (#[.string o.kd, .string o.nm, .string o.tm, .slice a o.vs.length dap, .bool o.en, .slice (some ⟨b', off', none⟩) o.hs.length cap', .int .i64 o.vr] : Array Value)[j]? := fun j => cell_of_block hk2
  have hF2 : ∀ j, w2.frozen? ⟨w.heap.size, j, none⟩ = false := fun j => frozen_of_block hk2
  have hY2 : ∀ j, w2.cell? ⟨w.heap.size + 1, j, none⟩ = (#[.string ByteArray.empty, .string ByteArray.empty, .string ByteArray.empty, .slice none 0 0, .bool false, .slice none 0 0, .int .i64 0] : Array Value)[j]? := fun j => cell_of_block hr2
  have hG2 : ∀ j, w2.frozen? ⟨w.heap.size + 1, j, none⟩ = false := fun j => frozen_of_block hr2
  have hzz : w.heap.size ≤ w1.heap.size := by omega
  clear hb2 hown2 ht2 hX1 hF1 hB1 hB1' hk2 hr2
  go_wp2_with fail
  refine bodyPost_ret (v := (.agg #[.string o.kd, .string o.nm, .string o.tm, .slice a o.vs.length dap, .bool o.en, .slice a' o.hs.length dap', .int .i64 o.vr])) (by simp [results, Tryz.results42, go_sem, hY2]) rfl ⟨a, dap, a', dap', w1.heap.size, rfl, ((((((((HT2.out.setCell _ (by simp; omega) _).setCell _ (by simp) _).setCell _ (by simp) _).setCell _ (by simp) _).setCell _ (by simp) _).setCell _ (by simp) _).setCell _ (by simp) _).setCell _ (by simp) _).low (by omega), HM.out, hzz, ((((((((HU2.out.setCell _ (by simp; omega) _).setCell _ (by simp; omega) _).setCell _ (by simp; omega) _).setCell _ (by simp; omega) _).setCell _ (by simp; omega) _).setCell _ (by simp; omega) _).setCell _ (by simp; omega) _).setCell _ (by simp; omega) _), ((((((((hB2.setCell (Nat.le_refl _) _).setCell (by simp) _).setCell (by simp) _).setCell (by simp) _).setCell (by simp) _).setCell (by simp) _).setCell (by simp) _).setCell (by simp) _)⟩

end Go.Proofs.YtponiggfclcbgaaGreat

namespace Go.Proofs.YtponiggfclcbgaaGreat
open Go.RowKit

theorem strs_news {w : World} {b off : Nat} {ws : List ByteArray} (hw : StrsAt w (some ⟨b, off, none⟩) ws) : ∀ j u, (ws.map Value.string)[j]? = some u → w.cell? ((⟨b, off, none⟩ : Addr).add j) = some u := by
  intro j u hj
  have hlt : j < ws.length := by
    have := (List.getElem?_eq_some_iff.1 hj).1; simpa using this
  obtain ⟨b', off', he, hb, hc⟩ := hw.cells (by rintro rfl; simp at hlt)
  simp only [Option.some.injEq, Addr.mk.injEq] at he
  obtain ⟨rfl, rfl, _⟩ := he
  have h1 := hc j hlt
  have e1 : (⟨b, off, none⟩ : Addr).add j = ⟨b, off + j, none⟩ := by
    unfold Addr.add; split
    · rename_i h; subst h; simp
    · rfl
  rw [e1, h1]
  rw [List.getElem?_map, List.getElem?_eq_getElem hlt] at hj
  simpa using hj
theorem strs_one {ws : List ByteArray} : ∀ u ∈ ws.map Value.string, u.oneCell' = true := by
  intro u hu; simp only [List.mem_map] at hu; obtain ⟨s, _, rfl⟩ := hu; rfl
theorem below_three (w : World) (o1 o2 o3 : Obj) : Below w.heap.size w (((w.alloc o1).alloc o2).alloc o3) :=
  (((Below.refl _ _).alloc (Nat.le_refl _) _).alloc (by simp) _).alloc (by simp; omega) _
theorem three_third (w : World) (o1 o2 o3 : Obj) : (((w.alloc o1).alloc o2).alloc o3).heap[w.heap.size + 1 + 1]? = some o3 := by
  have h := alloc_at ((w.alloc o1).alloc o2) o3
  simpa using h
theorem three_first (w : World) (o1 o2 o3 : Obj) : (((w.alloc o1).alloc o2).alloc o3).heap[w.heap.size]? = some o1 := (Below.heap_alloc _ _ _ (by simp; omega)).trans (two_blocks _ _ _).1
theorem three_second (w : World) (o1 o2 o3 : Obj) : (((w.alloc o1).alloc o2).alloc o3).heap[w.heap.size + 1]? = some o2 := (Below.heap_alloc _ _ _ (by simp)).trans (two_blocks _ _ _).2

theorem grown_three {w w1 : World} {o1 o2 o3 : Obj} (hg : (((w.alloc o1).alloc o2).alloc o3).grownBy w1 (some (w.heap.size + 1 + 1))) :
    w1.heap[w.heap.size]? = some o1 ∧ w1.heap[w.heap.size + 1]? = some o2 ∧ Below w.heap.size w w1 ∧ w.heap.size + 1 + 1 < w1.heap.size := by
  refine ⟨(hg.block _ (by simp; omega) (by simp; try omega)).trans (three_first _ _ _ _), (hg.block _ (by simp) (by simp)).trans (three_second _ _ _ _), (below_three _ _ _ _).grown hg (below_three _ _ _ _).size (by intro k hk; simp at hk; omega), ?_⟩
  have := hg.size; simp at this; omega

theorem set_new (w : World) (p : Addr) (v : Value) (o3 : Obj) : ((w.setCell p v).alloc o3).heap[w.heap.size]? = some o3 := by
  have h := alloc_at (w.setCell p v) o3
  simpa [World.setCell] using h

theorem grown_one {w w1 w2 : World} {a : Value} {C1 C2 : Array Value} {t1 t2 : TypeId} {o3 : Obj} (hk : w1.heap[w.heap.size]? = some (.cells C1 t1)) (hr : w1.heap[w.heap.size + 1]? = some (.cells C2 t2)) (hB : Below w.heap.size w w1) (hz : w.heap.size + 1 + 1 < w1.heap.size)
    (hg : ((w1.setCell ⟨w.heap.size, 3, none⟩ a).alloc o3).grownBy w2 (some w1.heap.size)) :
    w2.heap[w.heap.size]? = some (.cells (C1.setIfInBounds 3 a) t1) ∧ w2.heap[w.heap.size + 1]? = some (.cells C2 t2) ∧ Below w.heap.size w w2 ∧ w1.heap.size < w2.heap.size := by
  have hs : (w1.setCell ⟨w.heap.size, 3, none⟩ a).heap.size = w1.heap.size := by simp [World.setCell]
  refine ⟨(hg.block _ (by simp [World.setCell]; omega) (by simp; omega)).trans ((Below.heap_alloc _ _ _ (by rw [hs]; omega)).trans (heap_setCell_at hk _)),
    (hg.block _ (by simp [World.setCell]; omega) (by simp; omega)).trans ((Below.heap_alloc _ _ _ (by rw [hs]; omega)).trans ((Below.heap_setCell _ _ _ _ (by simp)).trans hr)),
    ((hB.setCell (Nat.le_refl _) _).alloc (by rw [hs]; omega) _).grown hg (by simp [World.setCell]; omega) (by intro k hk; simp at hk; omega), ?_⟩
  have := hg.size; simp [World.setCell] at this; omega

theorem TxtsOwn.grown {lo : Nat} {w w2 : World} {a : Option Addr} {ws : List ByteArray} {row : Nat} (h : TxtsOwn lo w a ws) (hg : w.grownBy w2 (some row)) (hr : ∀ g, a = some g → g.block ≠ row) : TxtsOwn lo w2 a ws := by
  rcases h with ⟨rfl, rfl⟩ | ⟨g, C, rfl, hl, hh, hc⟩
  · exact Or.inl ⟨rfl, rfl⟩
  · exact Or.inr ⟨g, C, rfl, hl, (hg.block g (Array.getElem?_eq_some_iff.1 hh).1 (by have := hr _ rfl; simpa using this)).trans hh, hc⟩

theorem TxtsOwn.lt {lo : Nat} {w : World} {a : Option Addr} {ws : List ByteArray} (h : TxtsOwn lo w a ws) : ∀ g, a = some g → g.block < w.heap.size := by
  intro g hg
  rcases h with ⟨rfl, _⟩ | ⟨g', C, rfl, _, hh, _⟩
  · cases hg
  · cases hg; exact (Array.getElem?_eq_some_iff.1 hh).1

set_option maxRecDepth 20000 in
set_option maxHeartbeats 1000000 in
theorem l2Copy_any (o : Ob) (b off b' off' cap cap' : Nat) (w : World) (ho : ObAt w o (some ⟨b, off, none⟩) (some ⟨b', off', none⟩)) (hl : o.vs.length ≤ 1048576) (hl' : o.hs.length ≤ 1048576) :
    Calls Tryz.prog 36 #[.agg #[.string o.kd, .string o.nm, .string o.tm, .slice (some ⟨b, off, none⟩) o.vs.length cap, .bool o.en, .slice (some ⟨b', off', none⟩) o.hs.length cap', .int .i64 o.vr]] w
      fun e w' => ∃ a dap a' dap' m, e = .returned (.agg #[.string o.kd, .string o.nm, .string o.tm, .slice a o.vs.length dap, .bool o.en, .slice a' o.hs.length dap', .int .i64 o.vr]) ∧ TxtsOwn w.heap.size w' a o.vs ∧ (∀ g, a = some g → g.block < m) ∧ w.heap.size ≤ m ∧ TxtsOwn m w' a' o.hs ∧ Below w.heap.size w w' := by
  obtain ⟨i0, hi, hz0, hz1', hz2⟩ := info_parts Tryz.infoString
  go_enter Tryz.func36, Tryz.ntmps36
  go_wp2_with (first
    | (at_builtin; refine wpList_append_own _ rfl (.tmp 3) (.tmp 5) 24 rfl (w.heap.size + 1 + 1) 9 i0 (.string ByteArray.empty) 1 16 Tryz.underlying24 hi hz0 hz1' hz2 rfl (by decide) (.slice (some ⟨w.heap.size + 1 + 1, 0, none⟩) 0 0) 0 [] rfl ⟨rfl, .inr ⟨w.heap.size + 1 + 1, 0, #[], rfl, Nat.le_refl _, three_third _ _ _ _, Nat.le_refl _, by simp [maxLen], rfl, rfl⟩⟩ ⟨b, off, none⟩ o.vs.length cap (o.vs.map Value.string) rfl (by simp) (strs_news (ho.vals.mono (below_three _ _ _ _))) strs_one (by unfold maxLen; omega) (by omega) (by simp) ?_; intro v' w1 hown hgr _; simp only [Nat.zero_add, List.nil_append] at hown; obtain ⟨a, dap, rfl, ht1⟩ := TxtsOwn.of_row hown; obtain ⟨hk1, hr1, hB1, hz1⟩ := grown_three hgr; have hX1 : ∀ j, w1.cell? ⟨w.heap.size, j, none⟩ = (#[.string o.kd, .string o.nm, .string o.tm, .slice (some ⟨b, off, none⟩) o.vs.length cap, .bool o.en, .slice (some ⟨b', off', none⟩) o.hs.length cap', .int .i64 o.vr] : Array Value)[j]? := fun j => cell_of_block hk1; have hF1 : ∀ j, w1.frozen? ⟨w.heap.size, j, none⟩ = false := fun j => frozen_of_block hk1; have hzz1 : w.heap.size < w1.heap.size := (by omega); have hone := hB1.setCell (p := ⟨w.heap.size, 3, none⟩) (Nat.le_refl _) (.slice a o.vs.length dap); have HT1 : Hid (TxtsOwn (w.heap.size + 1 + 1) w1 a o.vs) := ht1; have HK1 : Hid (w1.heap[w.heap.size]? = some (.cells #[.string o.kd, .string o.nm, .string o.tm, .slice (some ⟨b, off, none⟩) o.vs.length cap, .bool o.en, .slice (some ⟨b', off', none⟩) o.hs.length cap', .int .i64 o.vr] 30)) := hk1; have HR1 : Hid (w1.heap[w.heap.size + 1]? = some (.cells #[.string ByteArray.empty, .string ByteArray.empty, .string ByteArray.empty, .slice none 0 0, .bool false, .slice none 0 0, .int .i64 0] 30)) := hr1; clear ht1 hk1 hr1; clear hown hgr)
    | (at_builtin; refine wpList_append_own _ rfl (.tmp 8) (.tmp 10) 24 rfl w1.heap.size 9 i0 (.string ByteArray.empty) 1 16 Tryz.underlying24 hi hz0 hz1' hz2 rfl (by decide) (.slice (some ⟨w1.heap.size, 0, none⟩) 0 0) 0 [] rfl ⟨rfl, .inr ⟨w1.heap.size, 0, #[], rfl, Nat.le_refl _, set_new _ _ _ _, Nat.le_refl _, (by simp [maxLen]), rfl, rfl⟩⟩ ⟨b', off', none⟩ o.hs.length cap' (o.hs.map Value.string) rfl (by simp) (strs_news (ho.holds.mono (hone.alloc hone.size _))) strs_one (by unfold maxLen; omega) (by omega) (by simp [World.setCell]) ?_; intro v'' w2 hown hgr _; simp only [Nat.zero_add, List.nil_append] at hown; obtain ⟨a', dap', rfl, ht2⟩ := TxtsOwn.of_row hown; obtain ⟨hk2, hr2, hB2, hz2'⟩ := grown_one HK1.out HR1.out hB1 hz1 hgr; have HU2 : Hid (TxtsOwn w1.heap.size w2 a' o.hs) := ht2; have HT2 : Hid (TxtsOwn (w.heap.size + 1 + 1) w2 a o.vs) := ((HT1.out.setCell _ (by simp; omega) _).mono ((Below.refl _ _).alloc (Nat.le_refl _) _)).grown hgr (fun g hg => Nat.ne_of_lt (HT1.out.lt g hg)); have hX2 : ∀ j, w2.cell? ⟨w.heap.size, j, none⟩ = (#[.string o.kd, .string o.nm, .string o.tm, .slice a o.vs.length dap, .bool o.en, .slice (some ⟨b', off', none⟩) o.hs.length cap', .int .i64 o.vr] : Array Value)[j]? := fun j => cell_of_block hk2; have hF2 : ∀ j, w2.frozen? ⟨w.heap.size, j, none⟩ = false := fun j => frozen_of_block hk2; have hY2 : ∀ j, w2.cell? ⟨w.heap.size + 1, j, none⟩ = (#[.string ByteArray.empty, .string ByteArray.empty, .string ByteArray.empty, .slice none 0 0, .bool false, .slice none 0 0, .int .i64 0] : Array Value)[j]? := fun j => cell_of_block hr2; have hG2 : ∀ j, w2.frozen? ⟨w.heap.size + 1, j, none⟩ = false := fun j => frozen_of_block hr2; have hzz2 : w.heap.size + 1 < w2.heap.size := (by omega); clear hown hgr ht2 hk2 hr2 hX1 hF1))
  refine bodyPost_ret (v := (.agg #[.string o.kd, .string o.nm, .string o.tm, .slice a o.vs.length dap, .bool o.en, .slice a' o.hs.length dap', .int .i64 o.vr])) (by simp [results, Tryz.results36, go_sem, hY2]) rfl ⟨a, dap, a', dap', w1.heap.size, rfl, ((((((((HT2.out.setCell _ (by simp; omega) _).setCell _ (by simp) _).setCell _ (by simp) _).setCell _ (by simp) _).setCell _ (by simp) _).setCell _ (by simp) _).setCell _ (by simp) _).setCell _ (by simp) _).low (by omega), HT1.out.lt, by omega, ((((((((HU2.out.setCell _ (by simp; omega) _).setCell _ (by simp; omega) _).setCell _ (by simp; omega) _).setCell _ (by simp; omega) _).setCell _ (by simp; omega) _).setCell _ (by simp; omega) _).setCell _ (by simp; omega) _).setCell _ (by simp; omega) _), ((((((((hB2.setCell (Nat.le_refl _) _).setCell (by simp) _).setCell (by simp) _).setCell (by simp) _).setCell (by simp) _).setCell (by simp) _).setCell (by simp) _).setCell (by simp) _)⟩

end Go.Proofs.YtponiggfclcbgaaGreat

namespace Go.Proofs.YtponiggfclcbgaaGreat
open Go.RowKit

/-- Blocks from lo up to hi keep their form: type, size, and the slices that lie in them; all others are as they were. -/
structure Marked (lo hi : Nat) (w w' : World) : Prop where
  os : w'.os = w.os
  tape : w'.tape = w.tape
  output : w'.output = w.output
  size : w.heap.size ≤ w'.heap.size
  out : ∀ k, k < w.heap.size → (k < lo ∨ hi ≤ k) → w'.heap[k]? = w.heap[k]?
  inn : ∀ (k : Nat) (C : Array Value) (t : TypeId), lo ≤ k → k < hi → w.heap[k]? = some (.cells C t) → ∃ C' : Array Value, w'.heap[k]? = some (.cells C' t) ∧ C'.size = C.size ∧ ∀ (j : Nat) a n c, C'[j]? = some (Value.slice a n c) ↔ C[j]? = some (Value.slice a n c)

theorem Marked.refl (lo hi : Nat) (w : World) : Marked lo hi w w := ⟨rfl, rfl, rfl, Nat.le_refl _, fun _ _ _ => rfl, fun _ C _ _ _ h => ⟨C, h, rfl, fun _ _ _ _ => Iff.rfl⟩⟩

theorem Marked.trans {lo hi : Nat} {a b c : World} (h : Marked lo hi a b) (k : Marked lo hi b c) : Marked lo hi a c :=
  ⟨k.os.trans h.os, k.tape.trans h.tape, k.output.trans h.output, Nat.le_trans h.size k.size,
    fun i hi ho => (k.out i (Nat.lt_of_lt_of_le hi h.size) ho).trans (h.out i hi ho),
    fun i C t h1 h2 hC => by
      obtain ⟨C1, hC1, hs1, hk1⟩ := h.inn i C t h1 h2 hC
      obtain ⟨C2, hC2, hs2, hk2⟩ := k.inn i C1 t h1 h2 hC1
      exact ⟨C2, hC2, hs2.trans hs1, fun j a n c => (hk2 j a n c).trans (hk1 j a n c)⟩⟩

theorem Marked.of_below {lo hi : Nat} {w w' : World} (h : Below w.heap.size w w') : Marked lo hi w w' :=
  ⟨h.os, h.tape, h.output, h.size, fun k hk _ => h.block k hk, fun k C _ _ _ hC => ⟨C, (h.block k (Array.getElem?_eq_some_iff.1 hC).1).trans hC, rfl, fun _ _ _ _ => Iff.rfl⟩⟩

theorem Marked.wide {lo hi lo' hi' : Nat} {w w' : World} (h : Marked lo hi w w') (h1 : lo' ≤ lo) (h2 : hi ≤ hi') : Marked lo' hi' w w' :=
  ⟨h.os, h.tape, h.output, h.size, fun k hk ho => h.out k hk (by omega), fun k C t g1 g2 hC => by
    by_cases hin : lo ≤ k ∧ k < hi
    · exact h.inn k C t hin.1 hin.2 hC
    · exact ⟨C, (h.out k (Array.getElem?_eq_some_iff.1 hC).1 (by omega)).trans hC, rfl, fun _ _ _ _ => Iff.rfl⟩⟩

theorem Marked.put {lo hi b j : Nat} {w w1 : World} {C : Array Value} {t : TypeId} (h : Marked lo hi w w1) (hlo : lo ≤ b) (hhi : b < hi) (hC : w.heap[b]? = some (.cells C t)) (hj : ∀ a n c, C[j]? ≠ some (Value.slice a n c)) (v : Value) (hv : ∀ a n c, v ≠ Value.slice a n c) : Marked lo hi w (w1.setCell ⟨b, j, none⟩ v) := by
  refine ⟨h.os, h.tape, h.output, by have := h.size; simpa [World.setCell] using this, fun k hk ho => ?_, fun k C0 t0 g1 g2 hC0 => ?_⟩
  · rw [Below.heap_setCell _ _ _ _ (by show k ≠ b; omega)]; exact h.out k hk ho
  · obtain ⟨C1, hC1, hs1, hk1⟩ := h.inn k C0 t0 g1 g2 hC0
    by_cases hkb : k = b
    · subst hkb
      rw [hC] at hC0
      simp only [Option.some.injEq, Obj.cells.injEq] at hC0
      obtain ⟨rfl, rfl, _⟩ := hC0
      refine ⟨C1.setIfInBounds j v, heap_setCell_at hC1 _, by simpa using hs1, fun i a n c => ?_⟩
      by_cases hij : j = i
      · subst hij
        refine ⟨fun h => ?_, fun h => absurd h (hj a n c)⟩
        exfalso
        rw [Array.getElem?_setIfInBounds] at h
        simp only [if_true] at h
        split at h
        · exact hv a n c (Option.some.inj h)
        · cases h
      · rw [Array.getElem?_setIfInBounds_ne hij]; exact hk1 i a n c
    · exact ⟨C1, (Below.heap_setCell _ _ _ _ (by show k ≠ b; exact hkb)).trans hC1, hs1, hk1⟩

theorem Marked.cell {lo hi : Nat} {w w' : World} (h : Marked lo hi w w') {p : Addr} (hp : p.block < w.heap.size) (ho : p.block < lo ∨ hi ≤ p.block) : w'.cell? p = w.cell? p := by
  unfold World.cell?; rw [h.out p.block hp ho]

/-- What lies outside is left. -/
theorem Marked.box {lo hi b : Nat} {w w' : World} {X : Array Value} (h : Marked lo hi w w') (hX : ∀ o, w.cell? ⟨b, o, none⟩ = X[o]?) (hb : b < w.heap.size) (ho : b < lo ∨ hi ≤ b) : ∀ o, w'.cell? ⟨b, o, none⟩ = X[o]? :=
  fun o => (h.cell (p := ⟨b, o, none⟩) hb ho).trans (hX o)

theorem Marked.txts {lo hi l : Nat} {w w' : World} {a : Option Addr} {ws : List ByteArray} (h : Marked lo hi w w') (ht : TxtsOwn l w a ws) (ho : ∀ g, a = some g → g.block < lo ∨ hi ≤ g.block) : TxtsOwn l w' a ws := by
  rcases ht with ⟨rfl, rfl⟩ | ⟨g, C, rfl, hg, hh, hc⟩
  · exact Or.inl ⟨rfl, rfl⟩
  · exact Or.inr ⟨g, C, rfl, hg, (h.out g (Array.getElem?_eq_some_iff.1 hh).1 (ho _ rfl)).trans hh, hc⟩

theorem Marked.below {lo hi B : Nat} {w w' : World} (h : Marked lo hi w w') (h1 : B ≤ lo) (h2 : B ≤ w.heap.size) : Below B w w' :=
  ⟨h.os, h.tape, h.output, h.size, fun k hk => h.out k (by omega) (Or.inl (by omega))⟩

namespace Gate
def digitTxt (n : Nat) : ByteArray := ⟨#[UInt8.ofNat (48 + n)]⟩
/-- A number's digits, the last ones laid already. -/
def digits (n : Nat) (acc : ByteArray) : ByteArray := if n = 0 then acc else digits (n / 10) (digitTxt (n % 10) ++ acc)
termination_by n
decreasing_by omega
theorem digits_zero (acc : ByteArray) : digits 0 acc = acc := by rw [digits]; rfl
theorem digits_pos {n : Nat} (h : 0 < n) (acc : ByteArray) : digits n acc = digits (n / 10) (digitTxt (n % 10) ++ acc) := by
  conv => lhs; rw [digits]
  rw [if_neg (by omega)]
def markTxt (k : Nat) : ByteArray := ⟨#[109]⟩ ++ digits k ByteArray.empty
end Gate

theorem wrap_in (n : Int) (h : -9223372036854775808 ≤ n ∧ n ≤ 9223372036854775807) : wrap64 n = n := by unfold wrap64; omega

theorem wrap_div (n : Nat) (h : n < 9000000000000000000) : wrap64 ((n : Int) / 10) = ((n / 10 : Nat) : Int) := by
  rw [wrap_in _ ⟨by omega, by omega⟩]; omega

theorem big_pow {k : Nat} (h : k < 9000000000000000000) : k < 10 ^ 19 := Nat.lt_trans h (by decide)

theorem digit_less (n : Nat) (hn : 0 < n) (h : n < 9000000000000000000) : (intOf (.int .i64 (wrap64 ((n : Int) / 10)))).toNat < (intOf (.int .i64 (n : Int))).toNat := by
  rw [wrap_div n h]
  show (((n / 10 : Nat) : Int)).toNat < ((n : Nat) : Int).toNat
  rw [Int.toNat_natCast, Int.toNat_natCast]
  omega

theorem digit_val (n : Nat) : ((UInt8.ofNat (48 + n % 10)).toNat : Int) = 48 + (n : Int) % 10 := by
  rw [UInt8.toNat_ofNat', Nat.mod_eq_of_lt (by omega)]; omega

theorem conv_digit (w : World) (n : Nat) : (convert 44 9 (.slice (some ⟨w.heap.size, 0, none⟩) 1 1)).run Tryz.prog (w.alloc (.cells #[.int .u8 (48 + (n : Int) % 10)] 5)) = .ok (.string (Gate.digitTxt (n % 10))) (w.alloc (.cells #[.int .u8 (48 + (n : Int) % 10)] 5)) := by
  refine run_convert_bytes_back _ _ _ 5 ⟨w.heap.size, 0, none⟩ 1 [UInt8.ofNat (48 + n % 10)] Tryz.underlying44 Tryz.underlying5 Tryz.underlying9 (fun j hj => ?_)
  have e : j = 0 := by simp at hj; omega
  subst e
  rw [List.getElem_cons_zero, digit_val]
  have e2 : (⟨w.heap.size, 0, none⟩ : Addr).add 0 = ⟨w.heap.size, 0, none⟩ := rfl
  rw [e2, World.cell?_alloc_at (hn := rfl)]
  rfl

set_option maxRecDepth 20000 in
set_option maxHeartbeats 1000000 in
theorem markText_any (k : Nat) (w : World) (hk : 0 < k) (hk2 : k < 9000000000000000000) :
    Calls Tryz.prog 47 #[.int .i64 k] w fun e w' => e = .returned (.string (Gate.markTxt k)) ∧ Below w.heap.size w w' := by
  have hk0 : decide ((k : Int) ≤ 0) = false := by simp; omega
  go_enter Tryz.func47, Tryz.ntmps47
  go_wp2_with fail
  go_loopw [0, 3] (fun kv ov wr => ∃ (n : Nat) (acc : ByteArray) (d : Nat), kv = .int .i64 n ∧ ov = .string acc ∧ n ≤ k ∧ n < 10 ^ d ∧ acc.size + d ≤ 19 ∧ Gate.digits n acc = Gate.digits k ByteArray.empty ∧ Below w.heap.size w wr) (fun kv _ _ => (intOf kv).toNat)
  case atStart => exact ⟨k, ByteArray.empty, 19, rfl, rfl, Nat.le_refl _, big_pow hk2, by simp, rfl, Below.refl _ _⟩
  case round =>
    obtain ⟨n, acc, d, rfl, rfl, hnk, hnd, had, hdig, hB⟩ := hrel
    have HF : Hid (n ≤ k ∧ n < 10 ^ d ∧ acc.size + d ≤ 19 ∧ Gate.digits n acc = Gate.digits k ByteArray.empty ∧ Below w.heap.size w wr) := ⟨hnk, hnd, had, hdig, hB⟩
    have HK : Hid (k < 9000000000000000000) := hk2
    have hacc : acc.size ≤ 19 := by omega
    clear hnk hnd had hdig hB hk2
    by_cases hn : 0 < n
    · have hn0 : decide ((n : Int) > 0) = true := by simp; omega
      have hcv := conv_digit wr n
      have hds : (Gate.digitTxt (n % 10)).size = 1 := rfl
      go_wp2_with fail
      go_roundw
      case rel =>
        obtain ⟨hnk, hnd, had, hdig, hB⟩ := HF.out
        have hk2 := HK.out
        have hd0 : d ≠ 0 := by rintro rfl; simp at hnd; omega
        obtain ⟨e, rfl⟩ : ∃ e, d = e + 1 := ⟨d - 1, by omega⟩
        exact ⟨n / 10, Gate.digitTxt (n % 10) ++ acc, e, by rw [wrap_div n (by omega)], rfl, by omega, by rw [Nat.pow_succ] at hnd; omega, by rw [ByteArray.size_append, hds]; omega, by rw [← Gate.digits_pos hn]; exact hdig, hB.alloc hB.size _⟩
      case measure =>
        have hnk := HF.out.1
        have hk2 := HK.out
        exact digit_less n hn (by omega)
    · have hn0 : decide ((n : Int) > 0) = false := by simp; omega
      go_wp2_with fail
      go_ret
      have e0 : n = 0 := by omega
      obtain ⟨_, _, _, hdig, hB⟩ := HF.out
      subst e0
      rw [Gate.digits_zero] at hdig
      exact ⟨by unfold Gate.markTxt; rw [← hdig]; rfl, hB⟩

end Go.Proofs.YtponiggfclcbgaaGreat
