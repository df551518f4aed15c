import Derived.Test.YtliggnanlfbkiaaGreatM08
import Derived.Test.YtliggnanlfbkiaaGreatRows
import Derived.Test.YtliggnanlfbkiaaGreatM02
import Derived.WalkKit
import Derived.Maps.AppendAt
import Derived.MapKept
namespace Go.Proofs.YtliggnanlfbkiaaGreat
open Go.RowKit

theorem lt_of_some {w : World} {b : Nat} {o : Obj} (h : w.heap[b]? = some o) : b < w.heap.size := (Array.getElem?_eq_some_iff.1 h).1
theorem own_weakenms {lo lo' : Nat} {w : World} {bo : Nat} {ms : List Mnd} {k : Nat} (h : MndsOwn lo w bo ms k) (hl : lo' ≤ lo) : MndsOwn lo' w bo ms k := ⟨Nat.le_trans hl h.low, h.rows⟩
theorem own_weakents {ty : TypeId} {lo lo' : Nat} {w : World} {bo : Nat} {ts : List Tm} {k : Nat} (h : TmsOwn ty lo w bo ts k) (hl : lo' ≤ lo) : TmsOwn ty lo' w bo ts k := ⟨Nat.le_trans hl h.low, h.rows⟩

set_option maxHeartbeats 2000000 in
theorem toGateLaw_own (l : Lw) (a b c : Option Addr) (ca cb cc : Nat) (w : World) (hl : LwAt w l a b c) (hf : l.Few) :
    Calls Tryz.prog 6 #[.agg (l.cells a b c ca cb cc)] w fun e w' => ∃ lo a' b' c', e = .returned (.agg (l.cells (some ⟨a', 0, none⟩) (some ⟨b', 0, none⟩) (some ⟨c', 0, none⟩) l.ss.length l.ms.length l.ts.length)) ∧ w.heap.size ≤ lo ∧ LwOwn lo w' l a' b' c' ∧ Below w.heap.size w w' := by
  have HL : Hid (LwAt w l a b c) := hl
  have HF : Hid l.Few := hf
  clear hl hf
  unfold Lw.cells
  go_enter Tryz.func6, Tryz.ntmps6
  go_wp2_with fail
  have k0 := blk3 w (.cells (lC l a b c ca cb cc) 26) (.cells #[.slice none 0 0, .slice none 0 0, .slice none 0 0] 33) (.cells #[.slice none 0 0, .slice none 0 0, .slice none 0 0] 33)
  have hB0 := below3' w (.cells (lC l a b c ca cb cc) 26) (.cells #[.slice none 0 0, .slice none 0 0, .slice none 0 0] 33) (.cells #[.slice none 0 0, .slice none 0 0, .slice none 0 0] 33)
  obtain ⟨W0, hW0⟩ : ∃ W0, W0 = ((w.alloc (.cells (lC l a b c ca cb cc) 26)).alloc (.cells #[.slice none 0 0, .slice none 0 0, .slice none 0 0] 33)).alloc (.cells #[.slice none 0 0, .slice none 0 0, .slice none 0 0] 33) := ⟨_, rfl⟩
  have hz0 : w.heap.size + 1 + 1 < W0.heap.size := by rw [hW0]; simp
  rw [← hW0] at k0 hB0 ⊢
  clear hW0
  have HLO : Hid (w.heap.size + 1 + 1 < W0.heap.size) := hz0
  refine (toGateShapeS_any _ _ l.ss _ (HL.out.ss.mono hB0) HF.out.ss.1 HF.out.ss.2).mono ?_
  rintro e w1 ⟨rfl, hown, hb⟩
  obtain ⟨a', ha'⟩ : ∃ a', a' = W0.heap.size := ⟨_, rfl⟩
  have HO1 : Hid (ShpsOwn W0.heap.size w1 a' l.ss l.ss.length) := by rw [ha']; exact hown
  have hX1 := (hb.block _ (by omega)).trans k0.1
  have hR1 := (hb.block _ (by omega)).trans k0.2.1
  have hO1 := (hb.block _ hz0).trans k0.2.2
  have HZ1 : Hid (W0.heap.size ≤ w1.heap.size) := hb.size
  have HB1 : Hid (Below w.heap.size w w1) := hB0.trans (hb.mono hB0.size)
  rw [← ha']
  clear hown hb k0 hB0 hz0 ha'
  have cO1 := fun j => cell_of_block (o := j) hO1
  have fO1 := fun j => frozen_of_block (o := j) hO1
  have HX1' : Hid ((w1.setCell ⟨w.heap.size + 1 + 1, 0, none⟩ (.slice (some ⟨a', 0, none⟩) l.ss.length l.ss.length)).heap[w.heap.size]? = some (.cells (lC l a b c ca cb cc) 26)) := (setCell_other (by omega)).trans hX1
  have HR1' : Hid ((w1.setCell ⟨w.heap.size + 1 + 1, 0, none⟩ (.slice (some ⟨a', 0, none⟩) l.ss.length l.ss.length)).heap[w.heap.size + 1]? = some (.cells #[.slice none 0 0, .slice none 0 0, .slice none 0 0] 33)) := (setCell_other (by omega)).trans hR1
  have HO1' : Hid ((w1.setCell ⟨w.heap.size + 1 + 1, 0, none⟩ (.slice (some ⟨a', 0, none⟩) l.ss.length l.ss.length)).heap[w.heap.size + 1 + 1]? = some (.cells #[.slice (some ⟨a', 0, none⟩) l.ss.length l.ss.length, .slice none 0 0, .slice none 0 0] 33)) := heap_setCell_at hO1 _
  have HAB1 : Hid (Above W0.heap.size w1 (w1.setCell ⟨w.heap.size + 1 + 1, 0, none⟩ (.slice (some ⟨a', 0, none⟩) l.ss.length l.ss.length))) := Above.setCell HLO.out _
  have HBB1 : Hid (Below w.heap.size w (w1.setCell ⟨w.heap.size + 1 + 1, 0, none⟩ (.slice (some ⟨a', 0, none⟩) l.ss.length l.ss.length))) := HB1.out.setCell (by show w.heap.size ≤ w.heap.size + 1 + 1; omega) _
  have HZZ1 : Hid (W0.heap.size ≤ (w1.setCell ⟨w.heap.size + 1 + 1, 0, none⟩ (.slice (some ⟨a', 0, none⟩) l.ss.length l.ss.length)).heap.size) := by unfold Hid; rw [World.size_setCell]; exact HZ1.out
  clear hX1 hR1 hO1
  have cX1 := fun j => cell_of_block (o := j) HX1'.out
  have cR1 := fun j => cell_of_block (o := j) HR1'.out
  have fR1 := fun j => frozen_of_block (o := j) HR1'.out
  have cOO1 := fun j => cell_of_block (o := j) HO1'.out
  go_wp2_with fail
  refine (toGateMendS_any _ _ l.ms _ (HL.out.ms.mono HBB1.out) HF.out.ms).mono ?_
  rintro e w2 ⟨rfl, hown, hb⟩
  obtain ⟨b', hp'⟩ : ∃ b', b' = (w1.setCell ⟨w.heap.size + 1 + 1, 0, none⟩ (.slice (some ⟨a', 0, none⟩) l.ss.length l.ss.length)).heap.size := ⟨_, rfl⟩
  have HN2 : Hid (MndsOwn W0.heap.size w2 b' l.ms l.ms.length) := by rw [hp']; exact own_weakenms hown HZZ1.out
  have HAA2 : Hid (Above W0.heap.size w1 w2) := HAB1.out.trans (Above.below hb)
  have hX2 := (hb.block _ (lt_of_some HX1'.out)).trans HX1'.out
  have hR2 := (hb.block _ (lt_of_some HR1'.out)).trans HR1'.out
  have hO2 := (hb.block _ (lt_of_some HO1'.out)).trans HO1'.out
  have HZ2 : Hid (W0.heap.size ≤ w2.heap.size) := Nat.le_trans HZZ1.out hb.size
  have HB2 : Hid (Below w.heap.size w w2) := HBB1.out.trans (hb.mono HBB1.out.size)
  rw [← hp']
  clear hown hb hp' cX1 cR1 fR1 cOO1
  have cO2 := fun j => cell_of_block (o := j) hO2
  have fO2 := fun j => frozen_of_block (o := j) hO2
  have HX2' : Hid ((w2.setCell ⟨w.heap.size + 1 + 1, 1, none⟩ (.slice (some ⟨b', 0, none⟩) l.ms.length l.ms.length)).heap[w.heap.size]? = some (.cells (lC l a b c ca cb cc) 26)) := (setCell_other (by omega)).trans hX2
  have HR2' : Hid ((w2.setCell ⟨w.heap.size + 1 + 1, 1, none⟩ (.slice (some ⟨b', 0, none⟩) l.ms.length l.ms.length)).heap[w.heap.size + 1]? = some (.cells #[.slice none 0 0, .slice none 0 0, .slice none 0 0] 33)) := (setCell_other (by omega)).trans hR2
  have HO2' : Hid ((w2.setCell ⟨w.heap.size + 1 + 1, 1, none⟩ (.slice (some ⟨b', 0, none⟩) l.ms.length l.ms.length)).heap[w.heap.size + 1 + 1]? = some (.cells #[.slice (some ⟨a', 0, none⟩) l.ss.length l.ss.length, .slice (some ⟨b', 0, none⟩) l.ms.length l.ms.length, .slice none 0 0] 33)) := heap_setCell_at hO2 _
  have HAB2 : Hid (Above W0.heap.size w2 (w2.setCell ⟨w.heap.size + 1 + 1, 1, none⟩ (.slice (some ⟨b', 0, none⟩) l.ms.length l.ms.length))) := Above.setCell HLO.out _
  have HBB2 : Hid (Below w.heap.size w (w2.setCell ⟨w.heap.size + 1 + 1, 1, none⟩ (.slice (some ⟨b', 0, none⟩) l.ms.length l.ms.length))) := HB2.out.setCell (by show w.heap.size ≤ w.heap.size + 1 + 1; omega) _
  have HZZ2 : Hid (W0.heap.size ≤ (w2.setCell ⟨w.heap.size + 1 + 1, 1, none⟩ (.slice (some ⟨b', 0, none⟩) l.ms.length l.ms.length)).heap.size) := by unfold Hid; rw [World.size_setCell]; exact HZ2.out
  clear hX2 hR2 hO2
  have cX2 := fun j => cell_of_block (o := j) HX2'.out
  have cR2 := fun j => cell_of_block (o := j) HR2'.out
  have fR2 := fun j => frozen_of_block (o := j) HR2'.out
  have cOO2 := fun j => cell_of_block (o := j) HO2'.out
  go_wp2_with fail
  refine (toGateTeamS_any _ _ l.ts _ (HL.out.ts.mono HBB2.out) HF.out.ts).mono ?_
  rintro e w3 ⟨rfl, hown, hb⟩
  obtain ⟨c', hp'⟩ : ∃ c', c' = (w2.setCell ⟨w.heap.size + 1 + 1, 1, none⟩ (.slice (some ⟨b', 0, none⟩) l.ms.length l.ms.length)).heap.size := ⟨_, rfl⟩
  have HN3 : Hid (TmsOwn 66 W0.heap.size w3 c' l.ts l.ts.length) := by rw [hp']; exact own_weakents hown HZZ2.out
  have HAA3 : Hid (Above W0.heap.size w2 w3) := HAB2.out.trans (Above.below hb)
  have hX3 := (hb.block _ (lt_of_some HX2'.out)).trans HX2'.out
  have hR3 := (hb.block _ (lt_of_some HR2'.out)).trans HR2'.out
  have hO3 := (hb.block _ (lt_of_some HO2'.out)).trans HO2'.out
  have HZ3 : Hid (W0.heap.size ≤ w3.heap.size) := Nat.le_trans HZZ2.out hb.size
  have HB3 : Hid (Below w.heap.size w w3) := HBB2.out.trans (hb.mono HBB2.out.size)
  rw [← hp']
  clear hown hb hp' cX2 cR2 fR2 cOO2
  have cO3 := fun j => cell_of_block (o := j) hO3
  have fO3 := fun j => frozen_of_block (o := j) hO3
  have HX3' : Hid ((w3.setCell ⟨w.heap.size + 1 + 1, 2, none⟩ (.slice (some ⟨c', 0, none⟩) l.ts.length l.ts.length)).heap[w.heap.size]? = some (.cells (lC l a b c ca cb cc) 26)) := (setCell_other (by omega)).trans hX3
  have HR3' : Hid ((w3.setCell ⟨w.heap.size + 1 + 1, 2, none⟩ (.slice (some ⟨c', 0, none⟩) l.ts.length l.ts.length)).heap[w.heap.size + 1]? = some (.cells #[.slice none 0 0, .slice none 0 0, .slice none 0 0] 33)) := (setCell_other (by omega)).trans hR3
  have HO3' : Hid ((w3.setCell ⟨w.heap.size + 1 + 1, 2, none⟩ (.slice (some ⟨c', 0, none⟩) l.ts.length l.ts.length)).heap[w.heap.size + 1 + 1]? = some (.cells #[.slice (some ⟨a', 0, none⟩) l.ss.length l.ss.length, .slice (some ⟨b', 0, none⟩) l.ms.length l.ms.length, .slice (some ⟨c', 0, none⟩) l.ts.length l.ts.length] 33)) := heap_setCell_at hO3 _
  have HAB3 : Hid (Above W0.heap.size w3 (w3.setCell ⟨w.heap.size + 1 + 1, 2, none⟩ (.slice (some ⟨c', 0, none⟩) l.ts.length l.ts.length))) := Above.setCell HLO.out _
  have HBB3 : Hid (Below w.heap.size w (w3.setCell ⟨w.heap.size + 1 + 1, 2, none⟩ (.slice (some ⟨c', 0, none⟩) l.ts.length l.ts.length))) := HB3.out.setCell (by show w.heap.size ≤ w.heap.size + 1 + 1; omega) _
  have HZZ3 : Hid (W0.heap.size ≤ (w3.setCell ⟨w.heap.size + 1 + 1, 2, none⟩ (.slice (some ⟨c', 0, none⟩) l.ts.length l.ts.length)).heap.size) := by unfold Hid; rw [World.size_setCell]; exact HZ3.out
  clear hX3 hR3 hO3
  have cX3 := fun j => cell_of_block (o := j) HX3'.out
  have cR3 := fun j => cell_of_block (o := j) HR3'.out
  have fR3 := fun j => frozen_of_block (o := j) HR3'.out
  have cOO3 := fun j => cell_of_block (o := j) HO3'.out
  go_wp2_with fail
  refine bodyPost_ret (v := .agg #[.slice (some ⟨a', 0, none⟩) l.ss.length l.ss.length, .slice (some ⟨b', 0, none⟩) l.ms.length l.ms.length, .slice (some ⟨c', 0, none⟩) l.ts.length l.ts.length]) (by simp [results, Tryz.results6, go_sem, cR3]) rfl ⟨W0.heap.size, a', b', c', rfl, by have := HLO.out; omega, ?_, ?_⟩
  · have hlt1 : w.heap.size + 1 < W0.heap.size := by have := HLO.out; omega
    have hA3 : ∀ v0 v1 v2, Above W0.heap.size w3 ((((w3.setCell ⟨w.heap.size + 1 + 1, 2, none⟩ (.slice (some ⟨c', 0, none⟩) l.ts.length l.ts.length)).setCell ⟨w.heap.size + 1, 0, none⟩ v0).setCell ⟨w.heap.size + 1, 1, none⟩ v1).setCell ⟨w.heap.size + 1, 2, none⟩ v2) := fun v0 v1 v2 => HAB3.out.trans (((Above.setCell (p := ⟨w.heap.size + 1, 0, none⟩) hlt1 v0).trans (Above.setCell (p := ⟨w.heap.size + 1, 1, none⟩) hlt1 v1)).trans (Above.setCell (p := ⟨w.heap.size + 1, 2, none⟩) hlt1 v2))
    exact ⟨HO1.out.above ((HAA2.out.trans HAA3.out).trans (hA3 _ _ _)), HN2.out.above (HAA3.out.trans (hA3 _ _ _)), HN3.out.above (hA3 _ _ _)⟩
  · exact ((HBB3.out.setCell (Nat.le_succ _) _).setCell (Nat.le_succ _) _).setCell (Nat.le_succ _) _

theorem toGateLaw_any (l : Lw) (a b c : Option Addr) (ca cb cc : Nat) (w : World) (hl : LwAt w l a b c) (hf : l.Few) :
    Calls Tryz.prog 6 #[.agg (l.cells a b c ca cb cc)] w fun e w' => ∃ a' b' c', e = .returned (.agg (l.cells a' b' c' l.ss.length l.ms.length l.ts.length)) ∧ LwAt w' l a' b' c' ∧ Below w.heap.size w w' := by
  refine (toGateLaw_own l a b c ca cb cc w hl hf).mono ?_
  rintro e w' ⟨lo, a', b', c', he, _, ho, hb⟩
  exact ⟨_, _, _, he, ho.at hl.small, hb⟩

end Go.Proofs.YtliggnanlfbkiaaGreat

namespace Go.Proofs.YtliggnanlfbkiaaGreat
open Go.RowKit

theorem ownsRow_same {w w' : World} {base : Nat} {e : TypeId} {size : Nat} {v : Value} {n : Nat} {xs : List Value} (h : w.ownsRow base e size v n xs) (hb : ∀ g, v.ownBlock = some g → w'.heap[g]? = w.heap[g]?) : w'.ownsRow base e size v n xs := by
  obtain ⟨h0, h1 | ⟨g, cap, cur, rfl, h2, h3, h4⟩⟩ := h
  · exact ⟨h0, Or.inl h1⟩
  · exact ⟨h0, Or.inr ⟨g, cap, cur, rfl, h2, (hb g rfl).trans h3, h4⟩⟩

theorem ownsRow_later {w w' : World} {base : Nat} {e : TypeId} {size : Nat} {v : Value} {n : Nat} {xs : List Value} (h : w.ownsRow base e size v n xs) (hb : Below w.heap.size w w') : w'.ownsRow base e size v n xs :=
  ownsRow_same h fun g hg => hb.block g (h.lt g hg).2

theorem ownsRow_low {w : World} {base base' : Nat} {e : TypeId} {size : Nat} {v : Value} {n : Nat} {xs : List Value} (h : w.ownsRow base e size v n xs) (hb : base' ≤ base) : w.ownsRow base' e size v n xs := by
  obtain ⟨h0, h1 | ⟨g, cap, cur, rfl, h2, h3, h4⟩⟩ := h
  · exact ⟨h0, Or.inl h1⟩
  · exact ⟨h0, Or.inr ⟨g, cap, cur, rfl, Nat.le_trans hb h2, h3, h4⟩⟩

theorem one_news (w : World) (x : Value) (t : TypeId) : ∀ j u, [x][j]? = some u → (w.alloc (.cells #[x] t)).cell? ((⟨w.heap.size, 0, none⟩ : Addr).add j) = some u := by
  intro j u hj
  rcases j with _ | j
  · have e : (⟨w.heap.size, 0, none⟩ : Addr).add 0 = ⟨w.heap.size, 0, none⟩ := rfl
    rw [e, World.cell?_alloc_at (hn := rfl)]
    simpa using hj
  · simp at hj

theorem grown_block {w w1 : World} {row : Option Nat} {b : Nat} (hg : w.grownBy w1 row) (hb : b < w.heap.size) (h : ∀ g, row = some g → b ≠ g) : w1.heap[b]? = w.heap[b]? :=
  hg.block b hb (fun e => h b e.symm rfl)

/-- What an append of one new element leaves. -/
theorem grown_below {B : Nat} {w0 w w1 : World} {v x : Value} {t : TypeId} (h : Below B w0 w) (hB : B ≤ w.heap.size) (hg : (w.alloc (.cells #[x] t)).grownBy w1 v.ownBlock) (hr : ∀ k, v.ownBlock = some k → B ≤ k) : Below B w0 w1 :=
  (h.alloc hB _).grown hg (by simp; omega) hr

theorem Tryz.infoInt : (Tryz.prog.info? 3).map (fun i => (i.zero, i.size, i.bytes)) = some (some (.int .i64 0), 1, 8) := by kernel_rfl

theorem ownsRow_slice {w : World} {lo : Nat} {e : TypeId} {v : Value} {n : Nat} {xs : List Value} (h : w.ownsRow lo e 1 v n xs) : ∃ a cap, v = .slice a n cap := by
  obtain ⟨_, ⟨rfl, h0⟩ | ⟨b, cap, cur, rfl, _⟩⟩ := h
  · exact ⟨none, 0, by rw [h0]⟩
  · exact ⟨_, cap, rfl⟩

end Go.Proofs.YtliggnanlfbkiaaGreat

namespace Go.Proofs.YtliggnanlfbkiaaGreat
open Go.RowKit

theorem alloc_set (w : World) (o o' : Obj) : { (w.alloc o) with heap := (w.alloc o).heap.setIfInBounds w.heap.size o' } = w.alloc o' := by
  show ({ w with heap := (w.heap.push o).setIfInBounds w.heap.size o' } : World) = { w with heap := w.heap.push o' }
  congr 1
  apply Array.ext_getElem?
  intro i
  simp only [Array.getElem?_setIfInBounds, Array.getElem?_push, Array.size_push]
  by_cases h : w.heap.size = i
  · subst h; simp
  · rw [if_neg h, if_neg (fun e => h e.symm), if_neg (fun e => h e.symm)]

theorem alloc_at (w : World) (o : Obj) : (w.alloc o).heap[w.heap.size]? = some o := by
  show (w.heap.push o)[w.heap.size]? = some o
  simp

/-- A new key into a map that is the last block. -/
theorem run_update_last {P : Program} {mty kt et : TypeId} {d : TypeDesc} (hm : P.underlying mty = some (.map kt et)) (hd : P.underlying kt = some d) (key val : Value) (hk : MapKept.IsKey d key)
    (es : Array MapEntry) (clock : Nat) (hf : Instr.findNow d key es.toList 0 = some none) (w : World) :
    (Instr.mapUpdate mty (.map (some w.heap.size)) key val).run P (w.alloc (.map es clock)) = .ok () (w.alloc (.map (es.push ⟨key, val, clock⟩) (clock + 1))) := by
  have hb := alloc_at w (.map es clock)
  have hc := MapKept.run_checkKey (P := P) (w := w.alloc (.map es clock)) hd hk false 9999
  simp [Instr.mapUpdate, run_underlying hm, MapKept.run_getObj_map hb, hc, MapKept.run_findKey hd hf, MapKept.run_setObj_map _ hb, Result.andThen, ← alloc_set w (.map es clock) (.map (es.push ⟨key, val, clock⟩) (clock + 1))]

theorem run_lookup_hit {P : Program} {mty kt et : TypeId} {d : TypeDesc} (hm : P.underlying mty = some (.map kt et)) (hd : P.underlying kt = some d) (key val : Value) (hk : MapKept.IsKey d key)
    (es : Array MapEntry) (clock i : Nat) (hf : Instr.findNow d key es.toList 0 = some (some (i, val))) (w : World) (r : Nat) (hb : w.heap[r]? = some (.map es clock)) :
    (Instr.lookup mty (.map (some r)) key true).run P w = .ok (.tuple #[val, .bool true]) w := by
  have hc := MapKept.run_checkKey (P := P) (w := w) hd hk es.isEmpty 9999
  simp [Instr.lookup, run_underlying hm, MapKept.run_getObj_map hb, hc, MapKept.run_findKey hd hf, Result.andThen]

theorem run_lookup_miss {P : Program} {mty kt et : TypeId} {d : TypeDesc} (hm : P.underlying mty = some (.map kt et)) (hd : P.underlying kt = some d) (key z : Value) (hk : MapKept.IsKey d key)
    (es : Array MapEntry) (clock : Nat) (hf : Instr.findNow d key es.toList 0 = some none) (w : World) (hz : (zeroValue et).run P w = .ok z w) (r : Nat) (hb : w.heap[r]? = some (.map es clock)) :
    (Instr.lookup mty (.map (some r)) key true).run P w = .ok (.tuple #[z, .bool false]) w := by
  have hc := MapKept.run_checkKey (P := P) (w := w) hd hk es.isEmpty 9999
  simp [Instr.lookup, run_underlying hm, MapKept.run_getObj_map hb, hc, MapKept.run_findKey hd hf, hz, Result.andThen]

end Go.Proofs.YtliggnanlfbkiaaGreat
