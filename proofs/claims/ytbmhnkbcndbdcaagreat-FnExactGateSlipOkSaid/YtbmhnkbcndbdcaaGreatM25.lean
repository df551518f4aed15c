import Derived.Test.YtbmhnkbcndbdcaaGreatM19
import Derived.Test.YtbmhnkbcndbdcaaGreatM20
import Derived.Laws.Tables
import Derived.Laws.CopyOwn
import Derived.Deep.MidRow
namespace Go.Proofs.YtbmhnkbcndbdcaaGreat
open Go.RowKit

theorem calls_world {P : Program} {f : FuncId} {args : Array Value} {w : World} {Q : Ending → World → Prop} (R : World → Prop) (hR : R w) (h : ∀ w', R w' → Calls P f args w' Q) : Calls P f args w Q := h w hR
theorem wpList_store_row {P : Program} {ops : Array Oper} {rest : List Oper} {op : Oper} {a : Act} {w : World} {Q : Exit → Act → World → Prop} (hgd : op.guard = none) (ty : TypeId) (x y : Operand) (ho : op.op = .store ty x y)
    (g : Nat) (t : TypeId) (old cells : Array Value) (hx : a.eval x = .pointer (some ⟨g, 0, none⟩)) (hy : a.eval y = .agg cells) (hg : w.heap[g]? = some (.cells old t)) (hi : (P.info? ty).map (·.size) = some cells.size) (hs : old.size = cells.size) (h1 : cells.all (·.oneCell') = true)
    (h : wpList P ops Q rest (a.put op.dst undef) (w.setRow g cells)) : wpList P ops Q (op :: rest) a w :=
  wpList_plain hgd fun _ hK => by
    unfold Oper.wp execOp
    simp only [ho, hx, hy, Instr.storeAt, Instr.sureAddr, Sem.run_bind, Sem.run_pure, Result.andThen_ok, run_storeVar_row w g t ty old cells hg hi hs h1]
    exact hK _ _ h
theorem size_setCellS (w : World) (p : Addr) (v : Value) : (w.setCell p v).heap.size = w.heap.size := by simp
theorem askStore_block {w : World} {b : Nat} {z0 z1 z2 z3 z4 z5 z6 z7 z8 z9 z10 z11 z12 z13 z14 z15 z16 z17 : Value} {v1 v2 v3 v4 v5 v6 v7 v8 v9 v10 v11 v12 v13 v14 v15 v16 : Value} {t : TypeId} (h : w.heap[b]? = some (.cells #[z0, z1, z2, z3, z4, z5, z6, z7, z8, z9, z10, z11, z12, z13, z14, z15, z16, z17] t)) : (((((((((((((((((w.setCell ⟨b, 1, none⟩ v1).setCell ⟨b, 2, none⟩ v2).setCell ⟨b, 3, none⟩ v3).setCell ⟨b, 4, none⟩ v4).setCell ⟨b, 5, none⟩ v5).setCell ⟨b, 6, none⟩ v6).setCell ⟨b, 7, none⟩ v7).setCell ⟨b, 8, none⟩ v8).setCell ⟨b, 9, none⟩ v9).setCell ⟨b, 10, none⟩ v10).setCell ⟨b, 11, none⟩ v11).setCell ⟨b, 12, none⟩ v12).setCell ⟨b, 13, none⟩ v13).setCell ⟨b, 14, none⟩ v14).setCell ⟨b, 15, none⟩ v15).setCell ⟨b, 16, none⟩ v16)).heap[b]? = some (.cells #[z0, v1, v2, v3, v4, v5, v6, v7, v8, v9, v10, v11, v12, v13, v14, v15, v16, z17] t) := by
  rw [heap_setCell_at (heap_setCell_at (heap_setCell_at (heap_setCell_at (heap_setCell_at (heap_setCell_at (heap_setCell_at (heap_setCell_at (heap_setCell_at (heap_setCell_at (heap_setCell_at (heap_setCell_at (heap_setCell_at (heap_setCell_at (heap_setCell_at (heap_setCell_at h v1) v2) v3) v4) v5) v6) v7) v8) v9) v10) v11) v12) v13) v14) v15) v16]; simp
theorem askStore_other {w : World} {b b' : Nat} {v1 v2 v3 v4 v5 v6 v7 v8 v9 v10 v11 v12 v13 v14 v15 v16 : Value} {o : Obj} (h : b' ≠ b) (ho : w.heap[b']? = some o) : (((((((((((((((((w.setCell ⟨b, 1, none⟩ v1).setCell ⟨b, 2, none⟩ v2).setCell ⟨b, 3, none⟩ v3).setCell ⟨b, 4, none⟩ v4).setCell ⟨b, 5, none⟩ v5).setCell ⟨b, 6, none⟩ v6).setCell ⟨b, 7, none⟩ v7).setCell ⟨b, 8, none⟩ v8).setCell ⟨b, 9, none⟩ v9).setCell ⟨b, 10, none⟩ v10).setCell ⟨b, 11, none⟩ v11).setCell ⟨b, 12, none⟩ v12).setCell ⟨b, 13, none⟩ v13).setCell ⟨b, 14, none⟩ v14).setCell ⟨b, 15, none⟩ v15).setCell ⟨b, 16, none⟩ v16)).heap[b']? = some o := by
  simp only [setCell_other h]; exact ho

set_option maxRecDepth 20000 in
set_option maxHeartbeats 4000000 in
theorem toGateSlip_any (s : Sl) (a0 a1 a2 a3 : Option Addr) (c0 c1 c2 c3 : Nat) (w : World) (hx : SlAt w s a0 a1 a2 a3) (hf : s.Few) :
    Calls Tryz.prog 8 #[.agg (s.cells a0 a1 a2 a3 c0 c1 c2 c3)] w fun e w' => ∃ b0 b1 b2 b3, e = .returned (.agg (s.cells b0 b1 b2 b3 s.x.vs.length s.x.hs.length s.x.r.vs.length s.ws.length)) ∧ SlAt w' s b0 b1 b2 b3 ∧ Below w.heap.size w w' := by
  have HX : Hid (SlAt w s a0 a1 a2 a3) := hx
  have HF : Hid s.Few := hf
  clear hx hf
  unfold Sl.cells
  go_enter Tryz.func8, Tryz.ntmps8
  go_wp2_with fail
  refine (toGateAsk_own s.x a0 a1 a2 c0 c1 c2 _ (HX.out.x.mono (below3' _ _ _ _)) HF.out.x).mono ?_
  rintro e w3 ⟨g0, g1, g2, rfl, hown, hb⟩
  have l0 : w.heap.size + 1 + 1 + 1 ≤ g0 := by simpa using hown.l0
  have l1 : w.heap.size + 1 + 1 + 1 ≤ g1 := by simpa using hown.l1
  have l2 : w.heap.size + 1 + 1 + 1 ≤ g2 := by simpa using hown.l2
  have HV : Hid (w3.heap[g0]? = some (.cells (strArr s.x.vs) 9)) := hown.vs
  have HH : Hid (w3.heap[g1]? = some (.cells (strArr s.x.hs) 9)) := hown.hs
  have HI : Hid (w3.heap[g2]? = some (.cells (intArr s.x.r.vs) 3)) := hown.r
  have hA := (hb.block w.heap.size (by simp <;> omega)).trans (blk3 w _ _ _).1
  have hR := (hb.block (w.heap.size + 1) (by simp)).trans (blk3 w _ _ _).2.1
  have hO := (hb.block (w.heap.size + 1 + 1) (by simp)).trans (blk3 w _ _ _).2.2
  have HB : Hid (Below w.heap.size w w3) := (below3' w _ _ _).trans (hb.mono (by simp <;> omega))
  have HBl : Hid (_ ∧ _ ∧ _) := ⟨hA, hR, hO⟩
  have cA := fun j => cell_of_block (o := j) hA
  have cO := fun j => cell_of_block (o := j) hO
  have fO := fun j => frozen_of_block (o := j) hO
  have hz1 : w.heap.size + 1 + 1 < w3.heap.size := (Array.getElem?_eq_some_iff.1 hO).1
  clear hb hown hA hR hO
  unfold Ak.cells
  go_wp2_with fail
  clear cA cO fO
  have h4 : w.heap.size ≤ w.heap.size + 1 + 1 := by omega
  refine calls_world (fun W => W.heap.size = w3.heap.size ∧ W.heap[w.heap.size]? = some (.cells #[.string s.dr, .string s.x.who, .int .i64 s.x.vb, .string s.x.kd, .string s.x.nm, .string s.x.tm, .slice a0 s.x.vs.length c0, .slice a1 s.x.hs.length c1, .int .i64 s.x.sn, .string s.x.hd, .string s.x.to, .slice a2 s.x.r.vs.length c2, .string s.x.r.kd, .string s.x.r.tm, .string s.x.r.px, .int .i64 s.x.no, .int .i64 s.gv, .slice a3 s.ws.length c3] 35) ∧ W.heap[w.heap.size + 1]? = some (.cells #[.string ByteArray.empty, .string ByteArray.empty, .int .i64 0, .string ByteArray.empty, .string ByteArray.empty, .string ByteArray.empty, .slice none 0 0, .slice none 0 0, .int .i64 0, .string ByteArray.empty, .string ByteArray.empty, .slice none 0 0, .string ByteArray.empty, .string ByteArray.empty, .string ByteArray.empty, .int .i64 0, .int .i64 0, .slice none 0 0] 50) ∧ W.heap[w.heap.size + 1 + 1]? = some (.cells #[.string s.dr, .string s.x.who, .int .i64 s.x.vb, .string s.x.kd, .string s.x.nm, .string s.x.tm, .slice (some ⟨g0, 0, none⟩) s.x.vs.length s.x.vs.length, .slice (some ⟨g1, 0, none⟩) s.x.hs.length s.x.hs.length, .int .i64 s.x.sn, .string s.x.hd, .string s.x.to, .slice (some ⟨g2, 0, none⟩) s.x.r.vs.length s.x.r.vs.length, .string s.x.r.kd, .string s.x.r.tm, .string s.x.r.px, .int .i64 s.x.no, .int .i64 s.gv, .slice none 0 0] 50) ∧ W.heap[g0]? = some (.cells (strArr s.x.vs) 9) ∧ W.heap[g1]? = some (.cells (strArr s.x.hs) 9) ∧ W.heap[g2]? = some (.cells (intArr s.x.r.vs) 3) ∧ Below w.heap.size w W) ?_ ?_
  · refine ⟨by simp only [size_setCellS], askStore_other (by omega) HBl.out.1, askStore_other (by omega) HBl.out.2.1, askStore_block HBl.out.2.2, askStore_other (by omega) HV.out, askStore_other (by omega) HH.out, askStore_other (by omega) HI.out, ?_⟩
    have HB4 := HB.out
    iterate 16 refine Below.setCell ?_ h4 _
    exact HB4
  clear HB HBl HV HH HI
  rintro W4 ⟨z4, hA4, hR4, hO4, hV4, hH4, hI4, hB4⟩
  refine (toGateWantS_any _ _ s.ws _ (HX.out.ws.mono hB4) HF.out.ws).mono ?_
  rintro e w5 ⟨rfl, hown, hb⟩
  have zz : w3.heap.size ≤ w5.heap.size := Nat.le_trans (Nat.le_of_eq z4.symm) hb.size
  have hR := (hb.block (w.heap.size + 1) (by omega)).trans hR4
  have hO := (hb.block (w.heap.size + 1 + 1) (by omega)).trans hO4
  have HV5 : Hid (w5.heap[g0]? = some (.cells (strArr s.x.vs) 9)) := (hb.block g0 (Array.getElem?_eq_some_iff.1 hV4).1).trans hV4
  have HH5 : Hid (w5.heap[g1]? = some (.cells (strArr s.x.hs) 9)) := (hb.block g1 (Array.getElem?_eq_some_iff.1 hH4).1).trans hH4
  have HI5 : Hid (w5.heap[g2]? = some (.cells (intArr s.x.r.vs) 3)) := (hb.block g2 (Array.getElem?_eq_some_iff.1 hI4).1).trans hI4
  have HB5 : Hid (Below w.heap.size w w5) := hB4.trans (hb.mono hB4.size)
  obtain ⟨lo, lor⟩ := hown
  have HO5 : Hid (WtsOwn w3.heap.size w5 W4.heap.size s.ws s.ws.length) := ⟨by omega, lor⟩
  have hR6 := (setCell_other (w := w5) (o := 17) (v := .slice (some ⟨W4.heap.size, 0, none⟩) s.ws.length s.ws.length) (by omega : w.heap.size + 1 ≠ w.heap.size + 1 + 1)).trans hR
  have hO6 : (w5.setCell ⟨w.heap.size + 1 + 1, 17, none⟩ (.slice (some ⟨W4.heap.size, 0, none⟩) s.ws.length s.ws.length)).heap[w.heap.size + 1 + 1]? = some (.cells #[.string s.dr, .string s.x.who, .int .i64 s.x.vb, .string s.x.kd, .string s.x.nm, .string s.x.tm, .slice (some ⟨g0, 0, none⟩) s.x.vs.length s.x.vs.length, .slice (some ⟨g1, 0, none⟩) s.x.hs.length s.x.hs.length, .int .i64 s.x.sn, .string s.x.hd, .string s.x.to, .slice (some ⟨g2, 0, none⟩) s.x.r.vs.length s.x.r.vs.length, .string s.x.r.kd, .string s.x.r.tm, .string s.x.r.px, .int .i64 s.x.no, .int .i64 s.gv, .slice (some ⟨W4.heap.size, 0, none⟩) s.ws.length s.ws.length] 50) := by rw [heap_setCell_at hO]; simp
  have hW6 : (w5.setCell ⟨w.heap.size + 1 + 1, 17, none⟩ (.slice (some ⟨W4.heap.size, 0, none⟩) s.ws.length s.ws.length)) = w5.setCell ⟨w.heap.size + 1 + 1, 17, none⟩ (.slice (some ⟨W4.heap.size, 0, none⟩) s.ws.length s.ws.length) := rfl
  have HR6 : Hid ((w5.setCell ⟨w.heap.size + 1 + 1, 17, none⟩ (.slice (some ⟨W4.heap.size, 0, none⟩) s.ws.length s.ws.length)).heap[w.heap.size + 1]? = _) := hR6
  have HO6 : Hid ((w5.setCell ⟨w.heap.size + 1 + 1, 17, none⟩ (.slice (some ⟨W4.heap.size, 0, none⟩) s.ws.length s.ws.length)).heap[w.heap.size + 1 + 1]? = _) := hO6
  have HW6 : Hid (∀ b, b ≠ w.heap.size + 1 + 1 → (w5.setCell ⟨w.heap.size + 1 + 1, 17, none⟩ (.slice (some ⟨W4.heap.size, 0, none⟩) s.ws.length s.ws.length)).heap[b]? = w5.heap[b]?) := fun b hb => setCell_other hb
  have cO := fun j => cell_of_block (o := j) hO
  have fO := fun j => frozen_of_block (o := j) hO
  have hz5 : w.heap.size + 1 + 1 < w5.heap.size := Nat.lt_of_lt_of_le hz1 zz
  have hz4 : w.heap.size + 1 + 1 < W4.heap.size := by omega
  clear hb lo lor hR hO hA4 hR4 hO4 hV4 hH4 hI4 hB4 zz z4 hR6 hO6 hW6
  rename_i K1 hK1 K0 hK0
  have HK1 : Hid (∀ a w, _ → K1 a w) := hK1
  clear hK1
  go_wp2_with fail
  refine HK1.out _ _ ?_
  clear HK1
  refine wp_seq (wp_region_list ?_)
  refine wpList_load_mid rfl 50 (.tmp 3) rfl (w.heap.size + 1 + 1) 0 rfl (#[.string s.dr, .string s.x.who, .int .i64 s.x.vb, .string s.x.kd, .string s.x.nm, .string s.x.tm, .slice (some ⟨g0, 0, none⟩) s.x.vs.length s.x.vs.length, .slice (some ⟨g1, 0, none⟩) s.x.hs.length s.x.hs.length, .int .i64 s.x.sn, .string s.x.hd, .string s.x.to, .slice (some ⟨g2, 0, none⟩) s.x.r.vs.length s.x.r.vs.length, .string s.x.r.kd, .string s.x.r.tm, .string s.x.r.px, .int .i64 s.x.no, .int .i64 s.gv, .slice (some ⟨W4.heap.size, 0, none⟩) s.ws.length s.ws.length] : Array Value).toList _ (fun j v hv => by rw [Nat.zero_add, cell_of_block HO6.out]; simpa using hv) Tryz.underlying50 rfl (by kernel_rfl) ?_
  refine wpList_store_row rfl 50 (.tmp 2) (.tmp 18) rfl (w.heap.size + 1) 50 _ #[.string s.dr, .string s.x.who, .int .i64 s.x.vb, .string s.x.kd, .string s.x.nm, .string s.x.tm, .slice (some ⟨g0, 0, none⟩) s.x.vs.length s.x.vs.length, .slice (some ⟨g1, 0, none⟩) s.x.hs.length s.x.hs.length, .int .i64 s.x.sn, .string s.x.hd, .string s.x.to, .slice (some ⟨g2, 0, none⟩) s.x.r.vs.length s.x.r.vs.length, .string s.x.r.kd, .string s.x.r.tm, .string s.x.r.px, .int .i64 s.x.no, .int .i64 s.gv, .slice (some ⟨W4.heap.size, 0, none⟩) s.ws.length s.ws.length] rfl rfl HR6.out (by kernel_rfl) rfl (by simp [Value.oneCell']) ?_
  refine wpList_nil ?_
  refine wp_ret ?_
  have HK6 : ∀ b, b ≠ w.heap.size + 1 → b ≠ w.heap.size + 1 + 1 → (World.setRow (w5.setCell ⟨w.heap.size + 1 + 1, 17, none⟩ (.slice (some ⟨W4.heap.size, 0, none⟩) s.ws.length s.ws.length)) (w.heap.size + 1) #[.string s.dr, .string s.x.who, .int .i64 s.x.vb, .string s.x.kd, .string s.x.nm, .string s.x.tm, .slice (some ⟨g0, 0, none⟩) s.x.vs.length s.x.vs.length, .slice (some ⟨g1, 0, none⟩) s.x.hs.length s.x.hs.length, .int .i64 s.x.sn, .string s.x.hd, .string s.x.to, .slice (some ⟨g2, 0, none⟩) s.x.r.vs.length s.x.r.vs.length, .string s.x.r.kd, .string s.x.r.tm, .string s.x.r.px, .int .i64 s.x.no, .int .i64 s.gv, .slice (some ⟨W4.heap.size, 0, none⟩) s.ws.length s.ws.length]).heap[b]? = w5.heap[b]? := fun b h1 h2 => by rw [setRow_other _ _ _ _ h1]; exact HW6.out b h2
  have m1 : g0 ≠ w.heap.size + 1 := by omega
  have m2 : g0 ≠ w.heap.size + 1 + 1 := by omega
  have m3 : g1 ≠ w.heap.size + 1 := by omega
  have m4 : g1 ≠ w.heap.size + 1 + 1 := by omega
  have m5 : g2 ≠ w.heap.size + 1 := by omega
  have m6 : g2 ≠ w.heap.size + 1 + 1 := by omega
  have m7 : W4.heap.size ≠ w.heap.size + 1 := by omega
  have m8 : W4.heap.size ≠ w.heap.size + 1 + 1 := by omega
  refine bodyPost_ret (v := .agg #[.string s.dr, .string s.x.who, .int .i64 s.x.vb, .string s.x.kd, .string s.x.nm, .string s.x.tm, .slice (some ⟨g0, 0, none⟩) s.x.vs.length s.x.vs.length, .slice (some ⟨g1, 0, none⟩) s.x.hs.length s.x.hs.length, .int .i64 s.x.sn, .string s.x.hd, .string s.x.to, .slice (some ⟨g2, 0, none⟩) s.x.r.vs.length s.x.r.vs.length, .string s.x.r.kd, .string s.x.r.tm, .string s.x.r.px, .int .i64 s.x.no, .int .i64 s.gv, .slice (some ⟨W4.heap.size, 0, none⟩) s.ws.length s.ws.length]) (results_cell_row Tryz.results8 _ _ (w.heap.size + 1) 50 #[.string s.dr, .string s.x.who, .int .i64 s.x.vb, .string s.x.kd, .string s.x.nm, .string s.x.tm, .slice (some ⟨g0, 0, none⟩) s.x.vs.length s.x.vs.length, .slice (some ⟨g1, 0, none⟩) s.x.hs.length s.x.hs.length, .int .i64 s.x.sn, .string s.x.hd, .string s.x.to, .slice (some ⟨g2, 0, none⟩) s.x.r.vs.length s.x.r.vs.length, .string s.x.r.kd, .string s.x.r.tm, .string s.x.r.px, .int .i64 s.x.no, .int .i64 s.gv, .slice (some ⟨W4.heap.size, 0, none⟩) s.ws.length s.ws.length] _ _ rfl (setRow_heap _ _ _ #[.string s.dr, .string s.x.who, .int .i64 s.x.vb, .string s.x.kd, .string s.x.nm, .string s.x.tm, .slice (some ⟨g0, 0, none⟩) s.x.vs.length s.x.vs.length, .slice (some ⟨g1, 0, none⟩) s.x.hs.length s.x.hs.length, .int .i64 s.x.sn, .string s.x.hd, .string s.x.to, .slice (some ⟨g2, 0, none⟩) s.x.r.vs.length s.x.r.vs.length, .string s.x.r.kd, .string s.x.r.tm, .string s.x.r.px, .int .i64 s.x.no, .int .i64 s.gv, .slice (some ⟨W4.heap.size, 0, none⟩) s.ws.length s.ws.length] _ _ HR6.out) Tryz.underlying50 rfl (by kernel_rfl)) rfl ⟨_, _, _, _, rfl, ⟨HX.out.dr, ⟨HX.out.x.small, ?_, ?_, ?_⟩, ?_⟩, ?_⟩
  · exact heap_strs ((HK6 g0 m1 m2).trans HV5.out) HX.out.x.vs.len HX.out.x.vs.small
  · exact heap_strs ((HK6 g1 m3 m4).trans HH5.out) HX.out.x.hs.len HX.out.x.hs.small
  · exact heap_ints ((HK6 g2 m5 m6).trans HI5.out) HX.out.x.r.len
  · refine WtsOwn.at (lo := w3.heap.size) ⟨HO5.out.low, ?_⟩ HX.out.ws.small HX.out.ws.len
    obtain ⟨C, hC, hr⟩ := HO5.out.rows
    exact ⟨C, (HK6 W4.heap.size m7 m8).trans hC, hr⟩
  · exact below_setRow (Below.setCell HB5.out h4 _) (by omega) _

end Go.Proofs.YtbmhnkbcndbdcaaGreat

namespace Go.Proofs.YtbmhnkbcndbdcaaGreat
open Go.ChangeShapes Go.WideShapes Go.ChangeAt Go.RowKit

theorem Tryz.cellsWant : Tryz.prog.cellsOf 86 = 3 := by kernel_rfl
theorem Tryz.cellsWants : Tryz.prog.cellsOf 33 = 1 := by kernel_rfl
theorem Tryz.cellsSlip : Tryz.prog.cellsOf 35 = 18 := by kernel_rfl

section
variable {H : Type} {enc : TypeId × Value → H} {w : World} {base : Nat} {spare : Nat → Bool} {held : Bool}

theorem read_want {fuel : Nat} {cs : List Value} {x : DataW H × List MemPlace} (h : DataW.trod enc Tryz.prog w base spare held fuel 86 cs = some x) :
    ∃ m : Wt, cs = m.cells.toList ∧ m.Small := by
  have hlen : cs.length = 3 := by
    obtain ⟨_, _, _, _, hl, _, _⟩ := DataW.trod_struct Tryz.underlying86 h
    rw [hl]; exact Tryz.cellsWant
  match cs, hlen with
  | [c0, c1, c2], _ =>
    have hf := field_one Tryz.underlying86 h
    obtain ⟨_, _, f0⟩ := hf 0 9 0 c0 rfl Tryz.cellsString rfl
    obtain ⟨_, _, f1⟩ := hf 1 9 1 c1 rfl Tryz.cellsString rfl
    obtain ⟨_, _, f2⟩ := hf 2 3 2 c2 rfl Tryz.cellsInt rfl
    obtain ⟨x0, e0, _, s0⟩ := DataW.trod_string Tryz.underlying9 f0
    obtain ⟨x1, e1, _, s1⟩ := DataW.trod_string Tryz.underlying9 f1
    obtain ⟨x2, e2, _, _⟩ := DataW.trod_int Tryz.underlying3 f2
    simp only [List.cons.injEq, and_true] at e0 e1 e2
    subst e0 e1 e2
    exact ⟨⟨x0, x1, x2⟩, rfl, s0, s1⟩

theorem read_wants {fuel : Nat} {cs : List Value} {x : DataW H × List MemPlace} (h : DataW.trod enc Tryz.prog w base spare held fuel 33 cs = some x) :
    ∃ a cap ms, cs = [.slice a (List.length ms) cap] ∧ WtsAt w a ms := by
  obtain ⟨a, len, cap, rfl, hm, hr⟩ := read_rows Tryz.underlying33 Tryz.cellsWant (by omega) h
  rcases Nat.eq_zero_or_pos len with h0 | hp
  · subst h0
    exact ⟨a, cap, [], rfl, ⟨by simp [maxLen], fun i h => absurd h (by simp), fun h => absurd rfl h⟩⟩
  · obtain ⟨b, off, rfl, hb, hrow⟩ := hr hp
    have hf : ∀ i, i < len → ∃ m : Wt, m.Small ∧ ∀ j, j < 3 → w.cell? ⟨b, off + i * 3 + j, none⟩ = m.cells[j]? := by
      intro i hi
      obtain ⟨es, n, y, hel, hcell, hy⟩ := hrow i hi
      obtain ⟨m, rfl, hs⟩ := read_want hy
      exact ⟨m, hs, fun j hj => by rw [hcell j hj]; simp⟩
    obtain ⟨ms, hl, hms⟩ := list_of len hf
    exact ⟨_, cap, ms, by rw [hl], ⟨by omega, fun i hi => (hms i hi).1, fun _ => ⟨b, off, rfl, hb, fun i hi => (hms i hi).2⟩⟩⟩

theorem read_slip {fuel : Nat} {cs : List Value} {x : DataW H × List MemPlace} (h : DataW.trod enc Tryz.prog w base spare held fuel 35 cs = some x) :
    ∃ (k : Sl) (a0 a1 a2 a3 : Option Addr) (q0 q1 q2 q3 : Nat), cs = (k.cells a0 a1 a2 a3 q0 q1 q2 q3).toList ∧ SlAt w k a0 a1 a2 a3 := by
  have hlen : cs.length = 18 := by
    obtain ⟨_, _, _, _, hl, _, _⟩ := DataW.trod_struct Tryz.underlying35 h
    rw [hl]; exact Tryz.cellsSlip
  match cs, hlen with
  | [d0, c0, c1, c2, c3, c4, c5, c6, c7, c8, c9, c10, c11, c12, c13, c14, d2, d3], _ =>
    have hf := field_one Tryz.underlying35 h
    obtain ⟨_, _, f0⟩ := hf 0 9 0 d0 rfl Tryz.cellsString rfl
    obtain ⟨_, _, f1⟩ := field_spanA Tryz.underlying35 h 1 32 1 15 rfl Tryz.cellsAsk
    obtain ⟨_, _, f2⟩ := hf 2 3 16 d2 rfl Tryz.cellsInt rfl
    obtain ⟨_, _, f3⟩ := hf 3 33 17 d3 rfl Tryz.cellsWants rfl
    obtain ⟨dr, e0, _, s0⟩ := DataW.trod_string Tryz.underlying9 f0
    obtain ⟨x, a0, a1, a2, q0, q1, q2, e1, hx⟩ := read_ask f1
    obtain ⟨gv, e2, _, _⟩ := DataW.trod_int Tryz.underlying3 f2
    obtain ⟨a3, q3, ws, e3, hw⟩ := read_wants f3
    simp only [List.cons.injEq, and_true] at e0 e2 e3
    subst e0 e2 e3
    have er : [c0, c1, c2, c3, c4, c5, c6, c7, c8, c9, c10, c11, c12, c13, c14] = (x.cells a0 a1 a2 q0 q1 q2).toList := e1
    unfold Ak.cells at er
    simp only [List.cons.injEq, and_true] at er
    obtain ⟨g0, g1, g2, g3, g4, g5, g6, g7, g8, g9, g10, g11, g12, g13, g14⟩ := er
    subst g0 g1 g2 g3 g4 g5 g6 g7 g8 g9 g10 g11 g12 g13 g14
    exact ⟨⟨dr, x, gv, ws⟩, a0, a1, a2, a3, q0, q1, q2, q3, rfl, ⟨s0, hx, hw⟩⟩

end

end Go.Proofs.YtbmhnkbcndbdcaaGreat
