import Derived.Test.YtbmhnkbcndbdcaaGreatM16
import Derived.Test.YtbmhnkbcndbdcaaGreatM09
import Derived.Test.YtbmhnkbcndbdcaaGreatM17
import Derived.Test.YtbmhnkbcndbdcaaGreatM15
namespace Go.Proofs.YtbmhnkbcndbdcaaGreat
open Go.RowKit
theorem blk5 (w : World) (o1 o2 o3 o4 o5 : Obj) : (((((w.alloc o1).alloc o2).alloc o3).alloc o4).alloc o5).heap[w.heap.size]? = some o1 ∧ (((((w.alloc o1).alloc o2).alloc o3).alloc o4).alloc o5).heap[w.heap.size + 1]? = some o2 ∧ (((((w.alloc o1).alloc o2).alloc o3).alloc o4).alloc o5).heap[w.heap.size + 1 + 1]? = some o3 ∧ (((((w.alloc o1).alloc o2).alloc o3).alloc o4).alloc o5).heap[w.heap.size + 1 + 1 + 1]? = some o4 ∧ (((((w.alloc o1).alloc o2).alloc o3).alloc o4).alloc o5).heap[w.heap.size + 1 + 1 + 1 + 1]? = some o5 := by
  obtain ⟨h1, h2, h3⟩ := blk3 w o1 o2 o3
  have e := two_blocks (((w.alloc o1).alloc o2).alloc o3) o4 o5
  have hb := below2' (((w.alloc o1).alloc o2).alloc o3) o4 o5
  refine ⟨(hb.block _ (by simp <;> omega)).trans h1, (hb.block _ (by simp <;> omega)).trans h2, (hb.block _ (by simp)).trans h3, ?_, ?_⟩
  · have := e.1; simpa using this
  · have := e.2; simpa using this
theorem below5 (w : World) (o1 o2 o3 o4 o5 : Obj) : Below w.heap.size w (((((w.alloc o1).alloc o2).alloc o3).alloc o4).alloc o5) := (below4 w o1 o2 o3 o4).alloc (by simp <;> omega) _

/-- An ask's lists in blocks of their own. -/
structure AkOwn (lo : Nat) (w : World) (x : Ak) (g0 g1 g2 : Nat) : Prop where
  l0 : lo ≤ g0
  l1 : lo ≤ g1
  l2 : lo ≤ g2
  vs : w.heap[g0]? = some (.cells (strArr x.vs) 9)
  hs : w.heap[g1]? = some (.cells (strArr x.hs) 9)
  r : w.heap[g2]? = some (.cells (intArr x.r.vs) 3)
theorem AkOwn.at {lo : Nat} {w w0 : World} {x : Ak} {g0 g1 g2 : Nat} {a0 a1 a2 : Option Addr} (h : AkOwn lo w x g0 g1 g2) (ha : AkAt w0 x a0 a1 a2) : AkAt w x (some ⟨g0, 0, none⟩) (some ⟨g1, 0, none⟩) (some ⟨g2, 0, none⟩) :=
  ⟨ha.small, heap_strs h.vs ha.vs.len ha.vs.small, heap_strs h.hs ha.hs.len ha.hs.small, heap_ints h.r ha.r.len⟩

set_option maxHeartbeats 4000000 in
theorem toGateAsk_own (x : Ak) (a0 a1 a2 : Option Addr) (c0 c1 c2 : Nat) (w : World) (hx : AkAt w x a0 a1 a2) (hf : x.Few) :
    Calls Tryz.prog 22 #[.agg (x.cells a0 a1 a2 c0 c1 c2)] w fun e w' => ∃ g0 g1 g2, e = .returned (.agg (x.cells (some ⟨g0, 0, none⟩) (some ⟨g1, 0, none⟩) (some ⟨g2, 0, none⟩) x.vs.length x.hs.length x.r.vs.length)) ∧ AkOwn w.heap.size w' x g0 g1 g2 ∧ Below w.heap.size w w' := by
  have HX : Hid (AkAt w x a0 a1 a2) := hx
  have HF : Hid x.Few := hf
  clear hx hf
  unfold Ak.cells
  go_enter Tryz.func22, Tryz.ntmps22
  go_wp2_with fail
  refine (toStringS_any _ _ _ _ (HX.out.vs.mono (below3' _ _ _ _)) HF.out.vs).mono ?_
  rintro e w1 ⟨rfl, rfl⟩
  go_wp2_with fail
  refine (toStringS_any _ _ _ _ (HX.out.hs.mono (below4 _ _ _ _ _)) HF.out.hs).mono ?_
  rintro e w2 ⟨rfl, rfl⟩
  go_wp2_with fail
  refine (toGateRule_any x.r a2 c2 _ (HX.out.r.mono (below5 _ _ _ _ _ _)) HF.out.r).mono ?_
  rintro e w3 ⟨bk, rfl, hlo, hhi, hbk, hb⟩
  have hlo' : w.heap.size + 1 + 1 + 1 + 1 + 1 ≤ bk := by simpa using hlo
  have hA := (hb.block w.heap.size (by simp <;> omega)).trans (blk5 w _ _ _ _ _).1
  have hR := (hb.block (w.heap.size + 1) (by simp <;> omega)).trans (blk5 w _ _ _ _ _).2.1
  have hO := (hb.block (w.heap.size + 1 + 1) (by simp <;> omega)).trans (blk5 w _ _ _ _ _).2.2.1
  have HV : Hid (w3.heap[w.heap.size + 1 + 1 + 1]? = _) := (hb.block (w.heap.size + 1 + 1 + 1) (by simp <;> omega)).trans (blk5 w _ _ _ _ _).2.2.2.1
  have HH : Hid (w3.heap[w.heap.size + 1 + 1 + 1 + 1]? = _) := (hb.block (w.heap.size + 1 + 1 + 1 + 1) (by simp)).trans (blk5 w _ _ _ _ _).2.2.2.2
  have HK : Hid (w3.heap[bk]? = some (.cells (intArr x.r.vs) 3)) := hbk
  have HB : Hid (Below w.heap.size w w3) := (below5 w _ _ _ _ _).trans (hb.mono (by simp <;> omega))
  have cA := fun j => cell_of_block (o := j) hA
  have cR := fun j => cell_of_block (o := j) hR
  have fR := fun j => frozen_of_block (o := j) hR
  have cO := fun j => cell_of_block (o := j) hO
  have fO := fun j => frozen_of_block (o := j) hO
  have hz1 : w.heap.size + 1 + 1 < w3.heap.size := (Array.getElem?_eq_some_iff.1 hO).1
  clear hb hbk hlo hA hR hO
  unfold Rl.cells
  go_wp2_with fail
  have n1 : bk ≠ w.heap.size + 1 := by omega
  have n2 : bk ≠ w.heap.size + 1 + 1 := by omega
  have n3 : w.heap.size + 1 + 1 + 1 ≠ w.heap.size + 1 := by omega
  have n4 : w.heap.size + 1 + 1 + 1 ≠ w.heap.size + 1 + 1 := by omega
  have n5 : w.heap.size + 1 + 1 + 1 + 1 ≠ w.heap.size + 1 := by omega
  have n6 : w.heap.size + 1 + 1 + 1 + 1 ≠ w.heap.size + 1 + 1 := by omega
  refine bodyPost_ret (v := .agg #[.string x.who, .int .i64 x.vb, .string x.kd, .string x.nm, .string x.tm, .slice (some ⟨w.heap.size + 1 + 1 + 1, 0, none⟩) x.vs.length x.vs.length, .slice (some ⟨w.heap.size + 1 + 1 + 1 + 1, 0, none⟩) x.hs.length x.hs.length, .int .i64 x.sn, .string x.hd, .string x.to, .slice (some ⟨bk, 0, none⟩) x.r.vs.length x.r.vs.length, .string x.r.kd, .string x.r.tm, .string x.r.px, .int .i64 x.no]) (by simp [results, Tryz.results22, go_sem, cR]) rfl ⟨_, _, _, rfl, ⟨by omega, by omega, by omega, ?_, ?_, ?_⟩, ?_⟩
  · simp only [setCell_other n3, setCell_other n4]; exact HV.out
  · simp only [setCell_other n5, setCell_other n6]; exact HH.out
  · simp only [setCell_other n1, setCell_other n2]; exact HK.out
  · have h3 : w.heap.size ≤ w.heap.size + 1 := by omega
    have h4 : w.heap.size ≤ w.heap.size + 1 + 1 := by omega
    have hB := HB.out
    iterate 15 refine Below.setCell ?_ h3 _
    iterate 5 refine Below.setCell ?_ h4 _
    exact hB

theorem toGateAsk_any (x : Ak) (a0 a1 a2 : Option Addr) (c0 c1 c2 : Nat) (w : World) (hx : AkAt w x a0 a1 a2) (hf : x.Few) :
    Calls Tryz.prog 22 #[.agg (x.cells a0 a1 a2 c0 c1 c2)] w fun e w' => ∃ b0 b1 b2, e = .returned (.agg (x.cells b0 b1 b2 x.vs.length x.hs.length x.r.vs.length)) ∧ AkAt w' x b0 b1 b2 ∧ Below w.heap.size w w' := by
  refine (toGateAsk_own x a0 a1 a2 c0 c1 c2 w hx hf).mono ?_
  rintro e w1 ⟨g0, g1, g2, rfl, h, hb⟩
  exact ⟨_, _, _, rfl, h.at hx, hb⟩

end Go.Proofs.YtbmhnkbcndbdcaaGreat

namespace Go.Proofs.YtbmhnkbcndbdcaaGreat
open Go.ChangeShapes Go.WideShapes Go.ChangeAt Go.RowKit

theorem Tryz.cellsAsk : Tryz.prog.cellsOf 32 = 15 := by kernel_rfl

section
variable {H : Type} {enc : TypeId × Value → H} {w : World} {base : Nat} {spare : Nat → Bool} {held : Bool}

theorem field_spanA {P : Program} {t : TypeId} {fs : Array Field} {fuel : Nat} {cs : List Value} {x : DataW H × List MemPlace} (ht : P.underlying t = some (.struct fs)) (h : DataW.trod enc P w base spare held fuel t cs = some x)
    (i tf off n : Nat) (hf : (fs[i]?).map (fun f => (f.type, f.offset)) = some (tf, off)) (hn : P.cellsOf tf = n) : ∃ m y, DataW.trod enc P w base spare held m tf ((cs.drop off).take n) = some y := by
  obtain ⟨f, hf1, hf2⟩ := Option.map_eq_some_iff.1 hf
  simp only [Prod.mk.injEq] at hf2
  obtain ⟨rfl, rfl⟩ := hf2
  subst hn
  exact field_read ht h i f hf1

theorem read_ask {fuel : Nat} {cs : List Value} {x : DataW H × List MemPlace} (h : DataW.trod enc Tryz.prog w base spare held fuel 32 cs = some x) :
    ∃ (k : Ak) (a0 a1 a2 : Option Addr) (q0 q1 q2 : Nat), cs = (k.cells a0 a1 a2 q0 q1 q2).toList ∧ AkAt w k a0 a1 a2 := by
  have hlen : cs.length = 15 := by
    obtain ⟨_, _, _, _, hl, _, _⟩ := DataW.trod_struct Tryz.underlying32 h
    rw [hl]; exact Tryz.cellsAsk
  match cs, hlen with
  | [c0, c1, c2, c3, c4, c5, c6, c7, c8, c9, c10, c11, c12, c13, c14], _ =>
    have hf := field_one Tryz.underlying32 h
    obtain ⟨_, _, f0⟩ := hf 0 9 0 c0 rfl Tryz.cellsString rfl
    obtain ⟨_, _, f1⟩ := hf 1 3 1 c1 rfl Tryz.cellsInt rfl
    obtain ⟨_, _, f2⟩ := hf 2 9 2 c2 rfl Tryz.cellsString rfl
    obtain ⟨_, _, f3⟩ := hf 3 9 3 c3 rfl Tryz.cellsString rfl
    obtain ⟨_, _, f4⟩ := hf 4 9 4 c4 rfl Tryz.cellsString rfl
    obtain ⟨_, _, f5⟩ := hf 5 27 5 c5 rfl Tryz.cellsStrings rfl
    obtain ⟨_, _, f6⟩ := hf 6 27 6 c6 rfl Tryz.cellsStrings rfl
    obtain ⟨_, _, f7⟩ := hf 7 3 7 c7 rfl Tryz.cellsInt rfl
    obtain ⟨_, _, f8⟩ := hf 8 9 8 c8 rfl Tryz.cellsString rfl
    obtain ⟨_, _, f9⟩ := hf 9 9 9 c9 rfl Tryz.cellsString rfl
    obtain ⟨_, _, f10⟩ := field_spanA Tryz.underlying32 h 10 30 10 4 rfl Tryz.cellsRule
    obtain ⟨_, _, f11⟩ := hf 11 3 14 c14 rfl Tryz.cellsInt rfl
    obtain ⟨who, e0, _, s0⟩ := DataW.trod_string Tryz.underlying9 f0
    obtain ⟨vb, e1, _, _⟩ := DataW.trod_int Tryz.underlying3 f1
    obtain ⟨kd, e2, _, s2⟩ := DataW.trod_string Tryz.underlying9 f2
    obtain ⟨nm, e3, _, s3⟩ := DataW.trod_string Tryz.underlying9 f3
    obtain ⟨tm, e4, _, s4⟩ := DataW.trod_string Tryz.underlying9 f4
    obtain ⟨avs, qvs, vs, e5, hvs⟩ := read_strs Tryz.underlying27 Tryz.underlying9 Tryz.cellsString f5
    obtain ⟨ahs, qhs, hs, e6, hhs⟩ := read_strs Tryz.underlying27 Tryz.underlying9 Tryz.cellsString f6
    obtain ⟨sn, e7, _, _⟩ := DataW.trod_int Tryz.underlying3 f7
    obtain ⟨hd, e8, _, s8⟩ := DataW.trod_string Tryz.underlying9 f8
    obtain ⟨to, e9, _, s9⟩ := DataW.trod_string Tryz.underlying9 f9
    obtain ⟨r, ar, qr, e10, hrs, hr⟩ := read_rule f10
    obtain ⟨no, e11, _, _⟩ := DataW.trod_int Tryz.underlying3 f11
    simp only [List.cons.injEq, and_true] at e0 e1 e2 e3 e4 e5 e6 e7 e8 e9 e11
    subst e0 e1 e2 e3 e4 e5 e6 e7 e8 e9 e11
    have er : [c10, c11, c12, c13] = (r.cells ar qr).toList := e10
    unfold Rl.cells at er
    simp only [List.cons.injEq, and_true] at er
    obtain ⟨g0, g1, g2, g3⟩ := er
    subst g0 g1 g2 g3
    exact ⟨⟨who, vb, kd, nm, tm, vs, hs, sn, hd, to, r, no⟩, avs, ahs, ar, qvs, qhs, qr, rfl, ⟨⟨s0, s2, s3, s4, s8, s9, hrs⟩, hvs, hhs, hr⟩⟩

end

end Go.Proofs.YtbmhnkbcndbdcaaGreat
