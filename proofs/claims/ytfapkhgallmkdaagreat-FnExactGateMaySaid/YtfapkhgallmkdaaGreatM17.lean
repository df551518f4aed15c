import Derived.Test.YtfapkhgallmkdaaGreatM14
import Derived.Test.YtfapkhgallmkdaaGreatM04
import Derived.Deep.RegionHeld3
import Derived.Deep.OwnRows
import Derived.MapKept
import Derived.Test.YtfapkhgallmkdaaGreatM06
import Derived.Deep.QuietTactic
import Derived.BigQuiet
import Derived.Test.YtfapkhgallmkdaaGreatM15
namespace Go.Proofs.YtfapkhgallmkdaaGreat
open Go.RowKit
theorem lt_of_some {w : World} {b : Nat} {o : Obj} (h : w.heap[b]? = some o) : b < w.heap.size := (Array.getElem?_eq_some_iff.1 h).1
theorem zkc {lo lo' : Nat} {w : World} {bo : Nat} {ms : List Mnd} {k : Nat} (h : qQ lo w bo ms k) (hl : lo' <= lo) : qQ lo' w bo ms k := ⟨Nat.le_trans hl h.low, h.rows⟩
theorem zka {ty : TypeId} {lo lo' : Nat} {w : World} {bo : Nat} {ts : List Tm} {k : Nat} (h : jW ty lo w bo ts k) (hl : lo' <= lo) : jW ty lo' w bo ts k := ⟨Nat.le_trans hl h.low, h.rows⟩
set_option maxHeartbeats 2000000 in
theorem ziZ (l : Lw) (a b c : Option Addr) (ca cb cc : Nat) (w : World) (hl : qH w l a b c) (hf : l.Few) :
    Calls Tryz.prog 8 #[.agg (l.cells a b c ca cb cc)] w fun e w' => ∃ lo a' b' c', e = .returned (.agg (l.cells (some ⟨a', 0, none⟩) (some ⟨b', 0, none⟩) (some ⟨c', 0, none⟩) l.ss.length l.ms.length l.ts.length)) /\ w.heap.size <= lo /\ zjm lo w' l a' b' c' /\ Below w.heap.size w w' := by
  have HL : Hid (qH w l a b c) := hl
  have HF : Hid l.Few := hf
  clear hl hf
  unfold Lw.cells
  go_enter Tryz.func8, Tryz.ntmps8
  go_wp2_with fail
  have k0 := zoQ w (.cells (lC l a b c ca cb cc) 26) (.cells #[.slice none 0 0, .slice none 0 0, .slice none 0 0] 43) (.cells #[.slice none 0 0, .slice none 0 0, .slice none 0 0] 43)
  have hB0 := below3' w (.cells (lC l a b c ca cb cc) 26) (.cells #[.slice none 0 0, .slice none 0 0, .slice none 0 0] 43) (.cells #[.slice none 0 0, .slice none 0 0, .slice none 0 0] 43)
  obtain ⟨W0, hW0⟩ : ∃ W0, W0 = ((w.alloc (.cells (lC l a b c ca cb cc) 26)).alloc (.cells #[.slice none 0 0, .slice none 0 0, .slice none 0 0] 43)).alloc (.cells #[.slice none 0 0, .slice none 0 0, .slice none 0 0] 43) := ⟨_, rfl⟩
  have hz0 : w.heap.size + 1 + 1 < W0.heap.size := by rw [hW0]; simp
  rw [<- hW0] at k0 hB0 ⊢
  clear hW0
  have HLO : Hid (w.heap.size + 1 + 1 < W0.heap.size) := hz0
  refine (zfO _ _ l.ss _ (HL.out.ss.mono hB0) HF.out.ss.1 HF.out.ss.2).mono ?_
  rintro e w1 ⟨rfl, hown, hb⟩
  obtain ⟨a', ha'⟩ : ∃ a', a' = W0.heap.size := ⟨_, rfl⟩
  have HO1 : Hid (jB W0.heap.size w1 a' l.ss l.ss.length) := by rw [ha']; exact hown
  have hX1 := (hb.block _ (by omega)).trans k0.1
  have hR1 := (hb.block _ (by omega)).trans k0.2.1
  have hO1 := (hb.block _ hz0).trans k0.2.2
  have HZ1 : Hid (W0.heap.size <= w1.heap.size) := hb.size
  have HB1 : Hid (Below w.heap.size w w1) := hB0.trans (hb.mono hB0.size)
  rw [<- ha']
  clear hown hb k0 hB0 hz0 ha'
  have cO1 := fun j => cell_of_block (o := j) hO1
  have fO1 := fun j => zl (o := j) hO1
  have HX1' : Hid ((w1.setCell ⟨w.heap.size + 1 + 1, 0, none⟩ (.slice (some ⟨a', 0, none⟩) l.ss.length l.ss.length)).heap[w.heap.size]? = some (.cells (lC l a b c ca cb cc) 26)) := (zB (by omega)).trans hX1
  have HR1' : Hid ((w1.setCell ⟨w.heap.size + 1 + 1, 0, none⟩ (.slice (some ⟨a', 0, none⟩) l.ss.length l.ss.length)).heap[w.heap.size + 1]? = some (.cells #[.slice none 0 0, .slice none 0 0, .slice none 0 0] 43)) := (zB (by omega)).trans hR1
  have HO1' : Hid ((w1.setCell ⟨w.heap.size + 1 + 1, 0, none⟩ (.slice (some ⟨a', 0, none⟩) l.ss.length l.ss.length)).heap[w.heap.size + 1 + 1]? = some (.cells #[.slice (some ⟨a', 0, none⟩) l.ss.length l.ss.length, .slice none 0 0, .slice none 0 0] 43)) := zf hO1 _
  have HAB1 : Hid (yx W0.heap.size w1 (w1.setCell ⟨w.heap.size + 1 + 1, 0, none⟩ (.slice (some ⟨a', 0, none⟩) l.ss.length l.ss.length))) := yx.setCell HLO.out _
  have HBB1 : Hid (Below w.heap.size w (w1.setCell ⟨w.heap.size + 1 + 1, 0, none⟩ (.slice (some ⟨a', 0, none⟩) l.ss.length l.ss.length))) := HB1.out.setCell (by show w.heap.size <= w.heap.size + 1 + 1; omega) _
  have HZZ1 : Hid (W0.heap.size <= (w1.setCell ⟨w.heap.size + 1 + 1, 0, none⟩ (.slice (some ⟨a', 0, none⟩) l.ss.length l.ss.length)).heap.size) := by unfold Hid; rw [World.size_setCell]; exact HZ1.out
  clear hX1 hR1 hO1
  have cX1 := fun j => cell_of_block (o := j) HX1'.out
  have cR1 := fun j => cell_of_block (o := j) HR1'.out
  have fR1 := fun j => zl (o := j) HR1'.out
  have cOO1 := fun j => cell_of_block (o := j) HO1'.out
  go_wp2_with fail
  refine (zgQ _ _ l.ms _ (HL.out.ms.mono HBB1.out) HF.out.ms).mono ?_
  rintro e w2 ⟨rfl, hown, hb⟩
  obtain ⟨b', hp'⟩ : ∃ b', b' = (w1.setCell ⟨w.heap.size + 1 + 1, 0, none⟩ (.slice (some ⟨a', 0, none⟩) l.ss.length l.ss.length)).heap.size := ⟨_, rfl⟩
  have HN2 : Hid (qQ W0.heap.size w2 b' l.ms l.ms.length) := by rw [hp']; exact zkc hown HZZ1.out
  have HAA2 : Hid (yx W0.heap.size w1 w2) := HAB1.out.trans (yx.below hb)
  have hX2 := (hb.block _ (lt_of_some HX1'.out)).trans HX1'.out
  have hR2 := (hb.block _ (lt_of_some HR1'.out)).trans HR1'.out
  have hO2 := (hb.block _ (lt_of_some HO1'.out)).trans HO1'.out
  have HZ2 : Hid (W0.heap.size <= w2.heap.size) := Nat.le_trans HZZ1.out hb.size
  have HB2 : Hid (Below w.heap.size w w2) := HBB1.out.trans (hb.mono HBB1.out.size)
  rw [<- hp']
  clear hown hb hp' cX1 cR1 fR1 cOO1
  have cO2 := fun j => cell_of_block (o := j) hO2
  have fO2 := fun j => zl (o := j) hO2
  have HX2' : Hid ((w2.setCell ⟨w.heap.size + 1 + 1, 1, none⟩ (.slice (some ⟨b', 0, none⟩) l.ms.length l.ms.length)).heap[w.heap.size]? = some (.cells (lC l a b c ca cb cc) 26)) := (zB (by omega)).trans hX2
  have HR2' : Hid ((w2.setCell ⟨w.heap.size + 1 + 1, 1, none⟩ (.slice (some ⟨b', 0, none⟩) l.ms.length l.ms.length)).heap[w.heap.size + 1]? = some (.cells #[.slice none 0 0, .slice none 0 0, .slice none 0 0] 43)) := (zB (by omega)).trans hR2
  have HO2' : Hid ((w2.setCell ⟨w.heap.size + 1 + 1, 1, none⟩ (.slice (some ⟨b', 0, none⟩) l.ms.length l.ms.length)).heap[w.heap.size + 1 + 1]? = some (.cells #[.slice (some ⟨a', 0, none⟩) l.ss.length l.ss.length, .slice (some ⟨b', 0, none⟩) l.ms.length l.ms.length, .slice none 0 0] 43)) := zf hO2 _
  have HAB2 : Hid (yx W0.heap.size w2 (w2.setCell ⟨w.heap.size + 1 + 1, 1, none⟩ (.slice (some ⟨b', 0, none⟩) l.ms.length l.ms.length))) := yx.setCell HLO.out _
  have HBB2 : Hid (Below w.heap.size w (w2.setCell ⟨w.heap.size + 1 + 1, 1, none⟩ (.slice (some ⟨b', 0, none⟩) l.ms.length l.ms.length))) := HB2.out.setCell (by show w.heap.size <= w.heap.size + 1 + 1; omega) _
  have HZZ2 : Hid (W0.heap.size <= (w2.setCell ⟨w.heap.size + 1 + 1, 1, none⟩ (.slice (some ⟨b', 0, none⟩) l.ms.length l.ms.length)).heap.size) := by unfold Hid; rw [World.size_setCell]; exact HZ2.out
  clear hX2 hR2 hO2
  have cX2 := fun j => cell_of_block (o := j) HX2'.out
  have cR2 := fun j => cell_of_block (o := j) HR2'.out
  have fR2 := fun j => zl (o := j) HR2'.out
  have cOO2 := fun j => cell_of_block (o := j) HO2'.out
  go_wp2_with fail
  refine (zgz _ _ l.ts _ (HL.out.ts.mono HBB2.out) HF.out.ts).mono ?_
  rintro e w3 ⟨rfl, hown, hb⟩
  obtain ⟨c', hp'⟩ : ∃ c', c' = (w2.setCell ⟨w.heap.size + 1 + 1, 1, none⟩ (.slice (some ⟨b', 0, none⟩) l.ms.length l.ms.length)).heap.size := ⟨_, rfl⟩
  have HN3 : Hid (jW 119 W0.heap.size w3 c' l.ts l.ts.length) := by rw [hp']; exact zka hown HZZ2.out
  have HAA3 : Hid (yx W0.heap.size w2 w3) := HAB2.out.trans (yx.below hb)
  have hX3 := (hb.block _ (lt_of_some HX2'.out)).trans HX2'.out
  have hR3 := (hb.block _ (lt_of_some HR2'.out)).trans HR2'.out
  have hO3 := (hb.block _ (lt_of_some HO2'.out)).trans HO2'.out
  have HZ3 : Hid (W0.heap.size <= w3.heap.size) := Nat.le_trans HZZ2.out hb.size
  have HB3 : Hid (Below w.heap.size w w3) := HBB2.out.trans (hb.mono HBB2.out.size)
  rw [<- hp']
  clear hown hb hp' cX2 cR2 fR2 cOO2
  have cO3 := fun j => cell_of_block (o := j) hO3
  have fO3 := fun j => zl (o := j) hO3
  have HX3' : Hid ((w3.setCell ⟨w.heap.size + 1 + 1, 2, none⟩ (.slice (some ⟨c', 0, none⟩) l.ts.length l.ts.length)).heap[w.heap.size]? = some (.cells (lC l a b c ca cb cc) 26)) := (zB (by omega)).trans hX3
  have HR3' : Hid ((w3.setCell ⟨w.heap.size + 1 + 1, 2, none⟩ (.slice (some ⟨c', 0, none⟩) l.ts.length l.ts.length)).heap[w.heap.size + 1]? = some (.cells #[.slice none 0 0, .slice none 0 0, .slice none 0 0] 43)) := (zB (by omega)).trans hR3
  have HO3' : Hid ((w3.setCell ⟨w.heap.size + 1 + 1, 2, none⟩ (.slice (some ⟨c', 0, none⟩) l.ts.length l.ts.length)).heap[w.heap.size + 1 + 1]? = some (.cells #[.slice (some ⟨a', 0, none⟩) l.ss.length l.ss.length, .slice (some ⟨b', 0, none⟩) l.ms.length l.ms.length, .slice (some ⟨c', 0, none⟩) l.ts.length l.ts.length] 43)) := zf hO3 _
  have HAB3 : Hid (yx W0.heap.size w3 (w3.setCell ⟨w.heap.size + 1 + 1, 2, none⟩ (.slice (some ⟨c', 0, none⟩) l.ts.length l.ts.length))) := yx.setCell HLO.out _
  have HBB3 : Hid (Below w.heap.size w (w3.setCell ⟨w.heap.size + 1 + 1, 2, none⟩ (.slice (some ⟨c', 0, none⟩) l.ts.length l.ts.length))) := HB3.out.setCell (by show w.heap.size <= w.heap.size + 1 + 1; omega) _
  have HZZ3 : Hid (W0.heap.size <= (w3.setCell ⟨w.heap.size + 1 + 1, 2, none⟩ (.slice (some ⟨c', 0, none⟩) l.ts.length l.ts.length)).heap.size) := by unfold Hid; rw [World.size_setCell]; exact HZ3.out
  clear hX3 hR3 hO3
  have cX3 := fun j => cell_of_block (o := j) HX3'.out
  have cR3 := fun j => cell_of_block (o := j) HR3'.out
  have fR3 := fun j => zl (o := j) HR3'.out
  have cOO3 := fun j => cell_of_block (o := j) HO3'.out
  go_wp2_with fail
  refine bodyPost_ret (v := .agg #[.slice (some ⟨a', 0, none⟩) l.ss.length l.ss.length, .slice (some ⟨b', 0, none⟩) l.ms.length l.ms.length, .slice (some ⟨c', 0, none⟩) l.ts.length l.ts.length]) (by simp [results, Tryz.results8, go_sem, cR3]) rfl ⟨W0.heap.size, a', b', c', rfl, by have := HLO.out; omega, ?_, ?_⟩
  · have hlt1 : w.heap.size + 1 < W0.heap.size := by have := HLO.out; omega
    have hA3 : ∀ v0 v1 v2, yx W0.heap.size w3 ((((w3.setCell ⟨w.heap.size + 1 + 1, 2, none⟩ (.slice (some ⟨c', 0, none⟩) l.ts.length l.ts.length)).setCell ⟨w.heap.size + 1, 0, none⟩ v0).setCell ⟨w.heap.size + 1, 1, none⟩ v1).setCell ⟨w.heap.size + 1, 2, none⟩ v2) := fun v0 v1 v2 => HAB3.out.trans (((yx.setCell (p := ⟨w.heap.size + 1, 0, none⟩) hlt1 v0).trans (yx.setCell (p := ⟨w.heap.size + 1, 1, none⟩) hlt1 v1)).trans (yx.setCell (p := ⟨w.heap.size + 1, 2, none⟩) hlt1 v2))
    exact ⟨HO1.out.above ((HAA2.out.trans HAA3.out).trans (hA3 _ _ _)), HN2.out.above (HAA3.out.trans (hA3 _ _ _)), HN3.out.above (hA3 _ _ _)⟩
  · exact ((HBB3.out.setCell (Nat.le_succ _) _).setCell (Nat.le_succ _) _).setCell (Nat.le_succ _) _
theorem zcp (l : Lw) (a b c : Option Addr) (ca cb cc : Nat) (w : World) (hl : qH w l a b c) (hf : l.Few) :
    Calls Tryz.prog 8 #[.agg (l.cells a b c ca cb cc)] w fun e w' => ∃ a' b' c', e = .returned (.agg (l.cells a' b' c' l.ss.length l.ms.length l.ts.length)) /\ qH w' l a' b' c' /\ Below w.heap.size w w' := by
  refine (ziZ l a b c ca cb cc w hl hf).mono ?_
  rintro e w' ⟨lo, a', b', c', he, _, ho, hb⟩
  exact ⟨_, _, _, he, ho.at hl.small, hb⟩
end Go.Proofs.YtfapkhgallmkdaaGreat

namespace Go.Proofs.YtfapkhgallmkdaaGreat
open Go.RowKit
namespace Gate
def isSet (s : ByteArray) : Bool := !s.toList.isEmpty
def zL (m : Mnd) : List ByteArray := [m.wh, m.fr].filter isSet
def turns (m : Mnd) (s : Shp) (p : Nat) : Bool := decide (m.kd = s.kd) && decide (m.fd = (s.fs.getD p zaQ).nm)
end Gate
set_option maxRecDepth 20000 in
set_option maxHeartbeats 2000000 in
theorem zeb (m : Mnd) (w : World) :
    Calls Tryz.prog 175 #[.agg m.cells] w fun e w' => ∃ v, e = .returned v /\ w'.ownsRow w.heap.size 9 1 v (Gate.zL m).length ((Gate.zL m).map Value.string) /\ Below w.heap.size w w' := by
  unfold Mnd.cells
  obtain ⟨i0, hi, hz0, hz1', hz2⟩ := info_parts Tryz.zcX
  go_enter Tryz.func175, Tryz.ntmps175
  go_wp2_with fail
  go_loopw [3, 12] (fun nv0 iv wr => ∃ (k : Nat) (nv : Value), nv = nv0 /\ k <= 2 /\ iv = .int .i64 k /\ wr.ownsRow (w.heap.size + 2) 9 1 nv (([m.wh, m.fr].take k).filter Gate.isSet).length ((([m.wh, m.fr].take k).filter Gate.isSet).map Value.string) /\ wr.heap[w.heap.size + 1]? = some (.cells #[.string m.wh, .string m.fr] 9) /\ Below w.heap.size w wr) (fun _ iv _ => 2 - (intOf iv).toNat)
  case atStart => exact ⟨0, _, rfl, by omega, rfl, World.ownsRow_nil _ _ _ _, (zP _ _ _).2, zu _ _ _⟩
  case round =>
    obtain ⟨k, nv, hnv, hk, rfl, hown, hlit, hB⟩ := hrel
    subst hnv
    by_cases hlt : k < 2
    · have hltI : (k : Int) < 2 := by omega
      obtain ⟨x, hx, HT⟩ : ∃ x, (#[.string m.wh, .string m.fr] : Array Value)[k]? = some (.string x) /\ Hid (([m.wh, m.fr].take (k + 1)).filter Gate.isSet = ([m.wh, m.fr].take k).filter Gate.isSet ++ if Gate.isSet x = true then [x] else []) := by
        rcases k with _ | _ | k
        · refine ⟨m.wh, rfl, ?_⟩
          by_cases h : Gate.isSet m.wh = true <;> simp [Hid, h]
        · refine ⟨m.fr, rfl, ?_⟩
          by_cases h : Gate.isSet m.fr = true <;> by_cases h' : Gate.isSet m.wh = true <;> simp [Hid, h, h']
        · omega
      have hcx : wr.cell? ⟨w.heap.size + 1, k, none⟩ = some (.string x) := by rw [cell_of_block hlit]; exact hx
      have hlen : (([m.wh, m.fr].take k).filter Gate.isSet).length <= 2 := Nat.le_trans (List.length_filter_le _ _) (by simp; omega)
      have HB := zff hlit hB ((Array.getElem?_eq_some_iff.1 hlit).1)
      have HW := hid hown
      clear hlit hB hx hown
      by_cases hs : x.toList.isEmpty = true
      · have HE : Hid (Gate.isSet x = false) := by unfold Hid Gate.isSet; rw [hs]; rfl
        go_wp2_with fail
        have HT' : ([m.wh, m.fr].take (k + 1)).filter Gate.isSet = ([m.wh, m.fr].take k).filter Gate.isSet := by rw [HT.out, HE.out]; simp
        exact ⟨⟨k + 1, _, rfl, by omega, by go_num, by rw [HT']; exact HW.out, HB.out.1, HB.out.2.1⟩, zm hlt⟩
      · have hs' : x.toList.isEmpty = false := by simpa using hs
        have HE : Hid (Gate.isSet x = true) := by unfold Hid Gate.isSet; rw [hs']; rfl
        clear hs
        go_wp2_with (at_builtin; refine wpList_append_own _ rfl (.tmp 18) (.tmp 20) 91 rfl (w.heap.size + 2) 9 i0 (.string ByteArray.empty) 1 16 Tryz.underlying91 hi hz0 hz1' hz2 rfl (by decide) _ _ _ rfl (HW.out.alloc _) ⟨wr.heap.size, 0, none⟩ 1 1 [.string x] rfl rfl (zds _ _ _) (by intro u hu; simp at hu; subst hu; rfl) (by unfold maxLen; omega) (by omega) (by have := HB.out.2.2; simp; omega) ?_; intro v' w1 hown' hgr _)
        have HT' : ([m.wh, m.fr].take (k + 1)).filter Gate.isSet = ([m.wh, m.fr].take k).filter Gate.isSet ++ [x] := by rw [HT.out, HE.out]; simp
        have hgb : ∀ g, nv.ownBlock = some g -> w.heap.size + 2 <= g := fun g hg => (HW.out.lt g hg).1
        refine ⟨⟨k + 1, _, rfl, by omega, by go_num, ?_, ?_, zb9 HB.out.2.1 HB.out.2.1.size hgr (fun g hg => by have := hgb g hg; omega)⟩, zm hlt⟩
        · rw [HT', List.length_append, List.map_append]; exact hown'
        · rw [j6 hgr (by have := HB.out.2.2; simp; omega) (fun g hg => by have := hgb g hg; omega), Below.heap_alloc _ _ _ HB.out.2.2]; exact HB.out.1
    · have e : k = 2 := by omega
      subst e
      have HF : Hid (wr.ownsRow w.heap.size 9 1 nv (Gate.zL m).length ((Gate.zL m).map Value.string) /\ Below w.heap.size w wr) := ⟨zcb hown (by omega), hB⟩
      clear hown hlit hB
      go_wp2_with fail
      go_ret
      exact ⟨nv, rfl, HF.out⟩
set_option maxHeartbeats 1000000 in
theorem zjt (m : Mnd) (s : Shp) (fa : Option Addr) (fcap p : Nat) (w : World) (hf : yc w fa s.fs) (hp : p < s.fs.length) :
    Calls Tryz.prog 180 #[.agg m.cells, .agg #[.string s.kd, .slice fa s.fs.length fcap], .int .i64 p] w fun e w' => e = .returned (.bool (Gate.turns m s p)) /\ Below w.heap.size w w' := by
  unfold Mnd.cells
  have hB : ∀ o1 o2, Below w.heap.size w ((w.alloc o1).alloc o2) := fun o1 o2 => zu w o1 o2
  have hl := hf.len
  unfold maxLen at hl
  obtain ⟨b, off, rfl, hb, hr⟩ := hf.rows (by intro e; rw [e] at hp; simp at hp)
  obtain ⟨wa, wcap, hf0⟩ := hr p hp
  obtain ⟨c0, c1, c2, c3, c4, c5, c6, c7, c8, c9, c10⟩ := hf0.load
  have hpI : (p : Int) < (s.fs.length : Int) := by omega
  have HD : Hid ((s.fs.getD p Gate.zaQ).nm = s.fs[p].nm) := by unfold Hid; rw [Gate.getD_at _ _ _ hp]
  clear hf hr hf0 c1 c2 c3 c4 c5 c6 c7 c8 c9 c10
  by_cases h1 : m.kd = s.kd
  · by_cases h2 : m.fd = s.fs[p].nm
    · have HR : Hid (Gate.turns m s p = true) := by unfold Hid Gate.turns; rw [HD.out]; simp [h1, h2]
      have hq : (m.kd.toList == s.kd.toList) = true := by rw [Gate.beq_toList]; simpa using h1
      have hr : (m.fd.toList == s.fs[p].nm.toList) = true := by rw [Gate.beq_toList]; simpa using h2
      clear h1 h2
      go_enter Tryz.func180, Tryz.ntmps180
      go_wp2_with fail
      go_quiet (fail)
      go_wp2_with fail
      go_ret
      exact ⟨by rw [HR.out]; rfl, below_drewN (hB _ _) _⟩
    · have HR : Hid (Gate.turns m s p = false) := by unfold Hid Gate.turns; rw [HD.out]; simp [h1, h2]
      have hq : (m.kd.toList == s.kd.toList) = true := by rw [Gate.beq_toList]; simpa using h1
      have hr : (m.fd.toList == s.fs[p].nm.toList) = false := by rw [Gate.beq_toList]; simpa using h2
      clear h1 h2
      go_enter Tryz.func180, Tryz.ntmps180
      go_wp2_with fail
      go_quiet (fail)
      go_wp2_with fail
      go_ret
      exact ⟨by rw [HR.out]; rfl, below_drewN (hB _ _) _⟩
  · have HR : Hid (Gate.turns m s p = false) := by unfold Hid Gate.turns; rw [HD.out]; simp [h1]
    have hq : (m.kd.toList == s.kd.toList) = false := by rw [Gate.beq_toList]; simpa using h1
    clear h1
    go_enter Tryz.func180, Tryz.ntmps180
    go_wp2_with fail
    go_quiet (fail)
    go_wp2_with fail
    go_ret
    exact ⟨by rw [HR.out]; rfl, below_drewN (hB _ _) _⟩
end Go.Proofs.YtfapkhgallmkdaaGreat

namespace Go.Proofs.YtfapkhgallmkdaaGreat
open Go.RowKit
namespace Gate
def yh (s : Shp) (ms : List Mnd) (p : Nat) : List Int := ms.flatMap fun m => if turns m s p = true then (zL m).map (zS s.fs) else []
theorem zgk (s : Shp) (ms : List Mnd) (p k : Nat) (h : k < ms.length) : yh s (ms.take (k + 1)) p = yh s (ms.take k) p ++ if turns ms[k] s p = true then (zL ms[k]).map (zS s.fs) else [] := by
  unfold yh
  rw [List.take_succ_eq_append_getElem h, List.flatMap_append]
  simp
theorem zcM (m : Mnd) : (zL m).length <= 2 := List.length_filter_le _ _
theorem zfP (s : Shp) (p : Nat) : ∀ ms : List Mnd, (yh s ms p).length <= ms.length * 2
  | [] => Nat.le_refl _
  | m :: ms => by
    have h1 := zfP s p ms
    have h2 := zcM m
    unfold yh at h1 ⊢
    rw [List.flatMap_cons, List.length_append, List.length_cons]
    by_cases h : turns m s p = true
    · rw [if_pos h, List.length_map]; omega
    · rw [if_neg h, List.length_nil]; omega
end Gate
theorem zl0 {w : World} {lo lo' : Nat} {e e' : TypeId} {v v' : Value} {n n' : Nat} {xs xs' : List Value} (h : w.ownsRow lo e 1 v n xs) (h' : w.ownsRow lo' e' 1 v' n' xs') (he : e ≠ e') : ∀ g, v.ownBlock = some g -> ∀ g', v'.ownBlock = some g' -> g ≠ g' := by
  intro g hg g' hg' hgg
  subst hgg
  obtain ⟨_, ⟨rfl, _⟩ | ⟨b, cap, cur, rfl, _, hh, _⟩⟩ := h
  · cases hg
  · obtain ⟨_, ⟨rfl, _⟩ | ⟨b', cap', cur', rfl, _, hh', _⟩⟩ := h'
    · cases hg'
    · have e1 : b = g := Option.some.inj hg
      have e2 : b' = g := Option.some.inj hg'
      rw [e1] at hh
      rw [e2, hh] at hh'
      simp only [Option.some.injEq, Obj.cells.injEq] at hh'
      exact he hh'.2.1
def ints (l : List Int) : List Value := l.map (Value.int .i64)
set_option maxRecDepth 20000 in
set_option maxHeartbeats 4000000 in
theorem zlx (s : Shp) (ms : List Mnd) (p bm bs : Nat) (ma fa : Option Addr) (mcap fcap : Nat) (w : World) (hm : qp w ma ms) (hf : yc w fa s.fs) (hp : p < s.fs.length) (hl : ms.length <= 1048576)
    (hbs : bs < w.heap.size) (hcm : w.cell? ⟨bm, 0, none⟩ = some (.slice ma ms.length mcap)) (hcs : ∀ j, w.cell? ⟨bs, j, none⟩ = (#[.string s.kd, .slice fa s.fs.length fcap] : Array Value)[j]?) :
    Calls Tryz.prog 179 #[.int .i64 p, .pointer (some ⟨bm, 0, none⟩), .pointer (some ⟨bs, 0, none⟩)] w fun e w' => ∃ v, e = .returned v /\ w'.ownsRow w.heap.size 3 1 v (Gate.yh s ms p).length (ints (Gate.yh s ms p)) /\ Below w.heap.size w w' := by
  obtain ⟨i0, hi, hz0, hz1', hz2⟩ := info_parts Tryz.zjN
  have HM := hid hm
  have HF := hid hf
  clear hm hf
  go_enter Tryz.func179, Tryz.ntmps179
  go_wp2_with fail
  go_loopw [5, 12] (fun v0 iv wr => ∃ (k : Nat) (v : Value), v = v0 /\ k <= ms.length /\ iv = .int .i64 k /\ wr.ownsRow w.heap.size 3 1 v (Gate.yh s (ms.take k) p).length (ints (Gate.yh s (ms.take k) p)) /\ Below w.heap.size w wr) (fun _ iv _ => ms.length - (intOf iv).toNat)
  case atStart => exact ⟨0, _, rfl, Nat.zero_le _, rfl, World.ownsRow_nil _ _ _ _, Below.refl _ _⟩
  case round =>
    obtain ⟨k, v, hv, hk, rfl, hown, hB⟩ := hrel
    subst hv
    by_cases hlt : k < ms.length
    · obtain ⟨b, off, rfl, hb, c0, c1, c2, c3, c4, c5⟩ := HM.out.load hB k hlt
      have hltI : (k : Int) < (ms.length : Int) := by omega
      have hbw := Nat.lt_of_lt_of_le hb hB.size
      have hcsr := za hcs hbs hB
      have hbsr := Nat.lt_of_lt_of_le hbs hB.size
      have HW := hid hown
      have HB := hid hB
      clear hown hB
      go_wp2_with fail
      have hba := (Below.refl wr.heap.size wr).alloc (Nat.le_refl _) (.cells #[.string ms[k].kd, .string ms[k].fd, .string ms[k].wh, .string ms[k].wi, .string ms[k].pt, .string ms[k].fr] 117)
      have ht := zjt ms[k] s fa fcap p (wr.alloc (.cells #[.string ms[k].kd, .string ms[k].fd, .string ms[k].wh, .string ms[k].wi, .string ms[k].pt, .string ms[k].fr] 117)) (HF.out.mono (HB.out.trans (hba.mono HB.out.size))) hp
      by_cases htt : Gate.turns ms[k] s p = true
      · have HS : Hid (Gate.yh s (ms.take (k + 1)) p = Gate.yh s (ms.take k) p ++ (Gate.zL ms[k]).map (Gate.zS s.fs)) := by unfold Hid; rw [Gate.zgk s ms p k hlt, if_pos htt]
        rw [htt] at ht
        refine ht.mono ?_
        rintro e w1 ⟨rfl, hb1⟩
        have hX1 := za (zG wr _ _) (by simp) hb1
        have HB1 := hid (hba.trans (hb1.mono hba.size))
        have hz1 : wr.heap.size < w1.heap.size := by have := hb1.size; simp at this; omega
        have hcs1 := za hcsr hbsr HB1.out
        clear ht hba hb1 c0 c1 c2 c3 c4 c5
        go_wp2_with fail
        refine (zeb ms[k] w1).mono ?_
        rintro e w2 ⟨nv, rfl, hn, hb2⟩
        obtain ⟨na, ncap, rfl⟩ := yU hn
        have HN2 := hid hn
        have HB2 := hid (HB1.out.trans (hb2.mono HB1.out.size))
        have HW2 : Hid (w2.ownsRow w.heap.size 3 1 v (Gate.yh s (ms.take k) p).length (ints (Gate.yh s (ms.take k) p))) := yZ HW.out HB2.out
        have HNL : Hid ((Gate.zL ms[k]).length <= 2) := Gate.zcM _
        have HRL : Hid ((Gate.yh s (ms.take k) p).length <= 2097152) := by have h1 := Gate.zfP s p (ms.take k); rw [List.length_take] at h1; show _ <= _; omega
        have hcs2 := za hcs1 (Nat.lt_trans hbsr hz1) hb2
        clear hn hb2 hX1 hcs1 hcsr
        revert HS HN2 HNL
        generalize Gate.zL ms[k] = names
        intro HS HN2 HNL
        go_wp2_with fail
        have hszw := HB2.out.size
        go_loopw [5, 24] (fun v0 iv wq => ∃ (j : Nat) (v1 : Value), v1 = v0 /\ j <= names.length /\ iv = .int .i64 j /\ wq.ownsRow w.heap.size 3 1 v1 ((Gate.yh s (ms.take k) p) ++ (names.take j).map (Gate.zS s.fs)).length (ints ((Gate.yh s (ms.take k) p) ++ (names.take j).map (Gate.zS s.fs))) /\ wq.ownsRow w1.heap.size 9 1 (.slice na names.length ncap) names.length (names.map Value.string) /\ Below w.heap.size w wq) (fun _ iv _ => names.length - (intOf iv).toNat)
        case atStart => exact ⟨0, _, rfl, Nat.zero_le _, rfl, by simpa using HW2.out, HN2.out, HB.out.trans (HB2.out.mono HB.out.size)⟩
        case round =>
          obtain ⟨j, v1, hv1, hj, rfl, hown, hnames, hB⟩ := hrel
          subst hv1
          by_cases hjl : j < names.length
          · obtain ⟨g, rfl, hcell⟩ : ∃ g, na = some ⟨g, 0, none⟩ /\ wr.cell? ⟨g, j, none⟩ = some (.string names[j]) := by
              obtain ⟨_, ⟨h0, h1⟩ | ⟨g, cap, cur, h0, h1⟩⟩ := id hnames
              · rw [h1] at hjl; exact absurd hjl (by omega)
              · cases h0
                refine ⟨g, rfl, ?_⟩
                rw [hnames.cellAt j (by omega)]
                simp [hjl]
            have hjI : (j : Int) < (names.length : Int) := by omega
            have hcsr := za hcs hbs hB
            have hbsr' := Nat.lt_of_lt_of_le hbs hB.size
            have HX := zff hown hnames hB
            have HTK : Hid ((names.take (j + 1)).map (Gate.zS s.fs) = (names.take j).map (Gate.zS s.fs) ++ [Gate.zS s.fs names[j]]) := by unfold Hid; rw [List.take_succ_eq_append_getElem hjl, List.map_append]; rfl
            have HLL : Hid (((Gate.yh s (ms.take k) p) ++ (names.take j).map (Gate.zS s.fs)).length <= 2097156) := by have h1 := HRL.out; have h2 := HNL.out; show _ <= _; rw [List.length_append, List.length_map, List.length_take]; omega
            clear hown hnames hB
            go_wp2_with fail
            refine (qI fa fcap s.fs names[j] wr (HF.out.mono HX.out.2.2)).mono ?_
            rintro e w3 ⟨rfl, hb3⟩
            have HB3 := hid hb3
            have HX3 := zff (yZ HX.out.1 hb3) (yZ HX.out.2.1 hb3) (HX.out.2.2.trans (hb3.mono HX.out.2.2.size))
            clear hb3 hcell hcsr
            go_wp2_with (at_builtin; refine wpList_append_own _ rfl (.tmp 28) (.tmp 33) 95 rfl w.heap.size 3 i0 (.int .i64 0) 1 8 Tryz.underlying95 hi hz0 hz1' hz2 rfl (by decide) _ _ _ rfl (HX3.out.1.alloc _) ⟨w3.heap.size, 0, none⟩ 1 1 [.int .i64 (Gate.zS s.fs names[j])] rfl rfl (zds _ _ _) (by intro u hu; simp at hu; subst hu; rfl) (by have := HLL.out; unfold maxLen; omega) (by have := HLL.out; omega) (by have := HX3.out.2.2.size; simp; omega) ?_; intro v' w4 hown' hgr _)
            have hgb : ∀ g', v1.ownBlock = some g' -> w.heap.size <= g' := fun g' hg' => (HX3.out.1.lt g' hg').1
            have hap := zl0 HX3.out.1 HX3.out.2.1 (by decide)
            refine ⟨⟨j + 1, _, rfl, by omega, by rw [wrap_one (by have := HNL.out; omega)], ?_, ?_, zb9 HX3.out.2.2 HX3.out.2.2.size hgr hgb⟩, zdY hjl (by have := HNL.out; omega)⟩
            · rw [HTK.out, <- List.append_assoc, List.length_append]
              have e1 : ints ((Gate.yh s (ms.take k) p ++ (names.take j).map (Gate.zS s.fs)) ++ [Gate.zS s.fs names[j]]) = ints (Gate.yh s (ms.take k) p ++ (names.take j).map (Gate.zS s.fs)) ++ [.int .i64 (Gate.zS s.fs names[j])] := by simp [ints]
              rw [e1]
              exact hown'
            · refine zaj HX3.out.2.1 (fun g' hg' => ?_)
              rw [j6 hgr (by have := (HX3.out.2.1.lt g' hg').2; simp; omega) (fun q hq => fun e => hap q hq g' hg' e.symm), Below.heap_alloc _ _ _ (HX3.out.2.1.lt g' hg').2]
          · have e : j = names.length := by omega
            subst e
            rw [List.take_of_length_le (Nat.le_refl _), <- HS.out] at hown
            have HX := j4 hown hB
            clear hown hnames hB
            go_wp2_with fail
            exact ⟨⟨k + 1, _, rfl, by omega, by go_num, HX.out.1, HX.out.2⟩, zm hlt⟩
      · have htf : Gate.turns ms[k] s p = false := by simpa using htt
        have HS : Hid (Gate.yh s (ms.take (k + 1)) p = Gate.yh s (ms.take k) p) := by unfold Hid; rw [Gate.zgk s ms p k hlt, if_neg htt]; simp
        rw [htf] at ht
        refine ht.mono ?_
        rintro e w1 ⟨rfl, hb1⟩
        have HB1 := hid (hba.trans (hb1.mono hba.size))
        clear ht hba hb1
        go_wp2_with fail
        exact ⟨⟨k + 1, _, rfl, by omega, by go_num, by rw [HS.out]; exact yZ HW.out HB1.out, HB.out.trans (HB1.out.mono HB.out.size)⟩, zm hlt⟩
    · have e : k = ms.length := by omega
      subst e
      rw [List.take_of_length_le (Nat.le_refl _)] at hown
      have HW := j4 hown hB
      clear hown hB
      go_wp2_with fail
      go_ret
      exact ⟨v, rfl, HW.out⟩
end Go.Proofs.YtfapkhgallmkdaaGreat
