import Derived.Test.YtkfigdbbncjojaaGreatM05
import Derived.Test.YtkfigdbbncjojaaGreatM03
import Derived.Test.YtkfigdbbncjojaaGreatM01
import Derived.Deep.RegionHeld3
import Derived.Deep.OwnRows
import Derived.MapKept
import Derived.Test.YtkfigdbbncjojaaGreatM08
import Derived.Deep.QuietTactic
import Derived.BigQuiet
import Derived.Test.YtkfigdbbncjojaaGreatM20
import Derived.Test.YtkfigdbbncjojaaGreatM18
import Derived.Test.YtkfigdbbncjojaaGreatM22
namespace Go.Proofs.YtkfigdbbncjojaaGreat
open Go.RowKit
namespace Gate
def isSet (s : ByteArray) : Bool := !s.toList.isEmpty
def zI (m : Mnd) : List ByteArray := [m.wh, m.fr].filter isSet
def turns (m : Mnd) (s : Shp) (p : Nat) : Bool := decide (m.kd = s.kd) && decide (m.fd = (s.fs.getD p zaA).nm)
end Gate
set_option maxRecDepth 20000 in
set_option maxHeartbeats 2000000 in
theorem zdF (m : Mnd) (w : World) :
    Calls Tryz.prog 152 #[.agg m.cells] w fun e w' => ∃ v, e = .returned v /\ w'.ownsRow w.heap.size 9 1 v (Gate.zI m).length ((Gate.zI m).map Value.string) /\ Below w.heap.size w w' := by
  unfold Mnd.cells
  obtain ⟨i0, hi, hz0, hz1', hz2⟩ := info_parts Tryz.zcm
  go_enter Tryz.func152, Tryz.ntmps152
  go_wp2_with fail
  go_loopw [3, 12] (fun nv0 iv wr => ∃ (k : Nat) (nv : Value), nv = nv0 /\ k <= 2 /\ iv = .int .i64 k /\ wr.ownsRow (w.heap.size + 2) 9 1 nv (([m.wh, m.fr].take k).filter Gate.isSet).length ((([m.wh, m.fr].take k).filter Gate.isSet).map Value.string) /\ wr.heap[w.heap.size + 1]? = some (.cells #[.string m.wh, .string m.fr] 9) /\ Below w.heap.size w wr) (fun _ iv _ => 2 - (intOf iv).toNat)
  case atStart => exact ⟨0, _, rfl, by omega, rfl, World.ownsRow_nil _ _ _ _, (zP _ _ _).2, zq _ _ _⟩
  case round =>
    obtain ⟨k, nv, hnv, hk, rfl, hown, hlit, hB⟩ := hrel
    subst hnv
    by_cases hlt : k < 2
    · have hltI : (k : Int) < 2 := by omega
      obtain ⟨x, hx, HT⟩ : ∃ x, (#[.string m.wh, .string m.fr] : Array Value)[k]? = some (.string x) /\ Hid (([m.wh, m.fr].take (k + 1)).filter Gate.isSet = ([m.wh, m.fr].take k).filter Gate.isSet ++ if Gate.isSet x = true then [x] else []) := by
        rcases k with _ | _ | k
        · refine ⟨m.wh, rfl, ?_⟩
          by_cases h : Gate.isSet m.wh = true <;> simp [Hid, h]
        · refine ⟨m.fr, rfl, ?_⟩
          by_cases h : Gate.isSet m.fr = true <;> by_cases h' : Gate.isSet m.wh = true <;> simp [Hid, h, h']
        · omega
      have hcx : wr.cell? ⟨w.heap.size + 1, k, none⟩ = some (.string x) := by rw [cell_of_block hlit]; exact hx
      have hlen : (([m.wh, m.fr].take k).filter Gate.isSet).length <= 2 := Nat.le_trans (List.length_filter_le _ _) (by simp; omega)
      have HB := zee hlit hB ((Array.getElem?_eq_some_iff.1 hlit).1)
      have HW := hid hown
      clear hlit hB hx hown
      by_cases hs : x.toList.isEmpty = true
      · have HE : Hid (Gate.isSet x = false) := by unfold Hid Gate.isSet; rw [hs]; rfl
        go_wp2_with fail
        have HT' : ([m.wh, m.fr].take (k + 1)).filter Gate.isSet = ([m.wh, m.fr].take k).filter Gate.isSet := by rw [HT.out, HE.out]; simp
        exact ⟨⟨k + 1, _, rfl, by omega, by go_num, by rw [HT']; exact HW.out, HB.out.1, HB.out.2.1⟩, zm hlt⟩
      · have hs' : x.toList.isEmpty = false := by simpa using hs
        have HE : Hid (Gate.isSet x = true) := by unfold Hid Gate.isSet; rw [hs']; rfl
        clear hs
        go_wp2_with (at_builtin; refine wpList_append_own _ rfl (.tmp 18) (.tmp 20) 87 rfl (w.heap.size + 2) 9 i0 (.string ByteArray.empty) 1 16 Tryz.underlying87 hi hz0 hz1' hz2 rfl (by decide) _ _ _ rfl (HW.out.alloc _) ⟨wr.heap.size, 0, none⟩ 1 1 [.string x] rfl rfl (zdf _ _ _) (by intro u hu; simp at hu; subst hu; rfl) (by unfold maxLen; omega) (by omega) (by have := HB.out.2.2; simp; omega) ?_; intro v' w1 hown' hgr _)
        have HT' : ([m.wh, m.fr].take (k + 1)).filter Gate.isSet = ([m.wh, m.fr].take k).filter Gate.isSet ++ [x] := by rw [HT.out, HE.out]; simp
        have hgb : ∀ g, nv.ownBlock = some g -> w.heap.size + 2 <= g := fun g hg => (HW.out.lt g hg).1
        refine ⟨⟨k + 1, _, rfl, by omega, by go_num, ?_, ?_, zbN HB.out.2.1 HB.out.2.1.size hgr (fun g hg => by have := hgb g hg; omega)⟩, zm hlt⟩
        · rw [HT', List.length_append, List.map_append]; exact hown'
        · rw [jR hgr (by have := HB.out.2.2; simp; omega) (fun g hg => by have := hgb g hg; omega), Below.heap_alloc _ _ _ HB.out.2.2]; exact HB.out.1
    · have e : k = 2 := by omega
      subst e
      have HF : Hid (wr.ownsRow w.heap.size 9 1 nv (Gate.zI m).length ((Gate.zI m).map Value.string) /\ Below w.heap.size w wr) := ⟨zbK hown (by omega), hB⟩
      clear hown hlit hB
      go_wp2_with fail
      go_ret
      exact ⟨nv, rfl, HF.out⟩
set_option maxHeartbeats 1000000 in
theorem ziT (m : Mnd) (s : Shp) (fa : Option Addr) (fcap p : Nat) (w : World) (hf : zW w fa s.fs) (hp : p < s.fs.length) :
    Calls Tryz.prog 157 #[.agg m.cells, .agg #[.string s.kd, .slice fa s.fs.length fcap], .int .i64 p] w fun e w' => e = .returned (.bool (Gate.turns m s p)) /\ Below w.heap.size w w' := by
  unfold Mnd.cells
  have hB : ∀ o1 o2, Below w.heap.size w ((w.alloc o1).alloc o2) := fun o1 o2 => zq w o1 o2
  have hl := hf.len
  unfold maxLen at hl
  obtain ⟨b, off, rfl, hb, hr⟩ := hf.rows (by intro e; rw [e] at hp; simp at hp)
  obtain ⟨wa, wcap, hf0⟩ := hr p hp
  obtain ⟨c0, c1, c2, c3, c4, c5, c6, c7, c8, c9, c10⟩ := hf0.load
  have hpI : (p : Int) < (s.fs.length : Int) := by omega
  have HD : Hid ((s.fs.getD p Gate.zaA).nm = s.fs[p].nm) := by unfold Hid; rw [Gate.getD_at _ _ _ hp]
  clear hf hr hf0 c1 c2 c3 c4 c5 c6 c7 c8 c9 c10
  by_cases h1 : m.kd = s.kd
  · by_cases h2 : m.fd = s.fs[p].nm
    · have HR : Hid (Gate.turns m s p = true) := by unfold Hid Gate.turns; rw [HD.out]; simp [h1, h2]
      have hq : (m.kd.toList == s.kd.toList) = true := by rw [Gate.beq_toList]; simpa using h1
      have hr : (m.fd.toList == s.fs[p].nm.toList) = true := by rw [Gate.beq_toList]; simpa using h2
      clear h1 h2
      go_enter Tryz.func157, Tryz.ntmps157
      go_wp2_with fail
      go_quiet (fail)
      go_wp2_with fail
      go_ret
      exact ⟨by rw [HR.out]; rfl, below_drewN (hB _ _) _⟩
    · have HR : Hid (Gate.turns m s p = false) := by unfold Hid Gate.turns; rw [HD.out]; simp [h1, h2]
      have hq : (m.kd.toList == s.kd.toList) = true := by rw [Gate.beq_toList]; simpa using h1
      have hr : (m.fd.toList == s.fs[p].nm.toList) = false := by rw [Gate.beq_toList]; simpa using h2
      clear h1 h2
      go_enter Tryz.func157, Tryz.ntmps157
      go_wp2_with fail
      go_quiet (fail)
      go_wp2_with fail
      go_ret
      exact ⟨by rw [HR.out]; rfl, below_drewN (hB _ _) _⟩
  · have HR : Hid (Gate.turns m s p = false) := by unfold Hid Gate.turns; rw [HD.out]; simp [h1]
    have hq : (m.kd.toList == s.kd.toList) = false := by rw [Gate.beq_toList]; simpa using h1
    clear h1
    go_enter Tryz.func157, Tryz.ntmps157
    go_wp2_with fail
    go_quiet (fail)
    go_wp2_with fail
    go_ret
    exact ⟨by rw [HR.out]; rfl, below_drewN (hB _ _) _⟩
end Go.Proofs.YtkfigdbbncjojaaGreat

namespace Go.Proofs.YtkfigdbbncjojaaGreat
open Go.RowKit
def zkA (a : Option Addr) (ws : List ByteArray) : Prop := (a = none /\ ws = []) \/ ∃ b off, a = some ⟨b, off, none⟩
theorem zn.zn6 {lo : Nat} {w : World} {a : Option Addr} {ws : List ByteArray} (h : zn lo w a ws) : zkA a ws := by
  rcases h with ⟨h0, h1⟩ | ⟨g, C, h0, _⟩
  · exact Or.inl ⟨h0, h1⟩
  · exact Or.inr ⟨g, 0, h0⟩
set_option maxHeartbeats 1000000 in
theorem zdh (cap : Nat) (w : World) :
    Calls Tryz.prog 200 #[.slice none 0 cap] w fun e w' => ∃ v, e = .returned v /\ w'.ownsRow w.heap.size 9 1 v 0 [] /\ Below w.heap.size w w' := by
  go_enter Tryz.func200, Tryz.ntmps200
  go_wp2_with fail
  go_ret
  exact ⟨_, rfl, World.ownsRow_nil _ _ _ _, Below.refl _ _⟩
theorem zdG (a : Option Addr) (cap : Nat) (ws : List ByteArray) (w : World) (hw : zB w a ws) (hA : zkA a ws) (hl : ws.length <= 1048576) :
    Calls Tryz.prog 200 #[.slice a ws.length cap] w
      fun e w' => ∃ v, e = .returned v /\ w'.ownsRow w.heap.size 9 1 v ws.length (ws.map Value.string) /\ Below w.heap.size w w' := by
  rcases hA with ⟨rfl, rfl⟩ | ⟨b, off, rfl⟩
  · exact zdh cap w
  · exact zdL b off cap ws w hw hl
set_option maxHeartbeats 1000000 in
theorem zgX (o : Ob) (va ha : Option Addr) (cap cap' : Nat) (w : World) (ho : qQ w o va ha) (hA : zkA va o.vs) (hA' : zkA ha o.hs) (hl : o.vs.length <= 1048576) (hl' : o.hs.length <= 1048576) :
    Calls Tryz.prog 197 #[.agg (oC o va ha cap cap')] w
      fun e w' => ∃ a dap a' dap' m, e = .returned (.agg (oC o a a' dap dap')) /\ zn w.heap.size w' a o.vs /\ (∀ g, a = some g -> g.block < m) /\ w.heap.size <= m /\ zn m w' a' o.hs /\ Below w.heap.size w w' := by
  go_enter Tryz.func197, Tryz.ntmps197
  go_wp2_with fail
  refine (zdG _ _ _ _ (ho.vals.mono (zq _ _ _)) hA hl).mono ?_
  rintro e w1 ⟨v, rfl, hown1, hb1⟩
  obtain ⟨a, dap, rfl, ht1⟩ := zn.zfb hown1
  have hk1 := (hb1.block w.heap.size (by simp; omega)).trans (zP _ _ _).1
  have hr1 := (hb1.block (w.heap.size + 1) (by simp)).trans (zP _ _ _).2
  have HT : Hid (zn (w.heap.size + 1 + 1) w1 a o.vs) := by unfold Hid; simpa using ht1
  have hz1 : w.heap.size + 1 < w1.heap.size := by have := hb1.size; simp at this; omega
  have hB1 := (zq _ _ _).trans (hb1.mono (by simp; omega))
  have HK := hid hk1
  have HRR := hid hr1
  have hX1 : ∀ j, w1.cell? ⟨w.heap.size, j, none⟩ = (oC o va ha cap cap')[j]? := fun j => cell_of_block hk1
  have hF1 : ∀ j, w1.frozen? ⟨w.heap.size, j, none⟩ = false := fun j => zi hk1
  clear hb1 hown1 ht1 hk1 hr1
  go_wp2_with fail
  have hB1' := hB1.setCell (p := ⟨w.heap.size, 3, none⟩) (Nat.le_refl _) (.slice a o.vs.length dap)
  refine (zdG _ _ _ _ (ho.holds.mono hB1') hA' hl').mono ?_
  rintro e w2 ⟨v, rfl, hown2, hb2⟩
  obtain ⟨a', dap', rfl, ht2⟩ := zn.zfb hown2
  have hk2 := (hb2.block w.heap.size (by simp [World.setCell]; omega)).trans (zf HK.out _)
  have hr2 := (hb2.block (w.heap.size + 1) (by simp [World.setCell]; omega)).trans ((Below.heap_setCell _ _ _ _ (by simp)).trans HRR.out)
  have HT2 := hid ((HT.out.setCell _ (by simp; omega) _).mono hb2)
  have HU2 : Hid (zn w1.heap.size w2 a' o.hs) := by unfold Hid; simpa [World.setCell] using ht2
  have HM : Hid (∀ g, a = some g -> g.block < w1.heap.size) := by
    intro g hg
    rcases HT.out with ⟨h0, _⟩ | ⟨g', C, h0, _, hh, _⟩
    · rw [h0] at hg; cases hg
    · rw [h0] at hg; cases hg; exact (Array.getElem?_eq_some_iff.1 hh).1
  have hz2 : w.heap.size + 1 < w2.heap.size := by have := hb2.size; simp [World.setCell] at this; omega
  have hB2 := hB1'.trans (hb2.mono hB1'.size)
  have hX2 : ∀ j, w2.cell? ⟨w.heap.size, j, none⟩ = (oC o a ha dap cap')[j]? := fun j => cell_of_block hk2
  have hF2 : ∀ j, w2.frozen? ⟨w.heap.size, j, none⟩ = false := fun j => zi hk2
  have hY2 : ∀ j, w2.cell? ⟨w.heap.size + 1, j, none⟩ = oZ[j]? := fun j => cell_of_block hr2
  have hG2 : ∀ j, w2.frozen? ⟨w.heap.size + 1, j, none⟩ = false := fun j => zi hr2
  have hzz : w.heap.size <= w1.heap.size := by omega
  clear hb2 hown2 ht2 hX1 hF1 hB1 hB1' hk2 hr2
  go_wp2_with fail
  refine bodyPost_ret (v := (.agg (oC o a a' dap dap'))) (by simp [results, Tryz.results197, go_sem, hY2]) rfl ⟨a, dap, a', dap', w1.heap.size, rfl, ((((((((HT2.out.setCell _ (by simp; omega) _).setCell _ (by simp) _).setCell _ (by simp) _).setCell _ (by simp) _).setCell _ (by simp) _).setCell _ (by simp) _).setCell _ (by simp) _).setCell _ (by simp) _).low (by omega), HM.out, hzz, ((((((((HU2.out.setCell _ (by simp; omega) _).setCell _ (by simp; omega) _).setCell _ (by simp; omega) _).setCell _ (by simp; omega) _).setCell _ (by simp; omega) _).setCell _ (by simp; omega) _).setCell _ (by simp; omega) _).setCell _ (by simp; omega) _), ((((((((hB2.setCell (Nat.le_refl _) _).setCell (by simp) _).setCell (by simp) _).setCell (by simp) _).setCell (by simp) _).setCell (by simp) _).setCell (by simp) _).setCell (by simp) _)⟩
end Go.Proofs.YtkfigdbbncjojaaGreat

namespace Go.Proofs.YtkfigdbbncjojaaGreat
open Go.RowKit
structure Bk where
  now : Int
  tick : Int
  given : Int
  os : List Ob
  gs : List Gr
  ls : List Lg
  ps : List Pu
abbrev bC (b : Bk) (a0 a1 a2 a3 : Option Addr) (c0 c1 c2 c3 : Nat) : Array Value := #[.int .i64 b.now, .int .i64 b.tick, .int .i64 b.given, .slice a0 b.os.length c0, .slice a1 b.gs.length c1, .slice a2 b.ls.length c2, .slice a3 b.ps.length c3]
abbrev bZ : Array Value := #[.int .i64 0, .int .i64 0, .int .i64 0, .slice none 0 0, .slice none 0 0, .slice none 0 0, .slice none 0 0]
def Bk.cells (b : Bk) (a0 a1 a2 a3 : Option Addr) (c0 c1 c2 c3 : Nat) : Array Value := #[.int .i64 b.now, .int .i64 b.tick, .int .i64 b.given, .slice a0 b.os.length c0, .slice a1 b.gs.length c1, .slice a2 b.ls.length c2, .slice a3 b.ps.length c3]
structure qY (w : World) (b : Bk) (a0 a1 a2 a3 : Option Addr) : Prop where
  os : zaQ w a0 b.os
  gs : zbD w a1 b.gs
  ls : zbo w a2 b.ls
  ps : zb8 w a3 b.ps
theorem qY.mono {w w' : World} {b : Bk} {a0 a1 a2 a3 : Option Addr} (h : qY w b a0 a1 a2 a3) (hb : Below w.heap.size w w') : qY w' b a0 a1 a2 a3 := ⟨h.os.mono hb, h.gs.mono hb, h.ls.mono hb, h.ps.mono hb⟩
def Bk.sz (b : Bk) : Nat := ql b.os + za7 b.gs + zbw b.ls + zbU b.ps
structure Bk.Few (b : Bk) : Prop where
  os : b.os.length <= 1048576 /\ ∀ i (h : i < b.os.length), b.os[i].vs.length <= 1048576 /\ b.os[i].hs.length <= 1048576
  gs : b.gs.length <= 1048576 /\ ∀ i (h : i < b.gs.length), b.gs[i].r.vs.length <= 1048576
  ls : b.ls.length <= 1048576
  ps : b.ps.length <= 1048576
theorem Bk.few {b : Bk} (h : (b.sz : Int) <= 1048576) : b.Few := by
  unfold Bk.sz at h
  refine ⟨zjh (left := 1048576) (by omega) (by omega), znO (left := 1048576) (by omega) (by omega), ?_, ?_⟩
  · unfold zbw at h; omega
  · unfold zbU at h; omega
structure Bk.Small (b : Bk) : Prop where
  os : zek b.os
  lo : b.os.length <= maxLen
  gs : zgR b.gs
  lg : b.gs.length <= maxLen
  ls : ∀ i (h : i < b.ls.length), b.ls[i].Small
  ll : b.ls.length <= maxLen
  ps : ∀ i (h : i < b.ps.length), b.ps[i].Small
  lp : b.ps.length <= maxLen
theorem qY.small {w : World} {b : Bk} {a0 a1 a2 a3 : Option Addr} (h : qY w b a0 a1 a2 a3) : b.Small := ⟨h.os.smalls, h.os.len, h.gs.smalls, h.gs.len, h.ls.small, h.ls.len, h.ps.small, h.ps.len⟩
structure ziC (lo : Nat) (w : World) (b : Bk) (g0 g1 g2 g3 : Nat) : Prop where
  os : q8 lo w g0 b.os b.os.length
  gs : jB lo w g1 b.gs b.gs.length
  ls : jA lo w g2 b.ls b.ls.length
  ps : jm lo w g3 b.ps b.ps.length
theorem ziC.above {lo : Nat} {w w' : World} {b : Bk} {g0 g1 g2 g3 : Nat} (h : ziC lo w b g0 g1 g2 g3) (ha : yh lo w w') : ziC lo w' b g0 g1 g2 g3 := ⟨h.os.above ha, h.gs.above ha, h.ls.above ha, h.ps.above ha⟩
theorem ziC.at {lo : Nat} {w : World} {b : Bk} {g0 g1 g2 g3 : Nat} (h : ziC lo w b g0 g1 g2 g3) (hs : b.Small) : qY w b (some ⟨g0, 0, none⟩) (some ⟨g1, 0, none⟩) (some ⟨g2, 0, none⟩) (some ⟨g3, 0, none⟩) := ⟨h.os.at hs.os hs.lo, h.gs.at hs.gs hs.lg, h.ls.at hs.ls hs.ll, h.ps.at hs.ps hs.lp⟩
set_option maxHeartbeats 2000000 in
theorem zhG (b : Bk) (a0 a1 a2 a3 : Option Addr) (c0 c1 c2 c3 : Nat) (left : Int) (w : World) (hl : qY w b a0 a1 a2 a3) (h0 : 0 <= left) (h1 : left <= 1048576) :
    Calls Tryz.prog 5 #[.agg (b.cells a0 a1 a2 a3 c0 c1 c2 c3), .int .i64 left] w fun e w' => e = .returned (.int .i64 (zF b.sz left)) /\ Below w.heap.size w w' := by
  have HL : Hid (qY w b a0 a1 a2 a3) := hl
  clear hl
  unfold Bk.cells
  go_enter Tryz.func5, Tryz.ntmps5
  go_wp2_with fail
  refine (zeK _ _ b.os _ _ (HL.out.os.mono ((Below.refl _ _).alloc (Nat.le_refl _) _)) h0 h1).mono ?_
  rintro e w1 ⟨rfl, hb⟩
  have hX1 := za (zH w (bC b a0 a1 a2 a3 c0 c1 c2 c3) 32) (by simp) hb
  have hz1 : w.heap.size < w1.heap.size := by have := hb.size; simp at this; omega
  have hB1 : Below w.heap.size w w1 := ((Below.refl _ _).alloc (Nat.le_refl _) _).trans (hb.mono (by simp))
  clear hb
  by_cases q1 : (ql b.os : Int) <= left
  rotate_left
  · have HF : Hid (zF b.sz left = -1) := zx (by unfold Bk.sz; omega)
    rw [zx q1]
    go_wp2_with fail
    go_ret
    exact ⟨zk HF.out.symm, hB1⟩
  rw [zG q1]
  go_wp2_with fail
  refine (zeX _ _ b.gs _ _ (HL.out.gs.mono hB1) (by omega) (by omega)).mono ?_
  rintro e w2 ⟨rfl, hb⟩
  have hX2 := za hX1 hz1 hb
  have hz2 := Nat.lt_of_lt_of_le hz1 hb.size
  have hB2 := hB1.trans (hb.mono hB1.size)
  clear hb hX1 hz1 hB1
  by_cases q2 : (za7 b.gs : Int) <= left - ql b.os
  rotate_left
  · have HF : Hid (zF b.sz left = -1) := zx (by unfold Bk.sz; omega)
    rw [zx q2]
    go_wp2_with fail
    go_ret
    exact ⟨zk HF.out.symm, hB2⟩
  rw [zG q2]
  go_wp2_with fail
  refine (zd9 _ _ b.ls _ _ (HL.out.ls.mono hB2) (by omega) (by omega)).mono ?_
  rintro e w3 ⟨rfl, hb⟩
  have hX3 := za hX2 hz2 hb
  have hz3 := Nat.lt_of_lt_of_le hz2 hb.size
  have hB3 := hB2.trans (hb.mono hB2.size)
  clear hb hX2 hz2 hB2
  by_cases q3 : (zbw b.ls : Int) <= left - ql b.os - za7 b.gs
  rotate_left
  · have HF : Hid (zF b.sz left = -1) := zx (by unfold Bk.sz; omega)
    rw [zx q3]
    go_wp2_with fail
    go_ret
    exact ⟨zk HF.out.symm, hB3⟩
  rw [zG q3]
  go_wp2_with fail
  refine (zeU _ _ b.ps _ _ (HL.out.ps.mono hB3) (by omega) (by omega)).mono ?_
  rintro e w4 ⟨rfl, hb⟩
  have hX4 := za hX3 hz3 hb
  have hz4 := Nat.lt_of_lt_of_le hz3 hb.size
  have hB4 := hB3.trans (hb.mono hB3.size)
  clear hb hX3 hz3 hB3
  by_cases q4 : (zbU b.ps : Int) <= left - ql b.os - za7 b.gs - zbw b.ls
  rotate_left
  · have HF : Hid (zF b.sz left = -1) := zx (by unfold Bk.sz; omega)
    rw [zx q4]
    go_wp2_with fail
    go_ret
    exact ⟨zk HF.out.symm, hB4⟩
  have HF : Hid (zF b.sz left = left - ql b.os - za7 b.gs - zbw b.ls - zbU b.ps) := by
    unfold Hid; rw [zG (by unfold Bk.sz; omega)]; unfold Bk.sz; omega
  rw [zG q4]
  go_wp2_with fail
  go_ret
  exact ⟨zk HF.out.symm, hB4⟩
set_option maxHeartbeats 1000000 in
theorem zhy (b : Bk) (a0 a1 a2 a3 : Option Addr) (c0 c1 c2 c3 : Nat) (a0' a1' a2' a3' : Option Addr) (c0' c1' c2' c3' : Nat) (w : World) (hl : qY w b a0 a1 a2 a3) (hl' : qY w b a0' a1' a2' a3') :
    Calls Tryz.prog 11 #[.agg (b.cells a0 a1 a2 a3 c0 c1 c2 c3), .agg (b.cells a0' a1' a2' a3' c0' c1' c2' c3')] w fun e w' => e = .returned (.bool true) /\ Below w.heap.size w w' := by
  have HL : Hid (qY w b a0 a1 a2 a3 /\ qY w b a0' a1' a2' a3') := ⟨hl, hl'⟩
  clear hl hl'
  have n1 : (b.now != b.now) = false := by simp
  have n2 : (b.tick != b.tick) = false := by simp
  have n3 : (b.given != b.given) = false := by simp
  unfold Bk.cells
  go_enter Tryz.func11, Tryz.ntmps11
  go_wp2_with fail
  refine (zeg _ _ _ _ b.os _ (HL.out.1.os.mono (zq _ _ _)) (HL.out.2.os.mono (zq _ _ _))).mono ?_
  rintro e w1 ⟨rfl, hb⟩
  have hX1 := za (za (zH w _ _) (by simp) ((Below.refl _ _).alloc (Nat.le_refl _) _)) (by simp; omega) hb
  have hY1 := za (zH (w.alloc (.cells (bC b a0 a1 a2 a3 c0 c1 c2 c3) 47)) (bC b a0' a1' a2' a3' c0' c1' c2' c3') 47) (by simp) hb
  have hz1 : w.heap.size + 1 < w1.heap.size := by have := hb.size; simp at this; omega
  have hB1 := (zq w _ _).trans (hb.mono (by simp; omega))
  rw [World.size_alloc] at hY1
  clear hb
  go_wp2_with fail
  refine (zfj _ _ _ _ b.gs _ (HL.out.1.gs.mono hB1) (HL.out.2.gs.mono hB1)).mono ?_
  rintro e w2 ⟨rfl, hb⟩
  have hX2 := za hX1 (Nat.lt_of_succ_lt hz1) hb
  have hY2 := za hY1 hz1 hb
  have hz2 := Nat.lt_of_lt_of_le hz1 hb.size
  have hB2 := hB1.trans (hb.mono hB1.size)
  clear hb hX1 hY1 hz1 hB1
  go_wp2_with fail
  refine (zew _ _ _ _ b.ls _ (HL.out.1.ls.mono hB2) (HL.out.2.ls.mono hB2)).mono ?_
  rintro e w3 ⟨rfl, hb⟩
  have hX3 := za hX2 (Nat.lt_of_succ_lt hz2) hb
  have hY3 := za hY2 hz2 hb
  have hz3 := Nat.lt_of_lt_of_le hz2 hb.size
  have hB3 := hB2.trans (hb.mono hB2.size)
  clear hb hX2 hY2 hz2 hB2
  go_wp2_with fail
  refine (ze3 _ _ _ _ b.ps _ (HL.out.1.ps.mono hB3) (HL.out.2.ps.mono hB3)).mono ?_
  rintro e w4 ⟨rfl, hb⟩
  have hX4 := za hX3 (Nat.lt_of_succ_lt hz3) hb
  have hY4 := za hY3 hz3 hb
  have hz4 := Nat.lt_of_lt_of_le hz3 hb.size
  have hB4 := hB3.trans (hb.mono hB3.size)
  clear hb hX3 hY3 hz3 hB3
  go_wp2_with fail
  go_ret
  exact ⟨rfl, hB4⟩
end Go.Proofs.YtkfigdbbncjojaaGreat

namespace Go.Proofs.YtkfigdbbncjojaaGreat
open Go.RowKit
theorem zhN {p : Prop} (h : p) : Hid p := h
theorem qw (w : World) (X Y : Array Value) (s t : TypeId) : (∀ j, ((w.alloc (.cells X s)).alloc (.cells Y t)).cell? ⟨w.heap.size, j, none⟩ = X[j]?) /\ ∀ j, ((w.alloc (.cells X s)).alloc (.cells Y t)).cell? ⟨w.heap.size + 1, j, none⟩ = Y[j]? := by
  refine ⟨za (zH w X s) (by simp) ((Below.refl _ _).alloc (Nat.le_refl _) _), fun j => ?_⟩
  have h := zH (w.alloc (.cells X s)) Y t j
  rw [World.size_alloc] at h
  exact h
set_option maxHeartbeats 2000000 in
theorem zij (l : Lw) (la lb lc : Option Addr) (lca lcb lcc : Nat) (o : Ob) (oa oa' : Option Addr) (ocap ocap' : Nat) (res : ByteArray) (w : World) (hl : qO w l la lb lc) (_ho : qQ w o oa oa') (hc : ¬ (Gate.zw l.ss o = true /\ res.toList.isEmpty = false)) :
    Calls Tryz.prog 193 #[.agg (l.cells la lb lc lca lcb lcc), .agg (oC o oa oa' ocap ocap'), .string res] w fun e w' => e = .returned (.int .i64 (Gate.yY l.ss o res)) /\ Below w.heap.size w w' := by
  have HL := hid hl
  have HW : Hid (Gate.yY l.ss o res = 0) := by unfold Hid Gate.yY; rw [if_neg hc]
  have HC := hid hc
  clear hl hc
  unfold Lw.cells
  go_enter Tryz.func193, Tryz.ntmps193
  go_wp2_with fail
  refine (qj _ _ l.ss o.kd _ (HL.out.ss.mono (zq _ _ _))).mono ?_
  rintro e w1 ⟨fa, fcap, rfl, hfl, hb⟩
  obtain ⟨hX0, hY0⟩ := qw w (lC l la lb lc lca lcb lcc) (oC o oa oa' ocap ocap') 40 104
  have hX1 := za hX0 (by simp; omega) hb
  have hY1 := za hY0 (by simp) hb
  have hz1 : w.heap.size + 1 < w1.heap.size := by have := hb.size; simp at this; omega
  have HB1 : Hid (Below w.heap.size w w1) := (zq w _ _).trans (hb.mono (by simp; omega))
  clear hfl hb hX0 hY0
  by_cases hk : Gate.zC l.ss o.kd = true
  rotate_left
  · have hk' : Gate.zC l.ss o.kd = false := by simpa using hk
    rw [hk']
    clear hk hk'
    go_wp2_with fail
    go_ret
    exact ⟨zk HW.out.symm, HB1.out.alloc HB1.out.size _⟩
  by_cases he : res.toList.isEmpty = true
  · have HK := hid hk
    rw [HK.out]
    clear hk
    go_wp2_with fail
    go_ret
    exact ⟨zk HW.out.symm, HB1.out.alloc HB1.out.size _⟩
  · have he' : res.toList.isEmpty = false := by simpa using he
    have hne : ((o.vs.length : Int) != ((Gate.shapeOf l.ss o.kd).fs.length : Int)) = true := by
      have h := HC.out
      unfold Gate.zw at h
      rw [hk] at h
      simp only [Bool.true_and, decide_eq_true_eq] at h
      have h2 : ¬ o.vs.length = (Gate.shapeOf l.ss o.kd).fs.length := fun e => h ⟨e, he'⟩
      simp; omega
    have HK := hid hk
    rw [HK.out]
    clear he hk
    go_wp2_with fail
    go_ret
    exact ⟨zk HW.out.symm, HB1.out.alloc HB1.out.size _⟩
set_option maxHeartbeats 4000000 in
theorem zhk (l : Lw) (la lb lc : Option Addr) (lca lcb lcc : Nat) (o : Ob) (oa oa' : Option Addr) (ocap ocap' : Nat) (res : ByteArray) (w : World) (hl : qO w l la lb lc) (ho : qQ w o oa oa') (hc : Gate.zw l.ss o = true) (he : res.toList.isEmpty = false) (hlen : o.vs.length <= 1048576) :
    Calls Tryz.prog 193 #[.agg (l.cells la lb lc lca lcb lcc), .agg (oC o oa oa' ocap ocap'), .string res] w fun e w' => e = .returned (.int .i64 (Gate.yY l.ss o res)) /\ Below w.heap.size w w' := by
  have HL := hid hl
  have HO := hid ho
  have HW : Hid (Gate.yY l.ss o res = (if res = o.kd then 1 else 0) + Gate.zcE (Gate.shapeOf l.ss o.kd).fs o.vs res (Gate.shapeOf l.ss o.kd).fs.length) := by unfold Hid Gate.yY; rw [if_pos ⟨hc, he⟩]
  have HK : Hid (Gate.zC l.ss o.kd = true /\ o.vs.length = (Gate.shapeOf l.ss o.kd).fs.length) := by unfold Gate.zw at hc; unfold Hid; simpa using hc
  have HN := hid hlen
  clear hl ho hc hlen
  unfold Lw.cells
  go_enter Tryz.func193, Tryz.ntmps193
  go_wp2_with fail
  refine (qj _ _ l.ss o.kd _ (HL.out.ss.mono (zq _ _ _))).mono ?_
  rintro e w1 ⟨fa, fcap, rfl, hfl, hb⟩
  obtain ⟨hX0, hY0⟩ := qw w (lC l la lb lc lca lcb lcc) (oC o oa oa' ocap ocap') 40 104
  have hY1 := za hY0 (by simp) hb
  have hz1 : w.heap.size + 1 < w1.heap.size := by have := hb.size; simp at this; omega
  have HB1 : Hid (Below w.heap.size w w1) := (zq w _ _).trans (hb.mono (by simp; omega))
  have HFl := hid (hfl.mono hb)
  clear hfl hb hX0 hY0
  rw [HK.out.1]
  obtain ⟨S, HS⟩ : ∃ S, Hid (S = Gate.shapeOf l.ss o.kd) := ⟨_, rfl⟩
  rw [<- HS.out] at HFl HK HW ⊢
  have hne : ((o.vs.length : Int) != (S.fs.length : Int)) = false := by have := HK.out.2; simp [this]
  obtain ⟨n0, hn0⟩ : ∃ n0 : Int, n0 = if res = o.kd then 1 else 0 := ⟨_, rfl⟩
  have hb0 : 0 <= n0 /\ n0 <= 1 := by rw [hn0]; split <;> omega
  rw [<- hn0] at HW
  have HN0 := hid hn0
  clear hn0
  by_cases hk : res = o.kd
  all_goals (
    first
    | (have hq : (res.toList == o.kd.toList) = true := by rw [Gate.beq_toList]; simpa using hk)
    | (have hq : (res.toList == o.kd.toList) = false := by rw [Gate.beq_toList]; simpa using hk)
    have HKE := zhN hk
    clear hk
    go_wp2_with fail
    go_loopw [9, 44] (fun nv iv wr => ∃ (k : Nat) (s : Int), k <= S.fs.length /\ iv = .int .i64 k /\ nv = .int .i64 s /\ Hid (s = n0 + Gate.zcE S.fs o.vs res k /\ Below w1.heap.size w1 wr)) (fun _ iv _ => S.fs.length - (intOf iv).toNat)
    case atStart => exact ⟨0, n0, Nat.zero_le _, rfl, by have := HN0.out; first | (rw [if_pos HKE.out] at this; rw [this]) | (rw [if_neg HKE.out] at this; rw [this]), by simp [Gate.zcE], (Below.refl _ _).alloc (Nat.le_refl _) _⟩
    case round =>
      obtain ⟨k, s, hk, rfl, rfl, HQ⟩ := hrel
      have hsb : 0 <= s /\ s <= 1 + k * 10000000 := by have h1 := HQ.out.1; have h2 := Gate.zbC S.fs o.vs res k; omega
      have hkn : k <= 1048576 := by have := HN.out; have := HK.out.2; omega
      by_cases hlt : k < S.fs.length
      · obtain ⟨b, off, rfl, hb, hr⟩ := HFl.out.rows (by intro e; rw [e] at hlt; simp at hlt)
        obtain ⟨wa, wcap, hf⟩ := hr k hlt
        obtain ⟨c0, c1, c2, c3, c4, c5, c6, c7, c8, c9, c10⟩ := (hf.mono hb HQ.out.2).load
        have hlv : k < o.vs.length := by have := HK.out.2; omega
        have hltI : (k : Int) < (S.fs.length : Int) := by omega
        have hlvI : (k : Int) < (o.vs.length : Int) := by omega
        obtain ⟨vb, voff, rfl, hvb, hvc0⟩ := HO.out.vals.cells (by intro e; rw [e] at hlv; simp at hlv)
        have hvc := ((HB1.out.trans (HQ.out.2.mono HB1.out.size)).cell (p := ⟨vb, voff + k, none⟩) hvb).trans (hvc0 k hlv)
        have hvb' := Nat.lt_of_lt_of_le hvb (HB1.out.trans (HQ.out.2.mono HB1.out.size)).size
        have hb' := Nat.lt_of_lt_of_le hb HQ.out.2.size
        have hY := za hY1 hz1 HQ.out.2
        have hz := Nat.lt_of_lt_of_le hz1 HQ.out.2.size
        have HSt := Gate.zmh S.fs o.vs res k hlt hlv
        have HSt : Hid (Gate.zcE S.fs o.vs res (k + 1) = Gate.zcE S.fs o.vs res k + Gate.yt S.fs[k] o.vs[k] res) := HSt
        have HVs : Hid (o.vs[k].size <= maxLen) := HO.out.vals.small _ (List.getElem_mem _)
        have HBo : Hid (∀ ob, Below w1.heap.size w1 (wr.alloc ob)) := fun ob => HQ.out.2.alloc HQ.out.2.size _
        clear hf hr hvc0
        by_cases h1 : S.fs[k].kd = 1
        · have e1 : (S.fs[k].kd == 1) = true := by simpa using h1
          by_cases h2 : S.fs[k].wg = res
          · have e2 : (S.fs[k].wg.toList == res.toList) = true := by rw [Gate.beq_toList]; simpa using h2
            have HFw : Hid (Gate.yt S.fs[k] o.vs[k] res = jH o.vs[k]) := by unfold Hid Gate.yt; rw [if_pos ⟨h1, h2⟩]
            have hdb := Gate.zcx o.vs[k]
            clear h1 h2
            go_wp2_with fail
            refine (zbW o.vs[k] _ HVs.out).mono ?_
            rintro e w2 ⟨rfl, rfl⟩
            go_wp2_with fail
            exact ⟨⟨k + 1, s + jH o.vs[k], by omega, by go_num, by go_num, by rw [HSt.out, HFw.out, HQ.out.1]; omega, HBo.out _⟩, zm hlt⟩
          · have e2 : (S.fs[k].wg.toList == res.toList) = false := by rw [Gate.beq_toList]; simpa using h2
            have HFw : Hid (Gate.yt S.fs[k] o.vs[k] res = 0) := by unfold Hid Gate.yt; rw [if_neg (fun h => h2 h.2)]
            clear h1 h2
            go_wp2_with fail
            exact ⟨⟨k + 1, s, by omega, by go_num, rfl, by rw [HSt.out, HFw.out, HQ.out.1]; omega, HBo.out _⟩, zm hlt⟩
        · have e1 : (S.fs[k].kd == 1) = false := by simpa using h1
          have HFw : Hid (Gate.yt S.fs[k] o.vs[k] res = 0) := by unfold Hid Gate.yt; rw [if_neg (fun h => h1 h.1)]
          clear h1
          go_wp2_with fail
          exact ⟨⟨k + 1, s, by omega, by go_num, rfl, by rw [HSt.out, HFw.out, HQ.out.1]; omega, HBo.out _⟩, zm hlt⟩
      · have e : k = S.fs.length := by omega
        subst e
        have HE : Hid (Gate.yY l.ss o res = s) := by unfold Hid; rw [HW.out, HQ.out.1]
        clear hlt hk
        go_wp2_with fail
        go_ret
        exact ⟨zk HE.out.symm, HB1.out.trans (HQ.out.2.mono HB1.out.size)⟩)
end Go.Proofs.YtkfigdbbncjojaaGreat

namespace Go.Proofs.YtkfigdbbncjojaaGreat
open Go.RowKit
theorem znV {w w' : World} {g : Nat} {ws : List ByteArray} (h : zB w (some ⟨g, 0, none⟩) ws) (hl : Below w.heap.size w w') (i : Nat) (hi : i < ws.length) : g < w.heap.size /\ w'.cell? ⟨g, i, none⟩ = some (.string ws[i]) := by
  obtain ⟨b, off, e, hb, hr⟩ := h.cells (by rintro rfl; simp at hi)
  simp only [Option.some.injEq, Addr.mk.injEq] at e
  obtain ⟨rfl, rfl, _⟩ := e
  refine ⟨hb, ?_⟩
  have := hr i hi
  rw [Nat.zero_add] at this
  exact (hl.cell (p := ⟨g, i, none⟩) hb).trans this
theorem znM {w w' : World} {a : Option Addr} {fs : List Fld} (h : zW w a fs) (hl : Below w.heap.size w w') (i : Nat) (hi : i < fs.length) : ∃ b off fw fc, a = some ⟨b, off, none⟩ /\ b < w.heap.size /\ zdK w' b (off + i * 11) fs[i] fw fc := by
  obtain ⟨b, off, ha, hb, hr⟩ := (h.mono hl).rows (by rintro rfl; simp at hi)
  obtain ⟨b', off', ha', hb', _⟩ := h.rows (by rintro rfl; simp at hi)
  have e := ha.symm.trans ha'
  simp only [Option.some.injEq, Addr.mk.injEq] at e
  obtain ⟨rfl, rfl, _⟩ := e
  obtain ⟨fw, fc, hf⟩ := hr i hi
  exact ⟨b, off, fw, fc, ha, hb', hf⟩
end Go.Proofs.YtkfigdbbncjojaaGreat
