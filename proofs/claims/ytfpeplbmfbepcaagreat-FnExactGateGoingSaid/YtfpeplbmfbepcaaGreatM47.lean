import Derived.Test.YtfpeplbmfbepcaaGreatM46
import Derived.Test.YtfpeplbmfbepcaaGreatM07
import Derived.Test.YtfpeplbmfbepcaaGreatM44
import Derived.Test.YtfpeplbmfbepcaaGreatM45
import Derived.Test.YtfpeplbmfbepcaaGreatM39
import Derived.Test.YtfpeplbmfbepcaaGreatM42
import Derived.Test.YtfpeplbmfbepcaaGreatM35
namespace Go.Proofs.YtfpeplbmfbepcaaGreat
open Go.RowKit
set_option maxRecDepth 20000 in
set_option maxHeartbeats 2000000 in
theorem zm7 (w00 : World) (l : Lw) (a b c : Option Addr) (ca cb cc : Nat) (o : Ob) (va ha : Option Addr) (cap cap' : Nat) (w : World) (hL : qB w00 l a b c) (hbb : Below w00.heap.size w00 w) :
    Calls Tryz.prog 118 #[.agg (lC l a b c ca cb cc), .agg (oC o va ha cap cap')] w
      fun e w' => ∃ Bs Bo fa fcap, e = .returned (.func (.func 167) #[] #[.pointer (some ⟨Bs, 0, none⟩), .pointer (some ⟨Bo, 0, none⟩)]) /\ Bs < w'.heap.size /\ Bo < w'.heap.size /\ w.heap.size <= Bo /\ zW w00 fa (Gate.shapeOf l.ss o.kd).fs /\
        (∀ j, w'.cell? ⟨Bs, j, none⟩ = (#[.string (Gate.shapeOf l.ss o.kd).kd, .slice fa (Gate.shapeOf l.ss o.kd).fs.length fcap] : Array Value)[j]?) /\ (∀ j, w'.cell? ⟨Bo, j, none⟩ = (oC o va ha cap cap')[j]?) /\ Below w.heap.size w w' := by
  have HH := qJ hL hbb
  clear hL hbb
  go_enter Tryz.func118, Tryz.ntmps118
  go_wp2_with fail
  have hb2 := zn w (.cells (lC l a b c ca cb cc) 41) (.cells (oC o va ha cap cap') 119)
  refine (zk7 w00 _ _ l.ss o.kd _ HH.out.1.ss (HH.out.2.trans (hb2.mono HH.out.2.size))).mono ?_
  rintro e w1 ⟨fa, fcap, rfl, hfl0, hb1⟩
  have HFL := hid hfl0
  have hX1 : ∀ j, w1.cell? ⟨w.heap.size + 1, j, none⟩ = (oC o va ha cap cap')[j]? := fun j => cell_of_block ((hb1.block (w.heap.size + 1) (by simp)).trans (zP _ _ _).2)
  have hz1 : w.heap.size + 1 < w1.heap.size := by have := hb1.size; simp at this; omega
  have HB1 : Hid (Below w.heap.size w w1) := hb2.trans (hb1.mono (by simp; omega))
  have HX1 := hid hX1
  clear hb1 hb2 hfl0
  go_wp2_with fail
  go_ret
  have hba := (Below.refl w1.heap.size w1).alloc (Nat.le_refl _) (.cells #[.string (Gate.shapeOf l.ss o.kd).kd, .slice fa (Gate.shapeOf l.ss o.kd).fs.length fcap] 123)
  exact ⟨w1.heap.size, w.heap.size + 1, fa, fcap, rfl, by simp, Nat.lt_of_lt_of_le hz1 hba.size, Nat.le_succ _, HFL.out, zG w1 _ _, za HX1.out hz1 hba, HB1.out.trans (hba.mono HB1.out.size)⟩
theorem zgY (l : Lw) (a b c : Option Addr) (ca cb cc : Nat) (o : Ob) (va ha : Option Addr) (cap cap' : Nat) (w : World) (hL : qB w l a b c) :
    Calls Tryz.prog 118 #[.agg (lC l a b c ca cb cc), .agg (oC o va ha cap cap')] w
      fun e w' => ∃ Bs Bo fa fcap, e = .returned (.func (.func 167) #[] #[.pointer (some ⟨Bs, 0, none⟩), .pointer (some ⟨Bo, 0, none⟩)]) /\ Bs < w'.heap.size /\ Bo < w'.heap.size /\ zW w' fa (Gate.shapeOf l.ss o.kd).fs /\
        (∀ j, w'.cell? ⟨Bs, j, none⟩ = (#[.string (Gate.shapeOf l.ss o.kd).kd, .slice fa (Gate.shapeOf l.ss o.kd).fs.length fcap] : Array Value)[j]?) /\ (∀ j, w'.cell? ⟨Bo, j, none⟩ = (oC o va ha cap cap')[j]?) /\ Below w.heap.size w w' :=
  (zm7 w l a b c ca cb cc o va ha cap cap' w hL (Below.refl _ _)).mono fun _ _ ⟨Bs, Bo, fa, fcap, he, h1, h2, _, hf, hX, hY, hb⟩ => ⟨Bs, Bo, fa, fcap, he, h1, h2, hf.mono hb, hX, hY, hb⟩
end Go.Proofs.YtfpeplbmfbepcaaGreat

namespace Go.Proofs.YtfpeplbmfbepcaaGreat
open Go.RowKit
namespace Gate
theorem zn0 {ss : List Shp} {v : ByteArray} (h : zC ss v = true) : (shapeOf ss v).kd = v := by
  unfold zC at h
  rw [List.any_eq_true] at h
  obtain ⟨x, hx, he⟩ := h
  unfold shapeOf
  cases hf : ss.find? (fun s => decide (s.kd = v)) with
  | none => rw [List.find?_eq_none] at hf; exact absurd he (hf x hx)
  | some y => simpa using List.find?_some hf
theorem za5 {ss : List Shp} {ms : List Mnd} {o : Ob} (hm : yc ss ms = true) : y8 ss ms o = zo ss o := by
  unfold y8 zo; rw [hm, Bool.and_true]
structure zqf (ss : List Shp) (ms : List Mnd) (o : Ob) (pl : List Nat) : Prop where
  names : zZ (shapeOf ss o.kd) ms (shapeOf ss o.kd).fs.length = pl.map (zaJ (shapeOf ss o.kd))
  zpa : zjM (zk (shapeOf ss o.kd) ms) (shapeOf ss o.kd).fs.length pl
  place : ∀ q (h : q < (shapeOf ss o.kd).fs.length), zT (shapeOf ss o.kd).fs (shapeOf ss o.kd).fs[q].nm = (q : Int)
  kd : (shapeOf ss o.kd).kd = o.kd
  few : (shapeOf ss o.kd).fs.length <= 6
  reads : ∀ q, q < (shapeOf ss o.kd).fs.length -> ∀ x ∈ yg (shapeOf ss o.kd) ms q, 0 <= x /\ x < (shapeOf ss o.kd).fs.length
  len : o.vs.length = (shapeOf ss o.kd).fs.length
  mends : ms.length <= 12
  res : zgy ss ms o = zQ (decided (shapeOf ss o.kd) ms) pl o.vs
theorem rowOf {ss : List Shp} {ms : List Mnd} {o : Ob} (hm : yc ss ms = true) (hc : zo ss o = true) : zqf ss ms o (greedy (zk (shapeOf ss o.kd) ms) (shapeOf ss o.kd).fs.length (shapeOf ss o.kd).fs.length) := by
  have hmd : y8 ss ms o = true := by rw [za5 hm]; exact hc
  obtain ⟨hl, h6, hr, hw⟩ := zb9 hmd
  unfold zo at hc
  simp only [Bool.and_eq_true] at hc
  obtain ⟨i, hi, e⟩ := zcr hc.1
  have hkd := zn0 hc.1
  unfold yc at hm
  simp only [Bool.and_eq_true, decide_eq_true_eq] at hm
  obtain ⟨⟨⟨h12, hs⟩, ha⟩, _⟩ := hm
  have hrd : ∀ p, p < (shapeOf ss o.kd).fs.length -> ∀ q ∈ zk (shapeOf ss o.kd) ms p, q < (shapeOf ss o.kd).fs.length := by
    intro p hp q hq
    unfold zk at hq
    obtain ⟨x, hx, rfl⟩ := List.mem_map.1 hq
    have := hr p hp x hx
    omega
  have htw := zdo hrd hw
  have htg : zjM (zk (shapeOf ss o.kd) ms) (shapeOf ss o.kd).fs.length (greedy (zk (shapeOf ss o.kd) ms) (shapeOf ss o.kd).fs.length (shapeOf ss o.kd).fs.length) :=
    (zbK _ _ _).zpa (zg4 htw.zkV _ (Nat.le_refl _))
  refine ⟨?_, htg, ?_, hkd, h6, hr, hl, h12, ?_⟩
  · rw [e]; exact zc6 hs ha i hi _
  · rw [e]
    intro q hq
    refine zdz ss[i].fs _ q hq ?_ rfl
    unfold hasName
    rw [List.any_eq_false]
    intro x hx
    obtain ⟨j, hj, rfl⟩ := List.mem_iff_getElem.1 hx
    have hjq : j < q := by simp at hj; omega
    simp only [List.getElem_take, decide_eq_true_eq]
    exact zel hs i hi j q hjq hq
  · exact zlW htw htg (zjq _ _) o.vs hl
theorem zk5 {α : Type} (D : Nat -> List α -> α) (pl : List Nat) (vs : List α) (k : Nat) (h : k < pl.length) : zQ D (pl.take (k + 1)) vs = (zQ D (pl.take k) vs).set pl[k] (D pl[k] (zQ D (pl.take k) vs)) := by
  unfold zQ; rw [List.take_succ_eq_append_getElem h, List.foldl_append]; rfl
end Gate
theorem zpW {lo : Nat} {w : World} {g : Nat} {us : List ByteArray} (h : zq lo w (some ⟨g, 0, none⟩) us) (p : Nat) (hp : p < us.length) : w.cell? ⟨g, p, none⟩ = some (.string us[p]) := by
  rcases h with ⟨h0, _⟩ | ⟨g', C, hg, _, hh, hc⟩
  · cases h0
  · cases hg; rw [cell_of_block hh, hc p hp]
theorem zpK {lo : Nat} {w : World} {g p : Nat} {us : List ByteArray} (h : zq lo w (some ⟨g, 0, none⟩) us) (_hp : p < us.length) : w.frozen? ⟨g, p, none⟩ = false := by
  rcases h with ⟨h0, _⟩ | ⟨g', C, hg, _, hh, hc⟩
  · cases h0
  · cases hg; exact zh hh
theorem zpr {w : World} {lo : Nat} {v : Value} {row : List ByteArray} (h : w.ownsRow lo 9 1 v row.length (row.map Value.string)) : ∃ ra rcap, v = .slice ra row.length rcap /\ (row ≠ [] -> ∃ rb, ra = some ⟨rb, 0, none⟩ /\ lo <= rb /\ rb < w.heap.size /\ ∀ i (h : i < row.length), w.cell? ⟨rb, i, none⟩ = some (.string row[i])) := by
  obtain ⟨_, ⟨h0, h1⟩ | ⟨g, cp, cur, h0, h1⟩⟩ := id h
  · have e := List.length_eq_zero_iff.1 h1
    subst e
    exact ⟨none, 0, by rw [h0]; rfl, fun hn => absurd rfl hn⟩
  · subst h0
    refine ⟨some ⟨g, 0, none⟩, cp, rfl, fun _ => ⟨g, rfl, (h.lt g rfl).1, (h.lt g rfl).2, fun i hi => ?_⟩⟩
    rw [h.cellAt i (by omega)]
    simp [hi]
theorem ziT (s : Shp) (ms : List Mnd) (o : Ob) (vs : List ByteArray) (n : Nat) (hn : vs.length = n) (p : Nat) (fa ma va ha : Option Addr) (fcap mcap vcap hcap : Nat) (w : World) (hf : zW w fa s.fs) (hm : qy w ma ms) (hv : zA w va vs) (hc : vs.length = s.fs.length) (hp : p < s.fs.length) (hix : Gate.zT s.fs s.fs[p].nm = (p : Int)) (hkd : o.kd = s.kd) (hrd : ∀ x ∈ Gate.yg s ms p, 0 <= x /\ x < s.fs.length) :
    Calls Tryz.prog 176 #[.slice fa s.fs.length fcap, .slice ma ms.length mcap, .agg #[.string o.kd, .string o.nm, .string o.tm, .slice va n vcap, .bool o.en, .slice ha o.hs.length hcap, .int .i64 o.vr], .string s.fs[p].nm] w fun e w' => e = .returned (.string (Gate.decided s ms p vs)) /\ Below w.heap.size w w' := by
  subst hn
  exact zjt s ms o vs p fa ma va ha fcap mcap vcap hcap w hf hm hv hc hp hix hkd hrd
set_option maxRecDepth 20000 in
set_option maxHeartbeats 8000000 in
theorem zls (a0 ma : Option Addr) (cap0 mcap : Nat) (ss : List Shp) (ms : List Mnd) (o : Ob) (b off b' off' cap cap' : Nat) (w : World) (hw : yI w a0 ss) (hm : qy w ma ms) (ho : qR w o (some ⟨b, off, none⟩) (some ⟨b', off', none⟩)) (hl : o.vs.length <= 1048576) (hl' : o.hs.length <= 1048576) (hok : Gate.yc ss ms = true) :
    Calls Tryz.prog 132 #[.slice a0 ss.length cap0, .slice ma ms.length mcap, .agg (oC o (some ⟨b, off, none⟩) (some ⟨b', off', none⟩) cap cap')] w (zfO o (Gate.zbX ss ms o) w) := by
  have hsl := hw.len
  unfold maxLen at hsl
  have HW := qJ hw hm
  clear hw hm
  by_cases hc : Gate.zo ss o = true
  rotate_left
  · have HC : Hid (Gate.zo ss o = false) := by simpa [Hid] using hc
    have HRES : Hid (Gate.zbX ss ms o = o.vs) := by unfold Hid Gate.zbX; rw [if_neg (by rw [Gate.za5 hok]; exact hc)]
    have HH := hid ho
    clear hc ho
    go_enter Tryz.func132, Tryz.ntmps132
    go_wp2_with fail
    refine (zix o b off b' off' cap cap' _ (HH.out.mono (zn w (.cells (oC o (some ⟨b, off, none⟩) (some ⟨b', off', none⟩) cap cap') 119) (.cells oZ 119))) hl hl').mono ?_
    rintro e w1 ⟨a, dap, a', dap', m, rfl, ht, hm, hsm, ht', hb1⟩
    have HO1 : Hid (w1.heap[w.heap.size]? = some (.cells (oC o (some ⟨b, off, none⟩) (some ⟨b', off', none⟩) cap cap') 119)) := (hb1.block w.heap.size (by simp; omega)).trans (zP _ _ _).1
    have HR1 : Hid (w1.heap[w.heap.size + 1]? = some (.cells oZ 119)) := (hb1.block (w.heap.size + 1) (by simp)).trans (zP _ _ _).2
    have hX1 : ∀ j, w1.cell? ⟨w.heap.size, j, none⟩ = (oC o (some ⟨b, off, none⟩) (some ⟨b', off', none⟩) cap cap')[j]? := fun j => cell_of_block HO1.out
    have hz1 : w.heap.size + 1 < w1.heap.size := by have := hb1.size; simp at this; omega
    have hz0 : w.heap.size < w1.heap.size := by omega
    have hB1 : Below w.heap.size w w1 := (zn _ _ _).trans (hb1.mono (by simp; omega))
    have HT : Hid (zq (w.heap.size + 1 + 1) w1 a o.vs /\ (∀ g, a = some g -> g.block < m) /\ w.heap.size + 1 + 1 <= m /\ zq m w1 a' o.hs) := by
      simp only [World.size_alloc] at ht hsm
      exact ⟨ht, hm, hsm, ht'⟩
    clear ht hm hsm ht' hb1
    go_wp2_with fail
    have hbs := (Below.refl w1.heap.size w1).alloc (Nat.le_refl _) (.cells (oC o a a' dap dap') 119)
    have hBs := hB1.trans (hbs.mono hB1.size)
    refine (zcA a0 cap0 ss o _ _ cap cap' _ (HW.out.1.mono hBs) (HH.out.mono hBs) HC.out).mono ?_
    rintro e w2 ⟨v, rfl, hb2⟩
    have hba := hbs.trans (hb2.mono hbs.size)
    have hR2 := (hba.block _ hz1).trans HR1.out
    have hU2 : ∀ j, w2.cell? ⟨w1.heap.size, j, none⟩ = (oC o a a' dap dap')[j]? := za (zG w1 _ _) (by simp) hb2
    have hRc : ∀ j, w2.cell? ⟨w.heap.size + 1, j, none⟩ = oZ[j]? := fun j => cell_of_block hR2
    have hRf : ∀ j, w2.frozen? ⟨w.heap.size + 1, j, none⟩ = false := fun j => zh hR2
    have HX := zdB (HT.out.1.mono hba) (HT.out.2.2.2.mono hba) (hB1.trans (hba.mono hB1.size))
    clear hbs hBs hb2 hba hR2 hX1
    go_wp2_with fail
    refine bodyPost_ret (v := (.agg (oC o a a' dap dap'))) (by simp [results, Tryz.results132, go_sem, hRc]) rfl ?_
    obtain ⟨ht, ht', hB⟩ := HX.out
    rw [HRES.out]
    exact ⟨a, dap, a', dap', m, rfl, (qW ht _ (by omega) _ _ _ _ _ _ _).low (by omega), HT.out.2.1, by have := HT.out.2.2.1; omega, qW ht' _ (by have := HT.out.2.2.1; omega) _ _ _ _ _ _ _, zau hB _ (by omega) _ _ _ _ _ _ _⟩
  have HC := hid hc
  have HRO := hid (Gate.rowOf hok hc)
  have HRES : Hid (Gate.zbX ss ms o = Gate.zgy ss ms o) := by unfold Hid Gate.zbX; rw [if_pos (by rw [Gate.za5 hok]; exact hc)]
  have HK : Hid (Gate.zC ss o.kd = true) := by unfold Gate.zo at hc; simp only [Bool.and_eq_true] at hc; exact hc.1
  have HH := hid ho
  clear hc ho
  go_enter Tryz.func132, Tryz.ntmps132
  go_wp2_with fail
  refine (zix o b off b' off' cap cap' _ (HH.out.mono (zn w (.cells (oC o (some ⟨b, off, none⟩) (some ⟨b', off', none⟩) cap cap') 119) (.cells oZ 119))) hl hl').mono ?_
  rintro e w1 ⟨a, dap, a', dap', m, rfl, ht, hm, hsm, ht', hb1⟩
  have HO1 : Hid (w1.heap[w.heap.size]? = some (.cells (oC o (some ⟨b, off, none⟩) (some ⟨b', off', none⟩) cap cap') 119)) := (hb1.block w.heap.size (by simp; omega)).trans (zP _ _ _).1
  have HR1 : Hid (w1.heap[w.heap.size + 1]? = some (.cells oZ 119)) := (hb1.block (w.heap.size + 1) (by simp)).trans (zP _ _ _).2
  have hX1 : ∀ j, w1.cell? ⟨w.heap.size, j, none⟩ = (oC o (some ⟨b, off, none⟩) (some ⟨b', off', none⟩) cap cap')[j]? := fun j => cell_of_block HO1.out
  have hz1 : w.heap.size + 1 < w1.heap.size := by have := hb1.size; simp at this; omega
  have hz0 : w.heap.size < w1.heap.size := by omega
  have hB1 : Below w.heap.size w w1 := (zn _ _ _).trans (hb1.mono (by simp; omega))
  have HT : Hid (zq (w.heap.size + 1 + 1) w1 a o.vs /\ (∀ g, a = some g -> g.block < m) /\ w.heap.size + 1 + 1 <= m /\ zq m w1 a' o.hs) := by
    simp only [World.size_alloc] at ht hsm
    exact ⟨ht, hm, hsm, ht'⟩
  clear ht hm hsm ht' hb1
  go_wp2_with fail
  have hbs := (Below.refl w1.heap.size w1).alloc (Nat.le_refl _) (.cells (oC o a a' dap dap') 119)
  have hBs := hB1.trans (hbs.mono hB1.size)
  refine (zeK a0 cap0 ss o _ _ cap cap' w _ HW.out.1 hBs HC.out).mono ?_
  rintro e w2 ⟨fa, fcap, rfl, hf, hb2⟩
  have HFA := hid hf
  have hba := hbs.trans (hb2.mono hbs.size)
  have HR2 := hid ((hba.block _ hz1).trans HR1.out)
  have HO2 := hid ((hba.block _ hz0).trans HO1.out)
  have HU2 : Hid (w2.heap[w1.heap.size]? = some (.cells (oC o a a' dap dap') 119)) := (hb2.block _ (by simp)).trans (alloc_at _ _)
  have HX2 := zdB (HT.out.1.mono hba) (HT.out.2.2.2.mono hba) (hB1.trans (hba.mono hB1.size))
  have hz2 := (Array.getElem?_eq_some_iff.1 HU2.out).1
  have hX2 : ∀ j, w2.cell? ⟨w.heap.size, j, none⟩ = (oC o (some ⟨b, off, none⟩) (some ⟨b', off', none⟩) cap cap')[j]? := fun j => cell_of_block HO2.out
  have hzo2 : w.heap.size < w2.heap.size := by omega
  clear hbs hBs hb2 hba hX1 hf
  go_wp2_with fail
  refine (za8 _ _ _ _ _ (HW.out.1.mono HX2.out.2.2) HK.out).mono ?_
  rintro e w3 ⟨ix, hix, rfl, hsh, rfl⟩
  have HSh := hid hsh
  clear hsh
  obtain ⟨sb, soff, rfl, hsb0, hsr⟩ := HW.out.1.rows (by rintro rfl; simp at hix)
  obtain ⟨fa2, fcap2, hs0⟩ := hsr ix hix
  have hs := hs0.mono hsb0 HX2.out.2.2
  have hck := hs.kind
  have hcl := hs.list
  have HF2 := hid hs0.zcE
  have hixI : (ix : Int) < (ss.length : Int) := by omega
  have hsbw := Nat.lt_of_lt_of_le hsb0 HX2.out.2.2.size
  clear hsr hs hs0
  go_wp2_with fail
  refine (zkm fa2 ma fcap2 mcap ss[ix] ms _ (HF2.out.mono HX2.out.2.2) (HW.out.2.mono HX2.out.2.2) HRO.out.mends (by have := HRO.out.few; rw [HSh.out] at this; exact this)).mono ?_
  rintro e w4 ⟨v, rfl, hrow, hb4⟩
  rw [<- HSh.out, HRO.out.names] at hrow
  obtain ⟨ra, rcap, rfl, hrw⟩ := zpr (by rw [List.length_map]; rw [List.length_map] at hrow; exact hrow)
  rw [List.length_map]
  have HRO2 := HRO.out
  have HX4 : Hid (zq (w.heap.size + 1 + 1) w4 a o.vs /\ zq m w4 a' o.hs /\ Below w.heap.size w w4) := ⟨HX2.out.1.mono hb4, HX2.out.2.1.mono hb4, HX2.out.2.2.trans (hb4.mono HX2.out.2.2.size)⟩
  have HR4 : Hid (w4.heap[w.heap.size + 1]? = some (.cells oZ 119)) := (hb4.block _ (by omega)).trans HR2.out
  have HU4 : Hid (w4.heap[w1.heap.size]? = some (.cells (oC o a a' dap dap') 119)) := (hb4.block _ hz2).trans HU2.out
  have HZ4 : Hid (w3.heap.size <= w4.heap.size) := hb4.size
  clear hb4 hX2 hck hcl HSh HF2 HRO hixI hrow
  revert HRO2 HFA hrw
  generalize Gate.greedy (Gate.zk (Gate.shapeOf ss o.kd) ms) (Gate.shapeOf ss o.kd).fs.length (Gate.shapeOf ss o.kd).fs.length = pl
  intro HFA hrw hro
  have HRW : Hid (Gate.zqf ss ms o pl) := hro
  have HVS : Hid (Gate.zgy ss ms o = Gate.zQ (Gate.decided (Gate.shapeOf ss o.kd) ms) pl o.vs) := hro.res
  have hpl6 : pl.length <= 6 := by
    have h1 := Gate.zbp pl (List.range (Gate.shapeOf ss o.kd).fs.length) hro.zpa.nodup (fun x hx => List.mem_range.2 ((hro.zpa.mem x).1 hx))
    rw [List.length_range] at h1
    have := hro.few
    omega
  clear hro
  go_wp2_with fail
  go_loopw [11] (fun i wr => ∃ k : Nat, k <= pl.length /\ i = .int .i64 k /\ zq (w.heap.size + 1 + 1) wr a (Gate.zQ (Gate.decided (Gate.shapeOf ss o.kd) ms) (pl.take k) o.vs) /\ zq m wr a' o.hs /\ wr.heap[w.heap.size + 1]? = some (.cells oZ 119) /\ wr.heap[w1.heap.size]? = some (.cells (oC o a a' dap dap') 119) /\ Below w.heap.size w wr /\ w3.heap.size <= wr.heap.size /\ (pl.map (Gate.zaJ (Gate.shapeOf ss o.kd)) ≠ [] -> ∃ rb, ra = some ⟨rb, 0, none⟩ /\ w3.heap.size <= rb /\ rb < wr.heap.size /\ ∀ i (h : i < (pl.map (Gate.zaJ (Gate.shapeOf ss o.kd))).length), wr.cell? ⟨rb, i, none⟩ = some (.string (pl.map (Gate.zaJ (Gate.shapeOf ss o.kd)))[i]))) (fun i _ => pl.length - (intOf i).toNat)
  case atStart => exact ⟨0, Nat.zero_le _, rfl, HX4.out.1, HX4.out.2.1, HR4.out, HU4.out, HX4.out.2.2, HZ4.out, hrw⟩
  case round =>
    obtain ⟨k, hk, rfl, ht, ht', hR, hO, hB, hz3, hrr⟩ := hrel
    by_cases hlt : k < pl.length
    · obtain ⟨rb, rfl, hrb0, hrbz, hrc⟩ := hrr (by intro h; have := congrArg List.length h; simp at this; rw [this] at hlt; simp at hlt)
      have hpn : pl[k] < (Gate.shapeOf ss o.kd).fs.length := (HRW.out.zpa.mem _).1 (List.getElem_mem hlt)
      have hck := hrc k (by rw [List.length_map]; exact hlt)
      rw [List.getElem_map] at hck
      have hnm : Gate.zaJ (Gate.shapeOf ss o.kd) pl[k] = (Gate.shapeOf ss o.kd).fs[pl[k]].nm := by unfold Gate.zaJ; rw [Gate.getD_at _ _ _ hpn]
      rw [hnm] at hck
      have HTS : Hid (Gate.zQ (Gate.decided (Gate.shapeOf ss o.kd) ms) (pl.take (k + 1)) o.vs = (Gate.zQ (Gate.decided (Gate.shapeOf ss o.kd) ms) (pl.take k) o.vs).set pl[k] (Gate.decided (Gate.shapeOf ss o.kd) ms pl[k] (Gate.zQ (Gate.decided (Gate.shapeOf ss o.kd) ms) (pl.take k) o.vs))) := Gate.zk5 _ pl o.vs k hlt
      have HUS : Hid (∀ x ∈ Gate.zQ (Gate.decided (Gate.shapeOf ss o.kd) ms) (pl.take k) o.vs, x.size <= maxLen) := Gate.zbE HW.out.2.small _ _ HH.out.vals.small
      have HLV : Hid ((Gate.zQ (Gate.decided (Gate.shapeOf ss o.kd) ms) (pl.take k) o.vs).length = o.vs.length) := Gate.qX _ _ _
      have HRR : Hid (∀ i (h : i < (pl.map (Gate.zaJ (Gate.shapeOf ss o.kd))).length), wr.cell? ⟨rb, i, none⟩ = some (.string (pl.map (Gate.zaJ (Gate.shapeOf ss o.kd)))[i])) := hrc
      clear hrr hrc hnm
      revert hck HTS hpn
      generalize pl[k] = p
      intro hpn hck HTS
      revert HTS HLV HUS ht
      generalize Gate.zQ (Gate.decided (Gate.shapeOf ss o.kd) ms) (pl.take k) o.vs = us
      intro ht HUS HLV HTS
      have hltI : (k : Int) < (pl.length : Int) := by omega
      have hpv : p < us.length := by rw [HLV.out, HRW.out.len]; exact hpn
      have hpI : (p : Int) < (o.vs.length : Int) := by have := HRW.out.len; omega
      obtain ⟨g, C, hga, hgl, hgh, hgc⟩ : ∃ g C, a = some ⟨g, 0, none⟩ /\ w.heap.size + 1 + 1 <= g /\ wr.heap[g]? = some (.cells C 9) /\ ∀ i (h : i < us.length), C[i]? = some (.string us[i]) := by
        rcases ht with ⟨_, h0⟩ | h0
        · rw [h0] at hpv; simp at hpv
        · exact h0
      have hgm : g < m := HT.out.2.1 _ hga
      have hgw1 : g < w1.heap.size := HT.out.1.lt _ hga
      have hgw : g < wr.heap.size := by omega
      subst hga
      have hUS : zA wr (some ⟨g, 0, none⟩) us := ht.at (by rw [HLV.out]; exact HH.out.vals.len) HUS.out
      have HJP : Hid (Gate.zT (Gate.shapeOf ss o.kd).fs (Gate.shapeOf ss o.kd).fs[p].nm = (p : Int)) := HRW.out.place p hpn
      have hOc : ∀ j, wr.cell? ⟨w1.heap.size, j, none⟩ = (oC o (some ⟨g, 0, none⟩) a' dap dap')[j]? := fun j => cell_of_block hO
      have hOz : w1.heap.size < wr.heap.size := (Array.getElem?_eq_some_iff.1 hO).1
      have hRk : (k : Int) < ((pl.map (Gate.zaJ (Gate.shapeOf ss o.kd))).length : Int) := by rw [List.length_map]; exact hltI
      have hkr : wr.cell? ⟨rb, 0 + k, none⟩ = some (.string (Gate.shapeOf ss o.kd).fs[p].nm) := by rw [Nat.zero_add]; exact hck
      have HX : Hid (zq (w.heap.size + 1 + 1) wr (some ⟨g, 0, none⟩) us /\ zq m wr a' o.hs /\ wr.heap[w.heap.size + 1]? = some (.cells oZ 119) /\ wr.heap[w1.heap.size]? = some (.cells (oC o (some ⟨g, 0, none⟩) a' dap dap') 119) /\ Below w.heap.size w wr /\ w3.heap.size <= wr.heap.size) := ⟨ht, ht', hR, hO, hB, hz3⟩
      clear ht ht' hR hO hB hz3 hgh hgc
      go_wp2_with fail
      have hb := (Below.refl wr.heap.size wr).drew
      have hS1 : ∀ j, wr.drew.cell? ⟨w1.heap.size, j, none⟩ = (oC o (some ⟨g, 0, none⟩) a' dap dap')[j]? := hOc
      have hS2 : wr.drew.cell? ⟨rb, k, none⟩ = some (.string (Gate.shapeOf ss o.kd).fs[p].nm) := hck
      have hrg : rb ≠ g := by omega
      have how : w1.heap.size ≠ g := by omega
      clear hOc hck hkr
      go_region_held3 (fun w' => (∀ j, w'.cell? ⟨w1.heap.size, j, none⟩ = (oC o (some ⟨g, 0, none⟩) a' dap dap')[j]?) /\ w'.cell? ⟨rb, k, none⟩ = some (.string (Gate.shapeOf ss o.kd).fs[p].nm)) (first | exact ⟨hS1, hS2⟩ | exact ⟨hS3, hS4⟩) (first
        | (go_at_call 171; refine (zla HJP.out (zav _ _ (Gate.shapeOf ss o.kd).fs _ _ (by exact HFA.out.mono (HX.out.2.2.2.2.1.trans (hb.mono HX.out.2.2.2.2.1.size))))).mono ?_; rintro e w5 ⟨rfl, rfl⟩)
        | (go_at_call 176; refine (ziT (Gate.shapeOf ss o.kd) ms o us _ HLV.out p _ _ _ _ _ _ _ _ _ (by exact HFA.out.mono (HX.out.2.2.2.2.1.trans (hb.mono HX.out.2.2.2.2.1.size))) (by exact HW.out.2.mono (HX.out.2.2.2.2.1.trans (hb.mono HX.out.2.2.2.2.1.size))) (by exact hUS.mono hb) (by rw [HLV.out]; exact HRW.out.len) hpn HJP.out HRW.out.kd.symm (HRW.out.reads p hpn)).mono ?_; rintro e w6 ⟨rfl, hb6⟩; have hb := hb.trans (hb6.mono hb.size); have hS1 := za hS1 hOz hb6; have hS2 := (hb6.cell (p := ⟨rb, k, none⟩) hrbz).trans hS2; have hU6 := hUS.mono hb; have hG := HX.out.1.mono hb; clear hb6; have hS3 : ∀ j, (w6.setCell ⟨g, p, none⟩ (.string (Gate.decided (Gate.shapeOf ss o.kd) ms p us))).cell? ⟨w1.heap.size, j, none⟩ = (oC o (some ⟨g, 0, none⟩) a' dap dap')[j]? := fun j => (zY how).trans (hS1 j); have hS4 : (w6.setCell ⟨g, p, none⟩ (.string (Gate.decided (Gate.shapeOf ss o.kd) ms p us))).cell? ⟨rb, k, none⟩ = some (.string (Gate.shapeOf ss o.kd).fs[p].nm) := (zY hrg).trans hS2; have hgc6 : w6.cell? ⟨g, p, none⟩ = some (.string us[p]) := zpW hG p hpv; have hgf6 : w6.frozen? ⟨g, p, none⟩ = false := zpK hG hpv))
      go_wp2_with fail
      obtain ⟨ht, ht', hR, hO, hB, hz3⟩ := HX.out
      exact ⟨⟨k + 1, by omega, by go_num, by rw [HTS.out]; exact (ht.mono hb).set p _, (ht'.mono hb).setCell _ hgm _, (Below.heap_setCell _ _ _ _ (by show w.heap.size + 1 ≠ g; omega)).trans ((hb.block _ (by omega)).trans hR), (Below.heap_setCell _ _ _ _ (by show w1.heap.size ≠ g; omega)).trans ((hb.block _ hOz).trans hO), (hB.trans (hb.mono hB.size)).setCell (p := ⟨g, p, none⟩) (by show w.heap.size <= g; omega) _, by rw [World.size_setCell]; exact Nat.le_trans hz3 hb.size, fun _ => ⟨rb, rfl, hrb0, by rw [World.size_setCell]; exact Nat.lt_of_lt_of_le hrbz hb.size, fun i hi => (zY hrg).trans ((hb.cell (p := ⟨rb, i, none⟩) hrbz).trans (HRR.out i hi))⟩⟩, zi hlt⟩
    · have e : k = pl.length := by omega
      subst e
      rw [List.take_of_length_le (Nat.le_refl _), <- HVS.out] at ht
      have hRc : ∀ j, wr.cell? ⟨w.heap.size + 1, j, none⟩ = oZ[j]? := fun j => cell_of_block hR
      have hRf : ∀ j, wr.frozen? ⟨w.heap.size + 1, j, none⟩ = false := fun j => zh hR
      have hOc : ∀ j, wr.cell? ⟨w1.heap.size, j, none⟩ = (oC o a a' dap dap')[j]? := fun j => cell_of_block hO
      have hOz := (Array.getElem?_eq_some_iff.1 hO).1
      have HX := zdB ht ht' hB
      clear ht ht' hB hR hO hrr
      go_wp2_with fail
      refine bodyPost_ret (v := (.agg (oC o a a' dap dap'))) (by simp [results, Tryz.results132, go_sem, hRc]) rfl ?_
      obtain ⟨ht, ht', hB⟩ := HX.out
      rw [HRES.out]
      exact ⟨a, dap, a', dap', m, rfl, (qW ht _ (by omega) _ _ _ _ _ _ _).low (by omega), HT.out.2.1, by have := HT.out.2.2.1; omega, qW ht' _ (by have := HT.out.2.2.1; omega) _ _ _ _ _ _ _, zau hB _ (by omega) _ _ _ _ _ _ _⟩
end Go.Proofs.YtfpeplbmfbepcaaGreat

namespace Go.Proofs.YtfpeplbmfbepcaaGreat
open Go.RowKit
def zov (o : Ob) (vs : List ByteArray) (w : World) (e : Ending) (w' : World) : Prop :=
  ∃ a dap a' dap' m, e = .returned (.agg (oC o a a' dap dap')) /\ zq w.heap.size w' a vs /\ (∀ g, a = some g -> g.block < m) /\ w.heap.size <= m /\ zq m w' a' o.hs /\ Below w.heap.size w w' /\ (∃ g, a = some ⟨g, 0, none⟩) /\ ∃ g, a' = some ⟨g, 0, none⟩
theorem zgZ (o : Ob) (b off b' off' cap cap' : Nat) (w : World) (ho : qR w o (some ⟨b, off, none⟩) (some ⟨b', off', none⟩)) (hl : o.vs.length <= 1048576) (hl' : o.hs.length <= 1048576) :
    Calls Tryz.prog 175 #[.agg (oC o (some ⟨b, off, none⟩) (some ⟨b', off', none⟩) cap cap')] w
      fun e w' => ∃ a dap a' dap' m, e = .returned (.agg (oC o a a' dap dap')) /\ zq w.heap.size w' a o.vs /\ (∀ g, a = some g -> g.block < m) /\ w.heap.size <= m /\ zq m w' a' o.hs /\ Below w.heap.size w w' /\ (∃ g, a = some ⟨g, 0, none⟩) /\ ∃ g, a' = some ⟨g, 0, none⟩ :=
  zir o _ _ cap cap' w ho hl hl'
set_option maxHeartbeats 4000000 in
theorem zmN (a0 : Option Addr) (cap0 : Nat) (ss : List Shp) (o : Ob) (b off b' off' cap cap' : Nat) (w : World) (hw : yI w a0 ss) (ho : qR w o (some ⟨b, off, none⟩) (some ⟨b', off', none⟩)) (hl : o.vs.length <= 1048576) (hl' : o.hs.length <= 1048576) :
    Calls Tryz.prog 133 #[.slice a0 ss.length cap0, .agg (oC o (some ⟨b, off, none⟩) (some ⟨b', off', none⟩) cap cap')] w (zov o (Gate.yT ss o) w) := by
  by_cases hc : Gate.zo ss o = true
  rotate_left
  · have HC : Hid (Gate.zo ss o = false) := by simpa [Hid] using hc
    have HRES : Hid (Gate.yT ss o = o.vs) := by unfold Hid Gate.yT; rw [if_neg hc]
    clear hc
    have HH : Hid (qR w o (some ⟨b, off, none⟩) (some ⟨b', off', none⟩)) := ho
    clear ho
    go_enter Tryz.func133, Tryz.ntmps133
    go_wp2_with fail
    refine (zgZ o b off b' off' cap cap' _ (HH.out.mono (zn w (.cells (oC o (some ⟨b, off, none⟩) (some ⟨b', off', none⟩) cap cap') 119) (.cells oZ 119))) hl hl').mono ?_
    rintro e w1 ⟨a, dap, a', dap', m, rfl, ht, hm, hsm, ht', hb1, hsA, hsA'⟩
    have HO1 : Hid (w1.heap[w.heap.size]? = some (.cells (oC o (some ⟨b, off, none⟩) (some ⟨b', off', none⟩) cap cap') 119)) := (hb1.block w.heap.size (by simp; omega)).trans (zP _ _ _).1
    have HR1 : Hid (w1.heap[w.heap.size + 1]? = some (.cells oZ 119)) := (hb1.block (w.heap.size + 1) (by simp)).trans (zP _ _ _).2
    have hX1 : ∀ j, w1.cell? ⟨w.heap.size, j, none⟩ = (oC o (some ⟨b, off, none⟩) (some ⟨b', off', none⟩) cap cap')[j]? := fun j => cell_of_block HO1.out
    have hz1 : w.heap.size + 1 < w1.heap.size := by have := hb1.size; simp at this; omega
    have hz0 : w.heap.size < w1.heap.size := by omega
    have hB1 : Below w.heap.size w w1 := (zn _ _ _).trans (hb1.mono (by simp; omega))
    have HT : Hid (zq (w.heap.size + 1 + 1) w1 a o.vs /\ (∀ g, a = some g -> g.block < m) /\ w.heap.size + 1 + 1 <= m /\ zq m w1 a' o.hs) := by
      simp only [World.size_alloc] at ht hsm
      exact ⟨ht, hm, hsm, ht'⟩
    clear ht hm hsm ht' hb1
    go_wp2_with fail
    have hbs := (Below.refl w1.heap.size w1).alloc (Nat.le_refl _) (.cells (oC o a a' dap dap') 119)
    have hBs := hB1.trans (hbs.mono hB1.size)
    refine (zcA a0 cap0 ss o _ _ cap cap' _ (hw.mono hBs) (HH.out.mono hBs) HC.out).mono ?_
    rintro e w2 ⟨v, rfl, hb2⟩
    have hba := hbs.trans (hb2.mono hbs.size)
    have hR2 := (hba.block _ hz1).trans HR1.out
    have hU2 : ∀ j, w2.cell? ⟨w1.heap.size, j, none⟩ = (oC o a a' dap dap')[j]? := za (zG w1 _ _) (by simp) hb2
    have hRc : ∀ j, w2.cell? ⟨w.heap.size + 1, j, none⟩ = oZ[j]? := fun j => cell_of_block hR2
    have hRf : ∀ j, w2.frozen? ⟨w.heap.size + 1, j, none⟩ = false := fun j => zh hR2
    have HX : Hid (zq (w.heap.size + 1 + 1) w2 a o.vs /\ zq m w2 a' o.hs /\ Below w.heap.size w w2) := ⟨HT.out.1.mono hba, HT.out.2.2.2.mono hba, hB1.trans (hba.mono hB1.size)⟩
    clear hbs hBs hb2 hba hR2 hX1
    go_wp2_with fail
    refine bodyPost_ret (v := (.agg (oC o a a' dap dap'))) (by simp [results, Tryz.results133, go_sem, hRc]) rfl ?_
    obtain ⟨ht, ht', hB⟩ := HX.out
    rw [HRES.out]
    exact ⟨a, dap, a', dap', m, rfl, (qW ht _ (by omega) _ _ _ _ _ _ _).low (by omega), HT.out.2.1, by have := HT.out.2.2.1; omega, qW ht' _ (by have := HT.out.2.2.1; omega) _ _ _ _ _ _ _, zau hB _ (by omega) _ _ _ _ _ _ _, hsA, hsA'⟩
  have HC : Hid (Gate.zo ss o = true) := hc
  have HRES : Hid (Gate.yT ss o = Gate.jN (Gate.shapeOf ss o.kd).fs o.vs) := by unfold Hid Gate.yT; rw [if_pos hc]
  have HCC : Hid (o.vs.length = (Gate.shapeOf ss o.kd).fs.length) := by unfold Gate.zo at hc; simp only [Bool.and_eq_true, decide_eq_true_eq] at hc; exact hc.2
  clear hc
  have HH : Hid (qR w o (some ⟨b, off, none⟩) (some ⟨b', off', none⟩)) := ho
  clear ho
  go_enter Tryz.func133, Tryz.ntmps133
  go_wp2_with fail
  refine (zgZ o b off b' off' cap cap' _ (HH.out.mono (zn w (.cells (oC o (some ⟨b, off, none⟩) (some ⟨b', off', none⟩) cap cap') 119) (.cells oZ 119))) hl hl').mono ?_
  rintro e w1 ⟨a, dap, a', dap', m, rfl, ht, hm, hsm, ht', hb1, hsA, hsA'⟩
  have HO1 : Hid (w1.heap[w.heap.size]? = some (.cells (oC o (some ⟨b, off, none⟩) (some ⟨b', off', none⟩) cap cap') 119)) := (hb1.block w.heap.size (by simp; omega)).trans (zP _ _ _).1
  have HR1 : Hid (w1.heap[w.heap.size + 1]? = some (.cells oZ 119)) := (hb1.block (w.heap.size + 1) (by simp)).trans (zP _ _ _).2
  have hX1 : ∀ j, w1.cell? ⟨w.heap.size, j, none⟩ = (oC o (some ⟨b, off, none⟩) (some ⟨b', off', none⟩) cap cap')[j]? := fun j => cell_of_block HO1.out
  have hz1 : w.heap.size + 1 < w1.heap.size := by have := hb1.size; simp at this; omega
  have hz0 : w.heap.size < w1.heap.size := by omega
  have hB1 : Below w.heap.size w w1 := (zn _ _ _).trans (hb1.mono (by simp; omega))
  have HT : Hid (zq (w.heap.size + 1 + 1) w1 a o.vs /\ (∀ g, a = some g -> g.block < m) /\ w.heap.size + 1 + 1 <= m /\ zq m w1 a' o.hs) := by
    simp only [World.size_alloc] at ht hsm
    exact ⟨ht, hm, hsm, ht'⟩
  clear ht hm hsm ht' hb1
  go_wp2_with fail
  have hbs := (Below.refl w1.heap.size w1).alloc (Nat.le_refl _) (.cells (oC o a a' dap dap') 119)
  have hBs := hB1.trans (hbs.mono hB1.size)
  refine (zeK a0 cap0 ss o _ _ cap cap' w _ hw hBs HC.out).mono ?_
  rintro e w2 ⟨fa, fcap, rfl, hf, hb2⟩
  have hba := hbs.trans (hb2.mono hbs.size)
  have HR2 : Hid (w2.heap[w.heap.size + 1]? = some (.cells oZ 119)) := (hba.block _ hz1).trans HR1.out
  have HU2 : Hid (w2.heap[w1.heap.size]? = some (.cells (oC o a a' dap dap') 119)) := (hb2.block _ (by simp)).trans (alloc_at _ _)
  have HX2 : Hid (zq (w.heap.size + 1 + 1) w2 a o.vs /\ zq m w2 a' o.hs /\ Below w.heap.size w w2) := ⟨HT.out.1.mono hba, HT.out.2.2.2.mono hba, hB1.trans (hba.mono hB1.size)⟩
  have hz2 : w1.heap.size < w2.heap.size := (Array.getElem?_eq_some_iff.1 HU2.out).1
  clear hbs hBs hb2 hba hX1 hw
  have hlen := hf.len
  unfold maxLen at hlen
  revert HRES HCC hf hlen
  generalize (Gate.shapeOf ss o.kd).fs = fs
  intro HRES HCC hf hlen
  go_wp2_with fail
  go_loopw [8] (fun i wr => ∃ k : Nat, k <= fs.length /\ i = .int .i64 k /\ zq (w.heap.size + 1 + 1) wr a (Gate.qH fs o.vs k) /\ zq m wr a' o.hs /\ wr.heap[w.heap.size + 1]? = some (.cells oZ 119) /\ wr.heap[w1.heap.size]? = some (.cells (oC o a a' dap dap') 119) /\ Below w.heap.size w wr) (fun i _ => fs.length - (intOf i).toNat)
  case atStart => exact ⟨0, Nat.zero_le _, rfl, by rw [Gate.zg2]; exact HX2.out.1, HX2.out.2.1, HR2.out, HU2.out, HX2.out.2.2⟩
  case round =>
    obtain ⟨k, hk, rfl, ht, ht', hR, hO, hB⟩ := hrel
    have hOc : ∀ j, wr.cell? ⟨w1.heap.size, j, none⟩ = (oC o a a' dap dap')[j]? := fun j => cell_of_block hO
    have hOz : w1.heap.size < wr.heap.size := (Array.getElem?_eq_some_iff.1 hO).1
    by_cases hlt : k < fs.length
    · have hltv : k < o.vs.length := by rw [HCC.out]; exact hlt
      obtain ⟨fb, foff, rfl, hfb, hr⟩ := hf.rows (by rintro rfl; simp at hlt)
      obtain ⟨wa, wcap, hf0⟩ := hr k hlt
      have hf1 := hf0.mono hfb hB
      obtain ⟨c0, c1, c2, c3, c4, c5, c6, c7, c8, c9, c10⟩ := hf1.load
      have hltI : (k : Int) < (fs.length : Int) := by omega
      have hltV : (k : Int) < (o.vs.length : Int) := by omega
      obtain ⟨g, C, hga, hgl, hgh, hgc⟩ : ∃ g C, a = some ⟨g, 0, none⟩ /\ w.heap.size + 1 + 1 <= g /\ wr.heap[g]? = some (.cells C 9) /\ ∀ i (h : i < (Gate.qH fs o.vs k).length), C[i]? = some (.string (Gate.qH fs o.vs k)[i]) := by
        rcases ht with ⟨_, h0⟩ | h0
        · have := Gate.zaa HCC.out k; rw [h0] at this; simp at this; omega
        · exact h0
      have hgm : g < m := HT.out.2.1 _ hga
      have hgw1 : g < w1.heap.size := HT.out.1.lt _ hga
      have hgw : g < wr.heap.size := by omega
      subst hga
      have hcell : wr.cell? ⟨g, k, none⟩ = some (.string o.vs[k]) := by
        have h1 := Gate.zes HCC.out k hlt
        have hkl : k < (Gate.qH fs o.vs k).length := by rw [Gate.zaa HCC.out]; exact hltv
        rw [List.getElem?_eq_getElem hkl, List.getElem?_eq_getElem hltv] at h1
        rw [cell_of_block hgh, hgc k hkl, Option.some.inj h1]
      have hgf : wr.frozen? ⟨g, k, none⟩ = false := zh hgh
      have HX : Hid (zq (w.heap.size + 1 + 1) wr (some ⟨g, 0, none⟩) (Gate.qH fs o.vs k) /\ zq m wr a' o.hs /\ wr.heap[w.heap.size + 1]? = some (.cells oZ 119) /\ wr.heap[w1.heap.size]? = some (.cells (oC o (some ⟨g, 0, none⟩) a' dap dap') 119) /\ Below w.heap.size w wr) := ⟨ht, ht', hR, hO, hB⟩
      clear ht ht' hR hO hB hr hf0 hf1 hgh hgc hf
      by_cases hv : o.vs[k].toList.isEmpty = true
      · have HV : Hid (Gate.jW fs[k] o.vs[k] = fs[k].df) := by unfold Hid Gate.jW; rw [if_pos hv]
        go_wp2_with fail
        have hfg : fb ≠ g := by omega
        have hq1 : (wr.setCell ⟨g, k, none⟩ (.string fs[k].df)).drew.cell? ⟨w1.heap.size, 3, none⟩ = some (.slice (some ⟨g, 0, none⟩) o.vs.length dap) := (zY (by show w1.heap.size ≠ g; omega)).trans (hOc 3)
        have hq2 : (wr.setCell ⟨g, k, none⟩ (.string fs[k].df)).drew.cell? ⟨fb, foff + k * 11 + 9, none⟩ = some (.string fs[k].df) := (zY hfg).trans c9
        have hgd : wr.drew.frozen? ⟨g, k, none⟩ = false := hgf
        have hcd : wr.drew.cell? ⟨g, k, none⟩ = some (.string o.vs[k]) := hcell
        go_region_held3 (fun w' => w'.cell? ⟨w1.heap.size, 3, none⟩ = some (.slice (some ⟨g, 0, none⟩) o.vs.length dap) /\ w'.cell? ⟨fb, foff + k * 11 + 9, none⟩ = some (.string fs[k].df)) (first | exact ⟨hOc 3, c9⟩ | exact ⟨hq1, hq2⟩) (fail)
        go_wp2_with fail
        obtain ⟨ht, ht', hR, hO, hB⟩ := HX.out
        exact ⟨⟨k + 1, by omega, by go_num, by rw [Gate.zcz HCC.out k hlt, HV.out]; exact ht.set k _, ht'.setCell _ hgm _, (Below.heap_setCell _ _ _ _ (by show w.heap.size + 1 ≠ g; omega)).trans hR, (Below.heap_setCell _ _ _ _ (by show w1.heap.size ≠ g; omega)).trans hO, (hB.setCell (p := ⟨g, k, none⟩) (by show w.heap.size <= g; omega) _).drew⟩, zi hlt⟩
      · have HV : Hid (Gate.jW fs[k] o.vs[k] = o.vs[k]) := by unfold Hid Gate.jW; rw [if_neg hv]
        go_wp2_with fail
        obtain ⟨ht, ht', hR, hO, hB⟩ := HX.out
        have hsame : (Gate.qH fs o.vs k).set k o.vs[k] = Gate.qH fs o.vs k := by
          have h1 := Gate.zes HCC.out k hlt
          have hkl : k < (Gate.qH fs o.vs k).length := by rw [Gate.zaa HCC.out]; exact hltv
          rw [List.getElem?_eq_getElem hkl, List.getElem?_eq_getElem hltv] at h1
          rw [<- Option.some.inj h1, List.set_getElem_self]
        exact ⟨⟨k + 1, by omega, by go_num, by rw [Gate.zcz HCC.out k hlt, HV.out, hsame]; exact ht, ht', hR, hO, hB⟩, zi hlt⟩
    · have e : k = fs.length := by omega
      subst e
      rw [Gate.zis HCC.out] at ht
      have hRc : ∀ j, wr.cell? ⟨w.heap.size + 1, j, none⟩ = oZ[j]? := fun j => cell_of_block hR
      have hRf : ∀ j, wr.frozen? ⟨w.heap.size + 1, j, none⟩ = false := fun j => zh hR
      have HX : Hid (zq (w.heap.size + 1 + 1) wr a (Gate.jN fs o.vs) /\ zq m wr a' o.hs /\ Below w.heap.size w wr) := ⟨ht, ht', hB⟩
      clear ht ht' hB hR hO hf
      go_wp2_with fail
      refine bodyPost_ret (v := (.agg (oC o a a' dap dap'))) (by simp [results, Tryz.results133, go_sem, hRc]) rfl ?_
      obtain ⟨ht, ht', hB⟩ := HX.out
      rw [HRES.out]
      exact ⟨a, dap, a', dap', m, rfl, (qW ht _ (by omega) _ _ _ _ _ _ _).low (by omega), HT.out.2.1, by have := HT.out.2.2.1; omega, qW ht' _ (by have := HT.out.2.2.1; omega) _ _ _ _ _ _ _, zau hB _ (by omega) _ _ _ _ _ _ _, hsA, hsA'⟩
end Go.Proofs.YtfpeplbmfbepcaaGreat

namespace Go.Proofs.YtfpeplbmfbepcaaGreat
open Go.RowKit
namespace Gate
theorem zby (ss : List Shp) (o : Ob) : (yT ss o).length = o.vs.length := by
  unfold yT
  split
  · rename_i h; unfold zo at h; simp only [Bool.and_eq_true, decide_eq_true_eq] at h; exact qj h.2
  · rfl
theorem zem {ss : List Shp} {ms : List Mnd} (h : yc ss ms = true) : zJ ss = true := by
  unfold yc at h; simp only [Bool.and_eq_true] at h; exact h.1.1.2
theorem zmK {ss : List Shp} {ms : List Mnd} {o : Ob} (h : yc ss ms = true) : zbv ss ms o = zbX ss ms ⟨o.kd, o.nm, o.tm, yT ss o, o.en, o.hs, o.vr⟩ := by
  have e : y8 ss ms ⟨o.kd, o.nm, o.tm, yT ss o, o.en, o.hs, o.vr⟩ = y8 ss ms o := by
    unfold y8; simp only [zby]
  unfold zbv zbX
  rw [e]
  by_cases hm : y8 ss ms o = true
  · rw [if_pos hm, if_pos hm]
    have hc : zo ss o = true := by rw [<- za5 h]; exact hm
    unfold zfQ yT
    rw [if_pos hc]
  · rw [if_neg hm, if_neg hm]
    have hc : ¬ zo ss o = true := by rw [<- za5 h]; exact hm
    show o.vs = yT ss o
    unfold yT
    rw [if_neg hc]
end Gate
theorem zlY (a0 ma : Option Addr) (cap0 mcap : Nat) (ss : List Shp) (ms : List Mnd) (o : Ob) (us : List ByteArray) (hus : us.length = o.vs.length) (b off b' off' cap cap' : Nat) (w : World) (hw : yI w a0 ss) (hm : qy w ma ms) (hsm : o.Small) (ho : zA w (some ⟨b, off, none⟩) us) (ho' : zA w (some ⟨b', off', none⟩) o.hs) (hl : o.vs.length <= 1048576) (hl' : o.hs.length <= 1048576) (hok : Gate.yc ss ms = true) :
    Calls Tryz.prog 132 #[.slice a0 ss.length cap0, .slice ma ms.length mcap, .agg (oC o (some ⟨b, off, none⟩) (some ⟨b', off', none⟩) cap cap')] w (zfO o (Gate.zbX ss ms ⟨o.kd, o.nm, o.tm, us, o.en, o.hs, o.vr⟩) w) := by
  have h := zls a0 ma cap0 mcap ss ms ⟨o.kd, o.nm, o.tm, us, o.en, o.hs, o.vr⟩ b off b' off' cap cap' w hw hm ⟨⟨hsm.kd, hsm.nm, hsm.tm⟩, ho, ho'⟩ (by show us.length <= _; omega) hl' hok
  unfold zfO at h ⊢
  simp only [oC, hus] at h
  exact h
set_option maxHeartbeats 2000000 in
theorem zkQ (a0 ma : Option Addr) (cap0 mcap : Nat) (ss : List Shp) (ms : List Mnd) (o : Ob) (b off b' off' cap cap' : Nat) (w : World) (hw : yI w a0 ss) (hmm : qy w ma ms) (ho : qR w o (some ⟨b, off, none⟩) (some ⟨b', off', none⟩)) (hl : o.vs.length <= 1048576) (hl' : o.hs.length <= 1048576) (hok : Gate.yc ss ms = true) :
    Calls Tryz.prog 94 #[.slice a0 ss.length cap0, .slice ma ms.length mcap, .agg (oC o (some ⟨b, off, none⟩) (some ⟨b', off', none⟩) cap cap')] w (zfO o (Gate.zbv ss ms o) w) := by
  have HRES : Hid (Gate.zbv ss ms o = Gate.zbX ss ms ⟨o.kd, o.nm, o.tm, Gate.yT ss o, o.en, o.hs, o.vr⟩) := Gate.zmK hok
  have HSM : Hid ((Gate.yT ss o).length <= maxLen /\ ∀ s ∈ Gate.yT ss o, s.size <= maxLen) := ⟨by rw [Gate.zby]; exact ho.vals.len, by rw [<- Gate.znS (Gate.zem hok)]; exact znP hw.smalls ho.vals.small⟩
  have HH := zdB hw hmm ho
  clear hw hmm ho
  have hb2 := zn w (.cells (oC o (some ⟨b, off, none⟩) (some ⟨b', off', none⟩) cap cap') 119) (.cells oZ 119)
  go_enter Tryz.func94, Tryz.ntmps94
  go_wp2_with fail
  refine (zmN a0 cap0 ss o b off b' off' cap cap' _ (HH.out.1.mono hb2) (HH.out.2.2.mono hb2) hl hl').mono ?_
  rintro e w1 ⟨a1, dap1, a1', dap1', m1, rfl, ht1, hm1, hsm1, ht1', hb1, ⟨g, rfl⟩, ⟨g', rfl⟩⟩
  have HR1 : Hid (w1.heap[w.heap.size + 1]? = some (.cells oZ 119)) := (hb1.block (w.heap.size + 1) (by simp)).trans (zP _ _ _).2
  have hz1 : w.heap.size + 1 < w1.heap.size := by have := hb1.size; simp at this; omega
  have hB1 : Below w.heap.size w w1 := hb2.trans (hb1.mono (by simp; omega))
  have hv1 := ht1.at HSM.out.1 HSM.out.2
  have hv1' := ht1'.at HH.out.2.2.holds.len HH.out.2.2.holds.small
  clear hb1 hb2 ht1 hm1 hsm1 ht1'
  go_wp2_with fail
  refine (zlY a0 ma cap0 mcap ss ms o (Gate.yT ss o) (Gate.zby ss o) g 0 g' 0 _ _ _ (HH.out.1.mono hB1) (HH.out.2.1.mono hB1) HH.out.2.2.small hv1 hv1' hl hl' hok).mono ?_
  rintro e w4 ⟨a, dap, a', dap', m, rfl, ht, hm, hsm, ht', hb4⟩
  have hR4 := (hb4.block (w.heap.size + 1) hz1).trans HR1.out
  have hRc : ∀ j, w4.cell? ⟨w.heap.size + 1, j, none⟩ = oZ[j]? := fun j => cell_of_block hR4
  have hRf : ∀ j, w4.frozen? ⟨w.heap.size + 1, j, none⟩ = false := fun j => zh hR4
  have HX : Hid (zq (w.heap.size + 1 + 1) w4 a (Gate.zbv ss ms o) /\ (∀ g, a = some g -> g.block < m) /\ w.heap.size + 1 + 1 <= m /\ zq m w4 a' o.hs /\ Below w.heap.size w w4) := by rw [HRES.out]; exact ⟨ht.low hz1, hm, Nat.le_trans hz1 hsm, ht', hB1.trans (hb4.mono hB1.size)⟩
  clear ht hm hsm ht' hb4 hR4
  go_wp2_with fail
  refine bodyPost_ret (v := (.agg (oC o a a' dap dap'))) (by simp [results, Tryz.results94, go_sem, hRc]) rfl ?_
  obtain ⟨ht, hm, hsm, ht', hB⟩ := HX.out
  exact ⟨a, dap, a', dap', m, rfl, (qW ht _ (by omega) _ _ _ _ _ _ _).low (by omega), hm, by omega, qW ht' _ (by omega) _ _ _ _ _ _ _, zau hB _ (by omega) _ _ _ _ _ _ _⟩
end Go.Proofs.YtfpeplbmfbepcaaGreat
