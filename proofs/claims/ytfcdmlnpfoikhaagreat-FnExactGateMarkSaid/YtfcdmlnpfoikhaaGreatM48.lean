import Derived.Test.YtfcdmlnpfoikhaaGreatM46
import Derived.Test.YtfcdmlnpfoikhaaGreatM07
import Derived.Test.YtfcdmlnpfoikhaaGreatM47
import Derived.Test.YtfcdmlnpfoikhaaGreatM41
import Derived.Test.YtfcdmlnpfoikhaaGreatM45
import Derived.Test.YtfcdmlnpfoikhaaGreatM36
namespace Go.Proofs.YtfcdmlnpfoikhaaGreat
open Go.RowKit
set_option maxRecDepth 20000 in
set_option maxHeartbeats 2000000 in
theorem zma (w00 : World) (l : Lw) (a b c : Option Addr) (ca cb cc : Nat) (o : Ob) (va ha : Option Addr) (cap cap' : Nat) (w : World) (hL : qA w00 l a b c) (hbb : Below w00.heap.size w00 w) :
    Calls Tryz.prog 113 #[.agg (lC l a b c ca cb cc), .agg (oC o va ha cap cap')] w
      fun e w' => ∃ Bs Bo fa fcap, e = .returned (.func (.func 163) #[] #[.pointer (some ⟨Bs, 0, none⟩), .pointer (some ⟨Bo, 0, none⟩)]) /\ Bs < w'.heap.size /\ Bo < w'.heap.size /\ w.heap.size <= Bo /\ zY w00 fa (Gate.shapeOf l.ss o.kd).fs /\
        (∀ j, w'.cell? ⟨Bs, j, none⟩ = (#[.string (Gate.shapeOf l.ss o.kd).kd, .slice fa (Gate.shapeOf l.ss o.kd).fs.length fcap] : Array Value)[j]?) /\ (∀ j, w'.cell? ⟨Bo, j, none⟩ = (oC o va ha cap cap')[j]?) /\ Below w.heap.size w w' := by
  have HH := jE hL hbb
  clear hL hbb
  go_enter Tryz.func113, Tryz.ntmps113
  go_wp2_with fail
  have hb2 := zq w (.cells (lC l a b c ca cb cc) 41) (.cells (oC o va ha cap cap') 115)
  refine (zkn w00 _ _ l.ss o.kd _ HH.out.1.ss (HH.out.2.trans (hb2.mono HH.out.2.size))).mono ?_
  rintro e w1 ⟨fa, fcap, rfl, hfl0, hb1⟩
  have HFL := hid hfl0
  have hX1 : ∀ j, w1.cell? ⟨w.heap.size + 1, j, none⟩ = (oC o va ha cap cap')[j]? := fun j => cell_of_block ((hb1.block (w.heap.size + 1) (by simp)).trans (zR _ _ _).2)
  have hz1 : w.heap.size + 1 < w1.heap.size := by have := hb1.size; simp at this; omega
  have HB1 : Hid (Below w.heap.size w w1) := hb2.trans (hb1.mono (by simp; omega))
  have HX1 := hid hX1
  clear hb1 hb2 hfl0
  go_wp2_with fail
  go_ret
  have hba := (Below.refl w1.heap.size w1).alloc (Nat.le_refl _) (.cells #[.string (Gate.shapeOf l.ss o.kd).kd, .slice fa (Gate.shapeOf l.ss o.kd).fs.length fcap] 119)
  exact ⟨w1.heap.size, w.heap.size + 1, fa, fcap, rfl, by simp, Nat.lt_of_lt_of_le hz1 hba.size, Nat.le_succ _, HFL.out, zH w1 _ _, za HX1.out hz1 hba, HB1.out.trans (hba.mono HB1.out.size)⟩
theorem zgu (l : Lw) (a b c : Option Addr) (ca cb cc : Nat) (o : Ob) (va ha : Option Addr) (cap cap' : Nat) (w : World) (hL : qA w l a b c) :
    Calls Tryz.prog 113 #[.agg (lC l a b c ca cb cc), .agg (oC o va ha cap cap')] w
      fun e w' => ∃ Bs Bo fa fcap, e = .returned (.func (.func 163) #[] #[.pointer (some ⟨Bs, 0, none⟩), .pointer (some ⟨Bo, 0, none⟩)]) /\ Bs < w'.heap.size /\ Bo < w'.heap.size /\ zY w' fa (Gate.shapeOf l.ss o.kd).fs /\
        (∀ j, w'.cell? ⟨Bs, j, none⟩ = (#[.string (Gate.shapeOf l.ss o.kd).kd, .slice fa (Gate.shapeOf l.ss o.kd).fs.length fcap] : Array Value)[j]?) /\ (∀ j, w'.cell? ⟨Bo, j, none⟩ = (oC o va ha cap cap')[j]?) /\ Below w.heap.size w w' :=
  (zma w l a b c ca cb cc o va ha cap cap' w hL (Below.refl _ _)).mono fun _ _ ⟨Bs, Bo, fa, fcap, he, h1, h2, _, hf, hX, hY, hb⟩ => ⟨Bs, Bo, fa, fcap, he, h1, h2, hf.mono hb, hX, hY, hb⟩
end Go.Proofs.YtfcdmlnpfoikhaaGreat

namespace Go.Proofs.YtfcdmlnpfoikhaaGreat
open Go.RowKit
namespace Gate
theorem zm5 {ss : List Shp} {v : ByteArray} (h : zD ss v = true) : (shapeOf ss v).kd = v := by
  unfold zD at h
  rw [List.any_eq_true] at h
  obtain ⟨x, hx, he⟩ := h
  unfold shapeOf
  cases hf : ss.find? (fun s => decide (s.kd = v)) with
  | none => rw [List.find?_eq_none] at hf; exact absurd he (hf x hx)
  | some y => simpa using List.find?_some hf
theorem zaU {ss : List Shp} {ms : List Mnd} {o : Ob} (hm : zW ss ms = true) : yZ ss ms o = zu ss o := by
  unfold yZ zu; rw [hm, Bool.and_true]
structure zpe (ss : List Shp) (ms : List Mnd) (o : Ob) (pl : List Nat) : Prop where
  names : zZ (shapeOf ss o.kd) ms (shapeOf ss o.kd).fs.length = pl.map (zaC (shapeOf ss o.kd))
  zoc : zjb (zi (shapeOf ss o.kd) ms) (shapeOf ss o.kd).fs.length pl
  place : ∀ q (h : q < (shapeOf ss o.kd).fs.length), zS (shapeOf ss o.kd).fs (shapeOf ss o.kd).fs[q].nm = (q : Int)
  kd : (shapeOf ss o.kd).kd = o.kd
  few : (shapeOf ss o.kd).fs.length <= 6
  reads : ∀ q, q < (shapeOf ss o.kd).fs.length -> ∀ x ∈ yg (shapeOf ss o.kd) ms q, 0 <= x /\ x < (shapeOf ss o.kd).fs.length
  len : o.vs.length = (shapeOf ss o.kd).fs.length
  mends : ms.length <= 12
  res : zf8 ss ms o = zM (decided (shapeOf ss o.kd) ms) pl o.vs
theorem rowOf {ss : List Shp} {ms : List Mnd} {o : Ob} (hm : zW ss ms = true) (hc : zu ss o = true) : zpe ss ms o (greedy (zi (shapeOf ss o.kd) ms) (shapeOf ss o.kd).fs.length (shapeOf ss o.kd).fs.length) := by
  have hmd : yZ ss ms o = true := by rw [zaU hm]; exact hc
  obtain ⟨hl, h6, hr, hw⟩ := zbh hmd
  unfold zu at hc
  simp only [Bool.and_eq_true] at hc
  obtain ⟨i, hi, e⟩ := zdE hc.1
  have hkd := zm5 hc.1
  unfold zW at hm
  simp only [Bool.and_eq_true, decide_eq_true_eq] at hm
  obtain ⟨⟨⟨h12, hs⟩, ha⟩, _⟩ := hm
  have hrd : ∀ p, p < (shapeOf ss o.kd).fs.length -> ∀ q ∈ zi (shapeOf ss o.kd) ms p, q < (shapeOf ss o.kd).fs.length := by
    intro p hp q hq
    unfold zi at hq
    obtain ⟨x, hx, rfl⟩ := List.mem_map.1 hq
    have := hr p hp x hx
    omega
  have htw := zc7 hrd hw
  have htg : zjb (zi (shapeOf ss o.kd) ms) (shapeOf ss o.kd).fs.length (greedy (zi (shapeOf ss o.kd) ms) (shapeOf ss o.kd).fs.length (shapeOf ss o.kd).fs.length) :=
    (zbx _ _ _).zoc (zgB htw.zke _ (Nat.le_refl _))
  refine ⟨?_, htg, ?_, hkd, h6, hr, hl, h12, ?_⟩
  · rw [e]; exact zcQ hs ha i hi _
  · rw [e]
    intro q hq
    refine zdh ss[i].fs _ q hq ?_ rfl
    unfold hasName
    rw [List.any_eq_false]
    intro x hx
    obtain ⟨j, hj, rfl⟩ := List.mem_iff_getElem.1 hx
    have hjq : j < q := by simp at hj; omega
    simp only [List.getElem_take, decide_eq_true_eq]
    exact zd0 hs i hi j q hjq hq
  · exact zk6 htw htg (ziP _ _) o.vs hl
theorem zkm {α : Type} (D : Nat -> List α -> α) (pl : List Nat) (vs : List α) (k : Nat) (h : k < pl.length) : zM D (pl.take (k + 1)) vs = (zM D (pl.take k) vs).set pl[k] (D pl[k] (zM D (pl.take k) vs)) := by
  unfold zM; rw [List.take_succ_eq_append_getElem h, List.foldl_append]; rfl
end Gate
theorem zoW {lo : Nat} {w : World} {g : Nat} {us : List ByteArray} (h : zn lo w (some ⟨g, 0, none⟩) us) (p : Nat) (hp : p < us.length) : w.cell? ⟨g, p, none⟩ = some (.string us[p]) := by
  rcases h with ⟨h0, _⟩ | ⟨g', C, hg, _, hh, hc⟩
  · cases h0
  · cases hg; rw [cell_of_block hh, hc p hp]
theorem zoJ {lo : Nat} {w : World} {g p : Nat} {us : List ByteArray} (h : zn lo w (some ⟨g, 0, none⟩) us) (_hp : p < us.length) : w.frozen? ⟨g, p, none⟩ = false := by
  rcases h with ⟨h0, _⟩ | ⟨g', C, hg, _, hh, hc⟩
  · cases h0
  · cases hg; exact zh hh
theorem zot {w : World} {lo : Nat} {v : Value} {row : List ByteArray} (h : w.ownsRow lo 9 1 v row.length (row.map Value.string)) : ∃ ra rcap, v = .slice ra row.length rcap /\ (row ≠ [] -> ∃ rb, ra = some ⟨rb, 0, none⟩ /\ lo <= rb /\ rb < w.heap.size /\ ∀ i (h : i < row.length), w.cell? ⟨rb, i, none⟩ = some (.string row[i])) := by
  obtain ⟨_, ⟨h0, h1⟩ | ⟨g, cp, cur, h0, h1⟩⟩ := id h
  · have e := List.length_eq_zero_iff.1 h1
    subst e
    exact ⟨none, 0, by rw [h0]; rfl, fun hn => absurd rfl hn⟩
  · subst h0
    refine ⟨some ⟨g, 0, none⟩, cp, rfl, fun _ => ⟨g, rfl, (h.lt g rfl).1, (h.lt g rfl).2, fun i hi => ?_⟩⟩
    rw [h.cellAt i (by omega)]
    simp [hi]
theorem zij (s : Shp) (ms : List Mnd) (o : Ob) (vs : List ByteArray) (n : Nat) (hn : vs.length = n) (p : Nat) (fa ma va ha : Option Addr) (fcap mcap vcap hcap : Nat) (w : World) (hf : zY w fa s.fs) (hm : qw w ma ms) (hv : zB w va vs) (hc : vs.length = s.fs.length) (hp : p < s.fs.length) (hix : Gate.zS s.fs s.fs[p].nm = (p : Int)) (hkd : o.kd = s.kd) (hrd : ∀ x ∈ Gate.yg s ms p, 0 <= x /\ x < s.fs.length) :
    Calls Tryz.prog 172 #[.slice fa s.fs.length fcap, .slice ma ms.length mcap, .agg #[.string o.kd, .string o.nm, .string o.tm, .slice va n vcap, .bool o.en, .slice ha o.hs.length hcap, .int .i64 o.vr], .string s.fs[p].nm] w fun e w' => e = .returned (.string (Gate.decided s ms p vs)) /\ Below w.heap.size w w' := by
  subst hn
  exact ziS s ms o vs p fa ma va ha fcap mcap vcap hcap w hf hm hv hc hp hix hkd hrd
set_option maxRecDepth 20000 in
set_option maxHeartbeats 8000000 in
theorem zkF (a0 ma : Option Addr) (cap0 mcap : Nat) (ss : List Shp) (ms : List Mnd) (o : Ob) (b off b' off' cap cap' : Nat) (w : World) (hw : yE w a0 ss) (hm : qw w ma ms) (ho : qL w o (some ⟨b, off, none⟩) (some ⟨b', off', none⟩)) (hl : o.vs.length <= 1048576) (hl' : o.hs.length <= 1048576) (hok : Gate.zW ss ms = true) :
    Calls Tryz.prog 127 #[.slice a0 ss.length cap0, .slice ma ms.length mcap, .agg (oC o (some ⟨b, off, none⟩) (some ⟨b', off', none⟩) cap cap')] w (zfm o (Gate.zbK ss ms o) w) := by
  have hsl := hw.len
  unfold maxLen at hsl
  have HW := jE hw hm
  clear hw hm
  by_cases hc : Gate.zu ss o = true
  rotate_left
  · have HC : Hid (Gate.zu ss o = false) := by simpa [Hid] using hc
    have HRES : Hid (Gate.zbK ss ms o = o.vs) := by unfold Hid Gate.zbK; rw [if_neg (by rw [Gate.zaU hok]; exact hc)]
    have HH := hid ho
    clear hc ho
    go_enter Tryz.func127, Tryz.ntmps127
    go_wp2_with fail
    refine (zhX o b off b' off' cap cap' _ (HH.out.mono (zq w (.cells (oC o (some ⟨b, off, none⟩) (some ⟨b', off', none⟩) cap cap') 115) (.cells oZ 115))) hl hl').mono ?_
    rintro e w1 ⟨a, dap, a', dap', m, rfl, ht, hm, hsm, ht', hb1⟩
    have HO1 : Hid (w1.heap[w.heap.size]? = some (.cells (oC o (some ⟨b, off, none⟩) (some ⟨b', off', none⟩) cap cap') 115)) := (hb1.block w.heap.size (by simp; omega)).trans (zR _ _ _).1
    have HR1 : Hid (w1.heap[w.heap.size + 1]? = some (.cells oZ 115)) := (hb1.block (w.heap.size + 1) (by simp)).trans (zR _ _ _).2
    have hX1 : ∀ j, w1.cell? ⟨w.heap.size, j, none⟩ = (oC o (some ⟨b, off, none⟩) (some ⟨b', off', none⟩) cap cap')[j]? := fun j => cell_of_block HO1.out
    have hz1 : w.heap.size + 1 < w1.heap.size := by have := hb1.size; simp at this; omega
    have hz0 : w.heap.size < w1.heap.size := by omega
    have hB1 : Below w.heap.size w w1 := (zq _ _ _).trans (hb1.mono (by simp; omega))
    have HT : Hid (zn (w.heap.size + 1 + 1) w1 a o.vs /\ (∀ g, a = some g -> g.block < m) /\ w.heap.size + 1 + 1 <= m /\ zn m w1 a' o.hs) := by
      simp only [World.size_alloc] at ht hsm
      exact ⟨ht, hm, hsm, ht'⟩
    clear ht hm hsm ht' hb1
    go_wp2_with fail
    have hbs := (Below.refl w1.heap.size w1).alloc (Nat.le_refl _) (.cells (oC o a a' dap dap') 115)
    have hBs := hB1.trans (hbs.mono hB1.size)
    refine (zck a0 cap0 ss o _ _ cap cap' _ (HW.out.1.mono hBs) (HH.out.mono hBs) HC.out).mono ?_
    rintro e w2 ⟨v, rfl, hb2⟩
    have hba := hbs.trans (hb2.mono hbs.size)
    have hR2 := (hba.block _ hz1).trans HR1.out
    have hU2 : ∀ j, w2.cell? ⟨w1.heap.size, j, none⟩ = (oC o a a' dap dap')[j]? := za (zH w1 _ _) (by simp) hb2
    have hRc : ∀ j, w2.cell? ⟨w.heap.size + 1, j, none⟩ = oZ[j]? := fun j => cell_of_block hR2
    have hRf : ∀ j, w2.frozen? ⟨w.heap.size + 1, j, none⟩ = false := fun j => zh hR2
    have HX := zfw (HT.out.1.mono hba) (HT.out.2.2.2.mono hba) (hB1.trans (hba.mono hB1.size))
    clear hbs hBs hb2 hba hR2 hX1
    go_wp2_with fail
    refine bodyPost_ret (v := (.agg (oC o a a' dap dap'))) (by simp [results, Tryz.results127, go_sem, hRc]) rfl ?_
    obtain ⟨ht, ht', hB⟩ := HX.out
    rw [HRES.out]
    exact ⟨a, dap, a', dap', m, rfl, (qW ht _ (by omega) _ _ _ _ _ _ _).low (by omega), HT.out.2.1, by have := HT.out.2.2.1; omega, qW ht' _ (by have := HT.out.2.2.1; omega) _ _ _ _ _ _ _, zam hB _ (by omega) _ _ _ _ _ _ _⟩
  have HC := hid hc
  have HRO := hid (Gate.rowOf hok hc)
  have HRES : Hid (Gate.zbK ss ms o = Gate.zf8 ss ms o) := by unfold Hid Gate.zbK; rw [if_pos (by rw [Gate.zaU hok]; exact hc)]
  have HK : Hid (Gate.zD ss o.kd = true) := by unfold Gate.zu at hc; simp only [Bool.and_eq_true] at hc; exact hc.1
  have HH := hid ho
  clear hc ho
  go_enter Tryz.func127, Tryz.ntmps127
  go_wp2_with fail
  refine (zhX o b off b' off' cap cap' _ (HH.out.mono (zq w (.cells (oC o (some ⟨b, off, none⟩) (some ⟨b', off', none⟩) cap cap') 115) (.cells oZ 115))) hl hl').mono ?_
  rintro e w1 ⟨a, dap, a', dap', m, rfl, ht, hm, hsm, ht', hb1⟩
  have HO1 : Hid (w1.heap[w.heap.size]? = some (.cells (oC o (some ⟨b, off, none⟩) (some ⟨b', off', none⟩) cap cap') 115)) := (hb1.block w.heap.size (by simp; omega)).trans (zR _ _ _).1
  have HR1 : Hid (w1.heap[w.heap.size + 1]? = some (.cells oZ 115)) := (hb1.block (w.heap.size + 1) (by simp)).trans (zR _ _ _).2
  have hX1 : ∀ j, w1.cell? ⟨w.heap.size, j, none⟩ = (oC o (some ⟨b, off, none⟩) (some ⟨b', off', none⟩) cap cap')[j]? := fun j => cell_of_block HO1.out
  have hz1 : w.heap.size + 1 < w1.heap.size := by have := hb1.size; simp at this; omega
  have hz0 : w.heap.size < w1.heap.size := by omega
  have hB1 : Below w.heap.size w w1 := (zq _ _ _).trans (hb1.mono (by simp; omega))
  have HT : Hid (zn (w.heap.size + 1 + 1) w1 a o.vs /\ (∀ g, a = some g -> g.block < m) /\ w.heap.size + 1 + 1 <= m /\ zn m w1 a' o.hs) := by
    simp only [World.size_alloc] at ht hsm
    exact ⟨ht, hm, hsm, ht'⟩
  clear ht hm hsm ht' hb1
  go_wp2_with fail
  have hbs := (Below.refl w1.heap.size w1).alloc (Nat.le_refl _) (.cells (oC o a a' dap dap') 115)
  have hBs := hB1.trans (hbs.mono hB1.size)
  refine (zeo a0 cap0 ss o _ _ cap cap' w _ HW.out.1 hBs HC.out).mono ?_
  rintro e w2 ⟨fa, fcap, rfl, hf, hb2⟩
  have HFA := hid hf
  have hba := hbs.trans (hb2.mono hbs.size)
  have HR2 := hid ((hba.block _ hz1).trans HR1.out)
  have HO2 := hid ((hba.block _ hz0).trans HO1.out)
  have HU2 : Hid (w2.heap[w1.heap.size]? = some (.cells (oC o a a' dap dap') 115)) := (hb2.block _ (by simp)).trans (alloc_at _ _)
  have HX2 := zfw (HT.out.1.mono hba) (HT.out.2.2.2.mono hba) (hB1.trans (hba.mono hB1.size))
  have hz2 := (Array.getElem?_eq_some_iff.1 HU2.out).1
  have hX2 : ∀ j, w2.cell? ⟨w.heap.size, j, none⟩ = (oC o (some ⟨b, off, none⟩) (some ⟨b', off', none⟩) cap cap')[j]? := fun j => cell_of_block HO2.out
  have hzo2 : w.heap.size < w2.heap.size := by omega
  clear hbs hBs hb2 hba hX1 hf
  go_wp2_with fail
  refine (zaX _ _ _ _ _ (HW.out.1.mono HX2.out.2.2) HK.out).mono ?_
  rintro e w3 ⟨ix, hix, rfl, hsh, rfl⟩
  have HSh := hid hsh
  clear hsh
  obtain ⟨sb, soff, rfl, hsb0, hsr⟩ := HW.out.1.rows (by rintro rfl; simp at hix)
  obtain ⟨fa2, fcap2, hs0⟩ := hsr ix hix
  have hs := hs0.mono hsb0 HX2.out.2.2
  have hck := hs.kind
  have hcl := hs.list
  have HF2 := hid hs0.zcn
  have hixI : (ix : Int) < (ss.length : Int) := by omega
  have hsbw := Nat.lt_of_lt_of_le hsb0 HX2.out.2.2.size
  clear hsr hs hs0
  go_wp2_with fail
  refine (zjI fa2 ma fcap2 mcap ss[ix] ms _ (HF2.out.mono HX2.out.2.2) (HW.out.2.mono HX2.out.2.2) HRO.out.mends (by have := HRO.out.few; rw [HSh.out] at this; exact this)).mono ?_
  rintro e w4 ⟨v, rfl, hrow, hb4⟩
  rw [<- HSh.out, HRO.out.names] at hrow
  obtain ⟨ra, rcap, rfl, hrw⟩ := zot (by rw [List.length_map]; rw [List.length_map] at hrow; exact hrow)
  rw [List.length_map]
  have HRO2 := HRO.out
  have HX4 : Hid (zn (w.heap.size + 1 + 1) w4 a o.vs /\ zn m w4 a' o.hs /\ Below w.heap.size w w4) := ⟨HX2.out.1.mono hb4, HX2.out.2.1.mono hb4, HX2.out.2.2.trans (hb4.mono HX2.out.2.2.size)⟩
  have HR4 : Hid (w4.heap[w.heap.size + 1]? = some (.cells oZ 115)) := (hb4.block _ (by omega)).trans HR2.out
  have HU4 : Hid (w4.heap[w1.heap.size]? = some (.cells (oC o a a' dap dap') 115)) := (hb4.block _ hz2).trans HU2.out
  have HZ4 : Hid (w3.heap.size <= w4.heap.size) := hb4.size
  clear hb4 hX2 hck hcl HSh HF2 HRO hixI hrow
  revert HRO2 HFA hrw
  generalize Gate.greedy (Gate.zi (Gate.shapeOf ss o.kd) ms) (Gate.shapeOf ss o.kd).fs.length (Gate.shapeOf ss o.kd).fs.length = pl
  intro HFA hrw hro
  have HRW : Hid (Gate.zpe ss ms o pl) := hro
  have HVS : Hid (Gate.zf8 ss ms o = Gate.zM (Gate.decided (Gate.shapeOf ss o.kd) ms) pl o.vs) := hro.res
  have hpl6 : pl.length <= 6 := by
    have h1 := Gate.zbb pl (List.range (Gate.shapeOf ss o.kd).fs.length) hro.zoc.nodup (fun x hx => List.mem_range.2 ((hro.zoc.mem x).1 hx))
    rw [List.length_range] at h1
    have := hro.few
    omega
  clear hro
  go_wp2_with fail
  go_loopw [11] (fun i wr => ∃ k : Nat, k <= pl.length /\ i = .int .i64 k /\ zn (w.heap.size + 1 + 1) wr a (Gate.zM (Gate.decided (Gate.shapeOf ss o.kd) ms) (pl.take k) o.vs) /\ zn m wr a' o.hs /\ wr.heap[w.heap.size + 1]? = some (.cells oZ 115) /\ wr.heap[w1.heap.size]? = some (.cells (oC o a a' dap dap') 115) /\ Below w.heap.size w wr /\ w3.heap.size <= wr.heap.size /\ (pl.map (Gate.zaC (Gate.shapeOf ss o.kd)) ≠ [] -> ∃ rb, ra = some ⟨rb, 0, none⟩ /\ w3.heap.size <= rb /\ rb < wr.heap.size /\ ∀ i (h : i < (pl.map (Gate.zaC (Gate.shapeOf ss o.kd))).length), wr.cell? ⟨rb, i, none⟩ = some (.string (pl.map (Gate.zaC (Gate.shapeOf ss o.kd)))[i]))) (fun i _ => pl.length - (intOf i).toNat)
  case atStart => exact ⟨0, Nat.zero_le _, rfl, HX4.out.1, HX4.out.2.1, HR4.out, HU4.out, HX4.out.2.2, HZ4.out, hrw⟩
  case round =>
    obtain ⟨k, hk, rfl, ht, ht', hR, hO, hB, hz3, hrr⟩ := hrel
    by_cases hlt : k < pl.length
    · obtain ⟨rb, rfl, hrb0, hrbz, hrc⟩ := hrr (by intro h; have := congrArg List.length h; simp at this; rw [this] at hlt; simp at hlt)
      have hpn : pl[k] < (Gate.shapeOf ss o.kd).fs.length := (HRW.out.zoc.mem _).1 (List.getElem_mem hlt)
      have hck := hrc k (by rw [List.length_map]; exact hlt)
      rw [List.getElem_map] at hck
      have hnm : Gate.zaC (Gate.shapeOf ss o.kd) pl[k] = (Gate.shapeOf ss o.kd).fs[pl[k]].nm := by unfold Gate.zaC; rw [Gate.getD_at _ _ _ hpn]
      rw [hnm] at hck
      have HTS : Hid (Gate.zM (Gate.decided (Gate.shapeOf ss o.kd) ms) (pl.take (k + 1)) o.vs = (Gate.zM (Gate.decided (Gate.shapeOf ss o.kd) ms) (pl.take k) o.vs).set pl[k] (Gate.decided (Gate.shapeOf ss o.kd) ms pl[k] (Gate.zM (Gate.decided (Gate.shapeOf ss o.kd) ms) (pl.take k) o.vs))) := Gate.zkm _ pl o.vs k hlt
      have HUS : Hid (∀ x ∈ Gate.zM (Gate.decided (Gate.shapeOf ss o.kd) ms) (pl.take k) o.vs, x.size <= maxLen) := Gate.zbt HW.out.2.small _ _ HH.out.vals.small
      have HLV : Hid ((Gate.zM (Gate.decided (Gate.shapeOf ss o.kd) ms) (pl.take k) o.vs).length = o.vs.length) := Gate.qX _ _ _
      have HRR : Hid (∀ i (h : i < (pl.map (Gate.zaC (Gate.shapeOf ss o.kd))).length), wr.cell? ⟨rb, i, none⟩ = some (.string (pl.map (Gate.zaC (Gate.shapeOf ss o.kd)))[i])) := hrc
      clear hrr hrc hnm
      revert hck HTS hpn
      generalize pl[k] = p
      intro hpn hck HTS
      revert HTS HLV HUS ht
      generalize Gate.zM (Gate.decided (Gate.shapeOf ss o.kd) ms) (pl.take k) o.vs = us
      intro ht HUS HLV HTS
      have hltI : (k : Int) < (pl.length : Int) := by omega
      have hpv : p < us.length := by rw [HLV.out, HRW.out.len]; exact hpn
      have hpI : (p : Int) < (o.vs.length : Int) := by have := HRW.out.len; omega
      obtain ⟨g, C, hga, hgl, hgh, hgc⟩ : ∃ g C, a = some ⟨g, 0, none⟩ /\ w.heap.size + 1 + 1 <= g /\ wr.heap[g]? = some (.cells C 9) /\ ∀ i (h : i < us.length), C[i]? = some (.string us[i]) := by
        rcases ht with ⟨_, h0⟩ | h0
        · rw [h0] at hpv; simp at hpv
        · exact h0
      have hgm : g < m := HT.out.2.1 _ hga
      have hgw1 : g < w1.heap.size := HT.out.1.lt _ hga
      have hgw : g < wr.heap.size := by omega
      subst hga
      have hUS : zB wr (some ⟨g, 0, none⟩) us := ht.at (by rw [HLV.out]; exact HH.out.vals.len) HUS.out
      have HJP : Hid (Gate.zS (Gate.shapeOf ss o.kd).fs (Gate.shapeOf ss o.kd).fs[p].nm = (p : Int)) := HRW.out.place p hpn
      have hOc : ∀ j, wr.cell? ⟨w1.heap.size, j, none⟩ = (oC o (some ⟨g, 0, none⟩) a' dap dap')[j]? := fun j => cell_of_block hO
      have hOz : w1.heap.size < wr.heap.size := (Array.getElem?_eq_some_iff.1 hO).1
      have hRk : (k : Int) < ((pl.map (Gate.zaC (Gate.shapeOf ss o.kd))).length : Int) := by rw [List.length_map]; exact hltI
      have hkr : wr.cell? ⟨rb, 0 + k, none⟩ = some (.string (Gate.shapeOf ss o.kd).fs[p].nm) := by rw [Nat.zero_add]; exact hck
      have HX : Hid (zn (w.heap.size + 1 + 1) wr (some ⟨g, 0, none⟩) us /\ zn m wr a' o.hs /\ wr.heap[w.heap.size + 1]? = some (.cells oZ 115) /\ wr.heap[w1.heap.size]? = some (.cells (oC o (some ⟨g, 0, none⟩) a' dap dap') 115) /\ Below w.heap.size w wr /\ w3.heap.size <= wr.heap.size) := ⟨ht, ht', hR, hO, hB, hz3⟩
      clear ht ht' hR hO hB hz3 hgh hgc
      go_wp2_with fail
      have hb := (Below.refl wr.heap.size wr).drew
      have hS1 : ∀ j, wr.drew.cell? ⟨w1.heap.size, j, none⟩ = (oC o (some ⟨g, 0, none⟩) a' dap dap')[j]? := hOc
      have hS2 : wr.drew.cell? ⟨rb, k, none⟩ = some (.string (Gate.shapeOf ss o.kd).fs[p].nm) := hck
      have hrg : rb ≠ g := by omega
      have how : w1.heap.size ≠ g := by omega
      clear hOc hck hkr
      go_region_held3 (fun w' => (∀ j, w'.cell? ⟨w1.heap.size, j, none⟩ = (oC o (some ⟨g, 0, none⟩) a' dap dap')[j]?) /\ w'.cell? ⟨rb, k, none⟩ = some (.string (Gate.shapeOf ss o.kd).fs[p].nm)) (first | exact ⟨hS1, hS2⟩ | exact ⟨hS3, hS4⟩) (first
        | (go_at_call 167; refine (zkq HJP.out (zan _ _ (Gate.shapeOf ss o.kd).fs _ _ (by exact HFA.out.mono (HX.out.2.2.2.2.1.trans (hb.mono HX.out.2.2.2.2.1.size))))).mono ?_; rintro e w5 ⟨rfl, rfl⟩)
        | (go_at_call 172; refine (zij (Gate.shapeOf ss o.kd) ms o us _ HLV.out p _ _ _ _ _ _ _ _ _ (by exact HFA.out.mono (HX.out.2.2.2.2.1.trans (hb.mono HX.out.2.2.2.2.1.size))) (by exact HW.out.2.mono (HX.out.2.2.2.2.1.trans (hb.mono HX.out.2.2.2.2.1.size))) (by exact hUS.mono hb) (by rw [HLV.out]; exact HRW.out.len) hpn HJP.out HRW.out.kd.symm (HRW.out.reads p hpn)).mono ?_; rintro e w6 ⟨rfl, hb6⟩; have hb := hb.trans (hb6.mono hb.size); have hS1 := za hS1 hOz hb6; have hS2 := (hb6.cell (p := ⟨rb, k, none⟩) hrbz).trans hS2; have hU6 := hUS.mono hb; have hG := HX.out.1.mono hb; clear hb6; have hS3 : ∀ j, (w6.setCell ⟨g, p, none⟩ (.string (Gate.decided (Gate.shapeOf ss o.kd) ms p us))).cell? ⟨w1.heap.size, j, none⟩ = (oC o (some ⟨g, 0, none⟩) a' dap dap')[j]? := fun j => (zT how).trans (hS1 j); have hS4 : (w6.setCell ⟨g, p, none⟩ (.string (Gate.decided (Gate.shapeOf ss o.kd) ms p us))).cell? ⟨rb, k, none⟩ = some (.string (Gate.shapeOf ss o.kd).fs[p].nm) := (zT hrg).trans hS2; have hgc6 : w6.cell? ⟨g, p, none⟩ = some (.string us[p]) := zoW hG p hpv; have hgf6 : w6.frozen? ⟨g, p, none⟩ = false := zoJ hG hpv))
      go_wp2_with fail
      obtain ⟨ht, ht', hR, hO, hB, hz3⟩ := HX.out
      exact ⟨⟨k + 1, by omega, by go_num, by rw [HTS.out]; exact (ht.mono hb).set p _, (ht'.mono hb).setCell _ hgm _, (Below.heap_setCell _ _ _ _ (by show w.heap.size + 1 ≠ g; omega)).trans ((hb.block _ (by omega)).trans hR), (Below.heap_setCell _ _ _ _ (by show w1.heap.size ≠ g; omega)).trans ((hb.block _ hOz).trans hO), (hB.trans (hb.mono hB.size)).setCell (p := ⟨g, p, none⟩) (by show w.heap.size <= g; omega) _, by rw [World.size_setCell]; exact Nat.le_trans hz3 hb.size, fun _ => ⟨rb, rfl, hrb0, by rw [World.size_setCell]; exact Nat.lt_of_lt_of_le hrbz hb.size, fun i hi => (zT hrg).trans ((hb.cell (p := ⟨rb, i, none⟩) hrbz).trans (HRR.out i hi))⟩⟩, zk hlt⟩
    · have e : k = pl.length := by omega
      subst e
      rw [List.take_of_length_le (Nat.le_refl _), <- HVS.out] at ht
      have hRc : ∀ j, wr.cell? ⟨w.heap.size + 1, j, none⟩ = oZ[j]? := fun j => cell_of_block hR
      have hRf : ∀ j, wr.frozen? ⟨w.heap.size + 1, j, none⟩ = false := fun j => zh hR
      have hOc : ∀ j, wr.cell? ⟨w1.heap.size, j, none⟩ = (oC o a a' dap dap')[j]? := fun j => cell_of_block hO
      have hOz := (Array.getElem?_eq_some_iff.1 hO).1
      have HX := zfw ht ht' hB
      clear ht ht' hB hR hO hrr
      go_wp2_with fail
      refine bodyPost_ret (v := (.agg (oC o a a' dap dap'))) (by simp [results, Tryz.results127, go_sem, hRc]) rfl ?_
      obtain ⟨ht, ht', hB⟩ := HX.out
      rw [HRES.out]
      exact ⟨a, dap, a', dap', m, rfl, (qW ht _ (by omega) _ _ _ _ _ _ _).low (by omega), HT.out.2.1, by have := HT.out.2.2.1; omega, qW ht' _ (by have := HT.out.2.2.1; omega) _ _ _ _ _ _ _, zam hB _ (by omega) _ _ _ _ _ _ _⟩
end Go.Proofs.YtfcdmlnpfoikhaaGreat

namespace Go.Proofs.YtfcdmlnpfoikhaaGreat
open Go.RowKit
def znA (o : Ob) (vs : List ByteArray) (w : World) (e : Ending) (w' : World) : Prop :=
  ∃ a dap a' dap' m, e = .returned (.agg (oC o a a' dap dap')) /\ zn w.heap.size w' a vs /\ (∀ g, a = some g -> g.block < m) /\ w.heap.size <= m /\ zn m w' a' o.hs /\ Below w.heap.size w w' /\ (∃ g, a = some ⟨g, 0, none⟩) /\ ∃ g, a' = some ⟨g, 0, none⟩
theorem zgv (o : Ob) (b off b' off' cap cap' : Nat) (w : World) (ho : qL w o (some ⟨b, off, none⟩) (some ⟨b', off', none⟩)) (hl : o.vs.length <= 1048576) (hl' : o.hs.length <= 1048576) :
    Calls Tryz.prog 171 #[.agg (oC o (some ⟨b, off, none⟩) (some ⟨b', off', none⟩) cap cap')] w
      fun e w' => ∃ a dap a' dap' m, e = .returned (.agg (oC o a a' dap dap')) /\ zn w.heap.size w' a o.vs /\ (∀ g, a = some g -> g.block < m) /\ w.heap.size <= m /\ zn m w' a' o.hs /\ Below w.heap.size w w' /\ (∃ g, a = some ⟨g, 0, none⟩) /\ ∃ g, a' = some ⟨g, 0, none⟩ :=
  zhR o _ _ cap cap' w ho hl hl'
set_option maxHeartbeats 4000000 in
theorem zlS (a0 : Option Addr) (cap0 : Nat) (ss : List Shp) (o : Ob) (b off b' off' cap cap' : Nat) (w : World) (hw : yE w a0 ss) (ho : qL w o (some ⟨b, off, none⟩) (some ⟨b', off', none⟩)) (hl : o.vs.length <= 1048576) (hl' : o.hs.length <= 1048576) :
    Calls Tryz.prog 128 #[.slice a0 ss.length cap0, .agg (oC o (some ⟨b, off, none⟩) (some ⟨b', off', none⟩) cap cap')] w (znA o (Gate.yS ss o) w) := by
  by_cases hc : Gate.zu ss o = true
  rotate_left
  · have HC : Hid (Gate.zu ss o = false) := by simpa [Hid] using hc
    have HRES : Hid (Gate.yS ss o = o.vs) := by unfold Hid Gate.yS; rw [if_neg hc]
    clear hc
    have HH : Hid (qL w o (some ⟨b, off, none⟩) (some ⟨b', off', none⟩)) := ho
    clear ho
    go_enter Tryz.func128, Tryz.ntmps128
    go_wp2_with fail
    refine (zgv o b off b' off' cap cap' _ (HH.out.mono (zq w (.cells (oC o (some ⟨b, off, none⟩) (some ⟨b', off', none⟩) cap cap') 115) (.cells oZ 115))) hl hl').mono ?_
    rintro e w1 ⟨a, dap, a', dap', m, rfl, ht, hm, hsm, ht', hb1, hsA, hsA'⟩
    have HO1 : Hid (w1.heap[w.heap.size]? = some (.cells (oC o (some ⟨b, off, none⟩) (some ⟨b', off', none⟩) cap cap') 115)) := (hb1.block w.heap.size (by simp; omega)).trans (zR _ _ _).1
    have HR1 : Hid (w1.heap[w.heap.size + 1]? = some (.cells oZ 115)) := (hb1.block (w.heap.size + 1) (by simp)).trans (zR _ _ _).2
    have hX1 : ∀ j, w1.cell? ⟨w.heap.size, j, none⟩ = (oC o (some ⟨b, off, none⟩) (some ⟨b', off', none⟩) cap cap')[j]? := fun j => cell_of_block HO1.out
    have hz1 : w.heap.size + 1 < w1.heap.size := by have := hb1.size; simp at this; omega
    have hz0 : w.heap.size < w1.heap.size := by omega
    have hB1 : Below w.heap.size w w1 := (zq _ _ _).trans (hb1.mono (by simp; omega))
    have HT : Hid (zn (w.heap.size + 1 + 1) w1 a o.vs /\ (∀ g, a = some g -> g.block < m) /\ w.heap.size + 1 + 1 <= m /\ zn m w1 a' o.hs) := by
      simp only [World.size_alloc] at ht hsm
      exact ⟨ht, hm, hsm, ht'⟩
    clear ht hm hsm ht' hb1
    go_wp2_with fail
    have hbs := (Below.refl w1.heap.size w1).alloc (Nat.le_refl _) (.cells (oC o a a' dap dap') 115)
    have hBs := hB1.trans (hbs.mono hB1.size)
    refine (zck a0 cap0 ss o _ _ cap cap' _ (hw.mono hBs) (HH.out.mono hBs) HC.out).mono ?_
    rintro e w2 ⟨v, rfl, hb2⟩
    have hba := hbs.trans (hb2.mono hbs.size)
    have hR2 := (hba.block _ hz1).trans HR1.out
    have hU2 : ∀ j, w2.cell? ⟨w1.heap.size, j, none⟩ = (oC o a a' dap dap')[j]? := za (zH w1 _ _) (by simp) hb2
    have hRc : ∀ j, w2.cell? ⟨w.heap.size + 1, j, none⟩ = oZ[j]? := fun j => cell_of_block hR2
    have hRf : ∀ j, w2.frozen? ⟨w.heap.size + 1, j, none⟩ = false := fun j => zh hR2
    have HX : Hid (zn (w.heap.size + 1 + 1) w2 a o.vs /\ zn m w2 a' o.hs /\ Below w.heap.size w w2) := ⟨HT.out.1.mono hba, HT.out.2.2.2.mono hba, hB1.trans (hba.mono hB1.size)⟩
    clear hbs hBs hb2 hba hR2 hX1
    go_wp2_with fail
    refine bodyPost_ret (v := (.agg (oC o a a' dap dap'))) (by simp [results, Tryz.results128, go_sem, hRc]) rfl ?_
    obtain ⟨ht, ht', hB⟩ := HX.out
    rw [HRES.out]
    exact ⟨a, dap, a', dap', m, rfl, (qW ht _ (by omega) _ _ _ _ _ _ _).low (by omega), HT.out.2.1, by have := HT.out.2.2.1; omega, qW ht' _ (by have := HT.out.2.2.1; omega) _ _ _ _ _ _ _, zam hB _ (by omega) _ _ _ _ _ _ _, hsA, hsA'⟩
  have HC : Hid (Gate.zu ss o = true) := hc
  have HRES : Hid (Gate.yS ss o = Gate.jK (Gate.shapeOf ss o.kd).fs o.vs) := by unfold Hid Gate.yS; rw [if_pos hc]
  have HCC : Hid (o.vs.length = (Gate.shapeOf ss o.kd).fs.length) := by unfold Gate.zu at hc; simp only [Bool.and_eq_true, decide_eq_true_eq] at hc; exact hc.2
  clear hc
  have HH : Hid (qL w o (some ⟨b, off, none⟩) (some ⟨b', off', none⟩)) := ho
  clear ho
  go_enter Tryz.func128, Tryz.ntmps128
  go_wp2_with fail
  refine (zgv o b off b' off' cap cap' _ (HH.out.mono (zq w (.cells (oC o (some ⟨b, off, none⟩) (some ⟨b', off', none⟩) cap cap') 115) (.cells oZ 115))) hl hl').mono ?_
  rintro e w1 ⟨a, dap, a', dap', m, rfl, ht, hm, hsm, ht', hb1, hsA, hsA'⟩
  have HO1 : Hid (w1.heap[w.heap.size]? = some (.cells (oC o (some ⟨b, off, none⟩) (some ⟨b', off', none⟩) cap cap') 115)) := (hb1.block w.heap.size (by simp; omega)).trans (zR _ _ _).1
  have HR1 : Hid (w1.heap[w.heap.size + 1]? = some (.cells oZ 115)) := (hb1.block (w.heap.size + 1) (by simp)).trans (zR _ _ _).2
  have hX1 : ∀ j, w1.cell? ⟨w.heap.size, j, none⟩ = (oC o (some ⟨b, off, none⟩) (some ⟨b', off', none⟩) cap cap')[j]? := fun j => cell_of_block HO1.out
  have hz1 : w.heap.size + 1 < w1.heap.size := by have := hb1.size; simp at this; omega
  have hz0 : w.heap.size < w1.heap.size := by omega
  have hB1 : Below w.heap.size w w1 := (zq _ _ _).trans (hb1.mono (by simp; omega))
  have HT : Hid (zn (w.heap.size + 1 + 1) w1 a o.vs /\ (∀ g, a = some g -> g.block < m) /\ w.heap.size + 1 + 1 <= m /\ zn m w1 a' o.hs) := by
    simp only [World.size_alloc] at ht hsm
    exact ⟨ht, hm, hsm, ht'⟩
  clear ht hm hsm ht' hb1
  go_wp2_with fail
  have hbs := (Below.refl w1.heap.size w1).alloc (Nat.le_refl _) (.cells (oC o a a' dap dap') 115)
  have hBs := hB1.trans (hbs.mono hB1.size)
  refine (zeo a0 cap0 ss o _ _ cap cap' w _ hw hBs HC.out).mono ?_
  rintro e w2 ⟨fa, fcap, rfl, hf, hb2⟩
  have hba := hbs.trans (hb2.mono hbs.size)
  have HR2 : Hid (w2.heap[w.heap.size + 1]? = some (.cells oZ 115)) := (hba.block _ hz1).trans HR1.out
  have HU2 : Hid (w2.heap[w1.heap.size]? = some (.cells (oC o a a' dap dap') 115)) := (hb2.block _ (by simp)).trans (alloc_at _ _)
  have HX2 : Hid (zn (w.heap.size + 1 + 1) w2 a o.vs /\ zn m w2 a' o.hs /\ Below w.heap.size w w2) := ⟨HT.out.1.mono hba, HT.out.2.2.2.mono hba, hB1.trans (hba.mono hB1.size)⟩
  have hz2 : w1.heap.size < w2.heap.size := (Array.getElem?_eq_some_iff.1 HU2.out).1
  clear hbs hBs hb2 hba hX1 hw
  have hlen := hf.len
  unfold maxLen at hlen
  revert HRES HCC hf hlen
  generalize (Gate.shapeOf ss o.kd).fs = fs
  intro HRES HCC hf hlen
  go_wp2_with fail
  go_loopw [8] (fun i wr => ∃ k : Nat, k <= fs.length /\ i = .int .i64 k /\ zn (w.heap.size + 1 + 1) wr a (Gate.qH fs o.vs k) /\ zn m wr a' o.hs /\ wr.heap[w.heap.size + 1]? = some (.cells oZ 115) /\ wr.heap[w1.heap.size]? = some (.cells (oC o a a' dap dap') 115) /\ Below w.heap.size w wr) (fun i _ => fs.length - (intOf i).toNat)
  case atStart => exact ⟨0, Nat.zero_le _, rfl, by rw [Gate.zgz]; exact HX2.out.1, HX2.out.2.1, HR2.out, HU2.out, HX2.out.2.2⟩
  case round =>
    obtain ⟨k, hk, rfl, ht, ht', hR, hO, hB⟩ := hrel
    have hOc : ∀ j, wr.cell? ⟨w1.heap.size, j, none⟩ = (oC o a a' dap dap')[j]? := fun j => cell_of_block hO
    have hOz : w1.heap.size < wr.heap.size := (Array.getElem?_eq_some_iff.1 hO).1
    by_cases hlt : k < fs.length
    · have hltv : k < o.vs.length := by rw [HCC.out]; exact hlt
      obtain ⟨fb, foff, rfl, hfb, hr⟩ := hf.rows (by rintro rfl; simp at hlt)
      obtain ⟨wa, wcap, hf0⟩ := hr k hlt
      have hf1 := hf0.mono hfb hB
      obtain ⟨c0, c1, c2, c3, c4, c5, c6, c7, c8, c9, c10⟩ := hf1.load
      have hltI : (k : Int) < (fs.length : Int) := by omega
      have hltV : (k : Int) < (o.vs.length : Int) := by omega
      obtain ⟨g, C, hga, hgl, hgh, hgc⟩ : ∃ g C, a = some ⟨g, 0, none⟩ /\ w.heap.size + 1 + 1 <= g /\ wr.heap[g]? = some (.cells C 9) /\ ∀ i (h : i < (Gate.qH fs o.vs k).length), C[i]? = some (.string (Gate.qH fs o.vs k)[i]) := by
        rcases ht with ⟨_, h0⟩ | h0
        · have := Gate.jY HCC.out k; rw [h0] at this; simp at this; omega
        · exact h0
      have hgm : g < m := HT.out.2.1 _ hga
      have hgw1 : g < w1.heap.size := HT.out.1.lt _ hga
      have hgw : g < wr.heap.size := by omega
      subst hga
      have hcell : wr.cell? ⟨g, k, none⟩ = some (.string o.vs[k]) := by
        have h1 := Gate.zd6 HCC.out k hlt
        have hkl : k < (Gate.qH fs o.vs k).length := by rw [Gate.jY HCC.out]; exact hltv
        rw [List.getElem?_eq_getElem hkl, List.getElem?_eq_getElem hltv] at h1
        rw [cell_of_block hgh, hgc k hkl, Option.some.inj h1]
      have hgf : wr.frozen? ⟨g, k, none⟩ = false := zh hgh
      have HX : Hid (zn (w.heap.size + 1 + 1) wr (some ⟨g, 0, none⟩) (Gate.qH fs o.vs k) /\ zn m wr a' o.hs /\ wr.heap[w.heap.size + 1]? = some (.cells oZ 115) /\ wr.heap[w1.heap.size]? = some (.cells (oC o (some ⟨g, 0, none⟩) a' dap dap') 115) /\ Below w.heap.size w wr) := ⟨ht, ht', hR, hO, hB⟩
      clear ht ht' hR hO hB hr hf0 hf1 hgh hgc hf
      by_cases hv : o.vs[k].toList.isEmpty = true
      · have HV : Hid (Gate.jS fs[k] o.vs[k] = fs[k].df) := by unfold Hid Gate.jS; rw [if_pos hv]
        go_wp2_with fail
        have hfg : fb ≠ g := by omega
        have hq1 : (wr.setCell ⟨g, k, none⟩ (.string fs[k].df)).drew.cell? ⟨w1.heap.size, 3, none⟩ = some (.slice (some ⟨g, 0, none⟩) o.vs.length dap) := (zT (by show w1.heap.size ≠ g; omega)).trans (hOc 3)
        have hq2 : (wr.setCell ⟨g, k, none⟩ (.string fs[k].df)).drew.cell? ⟨fb, foff + k * 11 + 9, none⟩ = some (.string fs[k].df) := (zT hfg).trans c9
        have hgd : wr.drew.frozen? ⟨g, k, none⟩ = false := hgf
        have hcd : wr.drew.cell? ⟨g, k, none⟩ = some (.string o.vs[k]) := hcell
        go_region_held3 (fun w' => w'.cell? ⟨w1.heap.size, 3, none⟩ = some (.slice (some ⟨g, 0, none⟩) o.vs.length dap) /\ w'.cell? ⟨fb, foff + k * 11 + 9, none⟩ = some (.string fs[k].df)) (first | exact ⟨hOc 3, c9⟩ | exact ⟨hq1, hq2⟩) (fail)
        go_wp2_with fail
        obtain ⟨ht, ht', hR, hO, hB⟩ := HX.out
        exact ⟨⟨k + 1, by omega, by go_num, by rw [Gate.zcj HCC.out k hlt, HV.out]; exact ht.set k _, ht'.setCell _ hgm _, (Below.heap_setCell _ _ _ _ (by show w.heap.size + 1 ≠ g; omega)).trans hR, (Below.heap_setCell _ _ _ _ (by show w1.heap.size ≠ g; omega)).trans hO, (hB.setCell (p := ⟨g, k, none⟩) (by show w.heap.size <= g; omega) _).drew⟩, zk hlt⟩
      · have HV : Hid (Gate.jS fs[k] o.vs[k] = o.vs[k]) := by unfold Hid Gate.jS; rw [if_neg hv]
        go_wp2_with fail
        obtain ⟨ht, ht', hR, hO, hB⟩ := HX.out
        have hsame : (Gate.qH fs o.vs k).set k o.vs[k] = Gate.qH fs o.vs k := by
          have h1 := Gate.zd6 HCC.out k hlt
          have hkl : k < (Gate.qH fs o.vs k).length := by rw [Gate.jY HCC.out]; exact hltv
          rw [List.getElem?_eq_getElem hkl, List.getElem?_eq_getElem hltv] at h1
          rw [<- Option.some.inj h1, List.set_getElem_self]
        exact ⟨⟨k + 1, by omega, by go_num, by rw [Gate.zcj HCC.out k hlt, HV.out, hsame]; exact ht, ht', hR, hO, hB⟩, zk hlt⟩
    · have e : k = fs.length := by omega
      subst e
      rw [Gate.zhS HCC.out] at ht
      have hRc : ∀ j, wr.cell? ⟨w.heap.size + 1, j, none⟩ = oZ[j]? := fun j => cell_of_block hR
      have hRf : ∀ j, wr.frozen? ⟨w.heap.size + 1, j, none⟩ = false := fun j => zh hR
      have HX : Hid (zn (w.heap.size + 1 + 1) wr a (Gate.jK fs o.vs) /\ zn m wr a' o.hs /\ Below w.heap.size w wr) := ⟨ht, ht', hB⟩
      clear ht ht' hB hR hO hf
      go_wp2_with fail
      refine bodyPost_ret (v := (.agg (oC o a a' dap dap'))) (by simp [results, Tryz.results128, go_sem, hRc]) rfl ?_
      obtain ⟨ht, ht', hB⟩ := HX.out
      rw [HRES.out]
      exact ⟨a, dap, a', dap', m, rfl, (qW ht _ (by omega) _ _ _ _ _ _ _).low (by omega), HT.out.2.1, by have := HT.out.2.2.1; omega, qW ht' _ (by have := HT.out.2.2.1; omega) _ _ _ _ _ _ _, zam hB _ (by omega) _ _ _ _ _ _ _, hsA, hsA'⟩
end Go.Proofs.YtfcdmlnpfoikhaaGreat

namespace Go.Proofs.YtfcdmlnpfoikhaaGreat
open Go.RowKit
namespace Gate
theorem zbm (ss : List Shp) (o : Ob) : (yS ss o).length = o.vs.length := by
  unfold yS
  split
  · rename_i h; unfold zu at h; simp only [Bool.and_eq_true, decide_eq_true_eq] at h; exact y8 h.2
  · rfl
theorem ziw {ss : List Shp} {ms : List Mnd} (h : zW ss ms = true) : zP ss = true := by
  unfold zW at h; simp only [Bool.and_eq_true] at h; exact h.1.1.2
theorem zlQ {ss : List Shp} {ms : List Mnd} {o : Ob} (h : zW ss ms = true) : zbj ss ms o = zbK ss ms ⟨o.kd, o.nm, o.tm, yS ss o, o.en, o.hs, o.vr⟩ := by
  have e : yZ ss ms ⟨o.kd, o.nm, o.tm, yS ss o, o.en, o.hs, o.vr⟩ = yZ ss ms o := by
    unfold yZ; simp only [zbm]
  unfold zbj zbK
  rw [e]
  by_cases hm : yZ ss ms o = true
  · rw [if_pos hm, if_pos hm]
    have hc : zu ss o = true := by rw [<- zaU h]; exact hm
    unfold zfo yS
    rw [if_pos hc]
  · rw [if_neg hm, if_neg hm]
    have hc : ¬ zu ss o = true := by rw [<- zaU h]; exact hm
    show o.vs = yS ss o
    unfold yS
    rw [if_neg hc]
end Gate
theorem zk8 (a0 ma : Option Addr) (cap0 mcap : Nat) (ss : List Shp) (ms : List Mnd) (o : Ob) (us : List ByteArray) (hus : us.length = o.vs.length) (b off b' off' cap cap' : Nat) (w : World) (hw : yE w a0 ss) (hm : qw w ma ms) (hsm : o.Small) (ho : zB w (some ⟨b, off, none⟩) us) (ho' : zB w (some ⟨b', off', none⟩) o.hs) (hl : o.vs.length <= 1048576) (hl' : o.hs.length <= 1048576) (hok : Gate.zW ss ms = true) :
    Calls Tryz.prog 127 #[.slice a0 ss.length cap0, .slice ma ms.length mcap, .agg (oC o (some ⟨b, off, none⟩) (some ⟨b', off', none⟩) cap cap')] w (zfm o (Gate.zbK ss ms ⟨o.kd, o.nm, o.tm, us, o.en, o.hs, o.vr⟩) w) := by
  have h := zkF a0 ma cap0 mcap ss ms ⟨o.kd, o.nm, o.tm, us, o.en, o.hs, o.vr⟩ b off b' off' cap cap' w hw hm ⟨⟨hsm.kd, hsm.nm, hsm.tm⟩, ho, ho'⟩ (by show us.length <= _; omega) hl' hok
  unfold zfm at h ⊢
  simp only [oC, hus] at h
  exact h
set_option maxHeartbeats 2000000 in
theorem zka (a0 ma : Option Addr) (cap0 mcap : Nat) (ss : List Shp) (ms : List Mnd) (o : Ob) (b off b' off' cap cap' : Nat) (w : World) (hw : yE w a0 ss) (hmm : qw w ma ms) (ho : qL w o (some ⟨b, off, none⟩) (some ⟨b', off', none⟩)) (hl : o.vs.length <= 1048576) (hl' : o.hs.length <= 1048576) (hok : Gate.zW ss ms = true) :
    Calls Tryz.prog 92 #[.slice a0 ss.length cap0, .slice ma ms.length mcap, .agg (oC o (some ⟨b, off, none⟩) (some ⟨b', off', none⟩) cap cap')] w (zfm o (Gate.zbj ss ms o) w) := by
  have HRES : Hid (Gate.zbj ss ms o = Gate.zbK ss ms ⟨o.kd, o.nm, o.tm, Gate.yS ss o, o.en, o.hs, o.vr⟩) := Gate.zlQ hok
  have HSM : Hid ((Gate.yS ss o).length <= maxLen /\ ∀ s ∈ Gate.yS ss o, s.size <= maxLen) := ⟨by rw [Gate.zbm]; exact ho.vals.len, by rw [<- Gate.zmW (Gate.ziw hok)]; exact zmS hw.smalls ho.vals.small⟩
  have HH := zfw hw hmm ho
  clear hw hmm ho
  have hb2 := zq w (.cells (oC o (some ⟨b, off, none⟩) (some ⟨b', off', none⟩) cap cap') 115) (.cells oZ 115)
  go_enter Tryz.func92, Tryz.ntmps92
  go_wp2_with fail
  refine (zlS a0 cap0 ss o b off b' off' cap cap' _ (HH.out.1.mono hb2) (HH.out.2.2.mono hb2) hl hl').mono ?_
  rintro e w1 ⟨a1, dap1, a1', dap1', m1, rfl, ht1, hm1, hsm1, ht1', hb1, ⟨g, rfl⟩, ⟨g', rfl⟩⟩
  have HR1 : Hid (w1.heap[w.heap.size + 1]? = some (.cells oZ 115)) := (hb1.block (w.heap.size + 1) (by simp)).trans (zR _ _ _).2
  have hz1 : w.heap.size + 1 < w1.heap.size := by have := hb1.size; simp at this; omega
  have hB1 : Below w.heap.size w w1 := hb2.trans (hb1.mono (by simp; omega))
  have hv1 := ht1.at HSM.out.1 HSM.out.2
  have hv1' := ht1'.at HH.out.2.2.holds.len HH.out.2.2.holds.small
  clear hb1 hb2 ht1 hm1 hsm1 ht1'
  go_wp2_with fail
  refine (zk8 a0 ma cap0 mcap ss ms o (Gate.yS ss o) (Gate.zbm ss o) g 0 g' 0 _ _ _ (HH.out.1.mono hB1) (HH.out.2.1.mono hB1) HH.out.2.2.small hv1 hv1' hl hl' hok).mono ?_
  rintro e w4 ⟨a, dap, a', dap', m, rfl, ht, hm, hsm, ht', hb4⟩
  have hR4 := (hb4.block (w.heap.size + 1) hz1).trans HR1.out
  have hRc : ∀ j, w4.cell? ⟨w.heap.size + 1, j, none⟩ = oZ[j]? := fun j => cell_of_block hR4
  have hRf : ∀ j, w4.frozen? ⟨w.heap.size + 1, j, none⟩ = false := fun j => zh hR4
  have HX : Hid (zn (w.heap.size + 1 + 1) w4 a (Gate.zbj ss ms o) /\ (∀ g, a = some g -> g.block < m) /\ w.heap.size + 1 + 1 <= m /\ zn m w4 a' o.hs /\ Below w.heap.size w w4) := by rw [HRES.out]; exact ⟨ht.low hz1, hm, Nat.le_trans hz1 hsm, ht', hB1.trans (hb4.mono hB1.size)⟩
  clear ht hm hsm ht' hb4 hR4
  go_wp2_with fail
  refine bodyPost_ret (v := (.agg (oC o a a' dap dap'))) (by simp [results, Tryz.results92, go_sem, hRc]) rfl ?_
  obtain ⟨ht, hm, hsm, ht', hB⟩ := HX.out
  exact ⟨a, dap, a', dap', m, rfl, (qW ht _ (by omega) _ _ _ _ _ _ _).low (by omega), hm, by omega, qW ht' _ (by omega) _ _ _ _ _ _ _, zam hB _ (by omega) _ _ _ _ _ _ _⟩
end Go.Proofs.YtfcdmlnpfoikhaaGreat
