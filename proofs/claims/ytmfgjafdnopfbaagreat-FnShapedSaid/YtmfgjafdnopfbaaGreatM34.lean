import Derived.Test.YtmfgjafdnopfbaaGreatM33
import Derived.Test.YtmfgjafdnopfbaaGreatM32
import Derived.Test.YtmfgjafdnopfbaaGreatM25
import Derived.Test.YtmfgjafdnopfbaaGreatM31
import Derived.Test.YtmfgjafdnopfbaaGreatM24
import Derived.Test.YtmfgjafdnopfbaaGreatM27
import Derived.Test.YtmfgjafdnopfbaaGreatM02
import Derived.Test.YtmfgjafdnopfbaaGreatM09
namespace Go.Proofs.YtmfgjafdnopfbaaGreat
open Go.RowKit
namespace Gate
theorem zeA {ss : List Shp} {v : ByteArray} (h : zy ss v = true) : (shapeOf ss v).kd = v := by
  unfold zy at h
  rw [List.any_eq_true] at h
  obtain ⟨x, hx, he⟩ := h
  unfold shapeOf
  cases hf : ss.find? (fun s => decide (s.kd = v)) with
  | none => rw [List.find?_eq_none] at hf; exact absurd he (hf x hx)
  | some y => simpa using List.find?_some hf
theorem zaG {ss : List Shp} {ms : List Mnd} {o : Ob} (hm : yh ss ms = true) : zJ ss ms o = yL ss o := by
  unfold zJ yL; rw [hm, Bool.and_true]
structure zi0 (ss : List Shp) (ms : List Mnd) (o : Ob) (pl : List Nat) : Prop where
  names : yu (shapeOf ss o.kd) ms (shapeOf ss o.kd).fs.length = pl.map (j4 (shapeOf ss o.kd))
  zhx : zb5 (zi (shapeOf ss o.kd) ms) (shapeOf ss o.kd).fs.length pl
  place : ∀ q (h : q < (shapeOf ss o.kd).fs.length), zG (shapeOf ss o.kd).fs (shapeOf ss o.kd).fs[q].nm = (q : Int)
  kd : (shapeOf ss o.kd).kd = o.kd
  few : (shapeOf ss o.kd).fs.length <= 6
  reads : ∀ q, q < (shapeOf ss o.kd).fs.length -> ∀ x ∈ yg (shapeOf ss o.kd) ms q, 0 <= x /\ x < (shapeOf ss o.kd).fs.length
  len : o.vs.length = (shapeOf ss o.kd).fs.length
  mends : ms.length <= 12
  res : jl ss ms o = zD (decided (shapeOf ss o.kd) ms) pl o.vs
theorem rowOf {ss : List Shp} {ms : List Mnd} {o : Ob} (hm : yh ss ms = true) (hc : yL ss o = true) : zi0 ss ms o (greedy (zi (shapeOf ss o.kd) ms) (shapeOf ss o.kd).fs.length (shapeOf ss o.kd).fs.length) := by
  have hmd : zJ ss ms o = true := by rw [zaG hm]; exact hc
  obtain ⟨hl, h6, hr, hw⟩ := je hmd
  unfold yL at hc
  simp only [Bool.and_eq_true] at hc
  obtain ⟨i, hi, e⟩ := zcx hc.1
  have hkd := zeA hc.1
  unfold yh at hm
  simp only [Bool.and_eq_true, decide_eq_true_eq] at hm
  obtain ⟨⟨⟨h12, hs⟩, ha⟩, _⟩ := hm
  have hrd : ∀ p, p < (shapeOf ss o.kd).fs.length -> ∀ q ∈ zi (shapeOf ss o.kd) ms p, q < (shapeOf ss o.kd).fs.length := by
    intro p hp q hq
    unfold zi at hq
    obtain ⟨x, hx, rfl⟩ := List.mem_map.1 hq
    have := hr p hp x hx
    omega
  have htw := zaw hrd hw
  have htg : zb5 (zi (shapeOf ss o.kd) ms) (shapeOf ss o.kd).fs.length (greedy (zi (shapeOf ss o.kd) ms) (shapeOf ss o.kd).fs.length (shapeOf ss o.kd).fs.length) :=
    (zaF _ _ _).zhx (zcv htw.zeg _ (Nat.le_refl _))
  refine ⟨?_, htg, ?_, hkd, h6, hr, hl, h12, ?_⟩
  · rw [e]; exact zbW hs ha i hi _
  · rw [e]
    intro q hq
    refine zaz ss[i].fs _ q hq ?_ rfl
    unfold hasName
    rw [List.any_eq_false]
    intro x hx
    obtain ⟨j, hj, rfl⟩ := List.mem_iff_getElem.1 hx
    have hjq : j < q := by simp at hj; omega
    simp only [List.getElem_take, decide_eq_true_eq]
    exact zct hs i hi j q hjq hq
  · exact zdN htw htg (zcO _ _) o.vs hl
theorem zfM {α : Type} (D : Nat -> List α -> α) (pl : List Nat) (vs : List α) (k : Nat) (h : k < pl.length) : zD D (pl.take (k + 1)) vs = (zD D (pl.take k) vs).set pl[k] (D pl[k] (zD D (pl.take k) vs)) := by
  unfold zD; rw [List.take_succ_eq_append_getElem h, List.foldl_append]; rfl
end Gate
theorem zis {lo : Nat} {w : World} {g : Nat} {us : List ByteArray} (h : zk lo w (some ⟨g, 0, none⟩) us) (p : Nat) (hp : p < us.length) : w.cell? ⟨g, p, none⟩ = some (.string us[p]) := by
  rcases h with ⟨h0, _⟩ | ⟨g', C, hg, _, hh, hc⟩
  · cases h0
  · cases hg; rw [cell_of_block hh, hc p hp]
theorem zio {lo : Nat} {w : World} {g p : Nat} {us : List ByteArray} (h : zk lo w (some ⟨g, 0, none⟩) us) (_hp : p < us.length) : w.frozen? ⟨g, p, none⟩ = false := by
  rcases h with ⟨h0, _⟩ | ⟨g', C, hg, _, hh, hc⟩
  · cases h0
  · cases hg; exact za hh
theorem zh6 {w : World} {lo : Nat} {v : Value} {row : List ByteArray} (h : w.ownsRow lo 9 1 v row.length (row.map Value.string)) : ∃ ra rcap, v = .slice ra row.length rcap /\ (row ≠ [] -> ∃ rb, ra = some ⟨rb, 0, none⟩ /\ lo <= rb /\ rb < w.heap.size /\ ∀ i (h : i < row.length), w.cell? ⟨rb, i, none⟩ = some (.string row[i])) := by
  obtain ⟨_, ⟨h0, h1⟩ | ⟨g, cp, cur, h0, h1⟩⟩ := id h
  · have e := List.length_eq_zero_iff.1 h1
    subst e
    exact ⟨none, 0, by rw [h0]; rfl, fun hn => absurd rfl hn⟩
  · subst h0
    refine ⟨some ⟨g, 0, none⟩, cp, rfl, fun _ => ⟨g, rfl, (h.lt g rfl).1, (h.lt g rfl).2, fun i hi => ?_⟩⟩
    rw [h.cellAt i (by omega)]
    simp [hi]
theorem zer (s : Shp) (ms : List Mnd) (o : Ob) (vs : List ByteArray) (n : Nat) (hn : vs.length = n) (p : Nat) (fa ma va ha : Option Addr) (fcap mcap vcap hcap : Nat) (w : World) (hf : yc w fa s.fs) (hm : qg w ma ms) (hv : zZ w va vs) (hc : vs.length = s.fs.length) (hp : p < s.fs.length) (hix : Gate.zG s.fs s.fs[p].nm = (p : Int)) (hkd : o.kd = s.kd) (hrd : ∀ x ∈ Gate.yg s ms p, 0 <= x /\ x < s.fs.length) :
    Calls Tryz.prog 72 #[.slice fa s.fs.length fcap, .slice ma ms.length mcap, .agg #[.string o.kd, .string o.nm, .string o.tm, .slice va n vcap, .bool o.en, .slice ha o.hs.length hcap, .int .i64 o.vr], .string s.fs[p].nm] w fun e w' => e = .returned (.string (Gate.decided s ms p vs)) /\ Below w.heap.size w w' := by
  subst hn
  exact zeQ s ms o vs p fa ma va ha fcap mcap vcap hcap w hf hm hv hc hp hix hkd hrd
set_option maxRecDepth 20000 in
set_option maxHeartbeats 8000000 in
theorem zft (a0 ma : Option Addr) (cap0 mcap : Nat) (ss : List Shp) (ms : List Mnd) (o : Ob) (b off b' off' cap cap' : Nat) (w : World) (hw : yG w a0 ss) (hm : qg w ma ms) (ho : qX w o (some ⟨b, off, none⟩) (some ⟨b', off', none⟩)) (hl : o.vs.length <= 1048576) (hl' : o.hs.length <= 1048576) (hok : Gate.yh ss ms = true) :
    Calls Tryz.prog 38 #[.slice a0 ss.length cap0, .slice ma ms.length mcap, .agg #[.string o.kd, .string o.nm, .string o.tm, .slice (some ⟨b, off, none⟩) o.vs.length cap, .bool o.en, .slice (some ⟨b', off', none⟩) o.hs.length cap', .int .i64 o.vr]] w (jB o (Gate.yJ ss ms o) w) := by
  have hsl := hw.len
  unfold maxLen at hsl
  have HW := qO hw hm
  clear hw hm
  by_cases hc : Gate.yL ss o = true
  rotate_left
  · have HC : Hid (Gate.yL ss o = false) := by simpa [Hid] using hc
    have HRES : Hid (Gate.yJ ss ms o = o.vs) := by unfold Hid Gate.yJ; rw [if_neg (by rw [Gate.zaG hok]; exact hc)]
    have HH := hid ho
    clear hc ho
    go_enter Tryz.func38, Tryz.ntmps38
    go_wp2_with fail
    refine (zec o b off b' off' cap cap' _ (HH.out.mono (yC w (.cells #[.string o.kd, .string o.nm, .string o.tm, .slice (some ⟨b, off, none⟩) o.vs.length cap, .bool o.en, .slice (some ⟨b', off', none⟩) o.hs.length cap', .int .i64 o.vr] 27) (.cells #[.string ByteArray.empty, .string ByteArray.empty, .string ByteArray.empty, .slice none 0 0, .bool false, .slice none 0 0, .int .i64 0] 27))) hl hl').mono ?_
    rintro e w1 ⟨a, dap, a', dap', m, rfl, ht, hm, hsm, ht', hb1⟩
    have HO1 : Hid (w1.heap[w.heap.size]? = some (.cells (oC o (some ⟨b, off, none⟩) (some ⟨b', off', none⟩) cap cap') 27)) := (hb1.block w.heap.size (by simp; omega)).trans (zq _ _ _).1
    have HR1 : Hid (w1.heap[w.heap.size + 1]? = some (.cells oZ 27)) := (hb1.block (w.heap.size + 1) (by simp)).trans (zq _ _ _).2
    have hX1 : ∀ j, w1.cell? ⟨w.heap.size, j, none⟩ = ((oC o (some ⟨b, off, none⟩) (some ⟨b', off', none⟩) cap cap') : Array Value)[j]? := fun j => cell_of_block HO1.out
    have hz1 : w.heap.size + 1 < w1.heap.size := by have := hb1.size; simp at this; omega
    have hz0 : w.heap.size < w1.heap.size := by omega
    have hB1 : Below w.heap.size w w1 := (yC _ _ _).trans (hb1.mono (by simp; omega))
    have HT : Hid (zk (w.heap.size + 1 + 1) w1 a o.vs /\ (∀ g, a = some g -> g.block < m) /\ w.heap.size + 1 + 1 <= m /\ zk m w1 a' o.hs) := by
      simp only [World.size_alloc] at ht hsm
      exact ⟨ht, hm, hsm, ht'⟩
    clear ht hm hsm ht' hb1
    go_wp2_with fail
    have hbs := (Below.refl w1.heap.size w1).alloc (Nat.le_refl _) (.cells (oC o a a' dap dap') 27)
    have hBs := hB1.trans (hbs.mono hB1.size)
    refine (zdZ a0 cap0 ss o _ _ cap cap' _ (HW.out.1.mono hBs) (HH.out.mono hBs) HC.out).mono ?_
    rintro e w2 ⟨v, rfl, hb2⟩
    have hba := hbs.trans (hb2.mono hbs.size)
    have hR2 := (hba.block _ hz1).trans HR1.out
    have hU2 : ∀ j, w2.cell? ⟨w1.heap.size, j, none⟩ = ((oC o a a' dap dap') : Array Value)[j]? := ze (zo w1 _ _) (by simp) hb2
    have hRc : ∀ j, w2.cell? ⟨w.heap.size + 1, j, none⟩ = (oZ : Array Value)[j]? := fun j => cell_of_block hR2
    have hRf : ∀ j, w2.frozen? ⟨w.heap.size + 1, j, none⟩ = false := fun j => za hR2
    have HX := yK (HT.out.1.mono hba) (HT.out.2.2.2.mono hba) (hB1.trans (hba.mono hB1.size))
    clear hbs hBs hb2 hba hR2 hX1
    go_wp2_with fail
    refine bodyPost_ret (v := (.agg #[.string o.kd, .string o.nm, .string o.tm, .slice a o.vs.length dap, .bool o.en, .slice a' o.hs.length dap', .int .i64 o.vr])) (by simp [results, Tryz.results38, go_sem, hRc]) rfl ?_
    obtain ⟨ht, ht', hB⟩ := HX.out
    rw [HRES.out]
    exact ⟨a, dap, a', dap', m, rfl, (yB ht _ (by omega) _ _ _ _ _ _ _).low (by omega), HT.out.2.1, by have := HT.out.2.2.1; omega, yB ht' _ (by have := HT.out.2.2.1; omega) _ _ _ _ _ _ _, qm hB _ (by omega) _ _ _ _ _ _ _⟩
  have HC := hid hc
  have HRO := hid (Gate.rowOf hok hc)
  have HRES : Hid (Gate.yJ ss ms o = Gate.jl ss ms o) := by unfold Hid Gate.yJ; rw [if_pos (by rw [Gate.zaG hok]; exact hc)]
  have HK : Hid (Gate.zy ss o.kd = true) := by unfold Gate.yL at hc; simp only [Bool.and_eq_true] at hc; exact hc.1
  have HH := hid ho
  clear hc ho
  go_enter Tryz.func38, Tryz.ntmps38
  go_wp2_with fail
  refine (zec o b off b' off' cap cap' _ (HH.out.mono (yC w (.cells #[.string o.kd, .string o.nm, .string o.tm, .slice (some ⟨b, off, none⟩) o.vs.length cap, .bool o.en, .slice (some ⟨b', off', none⟩) o.hs.length cap', .int .i64 o.vr] 27) (.cells #[.string ByteArray.empty, .string ByteArray.empty, .string ByteArray.empty, .slice none 0 0, .bool false, .slice none 0 0, .int .i64 0] 27))) hl hl').mono ?_
  rintro e w1 ⟨a, dap, a', dap', m, rfl, ht, hm, hsm, ht', hb1⟩
  have HO1 : Hid (w1.heap[w.heap.size]? = some (.cells (oC o (some ⟨b, off, none⟩) (some ⟨b', off', none⟩) cap cap') 27)) := (hb1.block w.heap.size (by simp; omega)).trans (zq _ _ _).1
  have HR1 : Hid (w1.heap[w.heap.size + 1]? = some (.cells oZ 27)) := (hb1.block (w.heap.size + 1) (by simp)).trans (zq _ _ _).2
  have hX1 : ∀ j, w1.cell? ⟨w.heap.size, j, none⟩ = ((oC o (some ⟨b, off, none⟩) (some ⟨b', off', none⟩) cap cap') : Array Value)[j]? := fun j => cell_of_block HO1.out
  have hz1 : w.heap.size + 1 < w1.heap.size := by have := hb1.size; simp at this; omega
  have hz0 : w.heap.size < w1.heap.size := by omega
  have hB1 : Below w.heap.size w w1 := (yC _ _ _).trans (hb1.mono (by simp; omega))
  have HT : Hid (zk (w.heap.size + 1 + 1) w1 a o.vs /\ (∀ g, a = some g -> g.block < m) /\ w.heap.size + 1 + 1 <= m /\ zk m w1 a' o.hs) := by
    simp only [World.size_alloc] at ht hsm
    exact ⟨ht, hm, hsm, ht'⟩
  clear ht hm hsm ht' hb1
  go_wp2_with fail
  have hbs := (Below.refl w1.heap.size w1).alloc (Nat.le_refl _) (.cells (oC o a a' dap dap') 27)
  have hBs := hB1.trans (hbs.mono hB1.size)
  refine (zcP a0 cap0 ss o _ _ cap cap' w _ HW.out.1 hBs HC.out).mono ?_
  rintro e w2 ⟨fa, fcap, rfl, hf, hb2⟩
  have HFA := hid hf
  have hba := hbs.trans (hb2.mono hbs.size)
  have HR2 := hid ((hba.block _ hz1).trans HR1.out)
  have HO2 := hid ((hba.block _ hz0).trans HO1.out)
  have HU2 : Hid (w2.heap[w1.heap.size]? = some (.cells (oC o a a' dap dap') 27)) := (hb2.block _ (by simp)).trans (alloc_at _ _)
  have HX2 := yK (HT.out.1.mono hba) (HT.out.2.2.2.mono hba) (hB1.trans (hba.mono hB1.size))
  have hz2 := (Array.getElem?_eq_some_iff.1 HU2.out).1
  have hX2 : ∀ j, w2.cell? ⟨w.heap.size, j, none⟩ = ((oC o (some ⟨b, off, none⟩) (some ⟨b', off', none⟩) cap cap') : Array Value)[j]? := fun j => cell_of_block HO2.out
  have hzo2 : w.heap.size < w2.heap.size := by omega
  clear hbs hBs hb2 hba hX1 hf
  go_wp2_with fail
  refine (jr _ _ _ _ _ (HW.out.1.mono HX2.out.2.2) HK.out).mono ?_
  rintro e w3 ⟨ix, hix, rfl, hsh, rfl⟩
  have HSh := hid hsh
  clear hsh
  obtain ⟨sb, soff, rfl, hsb0, hsr⟩ := HW.out.1.rows (by rintro rfl; simp at hix)
  obtain ⟨fa2, fcap2, hs0⟩ := hsr ix hix
  have hs := hs0.mono hsb0 HX2.out.2.2
  have hck := hs.kind
  have hcl := hs.list
  have HF2 := hid hs0.flds
  have hixI : (ix : Int) < (ss.length : Int) := by omega
  have hsbw := Nat.lt_of_lt_of_le hsb0 HX2.out.2.2.size
  clear hsr hs hs0
  go_wp2_with fail
  refine (zff fa2 ma fcap2 mcap ss[ix] ms _ (HF2.out.mono HX2.out.2.2) (HW.out.2.mono HX2.out.2.2) HRO.out.mends (by have := HRO.out.few; rw [HSh.out] at this; exact this)).mono ?_
  rintro e w4 ⟨v, rfl, hrow, hb4⟩
  rw [<- HSh.out, HRO.out.names] at hrow
  obtain ⟨ra, rcap, rfl, hrw⟩ := zh6 (by rw [List.length_map]; rw [List.length_map] at hrow; exact hrow)
  rw [List.length_map]
  have HRO2 := HRO.out
  have HX4 : Hid (zk (w.heap.size + 1 + 1) w4 a o.vs /\ zk m w4 a' o.hs /\ Below w.heap.size w w4) := ⟨HX2.out.1.mono hb4, HX2.out.2.1.mono hb4, HX2.out.2.2.trans (hb4.mono HX2.out.2.2.size)⟩
  have HR4 : Hid (w4.heap[w.heap.size + 1]? = some (.cells oZ 27)) := (hb4.block _ (by omega)).trans HR2.out
  have HU4 : Hid (w4.heap[w1.heap.size]? = some (.cells (oC o a a' dap dap') 27)) := (hb4.block _ hz2).trans HU2.out
  have HZ4 : Hid (w3.heap.size <= w4.heap.size) := hb4.size
  clear hb4 hX2 hck hcl HSh HF2 HRO hixI hrow
  revert HRO2 HFA hrw
  generalize Gate.greedy (Gate.zi (Gate.shapeOf ss o.kd) ms) (Gate.shapeOf ss o.kd).fs.length (Gate.shapeOf ss o.kd).fs.length = pl
  intro HFA hrw hro
  have HRW : Hid (Gate.zi0 ss ms o pl) := hro
  have HVS : Hid (Gate.jl ss ms o = Gate.zD (Gate.decided (Gate.shapeOf ss o.kd) ms) pl o.vs) := hro.res
  have hpl6 : pl.length <= 6 := by
    have h1 := Gate.zat pl (List.range (Gate.shapeOf ss o.kd).fs.length) hro.zhx.nodup (fun x hx => List.mem_range.2 ((hro.zhx.mem x).1 hx))
    rw [List.length_range] at h1
    have := hro.few
    omega
  clear hro
  go_wp2_with fail
  go_loopw [11] (fun i wr => ∃ k : Nat, k <= pl.length /\ i = .int .i64 k /\ zk (w.heap.size + 1 + 1) wr a (Gate.zD (Gate.decided (Gate.shapeOf ss o.kd) ms) (pl.take k) o.vs) /\ zk m wr a' o.hs /\ wr.heap[w.heap.size + 1]? = some (.cells #[.string ByteArray.empty, .string ByteArray.empty, .string ByteArray.empty, .slice none 0 0, .bool false, .slice none 0 0, .int .i64 0] 27) /\ wr.heap[w1.heap.size]? = some (.cells #[.string o.kd, .string o.nm, .string o.tm, .slice a o.vs.length dap, .bool o.en, .slice a' o.hs.length dap', .int .i64 o.vr] 27) /\ Below w.heap.size w wr /\ w3.heap.size <= wr.heap.size /\ (pl.map (Gate.j4 (Gate.shapeOf ss o.kd)) ≠ [] -> ∃ rb, ra = some ⟨rb, 0, none⟩ /\ w3.heap.size <= rb /\ rb < wr.heap.size /\ ∀ i (h : i < (pl.map (Gate.j4 (Gate.shapeOf ss o.kd))).length), wr.cell? ⟨rb, i, none⟩ = some (.string (pl.map (Gate.j4 (Gate.shapeOf ss o.kd)))[i]))) (fun i _ => pl.length - (intOf i).toNat)
  case atStart => exact ⟨0, Nat.zero_le _, rfl, HX4.out.1, HX4.out.2.1, HR4.out, HU4.out, HX4.out.2.2, HZ4.out, hrw⟩
  case round =>
    obtain ⟨k, hk, rfl, ht, ht', hR, hO, hB, hz3, hrr⟩ := hrel
    by_cases hlt : k < pl.length
    · obtain ⟨rb, rfl, hrb0, hrbz, hrc⟩ := hrr (by intro h; have := congrArg List.length h; simp at this; rw [this] at hlt; simp at hlt)
      have hpn : pl[k] < (Gate.shapeOf ss o.kd).fs.length := (HRW.out.zhx.mem _).1 (List.getElem_mem hlt)
      have hck := hrc k (by rw [List.length_map]; exact hlt)
      rw [List.getElem_map] at hck
      have hnm : Gate.j4 (Gate.shapeOf ss o.kd) pl[k] = (Gate.shapeOf ss o.kd).fs[pl[k]].nm := by unfold Gate.j4; rw [Gate.getD_at _ _ _ hpn]
      rw [hnm] at hck
      have HTS : Hid (Gate.zD (Gate.decided (Gate.shapeOf ss o.kd) ms) (pl.take (k + 1)) o.vs = (Gate.zD (Gate.decided (Gate.shapeOf ss o.kd) ms) (pl.take k) o.vs).set pl[k] (Gate.decided (Gate.shapeOf ss o.kd) ms pl[k] (Gate.zD (Gate.decided (Gate.shapeOf ss o.kd) ms) (pl.take k) o.vs))) := Gate.zfM _ pl o.vs k hlt
      have HUS : Hid (∀ x ∈ Gate.zD (Gate.decided (Gate.shapeOf ss o.kd) ms) (pl.take k) o.vs, x.size <= maxLen) := Gate.j6 HW.out.2.small _ _ HH.out.vals.small
      have HLV : Hid ((Gate.zD (Gate.decided (Gate.shapeOf ss o.kd) ms) (pl.take k) o.vs).length = o.vs.length) := Gate.qH _ _ _
      have HRR : Hid (∀ i (h : i < (pl.map (Gate.j4 (Gate.shapeOf ss o.kd))).length), wr.cell? ⟨rb, i, none⟩ = some (.string (pl.map (Gate.j4 (Gate.shapeOf ss o.kd)))[i])) := hrc
      clear hrr hrc hnm
      revert hck HTS hpn
      generalize pl[k] = p
      intro hpn hck HTS
      revert HTS HLV HUS ht
      generalize Gate.zD (Gate.decided (Gate.shapeOf ss o.kd) ms) (pl.take k) o.vs = us
      intro ht HUS HLV HTS
      have hltI : (k : Int) < (pl.length : Int) := by omega
      have hpv : p < us.length := by rw [HLV.out, HRW.out.len]; exact hpn
      have hpI : (p : Int) < (o.vs.length : Int) := by have := HRW.out.len; omega
      obtain ⟨g, C, hga, hgl, hgh, hgc⟩ : ∃ g C, a = some ⟨g, 0, none⟩ /\ w.heap.size + 1 + 1 <= g /\ wr.heap[g]? = some (.cells C 9) /\ ∀ i (h : i < us.length), C[i]? = some (.string us[i]) := by
        rcases ht with ⟨_, h0⟩ | h0
        · rw [h0] at hpv; simp at hpv
        · exact h0
      have hgm : g < m := HT.out.2.1 _ hga
      have hgw1 : g < w1.heap.size := HT.out.1.lt _ hga
      have hgw : g < wr.heap.size := by omega
      subst hga
      have hUS : zZ wr (some ⟨g, 0, none⟩) us := ht.at (by rw [HLV.out]; exact HH.out.vals.len) HUS.out
      have HJP : Hid (Gate.zG (Gate.shapeOf ss o.kd).fs (Gate.shapeOf ss o.kd).fs[p].nm = (p : Int)) := HRW.out.place p hpn
      have hOc : ∀ j, wr.cell? ⟨w1.heap.size, j, none⟩ = ((oC o (some ⟨g, 0, none⟩) a' dap dap') : Array Value)[j]? := fun j => cell_of_block hO
      have hOz : w1.heap.size < wr.heap.size := (Array.getElem?_eq_some_iff.1 hO).1
      have hRk : (k : Int) < ((pl.map (Gate.j4 (Gate.shapeOf ss o.kd))).length : Int) := by rw [List.length_map]; exact hltI
      have hkr : wr.cell? ⟨rb, 0 + k, none⟩ = some (.string (Gate.shapeOf ss o.kd).fs[p].nm) := by rw [Nat.zero_add]; exact hck
      have HX : Hid (zk (w.heap.size + 1 + 1) wr (some ⟨g, 0, none⟩) us /\ zk m wr a' o.hs /\ wr.heap[w.heap.size + 1]? = some (.cells oZ 27) /\ wr.heap[w1.heap.size]? = some (.cells (oC o (some ⟨g, 0, none⟩) a' dap dap') 27) /\ Below w.heap.size w wr /\ w3.heap.size <= wr.heap.size) := ⟨ht, ht', hR, hO, hB, hz3⟩
      clear ht ht' hR hO hB hz3 hgh hgc
      go_wp2_with fail
      have hb := (Below.refl wr.heap.size wr).drew
      have hS1 : ∀ j, wr.drew.cell? ⟨w1.heap.size, j, none⟩ = ((oC o (some ⟨g, 0, none⟩) a' dap dap') : Array Value)[j]? := hOc
      have hS2 : wr.drew.cell? ⟨rb, k, none⟩ = some (.string (Gate.shapeOf ss o.kd).fs[p].nm) := hck
      have hrg : rb ≠ g := by omega
      have how : w1.heap.size ≠ g := by omega
      clear hOc hck hkr
      go_region_held3 (fun w' => (∀ j, w'.cell? ⟨w1.heap.size, j, none⟩ = (#[.string o.kd, .string o.nm, .string o.tm, .slice (some ⟨g, 0, none⟩) o.vs.length dap, .bool o.en, .slice a' o.hs.length dap', .int .i64 o.vr] : Array Value)[j]?) /\ w'.cell? ⟨rb, k, none⟩ = some (.string (Gate.shapeOf ss o.kd).fs[p].nm)) (first | exact ⟨hS1, hS2⟩ | exact ⟨hS3, hS4⟩) (first
        | (go_at_call 68; refine (zbz HJP.out (qx _ _ (Gate.shapeOf ss o.kd).fs _ _ (by exact HFA.out.mono (HX.out.2.2.2.2.1.trans (hb.mono HX.out.2.2.2.2.1.size))))).mono ?_; rintro e w5 ⟨rfl, rfl⟩)
        | (go_at_call 72; refine (zer (Gate.shapeOf ss o.kd) ms o us _ HLV.out p _ _ _ _ _ _ _ _ _ (by exact HFA.out.mono (HX.out.2.2.2.2.1.trans (hb.mono HX.out.2.2.2.2.1.size))) (by exact HW.out.2.mono (HX.out.2.2.2.2.1.trans (hb.mono HX.out.2.2.2.2.1.size))) (by exact hUS.mono hb) (by rw [HLV.out]; exact HRW.out.len) hpn HJP.out HRW.out.kd.symm (HRW.out.reads p hpn)).mono ?_; rintro e w6 ⟨rfl, hb6⟩; have hb := hb.trans (hb6.mono hb.size); have hS1 := ze hS1 hOz hb6; have hS2 := (hb6.cell (p := ⟨rb, k, none⟩) hrbz).trans hS2; have hU6 := hUS.mono hb; have hG := HX.out.1.mono hb; clear hb6; have hS3 : ∀ j, (w6.setCell ⟨g, p, none⟩ (.string (Gate.decided (Gate.shapeOf ss o.kd) ms p us))).cell? ⟨w1.heap.size, j, none⟩ = (#[.string o.kd, .string o.nm, .string o.tm, .slice (some ⟨g, 0, none⟩) o.vs.length dap, .bool o.en, .slice a' o.hs.length dap', .int .i64 o.vr] : Array Value)[j]? := fun j => (zX how).trans (hS1 j); have hS4 : (w6.setCell ⟨g, p, none⟩ (.string (Gate.decided (Gate.shapeOf ss o.kd) ms p us))).cell? ⟨rb, k, none⟩ = some (.string (Gate.shapeOf ss o.kd).fs[p].nm) := (zX hrg).trans hS2; have hgc6 : w6.cell? ⟨g, p, none⟩ = some (.string us[p]) := zis hG p hpv; have hgf6 : w6.frozen? ⟨g, p, none⟩ = false := zio hG hpv))
      go_wp2_with fail
      obtain ⟨ht, ht', hR, hO, hB, hz3⟩ := HX.out
      exact ⟨⟨k + 1, by omega, by go_num, by rw [HTS.out]; exact (ht.mono hb).set p _, (ht'.mono hb).setCell _ hgm _, (Below.heap_setCell _ _ _ _ (by show w.heap.size + 1 ≠ g; omega)).trans ((hb.block _ (by omega)).trans hR), (Below.heap_setCell _ _ _ _ (by show w1.heap.size ≠ g; omega)).trans ((hb.block _ hOz).trans hO), (hB.trans (hb.mono hB.size)).setCell (p := ⟨g, p, none⟩) (by show w.heap.size <= g; omega) _, by rw [World.size_setCell]; exact Nat.le_trans hz3 hb.size, fun _ => ⟨rb, rfl, hrb0, by rw [World.size_setCell]; exact Nat.lt_of_lt_of_le hrbz hb.size, fun i hi => (zX hrg).trans ((hb.cell (p := ⟨rb, i, none⟩) hrbz).trans (HRR.out i hi))⟩⟩, z8 hlt⟩
    · have e : k = pl.length := by omega
      subst e
      rw [List.take_of_length_le (Nat.le_refl _), <- HVS.out] at ht
      have hRc : ∀ j, wr.cell? ⟨w.heap.size + 1, j, none⟩ = (oZ : Array Value)[j]? := fun j => cell_of_block hR
      have hRf : ∀ j, wr.frozen? ⟨w.heap.size + 1, j, none⟩ = false := fun j => za hR
      have hOc : ∀ j, wr.cell? ⟨w1.heap.size, j, none⟩ = ((oC o a a' dap dap') : Array Value)[j]? := fun j => cell_of_block hO
      have hOz := (Array.getElem?_eq_some_iff.1 hO).1
      have HX := yK ht ht' hB
      clear ht ht' hB hR hO hrr
      go_wp2_with fail
      refine bodyPost_ret (v := (.agg #[.string o.kd, .string o.nm, .string o.tm, .slice a o.vs.length dap, .bool o.en, .slice a' o.hs.length dap', .int .i64 o.vr])) (by simp [results, Tryz.results38, go_sem, hRc]) rfl ?_
      obtain ⟨ht, ht', hB⟩ := HX.out
      rw [HRES.out]
      exact ⟨a, dap, a', dap', m, rfl, (yB ht _ (by omega) _ _ _ _ _ _ _).low (by omega), HT.out.2.1, by have := HT.out.2.2.1; omega, yB ht' _ (by have := HT.out.2.2.1; omega) _ _ _ _ _ _ _, qm hB _ (by omega) _ _ _ _ _ _ _⟩
end Go.Proofs.YtmfgjafdnopfbaaGreat

namespace Go.Proofs.YtmfgjafdnopfbaaGreat.Gate
def qJ (o : Ob) (vs : List ByteArray) : Ob := ⟨o.kd, o.nm, o.tm, vs, o.en, o.hs, o.vr⟩
theorem zhZ {fs : List Fld} {s : Shp} {vs : List ByteArray} {p : Nat} {m : Mnd} (hm : yw fs m = true) {v : ByteArray} (h : gives s vs p m = some v) : v.toList.isEmpty = false := by
  unfold gives at h
  split at h
  · split at h
    · split at h
      · rename_i hs
        cases h
        unfold isSet at hs
        simpa using hs
      · cases h
    · rename_i hf
      cases h
      unfold yw at hm
      simp only [Bool.and_eq_true, Bool.not_eq_true', Bool.or_eq_false_iff] at hm
      have h1 := hm.1.2
      have hf' : isSet m.fr = false := by simpa using hf
      rw [hf'] at h1
      cases hp : isSet m.pt with
      | false => rw [hp] at h1; cases h1
      | true => unfold isSet at hp; simpa using hp
  · cases h
theorem zfi {fs : List Fld} {vs : List ByteArray} {p : Nat} (h : p < (qG fs vs).length) (h1 : p < fs.length) (h2 : p < vs.length) : (qG fs vs)[p] = qY fs[p] vs[p] := by simp [qG]
theorem zhX {ss : List Shp} {ms : List Mnd} {o : Ob} (h : zJ ss ms o = true) {m : Mnd} (hm : m ∈ ms) : ∃ fs, yw fs m = true := by
  unfold zJ at h
  simp only [Bool.and_eq_true, decide_eq_true_eq] at h
  have h1 := h.2.2
  unfold yh at h1
  simp only [Bool.and_eq_true] at h1
  have h2 := List.all_eq_true.1 h1.1.2 m hm
  unfold qZ jk at h2
  simp only [Bool.and_eq_true] at h2
  exact ⟨_, h2.2.2⟩
theorem zbA {ss : List Shp} {ms : List Mnd} {o : Ob} (h : zJ ss ms o = true) : zb5 (zi (shapeOf ss o.kd) ms) (shapeOf ss o.kd).fs.length (zA (zi (shapeOf ss o.kd) ms) (shapeOf ss o.kd).fs.length).2.row := by
  obtain ⟨_, _, h3, h4⟩ := je h
  refine zaw (fun p hp q hq => ?_) h4
  unfold zi at hq
  obtain ⟨x, hx, rfl⟩ := List.mem_map.1 hq
  have := h3 p hp x hx
  omega
theorem zcr {ss : List Shp} {ms : List Mnd} {o : Ob} {vs : List ByteArray} (h : vs.length = o.vs.length) : zJ ss ms (qJ o vs) = zJ ss ms o := by
  unfold zJ qJ
  simp only [h]
theorem zeq {ss : List Shp} {ms : List Mnd} {o : Ob} (h : zJ ss ms o = true) : qG (shapeOf ss o.kd).fs (jl ss ms (qA ss o)) = jl ss ms (qA ss o) := by
  have ht := zbA h
  have hl := (je h).1
  have hfl : (qA ss o).vs.length = (shapeOf ss o.kd).fs.length := by rw [zc8 h, hl]
  have hlen : (jl ss ms (qA ss o)).length = (shapeOf ss o.kd).fs.length := by unfold jl; rw [qH]; exact hfl
  have hfix := fun p hp => zc9 (vs := (qA ss o).vs) ht hfl p hp
  have hA : jl ss ms (qA ss o) = zD (decided (shapeOf ss o.kd) ms) (zA (zi (shapeOf ss o.kd) ms) (shapeOf ss o.kd).fs.length).2.row (qA ss o).vs := rfl
  rw [<- hA] at hfix
  apply List.ext_getElem (by unfold qG; simp [hlen])
  intro p h1 h2
  have hp : p < (shapeOf ss o.kd).fs.length := by omega
  rw [zfi h1 hp h2]
  unfold qY
  split
  · rename_i he
    rcases hfix p hp with ⟨_, h3⟩ | ⟨v, h3, h4⟩
    · have h5 : (jl ss ms (qA ss o))[p] = qY (shapeOf ss o.kd).fs[p] (o.vs[p]'(by omega)) := by
        have h6 : (jl ss ms (qA ss o))[p]? = some ((qA ss o).vs[p]'(by omega)) := by rw [h3, List.getElem?_eq_getElem (by omega)]
        rw [List.getElem?_eq_getElem h2] at h6
        rw [Option.some.inj h6]
        exact zfi (vs := o.vs) _ hp (by omega)
      rw [h5] at he ⊢
      unfold qY at he ⊢
      split
      · rfl
      · rename_i hne
        rw [if_neg hne] at he
        exact absurd he hne
    · exfalso
      rw [List.getElem?_eq_getElem h2] at h4
      rw [Option.some.inj h4] at he
      obtain ⟨m, hm, hg⟩ := List.exists_of_findSome?_eq_some h3
      obtain ⟨fs, hf⟩ := zhX h hm
      rw [zhZ hf hg] at he
      cases he
  · rfl
theorem zeH {ss : List Shp} {ms : List Mnd} {o : Ob} (h : zJ ss ms o = true) (us : List ByteArray) (hu : us.length = o.vs.length) : jl ss ms (qJ o (jl ss ms (qJ o us))) = jl ss ms (qJ o us) :=
  zeS (s := shapeOf ss o.kd) (vs := us) (zbA h) (by rw [hu]; exact (je h).1)
theorem zfD (ss : List Shp) (ms : List Mnd) (o : Ob) : zC ss ms (qJ o (zC ss ms o)) = zC ss ms o := by
  have hl := qL ss ms o
  by_cases h : zJ ss ms o = true
  · have e : zC ss ms o = jl ss ms (qA ss o) := by unfold zC; rw [if_pos h]
    have h' : zJ ss ms (qJ o (zC ss ms o)) = true := by rw [zcr hl]; exact h
    have e2 : ∀ o' : Ob, zJ ss ms o' = true -> zC ss ms o' = jl ss ms (qA ss o') := fun o' h => by unfold zC; rw [if_pos h]
    rw [e2 _ h']
    have e3 : qA ss (qJ o (zC ss ms o)) = qJ o (zC ss ms o) := by
      show qJ o (qG (shapeOf ss o.kd).fs (zC ss ms o)) = _
      rw [e, zeq h]
    rw [e3, e]
    exact zeH h _ (qo (je h).1)
  · have e : zC ss ms o = o.vs := by unfold zC; rw [if_neg h]
    rw [e]
    exact e
theorem zeT (ss : List Shp) (ms : List Mnd) (o : Ob) : yJ ss ms (qJ o (zC ss ms o)) = zC ss ms o := by
  have hl := qL ss ms o
  by_cases h : zJ ss ms o = true
  · have e : zC ss ms o = jl ss ms (qA ss o) := by unfold zC; rw [if_pos h]
    have h' : zJ ss ms (qJ o (zC ss ms o)) = true := by rw [zcr hl]; exact h
    unfold yJ
    rw [if_pos h', e]
    exact zeH h _ (qo (je h).1)
  · have h' : ¬ zJ ss ms (qJ o (zC ss ms o)) = true := by rw [zcr hl]; exact h
    unfold yJ
    rw [if_neg h']
    rfl
theorem zgd {ss : List Shp} {ms : List Mnd} (hok : yh ss ms = true) (o : Ob) : jh ss (qJ o (zC ss ms o)) = zC ss ms o := by
  have hl := qL ss ms o
  have hs : zT ss = true := by unfold yh at hok; simp only [Bool.and_eq_true] at hok; exact hok.1.1.2
  by_cases h : zJ ss ms o = true
  · have e : zC ss ms o = jl ss ms (qA ss o) := by unfold zC; rw [if_pos h]
    unfold jh
    split
    · show qG (shapeOf ss o.kd).fs (zC ss ms o) = _
      rw [e]; exact zeq h
    · rfl
  · unfold jh
    split
    · rename_i hc
      exfalso
      apply h
      unfold zJ
      have h3 : o.vs.length = (shapeOf ss o.kd).fs.length := hl.symm.trans hc.2.2
      have h4 : zy ss o.kd = true := hc.1
      rw [h4, hok, decide_eq_true h3]
      rfl
    · rfl
theorem zg0 {ss : List Shp} {ms : List Mnd} (h : yh ss ms = false) (o : Ob) : zC ss ms o = o.vs /\ yJ ss ms o = o.vs := by
  have hn : ¬ zJ ss ms o = true := by
    unfold zJ
    rw [h]
    simp
  exact ⟨by unfold zC; rw [if_neg hn], by unfold yJ; rw [if_neg hn]⟩
theorem zhd {ss : List Shp} {ms : List Mnd} (hok : yh ss ms = true) (o : Ob) : (yJ (qj ss) ms (qJ o o.vs.reverse)).reverse = yJ ss ms o := by
  have hok' := zf1 hok
  have he : (shapeOf (qj ss) o.kd).fs.length = (shapeOf ss o.kd).fs.length := by rw [zbt]; unfold jm; simp
  have hm : zJ (qj ss) ms (qJ o o.vs.reverse) = zJ ss ms o := by
    unfold zJ qJ
    simp only [zce, List.length_reverse, he, hok, hok']
  by_cases h : zJ ss ms o = true
  · have h' : zJ (qj ss) ms (qJ o o.vs.reverse) = true := by rw [hm]; exact h
    unfold yJ
    rw [if_pos h, if_pos h']
    have hl := (je h).1
    have hnd : ((shapeOf ss o.kd).fs.map Fld.nm).Nodup := by
      unfold zJ at h
      simp only [Bool.and_eq_true] at h
      obtain ⟨i, hi, e⟩ := zcx h.1
      have hs : zT ss = true := by unfold yh at hok; simp only [Bool.and_eq_true] at hok; exact hok.1.1.2
      have := zbO hs i hi
      unfold yQ at this
      rw [getD_at ss i _ hi] at this
      simp only [Bool.and_eq_true] at this
      rw [e]
      exact ((zb3 ss _).1 this.2).2.2
    have ht := zbA h
    have ht' : zb5 (zi (shapeOf (qj ss) o.kd) ms) (shapeOf (qj ss) o.kd).fs.length (zA (zi (shapeOf (qj ss) o.kd) ms) (shapeOf (qj ss) o.kd).fs.length).2.row := zbA (o := qJ o o.vs.reverse) h'
    have htr := zf3 hnd (je h).2.2.1 ht
    show (zD (decided (shapeOf (qj ss) o.kd) ms) (zA (zi (shapeOf (qj ss) o.kd) ms) (shapeOf (qj ss) o.kd).fs.length).2.row o.vs.reverse).reverse = zD (decided (shapeOf ss o.kd) ms) (zA (zi (shapeOf ss o.kd) ms) (shapeOf ss o.kd).fs.length).2.row o.vs
    have ht2 : zb5 (zi (shapeOf (qj ss) o.kd) ms) (shapeOf (qj ss) o.kd).fs.length ((zA (zi (shapeOf ss o.kd) ms) (shapeOf ss o.kd).fs.length).2.row.map fun p => (shapeOf ss o.kd).fs.length - 1 - p) := by rw [he, zbt]; exact htr
    rw [zdN ht' ht2 (zcO _ _) o.vs.reverse (by rw [List.length_reverse, he]; exact hl), zbt, zdP hnd _ _ (fun p hp => (ht.mem p).1 hp) hl, List.reverse_reverse]
  · have h' : ¬ zJ (qj ss) ms (qJ o o.vs.reverse) = true := by rw [hm]; exact h
    unfold yJ
    rw [if_neg h, if_neg h']
    exact List.reverse_reverse _
end Go.Proofs.YtmfgjafdnopfbaaGreat.Gate

namespace Go.Proofs.YtmfgjafdnopfbaaGreat
open Go.RowKit
theorem zah {w : World} {b : Nat} {v0 v1 : Value} {b' o : Nat} (h : b' ≠ b) : ((w.setCell ⟨b, 0, none⟩ v0).setCell ⟨b, 1, none⟩ v1).cell? ⟨b', o, none⟩ = w.cell? ⟨b', o, none⟩ := by
  rw [zX h, zX h]
set_option maxHeartbeats 4000000 in
theorem zaD (a0 ma : Option Addr) (cap0 mcap : Nat) (ss : List Shp) (ms : List Mnd) (o : Ob) (va ha : Option Addr) (cap cap' : Nat) (w : World) (hw : yG w a0 ss) (hm : qg w ma ms) (hml : ms.length <= 1048576) (hvl : o.vs.length <= maxLen) :
    Calls Tryz.prog 17 #[.slice a0 ss.length cap0, .slice ma ms.length mcap, .agg #[.string o.kd, .string o.nm, .string o.tm, .slice va o.vs.length cap, .bool o.en, .slice ha o.hs.length cap', .int .i64 o.vr]] w
      fun e w' => ∃ fa fcap, e = .returned (.tuple #[.agg #[.string (Gate.shapeOf ss o.kd).kd, .slice fa (Gate.shapeOf ss o.kd).fs.length fcap], .bool (Gate.zJ ss ms o)]) /\ yc w fa (Gate.shapeOf ss o.kd).fs /\ Below w.heap.size w w' := by
  have HH : Hid (yG w a0 ss /\ qg w ma ms /\ ms.length <= 1048576) := ⟨hw, hm, hml⟩
  clear hw hm hml
  unfold maxLen at hvl
  go_enter Tryz.func17, Tryz.ntmps17
  go_wp2_with fail
  have h1 := zfQ w a0 cap0 ss o.kd _ HH.out.1 (yC w (.cells #[.string o.kd, .string o.nm, .string o.tm, .slice va o.vs.length cap, .bool o.en, .slice ha o.hs.length cap', .int .i64 o.vr] 27) (.cells #[.string ByteArray.empty, .slice none 0 0] 45))
  refine h1.mono ?_
  rintro e w1 ⟨fa, fcap, rfl, hfl0, hb1⟩
  have HFL : Hid (yc w fa (Gate.shapeOf ss o.kd).fs) := hfl0
  have HX1 : Hid (w1.heap[w.heap.size]? = some (.cells #[.string o.kd, .string o.nm, .string o.tm, .slice va o.vs.length cap, .bool o.en, .slice ha o.hs.length cap', .int .i64 o.vr] 27)) := (hb1.block w.heap.size (by simp; omega)).trans (zq _ _ _).1
  have HR1 : Hid (w1.heap[w.heap.size + 1]? = some (.cells #[.string ByteArray.empty, .slice none 0 0] 45)) := (hb1.block (w.heap.size + 1) (by simp)).trans (zq _ _ _).2
  have hz1 : w.heap.size + 1 < w1.heap.size := by have := hb1.size; simp at this; omega
  have HB1 : Hid (Below w.heap.size w w1) := (yC _ _ _).trans (hb1.mono (by simp; omega))
  have hlen := HFL.out.len
  unfold maxLen at hlen
  clear h1 hb1 hfl0
  go_wp2_with fail
  have hbs : Below w1.heap.size w1 (w1.alloc (.cells #[.string (Gate.shapeOf ss o.kd).kd, .slice fa (Gate.shapeOf ss o.kd).fs.length fcap] 45)) := (Below.refl _ _).alloc (Nat.le_refl _) _
  have hY0 := zo w1 #[.string (Gate.shapeOf ss o.kd).kd, .slice fa (Gate.shapeOf ss o.kd).fs.length fcap] 45
  obtain ⟨W2, hW2⟩ : ∃ W2, W2 = w1.alloc (.cells #[.string (Gate.shapeOf ss o.kd).kd, .slice fa (Gate.shapeOf ss o.kd).fs.length fcap] 45) := ⟨_, rfl⟩
  have hy0 : w1.heap.size < W2.heap.size := by rw [hW2]; simp
  rw [<- hW2] at hbs hY0 ⊢
  clear hW2
  have hbd := hbs.trans ((Below.refl W2.heap.size W2).drew.mono hbs.size)
  have hX : ∀ j, W2.drew.cell? ⟨w.heap.size, j, none⟩ = (#[.string o.kd, .string o.nm, .string o.tm, .slice va o.vs.length cap, .bool o.en, .slice ha o.hs.length cap', .int .i64 o.vr] : Array Value)[j]? := fun j => cell_of_block ((hbd.block _ (by omega)).trans HX1.out)
  have hY : ∀ j, W2.drew.cell? ⟨w1.heap.size, j, none⟩ = (#[.string (Gate.shapeOf ss o.kd).kd, .slice fa (Gate.shapeOf ss o.kd).fs.length fcap] : Array Value)[j]? := ze hY0 hy0 (Below.refl W2.heap.size W2).drew
  have hRb : W2.drew.heap[w.heap.size + 1]? = some (.cells #[.string ByteArray.empty, .slice none 0 0] 45) := (hbd.block _ hz1).trans HR1.out
  have hB := HB1.out.trans (hbd.mono HB1.out.size)
  have hy : w1.heap.size < W2.drew.heap.size := hy0
  have hlI : (o.vs.length : Int) <= 9223372036854775807 := by omega
  clear hbs hY0 hy0 hbd
  by_cases hk : Gate.zy ss o.kd = true
  rotate_left
  · have hkf : Gate.zy ss o.kd = false := by simpa using hk
    have HF : Hid (Gate.zJ ss ms o = false) := by unfold Hid Gate.zJ; rw [hkf]; rfl
    rw [hkf]
    clear hk
    refine wp_region_held_drew (S := fun w' => (∀ j, w'.cell? ⟨w.heap.size, j, none⟩ = (#[.string o.kd, .string o.nm, .string o.tm, .slice va o.vs.length cap, .bool o.en, .slice ha o.hs.length cap', .int .i64 o.vr] : Array Value)[j]?) /\ ∀ j, w'.cell? ⟨w1.heap.size, j, none⟩ = (#[.string (Gate.shapeOf ss o.kd).kd, .slice fa (Gate.shapeOf ss o.kd).fs.length fcap] : Array Value)[j]?) (by kernel_rfl) ⟨hX, hY⟩ (fun hHeld => ?_)
    refine qb (i := 0) (v := ?_) rfl (by kernel_rfl) (by kernel_rfl) (by kernel_rfl) (fun _ _ _ h => h) (by rfl) hHeld ?_ ?_
    rotate_left
    · intro w hSw
      (try dsimp only at hSw)
      go_simp
      try with_reducible rfl
    (try simp only [Act.put, List.setIfInBounds_toArray, List.set_cons_zero, List.set_cons_succ])
    refine qb (i := 1) (v := ?_) rfl (by kernel_rfl) (by kernel_rfl) (by kernel_rfl) (fun _ _ _ h => h) (by rfl) hHeld ?_ ?_
    rotate_left
    · intro w hSw
      (try dsimp only at hSw)
      go_simp
      try with_reducible rfl
    (try simp only [Act.put, List.setIfInBounds_toArray, List.set_cons_zero, List.set_cons_succ])
    refine qb (i := 2) (v := ?_) rfl (by kernel_rfl) (by kernel_rfl) (by kernel_rfl) (fun _ _ _ h => h) (by rfl) hHeld ?_ ?_
    rotate_left
    · intro w hSw
      (try dsimp only at hSw)
      go_simp
      try with_reducible rfl
    (try simp only [Act.put, List.setIfInBounds_toArray, List.set_cons_zero, List.set_cons_succ])
    refine zbv (i := 3) rfl (by kernel_rfl) (by kernel_rfl) (by kernel_rfl) (fun _ _ _ h => h) (by rfl) hHeld ?_
    (try simp only [Act.put, List.setIfInBounds_toArray, List.set_cons_zero, List.set_cons_succ])
    refine zbv (i := 4) rfl (by kernel_rfl) (by kernel_rfl) (by kernel_rfl) (fun _ _ _ h => h) (by rfl) hHeld ?_
    (try simp only [Act.put, List.setIfInBounds_toArray, List.set_cons_zero, List.set_cons_succ])
    refine zbv (i := 5) rfl (by kernel_rfl) (by kernel_rfl) (by kernel_rfl) (fun _ _ _ h => h) (by rfl) hHeld ?_
    (try simp only [Act.put, List.setIfInBounds_toArray, List.set_cons_zero, List.set_cons_succ])
    refine zbv (i := 6) rfl (by kernel_rfl) (by kernel_rfl) (by kernel_rfl) (fun _ _ _ h => h) (by rfl) hHeld ?_
    (try simp only [Act.put, List.setIfInBounds_toArray, List.set_cons_zero, List.set_cons_succ])
    refine zbv (i := 7) rfl (by kernel_rfl) (by kernel_rfl) (by kernel_rfl) (fun _ _ _ h => h) (by rfl) hHeld ?_
    (try simp only [Act.put, List.setIfInBounds_toArray, List.set_cons_zero, List.set_cons_succ])
    refine zbv (i := 8) rfl (by kernel_rfl) (by kernel_rfl) (by kernel_rfl) (fun _ _ _ h => h) (by rfl) hHeld ?_
    (try simp only [Act.put, List.setIfInBounds_toArray, List.set_cons_zero, List.set_cons_succ])
    refine zbv (i := 9) rfl (by kernel_rfl) (by kernel_rfl) (by kernel_rfl) (fun _ _ _ h => h) (by rfl) hHeld ?_
    (try simp only [Act.put, List.setIfInBounds_toArray, List.set_cons_zero, List.set_cons_succ])
    refine qb (i := 10) (v := ?_) rfl (by kernel_rfl) (by kernel_rfl) (by kernel_rfl) (fun _ _ _ h => h) (by rfl) hHeld ?_ ?_
    rotate_left
    · intro w hSw
      (try dsimp only at hSw)
      go_simp
      try with_reducible rfl
    (try simp only [Act.put, List.setIfInBounds_toArray, List.set_cons_zero, List.set_cons_succ])
    refine qb (i := 11) (v := ?_) rfl (by kernel_rfl) (by kernel_rfl) (by kernel_rfl) (fun _ _ _ h => h) (by rfl) hHeld ?_ ?_
    rotate_left
    · intro w hSw
      (try dsimp only at hSw)
      go_simp
      try with_reducible rfl
    (try simp only [Act.put, List.setIfInBounds_toArray, List.set_cons_zero, List.set_cons_succ])
    refine zbv (i := 12) rfl (by kernel_rfl) (by kernel_rfl) (by kernel_rfl) (fun _ _ _ h => h) (by rfl) hHeld ?_
    (try simp only [Act.put, List.setIfInBounds_toArray, List.set_cons_zero, List.set_cons_succ])
    refine zbv (i := 13) rfl (by kernel_rfl) (by kernel_rfl) (by kernel_rfl) (fun _ _ _ h => h) (by rfl) hHeld ?_
    (try simp only [Act.put, List.setIfInBounds_toArray, List.set_cons_zero, List.set_cons_succ])
    refine zbv (i := 14) rfl (by kernel_rfl) (by kernel_rfl) (by kernel_rfl) (fun _ _ _ h => h) (by rfl) hHeld ?_
    (try simp only [Act.put, List.setIfInBounds_toArray, List.set_cons_zero, List.set_cons_succ])
    refine qb (i := 15) (v := ?_) rfl (by kernel_rfl) (by kernel_rfl) (by kernel_rfl) (fun _ _ _ h => h) (by rfl) hHeld ?_ ?_
    rotate_left
    · intro w hSw
      (try dsimp only at hSw)
      go_simp
      try with_reducible rfl
    (try simp only [Act.put, List.setIfInBounds_toArray, List.set_cons_zero, List.set_cons_succ])
    have hRb0 : W2.heap[w.heap.size + 1]? = some (.cells #[.string ByteArray.empty, .slice none 0 0] 45) := hRb
    have hRc0 : W2.cell? ⟨w.heap.size + 1, 0, none⟩ = some (.string ByteArray.empty) := cell_of_block hRb0
    have hRc1 : W2.cell? ⟨w.heap.size + 1, 1, none⟩ = some (.slice none 0 0) := cell_of_block hRb0
    have hRf : ∀ j, W2.frozen? ⟨w.heap.size + 1, j, none⟩ = false := fun j => za hRb0
    have hX' : ∀ j, W2.cell? ⟨w.heap.size, j, none⟩ = (#[.string o.kd, .string o.nm, .string o.tm, .slice va o.vs.length cap, .bool o.en, .slice ha o.hs.length cap', .int .i64 o.vr] : Array Value)[j]? := hX
    have hY' : ∀ j, W2.cell? ⟨w1.heap.size, j, none⟩ = (#[.string (Gate.shapeOf ss o.kd).kd, .slice fa (Gate.shapeOf ss o.kd).fs.length fcap] : Array Value)[j]? := hY
    refine zdv (i := 16) rfl (by kernel_rfl) (by rfl) (fun K hK => ?_)
    go_simp
    refine hK.out _ _ ?_ (fun hHeld => ?_)
    · exact ⟨fun j => (zah (w := W2) (by omega)).trans (hX' j), fun j => (zah (w := W2) (by omega)).trans (hY' j)⟩
    clear hK K
    (try simp only [Act.put, List.setIfInBounds_toArray, List.set_cons_zero, List.set_cons_succ])
    refine qb (i := 17) (v := ?_) rfl (by kernel_rfl) (by kernel_rfl) (by kernel_rfl) (fun _ _ _ h => h) (by rfl) hHeld ?_ ?_
    rotate_left
    · intro w hSw
      (try dsimp only at hSw)
      go_simp
      try with_reducible rfl
    (try simp only [Act.put, List.setIfInBounds_toArray, List.set_cons_zero, List.set_cons_succ])
    refine wpAnyH_done (by kernel_rfl) ?_ _
    have hRe0 : ((W2.setCell ⟨w.heap.size + 1, 0, none⟩ (.string (Gate.shapeOf ss o.kd).kd)).setCell ⟨w.heap.size + 1, 1, none⟩ (.slice fa (Gate.shapeOf ss o.kd).fs.length fcap)).heap[w.heap.size + 1]? = some (.cells #[.string (Gate.shapeOf ss o.kd).kd, .slice fa (Gate.shapeOf ss o.kd).fs.length fcap] 45) := by
      have h := zu (o := 1) (zu (o := 0) hRb0 (.string (Gate.shapeOf ss o.kd).kd)) (.slice fa (Gate.shapeOf ss o.kd).fs.length fcap)
      simpa using h
    have hRe1 : ((W2.setCell ⟨w.heap.size + 1, 0, none⟩ (.string (Gate.shapeOf ss o.kd).kd)).setCell ⟨w.heap.size + 1, 1, none⟩ (.slice fa (Gate.shapeOf ss o.kd).fs.length fcap)).cell? ⟨w.heap.size + 1, 0, none⟩ = some (.string (Gate.shapeOf ss o.kd).kd) := cell_of_block hRe0
    have hRe2 : ((W2.setCell ⟨w.heap.size + 1, 0, none⟩ (.string (Gate.shapeOf ss o.kd).kd)).setCell ⟨w.heap.size + 1, 1, none⟩ (.slice fa (Gate.shapeOf ss o.kd).fs.length fcap)).cell? ⟨w.heap.size + 1, 1, none⟩ = some (.slice fa (Gate.shapeOf ss o.kd).fs.length fcap) := cell_of_block hRe0
    have HE : Hid (Below w.heap.size w ((W2.setCell ⟨w.heap.size + 1, 0, none⟩ (.string (Gate.shapeOf ss o.kd).kd)).setCell ⟨w.heap.size + 1, 1, none⟩ (.slice fa (Gate.shapeOf ss o.kd).fs.length fcap)).drew) := (hB.setCell (by show w.heap.size <= w.heap.size + 1; omega) _).setCell (by show w.heap.size <= w.heap.size + 1; omega) _
    go_wp2_with fail
    refine bodyPost_ret (v := .tuple #[.agg #[.string (Gate.shapeOf ss o.kd).kd, .slice fa (Gate.shapeOf ss o.kd).fs.length fcap], .bool false]) (by simp [results, Tryz.results17, go_sem, hRe1, hRe2]) rfl ⟨fa, fcap, by rw [HF.out], HFL.out, HE.out⟩
  rw [hk]
  by_cases hlv : o.vs.length = (Gate.shapeOf ss o.kd).fs.length
  rotate_left
  · have HF : Hid (Gate.zJ ss ms o = false) := by unfold Hid Gate.zJ; rw [decide_eq_false hlv]; simp
    have hlb : ((o.vs.length : Int) == ((Gate.shapeOf ss o.kd).fs.length : Int)) = false := by rw [beq_eq_false_iff_ne]; omega
    clear hk hlv
    refine wp_region_held_drew (S := fun w' => (∀ j, w'.cell? ⟨w.heap.size, j, none⟩ = (#[.string o.kd, .string o.nm, .string o.tm, .slice va o.vs.length cap, .bool o.en, .slice ha o.hs.length cap', .int .i64 o.vr] : Array Value)[j]?) /\ ∀ j, w'.cell? ⟨w1.heap.size, j, none⟩ = (#[.string (Gate.shapeOf ss o.kd).kd, .slice fa (Gate.shapeOf ss o.kd).fs.length fcap] : Array Value)[j]?) (by kernel_rfl) ⟨hX, hY⟩ (fun hHeld => ?_)
    refine qb (i := 0) (v := ?_) rfl (by kernel_rfl) (by kernel_rfl) (by kernel_rfl) (fun _ _ _ h => h) (by rfl) hHeld ?_ ?_
    rotate_left
    · intro w hSw
      (try dsimp only at hSw)
      go_simp
      try with_reducible rfl
    (try simp only [Act.put, List.setIfInBounds_toArray, List.set_cons_zero, List.set_cons_succ])
    refine qb (i := 1) (v := ?_) rfl (by kernel_rfl) (by kernel_rfl) (by kernel_rfl) (fun _ _ _ h => h) (by rfl) hHeld ?_ ?_
    rotate_left
    · intro w hSw
      (try dsimp only at hSw)
      go_simp
      try with_reducible rfl
    (try simp only [Act.put, List.setIfInBounds_toArray, List.set_cons_zero, List.set_cons_succ])
    refine qb (i := 2) (v := ?_) rfl (by kernel_rfl) (by kernel_rfl) (by kernel_rfl) (fun _ _ _ h => h) (by rfl) hHeld ?_ ?_
    rotate_left
    · intro w hSw
      (try dsimp only at hSw)
      go_simp
      try with_reducible rfl
    (try simp only [Act.put, List.setIfInBounds_toArray, List.set_cons_zero, List.set_cons_succ])
    refine qb (i := 3) (v := ?_) rfl (by kernel_rfl) (by kernel_rfl) (by kernel_rfl) (fun _ _ _ h => h) (by rfl) hHeld ?_ ?_
    rotate_left
    · intro w hSw
      (try dsimp only at hSw)
      go_simp
      try with_reducible rfl
    (try simp only [Act.put, List.setIfInBounds_toArray, List.set_cons_zero, List.set_cons_succ])
    refine qb (i := 4) (v := ?_) rfl (by kernel_rfl) (by kernel_rfl) (by kernel_rfl) (fun _ _ _ h => h) (by rfl) hHeld ?_ ?_
    rotate_left
    · intro w hSw
      (try dsimp only at hSw)
      go_simp
      try with_reducible rfl
    (try simp only [Act.put, List.setIfInBounds_toArray, List.set_cons_zero, List.set_cons_succ])
    refine qb (i := 5) (v := ?_) rfl (by kernel_rfl) (by kernel_rfl) (by kernel_rfl) (fun _ _ _ h => h) (by rfl) hHeld ?_ ?_
    rotate_left
    · intro w hSw
      (try dsimp only at hSw)
      go_simp
      try with_reducible rfl
    (try simp only [Act.put, List.setIfInBounds_toArray, List.set_cons_zero, List.set_cons_succ])
    refine qb (i := 6) (v := ?_) rfl (by kernel_rfl) (by kernel_rfl) (by kernel_rfl) (fun _ _ _ h => h) (by rfl) hHeld ?_ ?_
    rotate_left
    · intro w hSw
      (try dsimp only at hSw)
      go_simp
      try with_reducible rfl
    (try simp only [Act.put, List.setIfInBounds_toArray, List.set_cons_zero, List.set_cons_succ])
    refine qb (i := 7) (v := ?_) rfl (by kernel_rfl) (by kernel_rfl) (by kernel_rfl) (fun _ _ _ h => h) (by rfl) hHeld ?_ ?_
    rotate_left
    · intro w hSw
      (try dsimp only at hSw)
      go_simp
      try with_reducible rfl
    (try simp only [Act.put, List.setIfInBounds_toArray, List.set_cons_zero, List.set_cons_succ])
    refine qb (i := 8) (v := ?_) rfl (by kernel_rfl) (by kernel_rfl) (by kernel_rfl) (fun _ _ _ h => h) (by rfl) hHeld ?_ ?_
    rotate_left
    · intro w hSw
      (try dsimp only at hSw)
      go_simp
      try with_reducible rfl
    (try simp only [Act.put, List.setIfInBounds_toArray, List.set_cons_zero, List.set_cons_succ])
    refine qb (i := 9) (v := ?_) rfl (by kernel_rfl) (by kernel_rfl) (by kernel_rfl) (fun _ _ _ h => h) (by rfl) hHeld ?_ ?_
    rotate_left
    · intro w hSw
      (try dsimp only at hSw)
      go_simp
      try with_reducible rfl
    (try simp only [Act.put, List.setIfInBounds_toArray, List.set_cons_zero, List.set_cons_succ])
    refine qb (i := 10) (v := ?_) rfl (by kernel_rfl) (by kernel_rfl) (by kernel_rfl) (fun _ _ _ h => h) (by rfl) hHeld ?_ ?_
    rotate_left
    · intro w hSw
      (try dsimp only at hSw)
      go_simp
      try with_reducible rfl
    (try simp only [Act.put, List.setIfInBounds_toArray, List.set_cons_zero, List.set_cons_succ])
    refine qb (i := 11) (v := ?_) rfl (by kernel_rfl) (by kernel_rfl) (by kernel_rfl) (fun _ _ _ h => h) (by rfl) hHeld ?_ ?_
    rotate_left
    · intro w hSw
      (try dsimp only at hSw)
      go_simp
      try with_reducible rfl
    (try simp only [Act.put, List.setIfInBounds_toArray, List.set_cons_zero, List.set_cons_succ])
    refine zbv (i := 12) rfl (by kernel_rfl) (by kernel_rfl) (by kernel_rfl) (fun _ _ _ h => h) (by rfl) hHeld ?_
    (try simp only [Act.put, List.setIfInBounds_toArray, List.set_cons_zero, List.set_cons_succ])
    refine zbv (i := 13) rfl (by kernel_rfl) (by kernel_rfl) (by kernel_rfl) (fun _ _ _ h => h) (by rfl) hHeld ?_
    (try simp only [Act.put, List.setIfInBounds_toArray, List.set_cons_zero, List.set_cons_succ])
    refine zbv (i := 14) rfl (by kernel_rfl) (by kernel_rfl) (by kernel_rfl) (fun _ _ _ h => h) (by rfl) hHeld ?_
    (try simp only [Act.put, List.setIfInBounds_toArray, List.set_cons_zero, List.set_cons_succ])
    refine qb (i := 15) (v := ?_) rfl (by kernel_rfl) (by kernel_rfl) (by kernel_rfl) (fun _ _ _ h => h) (by rfl) hHeld ?_ ?_
    rotate_left
    · intro w hSw
      (try dsimp only at hSw)
      go_simp
      try with_reducible rfl
    (try simp only [Act.put, List.setIfInBounds_toArray, List.set_cons_zero, List.set_cons_succ])
    have hRb0 : W2.heap[w.heap.size + 1]? = some (.cells #[.string ByteArray.empty, .slice none 0 0] 45) := hRb
    have hRc0 : W2.cell? ⟨w.heap.size + 1, 0, none⟩ = some (.string ByteArray.empty) := cell_of_block hRb0
    have hRc1 : W2.cell? ⟨w.heap.size + 1, 1, none⟩ = some (.slice none 0 0) := cell_of_block hRb0
    have hRf : ∀ j, W2.frozen? ⟨w.heap.size + 1, j, none⟩ = false := fun j => za hRb0
    have hX' : ∀ j, W2.cell? ⟨w.heap.size, j, none⟩ = (#[.string o.kd, .string o.nm, .string o.tm, .slice va o.vs.length cap, .bool o.en, .slice ha o.hs.length cap', .int .i64 o.vr] : Array Value)[j]? := hX
    have hY' : ∀ j, W2.cell? ⟨w1.heap.size, j, none⟩ = (#[.string (Gate.shapeOf ss o.kd).kd, .slice fa (Gate.shapeOf ss o.kd).fs.length fcap] : Array Value)[j]? := hY
    refine zdv (i := 16) rfl (by kernel_rfl) (by rfl) (fun K hK => ?_)
    go_simp
    refine hK.out _ _ ?_ (fun hHeld => ?_)
    · exact ⟨fun j => (zah (w := W2) (by omega)).trans (hX' j), fun j => (zah (w := W2) (by omega)).trans (hY' j)⟩
    clear hK K
    (try simp only [Act.put, List.setIfInBounds_toArray, List.set_cons_zero, List.set_cons_succ])
    refine qb (i := 17) (v := ?_) rfl (by kernel_rfl) (by kernel_rfl) (by kernel_rfl) (fun _ _ _ h => h) (by rfl) hHeld ?_ ?_
    rotate_left
    · intro w hSw
      (try dsimp only at hSw)
      go_simp
      try with_reducible rfl
    (try simp only [Act.put, List.setIfInBounds_toArray, List.set_cons_zero, List.set_cons_succ])
    refine wpAnyH_done (by kernel_rfl) ?_ _
    have hRe0 : ((W2.setCell ⟨w.heap.size + 1, 0, none⟩ (.string (Gate.shapeOf ss o.kd).kd)).setCell ⟨w.heap.size + 1, 1, none⟩ (.slice fa (Gate.shapeOf ss o.kd).fs.length fcap)).heap[w.heap.size + 1]? = some (.cells #[.string (Gate.shapeOf ss o.kd).kd, .slice fa (Gate.shapeOf ss o.kd).fs.length fcap] 45) := by
      have h := zu (o := 1) (zu (o := 0) hRb0 (.string (Gate.shapeOf ss o.kd).kd)) (.slice fa (Gate.shapeOf ss o.kd).fs.length fcap)
      simpa using h
    have hRe1 : ((W2.setCell ⟨w.heap.size + 1, 0, none⟩ (.string (Gate.shapeOf ss o.kd).kd)).setCell ⟨w.heap.size + 1, 1, none⟩ (.slice fa (Gate.shapeOf ss o.kd).fs.length fcap)).cell? ⟨w.heap.size + 1, 0, none⟩ = some (.string (Gate.shapeOf ss o.kd).kd) := cell_of_block hRe0
    have hRe2 : ((W2.setCell ⟨w.heap.size + 1, 0, none⟩ (.string (Gate.shapeOf ss o.kd).kd)).setCell ⟨w.heap.size + 1, 1, none⟩ (.slice fa (Gate.shapeOf ss o.kd).fs.length fcap)).cell? ⟨w.heap.size + 1, 1, none⟩ = some (.slice fa (Gate.shapeOf ss o.kd).fs.length fcap) := cell_of_block hRe0
    have HE : Hid (Below w.heap.size w ((W2.setCell ⟨w.heap.size + 1, 0, none⟩ (.string (Gate.shapeOf ss o.kd).kd)).setCell ⟨w.heap.size + 1, 1, none⟩ (.slice fa (Gate.shapeOf ss o.kd).fs.length fcap)).drew) := (hB.setCell (by show w.heap.size <= w.heap.size + 1; omega) _).setCell (by show w.heap.size <= w.heap.size + 1; omega) _
    go_wp2_with fail
    refine bodyPost_ret (v := .tuple #[.agg #[.string (Gate.shapeOf ss o.kd).kd, .slice fa (Gate.shapeOf ss o.kd).fs.length fcap], .bool false]) (by simp [results, Tryz.results17, go_sem, hRe1, hRe2]) rfl ⟨fa, fcap, by rw [HF.out], HFL.out, HE.out⟩
  have hlb : ((o.vs.length : Int) == ((Gate.shapeOf ss o.kd).fs.length : Int)) = true := by rw [beq_iff_eq]; omega
  have HF : Hid (Gate.zJ ss ms o = Gate.yh ss ms) := by unfold Hid Gate.zJ; rw [hk, decide_eq_true hlv]; rfl
  clear hk hlv
  have HMO : Hid (Gate.yh ss ms = Gate.yh ss ms) := rfl
  refine wp_region_held_drew (S := fun w' => (∀ j, w'.cell? ⟨w.heap.size, j, none⟩ = (#[.string o.kd, .string o.nm, .string o.tm, .slice va o.vs.length cap, .bool o.en, .slice ha o.hs.length cap', .int .i64 o.vr] : Array Value)[j]?) /\ ∀ j, w'.cell? ⟨w1.heap.size, j, none⟩ = (#[.string (Gate.shapeOf ss o.kd).kd, .slice fa (Gate.shapeOf ss o.kd).fs.length fcap] : Array Value)[j]?) (by kernel_rfl) ⟨hX, hY⟩ (fun hHeld => ?_)
  refine qb (i := 0) (v := ?_) rfl (by kernel_rfl) (by kernel_rfl) (by kernel_rfl) (fun _ _ _ h => h) (by rfl) hHeld ?_ ?_
  rotate_left
  · intro w hSw
    (try dsimp only at hSw)
    go_simp
    try with_reducible rfl
  (try simp only [Act.put, List.setIfInBounds_toArray, List.set_cons_zero, List.set_cons_succ])
  refine qb (i := 1) (v := ?_) rfl (by kernel_rfl) (by kernel_rfl) (by kernel_rfl) (fun _ _ _ h => h) (by rfl) hHeld ?_ ?_
  rotate_left
  · intro w hSw
    (try dsimp only at hSw)
    go_simp
    try with_reducible rfl
  (try simp only [Act.put, List.setIfInBounds_toArray, List.set_cons_zero, List.set_cons_succ])
  refine qb (i := 2) (v := ?_) rfl (by kernel_rfl) (by kernel_rfl) (by kernel_rfl) (fun _ _ _ h => h) (by rfl) hHeld ?_ ?_
  rotate_left
  · intro w hSw
    (try dsimp only at hSw)
    go_simp
    try with_reducible rfl
  (try simp only [Act.put, List.setIfInBounds_toArray, List.set_cons_zero, List.set_cons_succ])
  refine qb (i := 3) (v := ?_) rfl (by kernel_rfl) (by kernel_rfl) (by kernel_rfl) (fun _ _ _ h => h) (by rfl) hHeld ?_ ?_
  rotate_left
  · intro w hSw
    (try dsimp only at hSw)
    go_simp
    try with_reducible rfl
  (try simp only [Act.put, List.setIfInBounds_toArray, List.set_cons_zero, List.set_cons_succ])
  refine qb (i := 4) (v := ?_) rfl (by kernel_rfl) (by kernel_rfl) (by kernel_rfl) (fun _ _ _ h => h) (by rfl) hHeld ?_ ?_
  rotate_left
  · intro w hSw
    (try dsimp only at hSw)
    go_simp
    try with_reducible rfl
  (try simp only [Act.put, List.setIfInBounds_toArray, List.set_cons_zero, List.set_cons_succ])
  refine qb (i := 5) (v := ?_) rfl (by kernel_rfl) (by kernel_rfl) (by kernel_rfl) (fun _ _ _ h => h) (by rfl) hHeld ?_ ?_
  rotate_left
  · intro w hSw
    (try dsimp only at hSw)
    go_simp
    try with_reducible rfl
  (try simp only [Act.put, List.setIfInBounds_toArray, List.set_cons_zero, List.set_cons_succ])
  refine qb (i := 6) (v := ?_) rfl (by kernel_rfl) (by kernel_rfl) (by kernel_rfl) (fun _ _ _ h => h) (by rfl) hHeld ?_ ?_
  rotate_left
  · intro w hSw
    (try dsimp only at hSw)
    go_simp
    try with_reducible rfl
  (try simp only [Act.put, List.setIfInBounds_toArray, List.set_cons_zero, List.set_cons_succ])
  refine qb (i := 7) (v := ?_) rfl (by kernel_rfl) (by kernel_rfl) (by kernel_rfl) (fun _ _ _ h => h) (by rfl) hHeld ?_ ?_
  rotate_left
  · intro w hSw
    (try dsimp only at hSw)
    go_simp
    try with_reducible rfl
  (try simp only [Act.put, List.setIfInBounds_toArray, List.set_cons_zero, List.set_cons_succ])
  refine qb (i := 8) (v := ?_) rfl (by kernel_rfl) (by kernel_rfl) (by kernel_rfl) (fun _ _ _ h => h) (by rfl) hHeld ?_ ?_
  rotate_left
  · intro w hSw
    (try dsimp only at hSw)
    go_simp
    try with_reducible rfl
  (try simp only [Act.put, List.setIfInBounds_toArray, List.set_cons_zero, List.set_cons_succ])
  refine qb (i := 9) (v := ?_) rfl (by kernel_rfl) (by kernel_rfl) (by kernel_rfl) (fun _ _ _ h => h) (by rfl) hHeld ?_ ?_
  rotate_left
  · intro w hSw
    (try dsimp only at hSw)
    go_simp
    try with_reducible rfl
  (try simp only [Act.put, List.setIfInBounds_toArray, List.set_cons_zero, List.set_cons_succ])
  refine qb (i := 10) (v := ?_) rfl (by kernel_rfl) (by kernel_rfl) (by kernel_rfl) (fun _ _ _ h => h) (by rfl) hHeld ?_ ?_
  rotate_left
  · intro w hSw
    (try dsimp only at hSw)
    go_simp
    try with_reducible rfl
  (try simp only [Act.put, List.setIfInBounds_toArray, List.set_cons_zero, List.set_cons_succ])
  refine qb (i := 11) (v := ?_) rfl (by kernel_rfl) (by kernel_rfl) (by kernel_rfl) (fun _ _ _ h => h) (by rfl) hHeld ?_ ?_
  rotate_left
  · intro w hSw
    (try dsimp only at hSw)
    go_simp
    try with_reducible rfl
  (try simp only [Act.put, List.setIfInBounds_toArray, List.set_cons_zero, List.set_cons_succ])
  refine qb (i := 12) (v := ?_) rfl (by kernel_rfl) (by kernel_rfl) (by kernel_rfl) (fun _ _ _ h => h) (by rfl) hHeld ?_ ?_
  rotate_left
  · intro w hSw
    (try dsimp only at hSw)
    go_simp
    try with_reducible rfl
  (try simp only [Act.put, List.setIfInBounds_toArray, List.set_cons_zero, List.set_cons_succ])
  refine qb (i := 13) (v := ?_) rfl (by kernel_rfl) (by kernel_rfl) (by kernel_rfl) (fun _ _ _ h => h) (by rfl) hHeld ?_ ?_
  rotate_left
  · intro w hSw
    (try dsimp only at hSw)
    go_simp
    try with_reducible rfl
  (try simp only [Act.put, List.setIfInBounds_toArray, List.set_cons_zero, List.set_cons_succ])
  refine zdv (i := 14) rfl (by kernel_rfl) (by rfl) (fun K hK => ?_)
  go_simp
  refine (zl HMO.out (zca _ _ _ _ ss ms _ (HH.out.1.mono hB) (HH.out.2.1.mono hB) HH.out.2.2)).mono ?_
  rintro e w3 ⟨rfl, hb⟩
  have hX := fun j => (hb.cell (p := ⟨w.heap.size, j, none⟩) (by show w.heap.size < W2.drew.heap.size; omega)).trans (hX j)
  have hY := ze hY hy hb
  have hRb := (hb.block _ (Nat.lt_trans hz1 hy)).trans hRb
  have hB := hB.trans (hb.mono hB.size)
  clear hb
  (try go_wp2_with fail)
  refine hK.out _ _ ?_ (fun hHeld => ?_)
  · exact ⟨hX, hY⟩
  clear hK K
  (try simp only [Act.put, List.setIfInBounds_toArray, List.set_cons_zero, List.set_cons_succ])
  refine qb (i := 15) (v := ?_) rfl (by kernel_rfl) (by kernel_rfl) (by kernel_rfl) (fun _ _ _ h => h) (by rfl) hHeld ?_ ?_
  rotate_left
  · intro w hSw
    (try dsimp only at hSw)
    go_simp
    try with_reducible rfl
  (try simp only [Act.put, List.setIfInBounds_toArray, List.set_cons_zero, List.set_cons_succ])
  have hRb0 : w3.heap[w.heap.size + 1]? = some (.cells #[.string ByteArray.empty, .slice none 0 0] 45) := hRb
  have hRc0 : w3.cell? ⟨w.heap.size + 1, 0, none⟩ = some (.string ByteArray.empty) := cell_of_block hRb0
  have hRc1 : w3.cell? ⟨w.heap.size + 1, 1, none⟩ = some (.slice none 0 0) := cell_of_block hRb0
  have hRf : ∀ j, w3.frozen? ⟨w.heap.size + 1, j, none⟩ = false := fun j => za hRb0
  have hX' : ∀ j, w3.cell? ⟨w.heap.size, j, none⟩ = (#[.string o.kd, .string o.nm, .string o.tm, .slice va o.vs.length cap, .bool o.en, .slice ha o.hs.length cap', .int .i64 o.vr] : Array Value)[j]? := hX
  have hY' : ∀ j, w3.cell? ⟨w1.heap.size, j, none⟩ = (#[.string (Gate.shapeOf ss o.kd).kd, .slice fa (Gate.shapeOf ss o.kd).fs.length fcap] : Array Value)[j]? := hY
  refine zdv (i := 16) rfl (by kernel_rfl) (by rfl) (fun K hK => ?_)
  go_simp
  refine hK.out _ _ ?_ (fun hHeld => ?_)
  · exact ⟨fun j => (zah (w := w3) (by omega)).trans (hX' j), fun j => (zah (w := w3) (by omega)).trans (hY' j)⟩
  clear hK K
  (try simp only [Act.put, List.setIfInBounds_toArray, List.set_cons_zero, List.set_cons_succ])
  refine qb (i := 17) (v := ?_) rfl (by kernel_rfl) (by kernel_rfl) (by kernel_rfl) (fun _ _ _ h => h) (by rfl) hHeld ?_ ?_
  rotate_left
  · intro w hSw
    (try dsimp only at hSw)
    go_simp
    try with_reducible rfl
  (try simp only [Act.put, List.setIfInBounds_toArray, List.set_cons_zero, List.set_cons_succ])
  refine wpAnyH_done (by kernel_rfl) ?_ _
  have hRe0 : ((w3.setCell ⟨w.heap.size + 1, 0, none⟩ (.string (Gate.shapeOf ss o.kd).kd)).setCell ⟨w.heap.size + 1, 1, none⟩ (.slice fa (Gate.shapeOf ss o.kd).fs.length fcap)).heap[w.heap.size + 1]? = some (.cells #[.string (Gate.shapeOf ss o.kd).kd, .slice fa (Gate.shapeOf ss o.kd).fs.length fcap] 45) := by
    have h := zu (o := 1) (zu (o := 0) hRb0 (.string (Gate.shapeOf ss o.kd).kd)) (.slice fa (Gate.shapeOf ss o.kd).fs.length fcap)
    simpa using h
  have hRe1 : ((w3.setCell ⟨w.heap.size + 1, 0, none⟩ (.string (Gate.shapeOf ss o.kd).kd)).setCell ⟨w.heap.size + 1, 1, none⟩ (.slice fa (Gate.shapeOf ss o.kd).fs.length fcap)).cell? ⟨w.heap.size + 1, 0, none⟩ = some (.string (Gate.shapeOf ss o.kd).kd) := cell_of_block hRe0
  have hRe2 : ((w3.setCell ⟨w.heap.size + 1, 0, none⟩ (.string (Gate.shapeOf ss o.kd).kd)).setCell ⟨w.heap.size + 1, 1, none⟩ (.slice fa (Gate.shapeOf ss o.kd).fs.length fcap)).cell? ⟨w.heap.size + 1, 1, none⟩ = some (.slice fa (Gate.shapeOf ss o.kd).fs.length fcap) := cell_of_block hRe0
  have HE : Hid (Below w.heap.size w ((w3.setCell ⟨w.heap.size + 1, 0, none⟩ (.string (Gate.shapeOf ss o.kd).kd)).setCell ⟨w.heap.size + 1, 1, none⟩ (.slice fa (Gate.shapeOf ss o.kd).fs.length fcap))) := (hB.setCell (by show w.heap.size <= w.heap.size + 1; omega) _).setCell (by show w.heap.size <= w.heap.size + 1; omega) _
  go_wp2_with fail
  refine bodyPost_ret (v := .tuple #[.agg #[.string (Gate.shapeOf ss o.kd).kd, .slice fa (Gate.shapeOf ss o.kd).fs.length fcap], .bool (Gate.yh ss ms)]) (by simp [results, Tryz.results17, go_sem, hRe1, hRe2]) rfl ⟨fa, fcap, by rw [HF.out], HFL.out, HE.out⟩
end Go.Proofs.YtmfgjafdnopfbaaGreat
