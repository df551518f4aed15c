import Derived.Test.YtkfigdbbncjojaaGreatM46
import Derived.Test.YtkfigdbbncjojaaGreatM34
import Derived.Test.YtkfigdbbncjojaaGreatM18
import Derived.Test.YtkfigdbbncjojaaGreatM10
import Derived.Test.YtkfigdbbncjojaaGreatM35
import Derived.Test.YtkfigdbbncjojaaGreatM43
import Derived.Deep.RegionHeld3
import Derived.Test.YtkfigdbbncjojaaGreatM42
import Derived.Test.YtkfigdbbncjojaaGreatM36
namespace Go.Proofs.YtkfigdbbncjojaaGreat
open Go.RowKit
namespace Gate
def za6 (l : Lw) (o : Ob) : List ByteArray := zfl l.ss l.ms (zez l.ss o)
end Gate
theorem zck {l : Lw} {o : Ob} (h : Gate.y8 l.ss l.ms o = true) : (Gate.za6 l o).length = o.vs.length := by
  unfold Gate.za6
  rw [<- Gate.zl0 h]
  exact Gate.qL _ _ _
set_option maxRecDepth 20000 in
set_option maxHeartbeats 4000000 in
theorem zim (l : Lw) (a b c : Option Addr) (ca cb cc : Nat) (o : Ob) (va ha : Option Addr) (cap cap' : Nat) (w : World) (hL : qO w l a b c) (hml : l.ms.length <= 1048576) (ho : qQ w o va ha) (hl : o.vs.length <= 1048576) (hl' : o.hs.length <= 1048576) (hmd : Gate.y8 l.ss l.ms o = true) :
    Calls Tryz.prog 167 #[.agg (lC l a b c ca cb cc), .agg (oC o va ha cap cap')] w
      fun e w' => ∃ e0 dap e1 dap', e = .returned (.agg (oC o e0 e1 dap dap')) /\ zn w.heap.size w' e0 (Gate.za6 l o) /\ Below w.heap.size w w' := by
  have HH := zee hL ho ho.vals.len
  have HFA := hid (Gate.zbH hmd)
  clear hL ho hmd
  go_enter Tryz.func167, Tryz.ntmps167
  go_wp2_with fail
  have hb2 := qU w (.cells (lC l a b c ca cb cc) 40) (.cells (oC o va ha cap cap') 104) (.cells oZ 104)
  refine (qj _ _ l.ss o.kd _ (HH.out.1.ss.mono hb2)).mono ?_
  rintro e w1 ⟨fa, fcap, rfl, hfl0, hb1⟩
  have HFL := hid (hfl0.mono hb1)
  have hX0 : ∀ j, w1.cell? ⟨w.heap.size, j, none⟩ = (lC l a b c ca cb cc)[j]? := fun j => cell_of_block ((hb1.block w.heap.size (by simp; omega)).trans (za4 _ _ _ _))
  have hX1 : ∀ j, w1.cell? ⟨w.heap.size + 1, j, none⟩ = (oC o va ha cap cap')[j]? := fun j => cell_of_block ((hb1.block (w.heap.size + 1) (by simp)).trans (zeL _ _ _ _))
  have HR1 : Hid (w1.heap[w.heap.size + 1 + 1]? = some (.cells oZ 104)) := (hb1.block (w.heap.size + 1 + 1) (by simp)).trans (zbT _ _ _ _)
  have hz2 : w.heap.size + 1 + 1 < w1.heap.size := by have := hb1.size; simp at this; omega
  have hz1 : w.heap.size + 1 < w1.heap.size := by omega
  have hz0 : w.heap.size < w1.heap.size := by omega
  have hB1 : Below w.heap.size w w1 := hb2.trans (hb1.mono (by simp; omega))
  clear hb1 hfl0 hb2
  go_wp2_with fail
  have hbs := (Below.refl w1.heap.size w1).alloc (Nat.le_refl _) (.cells #[.string (Gate.shapeOf l.ss o.kd).kd, .slice fa (Gate.shapeOf l.ss o.kd).fs.length fcap] 127)
  have hRW := (hbs.block _ hz2).trans HR1.out
  have hzW := Nat.lt_of_lt_of_le hz2 hbs.size
  have hBW := hB1.trans (hbs.mono hB1.size)
  have hFW := HFL.out.mono hbs
  clear hbs
  obtain ⟨W2, hW2⟩ : ∃ W2, W2 = (w1.alloc (.cells #[.string (Gate.shapeOf l.ss o.kd).kd, .slice fa (Gate.shapeOf l.ss o.kd).fs.length fcap] 127)) := ⟨_, rfl⟩
  have hS2 : ∀ j, W2.drew.cell? ⟨w1.heap.size, j, none⟩ = (#[.string (Gate.shapeOf l.ss o.kd).kd, .slice fa (Gate.shapeOf l.ss o.kd).fs.length fcap] : Array Value)[j]? := by rw [hW2]; exact zH w1 _ _
  have hS1 : ∀ j, W2.drew.cell? ⟨w.heap.size + 1, j, none⟩ = (oC o va ha cap cap')[j]? := by rw [hW2]; exact za hX1 hz1 ((Below.refl _ _).alloc (Nat.le_refl _) _).drew
  have hS0 : ∀ j, W2.drew.cell? ⟨w.heap.size, j, none⟩ = (lC l a b c ca cb cc)[j]? := by rw [hW2]; exact za hX0 hz0 ((Below.refl _ _).alloc (Nat.le_refl _) _).drew
  have hzs : w1.heap.size < W2.drew.heap.size := by rw [hW2]; show w1.heap.size < (w1.alloc (.cells #[.string (Gate.shapeOf l.ss o.kd).kd, .slice fa (Gate.shapeOf l.ss o.kd).fs.length fcap] 127)).heap.size; simp
  rw [<- hW2] at hRW hzW hBW hFW ⊢
  clear hW2 hX1 hX0
  have hb := (Below.refl W2.heap.size W2).drew
  have hlW : W2.heap.size = W2.drew.heap.size := rfl
  have hzo : w.heap.size + 1 < W2.drew.heap.size := by omega
  have hzl : w.heap.size < W2.drew.heap.size := by omega
  go_region_held3 (fun w' => (∀ j, w'.cell? ⟨w.heap.size, j, none⟩ = (lC l a b c ca cb cc)[j]?) /\ (∀ j, w'.cell? ⟨w.heap.size + 1, j, none⟩ = (oC o va ha cap cap')[j]?) /\ ∀ j, w'.cell? ⟨w1.heap.size, j, none⟩ = (#[.string (Gate.shapeOf l.ss o.kd).kd, .slice fa (Gate.shapeOf l.ss o.kd).fs.length fcap] : Array Value)[j]?) (first | exact ⟨fun j => by rw [hS0], fun j => by rw [hS1], fun j => by rw [hS2]⟩ | exact ⟨fun j => by rw [hS5], fun j => by rw [hS3], fun j => by rw [hS4]⟩) (first
    | (go_at_call 188; refine (zlx o (Gate.shapeOf l.ss o.kd).kd (Gate.shapeOf l.ss o.kd).fs _ va ha _ cap cap' _ (by exact hFW.mono hb) (by exact HH.out.2.1.mono (hBW.trans (hb.mono hBW.size))) hl hl' HFA.out.1).mono ?_; rintro e w5 ⟨a5, dap5, a5', dap5', m5, rfl, ht5, hm5, hsm5, ht5', hb5⟩; have hS0 := za hS0 hzl hb5; have hS1 := za hS1 hzo hb5; have hS2 := za hS2 hzs hb5; have hb := hb.trans (hb5.mono hb.size); have hO5 : zB w5 a5 (Gate.jg (Gate.shapeOf l.ss o.kd).fs o.vs) := ht5.at (by rw [Gate.yR HFA.out.1]; exact HH.out.2.2) (zeC hFW.smalls HH.out.2.1.vals.small HFA.out.1); have hO5' : zB w5 a5' o.hs := ht5'.at HH.out.2.1.holds.len HH.out.2.1.holds.small; have hA5 := ht5.zn6; have hA5' := ht5'.zn6; clear ht5 hm5 hsm5 ht5' hb5)
    | (go_at_call 187; refine (zmq o (Gate.jg (Gate.shapeOf l.ss o.kd).fs o.vs) (Gate.yR HFA.out.1) (Gate.shapeOf l.ss o.kd) l.ms _ _ _ _ _ _ _ _ _ (by exact hFW.mono hb) (by exact HH.out.1.ms.mono (hBW.trans (hb.mono hBW.size))) HH.out.2.1.small (by exact hO5) (by exact hO5') hA5 hA5' hl hl' HFA.out.1 hml HFA.out.2.1 HFA.out.2.2.1 HFA.out.2.2.2).mono ?_; rintro e w6 ⟨e0, dap, e1, dap', m, rfl, ht, hm, hsm, ht', hb6⟩; have hR6 : w6.heap[w.heap.size + 1 + 1]? = some (.cells oZ 104) := ((hb.trans (hb6.mono hb.size)).block (w.heap.size + 1 + 1) hzW).trans hRW; have hS0 := fun j => (hb6.cell (p := ⟨w.heap.size, j, none⟩) (Nat.lt_of_lt_of_le hzl hb.size)).trans (hS0 j); have hS1 := fun j => (hb6.cell (p := ⟨w.heap.size + 1, j, none⟩) (Nat.lt_of_lt_of_le hzo hb.size)).trans (hS1 j); have hS2 := fun j => (hb6.cell (p := ⟨w1.heap.size, j, none⟩) (Nat.lt_of_lt_of_le hzs hb.size)).trans (hS2 j); have hS5 := fun j => (zfo (g := w.heap.size + 1 + 1) (by omega : w.heap.size ≠ w.heap.size + 1 + 1) (v0 := .string o.kd) (v1 := .string o.nm) (v2 := .string o.tm) (v3 := .slice e0 o.vs.length dap) (v4 := .bool o.en) (v5 := .slice e1 o.hs.length dap') (v6 := .int .i64 o.vr)).trans (hS0 j); have hS3 := fun j => (zfo (g := w.heap.size + 1 + 1) (by omega : w.heap.size + 1 ≠ w.heap.size + 1 + 1) (v0 := .string o.kd) (v1 := .string o.nm) (v2 := .string o.tm) (v3 := .slice e0 o.vs.length dap) (v4 := .bool o.en) (v5 := .slice e1 o.hs.length dap') (v6 := .int .i64 o.vr)).trans (hS1 j); have hS4 := fun j => (zfo (g := w.heap.size + 1 + 1) (by omega : w1.heap.size ≠ w.heap.size + 1 + 1) (v0 := .string o.kd) (v1 := .string o.nm) (v2 := .string o.tm) (v3 := .slice e0 o.vs.length dap) (v4 := .bool o.en) (v5 := .slice e1 o.hs.length dap') (v6 := .int .i64 o.vr)).trans (hS2 j); have hRc := ziy hR6; have hRf := zl1 hR6; have hsz5 := hb.size; have hb := hb.trans (hb6.mono hb.size); clear hb6))
  go_wp2_with fail
  refine bodyPost_ret (v := (.agg (oC o e0 e1 dap dap'))) (by simp [results, Tryz.results167, go_sem, hRc]) rfl ?_
  have hB := hBW.trans (hb.mono hBW.size)
  have h2 := hzW
  exact ⟨e0, dap, e1, dap', rfl, (qK (ht.low (lo' := w.heap.size + 1 + 1 + 1) (by omega)) _ (by omega) _ _ _ _ _ _ _).low (by omega), jU hB _ (by omega) _ _ _ _ _ _ _⟩
end Go.Proofs.YtkfigdbbncjojaaGreat

namespace Go.Proofs.YtkfigdbbncjojaaGreat
open Go.RowKit
namespace Gate
theorem zk7 {ss : List Shp} {v : ByteArray} (h : zC ss v = true) : (shapeOf ss v).kd = v := by
  unfold zC at h
  rw [List.any_eq_true] at h
  obtain ⟨x, hx, he⟩ := h
  unfold shapeOf
  cases hf : ss.find? (fun s => decide (s.kd = v)) with
  | none => rw [List.find?_eq_none] at hf; exact absurd he (hf x hx)
  | some y => simpa using List.find?_some hf
theorem zax {ss : List Shp} {ms : List Mnd} {o : Ob} (hm : zY ss ms = true) : y8 ss ms o = zw ss o := by
  unfold y8 zw; rw [hm, Bool.and_true]
structure znZ (ss : List Shp) (ms : List Mnd) (o : Ob) (pl : List Nat) : Prop where
  names : zT (shapeOf ss o.kd) ms (shapeOf ss o.kd).fs.length = pl.map (zab (shapeOf ss o.kd))
  zmF : zio (zh (shapeOf ss o.kd) ms) (shapeOf ss o.kd).fs.length pl
  place : ∀ q (h : q < (shapeOf ss o.kd).fs.length), zQ (shapeOf ss o.kd).fs (shapeOf ss o.kd).fs[q].nm = (q : Int)
  kd : (shapeOf ss o.kd).kd = o.kd
  few : (shapeOf ss o.kd).fs.length <= 6
  reads : ∀ q, q < (shapeOf ss o.kd).fs.length -> ∀ x ∈ zZ (shapeOf ss o.kd) ms q, 0 <= x /\ x < (shapeOf ss o.kd).fs.length
  len : o.vs.length = (shapeOf ss o.kd).fs.length
  mends : ms.length <= 12
  res : zfl ss ms o = zK (decided (shapeOf ss o.kd) ms) pl o.vs
theorem rowOf {ss : List Shp} {ms : List Mnd} {o : Ob} (hm : zY ss ms = true) (hc : zw ss o = true) : znZ ss ms o (greedy (zh (shapeOf ss o.kd) ms) (shapeOf ss o.kd).fs.length (shapeOf ss o.kd).fs.length) := by
  have hmd : y8 ss ms o = true := by rw [zax hm]; exact hc
  obtain ⟨hl, h6, hr, hw⟩ := zbH hmd
  unfold zw at hc
  simp only [Bool.and_eq_true] at hc
  obtain ⟨i, hi, e⟩ := zdb hc.1
  have hkd := zk7 hc.1
  unfold zY at hm
  simp only [Bool.and_eq_true, decide_eq_true_eq] at hm
  obtain ⟨⟨⟨h12, hs⟩, ha⟩, _⟩ := hm
  have hrd : ∀ p, p < (shapeOf ss o.kd).fs.length -> ∀ q ∈ zh (shapeOf ss o.kd) ms p, q < (shapeOf ss o.kd).fs.length := by
    intro p hp q hq
    unfold zh at hq
    obtain ⟨x, hx, rfl⟩ := List.mem_map.1 hq
    have := hr p hp x hx
    omega
  have htw := zcz hrd hw
  have htg : zio (zh (shapeOf ss o.kd) ms) (shapeOf ss o.kd).fs.length (greedy (zh (shapeOf ss o.kd) ms) (shapeOf ss o.kd).fs.length (shapeOf ss o.kd).fs.length) :=
    (za2 _ _ _).zmF (zfC htw.zi9 _ (Nat.le_refl _))
  refine ⟨?_, htg, ?_, hkd, h6, hr, hl, h12, ?_⟩
  · rw [e]; exact zcp hs ha i hi _
  · rw [e]
    intro q hq
    refine zcr ss[i].fs _ q hq ?_ rfl
    unfold hasName
    rw [List.any_eq_false]
    intro x hx
    obtain ⟨j, hj, rfl⟩ := List.mem_iff_getElem.1 hx
    have hjq : j < q := by simp at hj; omega
    simp only [List.getElem_take, decide_eq_true_eq]
    exact zds hs i hi j q hjq hq
  · exact zkG htw htg (zhS _ _) o.vs hl
theorem zjx {α : Type} (D : Nat -> List α -> α) (pl : List Nat) (vs : List α) (k : Nat) (h : k < pl.length) : zK D (pl.take (k + 1)) vs = (zK D (pl.take k) vs).set pl[k] (D pl[k] (zK D (pl.take k) vs)) := by
  unfold zK; rw [List.take_succ_eq_append_getElem h, List.foldl_append]; rfl
end Gate
theorem znC {lo : Nat} {w : World} {g : Nat} {us : List ByteArray} (h : zn lo w (some ⟨g, 0, none⟩) us) (p : Nat) (hp : p < us.length) : w.cell? ⟨g, p, none⟩ = some (.string us[p]) := by
  rcases h with ⟨h0, _⟩ | ⟨g', C, hg, _, hh, hc⟩
  · cases h0
  · cases hg; rw [cell_of_block hh, hc p hp]
theorem znG {lo : Nat} {w : World} {g p : Nat} {us : List ByteArray} (h : zn lo w (some ⟨g, 0, none⟩) us) (_hp : p < us.length) : w.frozen? ⟨g, p, none⟩ = false := by
  rcases h with ⟨h0, _⟩ | ⟨g', C, hg, _, hh, hc⟩
  · cases h0
  · cases hg; exact zi hh
theorem znu {w : World} {lo : Nat} {v : Value} {row : List ByteArray} (h : w.ownsRow lo 9 1 v row.length (row.map Value.string)) : ∃ ra rcap, v = .slice ra row.length rcap /\ (row ≠ [] -> ∃ rb, ra = some ⟨rb, 0, none⟩ /\ lo <= rb /\ rb < w.heap.size /\ ∀ i (h : i < row.length), w.cell? ⟨rb, i, none⟩ = some (.string row[i])) := by
  obtain ⟨_, ⟨h0, h1⟩ | ⟨g, cp, cur, h0, h1⟩⟩ := id h
  · have e := List.length_eq_zero_iff.1 h1
    subst e
    exact ⟨none, 0, by rw [h0]; rfl, fun hn => absurd rfl hn⟩
  · subst h0
    refine ⟨some ⟨g, 0, none⟩, cp, rfl, fun _ => ⟨g, rfl, (h.lt g rfl).1, (h.lt g rfl).2, fun i hi => ?_⟩⟩
    rw [h.cellAt i (by omega)]
    simp [hi]
theorem zhp (s : Shp) (ms : List Mnd) (o : Ob) (vs : List ByteArray) (n : Nat) (hn : vs.length = n) (p : Nat) (fa ma va ha : Option Addr) (fcap mcap vcap hcap : Nat) (w : World) (hf : zW w fa s.fs) (hm : y5 w ma ms) (hv : zB w va vs) (hc : vs.length = s.fs.length) (hp : p < s.fs.length) (hix : Gate.zQ s.fs s.fs[p].nm = (p : Int)) (hkd : o.kd = s.kd) (hrd : ∀ x ∈ Gate.zZ s ms p, 0 <= x /\ x < s.fs.length) :
    Calls Tryz.prog 143 #[.slice fa s.fs.length fcap, .slice ma ms.length mcap, .agg #[.string o.kd, .string o.nm, .string o.tm, .slice va n vcap, .bool o.en, .slice ha o.hs.length hcap, .int .i64 o.vr], .string s.fs[p].nm] w fun e w' => e = .returned (.string (Gate.decided s ms p vs)) /\ Below w.heap.size w w' := by
  subst hn
  exact zhZ s ms o vs p fa ma va ha fcap mcap vcap hcap w hf hm hv hc hp hix hkd hrd
set_option maxRecDepth 20000 in
set_option maxHeartbeats 8000000 in
theorem zjE (a0 ma : Option Addr) (cap0 mcap : Nat) (ss : List Shp) (ms : List Mnd) (o : Ob) (b off b' off' cap cap' : Nat) (w : World) (hw : yB w a0 ss) (hm : y5 w ma ms) (ho : qQ w o (some ⟨b, off, none⟩) (some ⟨b', off', none⟩)) (hl : o.vs.length <= 1048576) (hl' : o.hs.length <= 1048576) (hok : Gate.zY ss ms = true) :
    Calls Tryz.prog 94 #[.slice a0 ss.length cap0, .slice ma ms.length mcap, .agg (oC o (some ⟨b, off, none⟩) (some ⟨b', off', none⟩) cap cap')] w (zet o (Gate.zbj ss ms o) w) := by
  have hsl := hw.len
  unfold maxLen at hsl
  have HW := jO hw hm
  clear hw hm
  by_cases hc : Gate.zw ss o = true
  rotate_left
  · have HC : Hid (Gate.zw ss o = false) := by simpa [Hid] using hc
    have HRES : Hid (Gate.zbj ss ms o = o.vs) := by unfold Hid Gate.zbj; rw [if_neg (by rw [Gate.zax hok]; exact hc)]
    have HH := hid ho
    clear hc ho
    go_enter Tryz.func94, Tryz.ntmps94
    go_wp2_with fail
    refine (zg4 o b off b' off' cap cap' _ (HH.out.mono (zq w (.cells (oC o (some ⟨b, off, none⟩) (some ⟨b', off', none⟩) cap cap') 104) (.cells oZ 104))) hl hl').mono ?_
    rintro e w1 ⟨a, dap, a', dap', m, rfl, ht, hm, hsm, ht', hb1⟩
    have HO1 : Hid (w1.heap[w.heap.size]? = some (.cells (oC o (some ⟨b, off, none⟩) (some ⟨b', off', none⟩) cap cap') 104)) := (hb1.block w.heap.size (by simp; omega)).trans (zP _ _ _).1
    have HR1 : Hid (w1.heap[w.heap.size + 1]? = some (.cells oZ 104)) := (hb1.block (w.heap.size + 1) (by simp)).trans (zP _ _ _).2
    have hX1 : ∀ j, w1.cell? ⟨w.heap.size, j, none⟩ = (oC o (some ⟨b, off, none⟩) (some ⟨b', off', none⟩) cap cap')[j]? := fun j => cell_of_block HO1.out
    have hz1 : w.heap.size + 1 < w1.heap.size := by have := hb1.size; simp at this; omega
    have hz0 : w.heap.size < w1.heap.size := by omega
    have hB1 : Below w.heap.size w w1 := (zq _ _ _).trans (hb1.mono (by simp; omega))
    have HT : Hid (zn (w.heap.size + 1 + 1) w1 a o.vs /\ (∀ g, a = some g -> g.block < m) /\ w.heap.size + 1 + 1 <= m /\ zn m w1 a' o.hs) := by
      simp only [World.size_alloc] at ht hsm
      exact ⟨ht, hm, hsm, ht'⟩
    clear ht hm hsm ht' hb1
    go_wp2_with fail
    have hbs := (Below.refl w1.heap.size w1).alloc (Nat.le_refl _) (.cells (oC o a a' dap dap') 104)
    have hBs := hB1.trans (hbs.mono hB1.size)
    refine (zbS a0 cap0 ss o _ _ cap cap' _ (HW.out.1.mono hBs) (HH.out.mono hBs) HC.out).mono ?_
    rintro e w2 ⟨v, rfl, hb2⟩
    have hba := hbs.trans (hb2.mono hbs.size)
    have hR2 := (hba.block _ hz1).trans HR1.out
    have hU2 : ∀ j, w2.cell? ⟨w1.heap.size, j, none⟩ = (oC o a a' dap dap')[j]? := za (zH w1 _ _) (by simp) hb2
    have hRc : ∀ j, w2.cell? ⟨w.heap.size + 1, j, none⟩ = oZ[j]? := fun j => cell_of_block hR2
    have hRf : ∀ j, w2.frozen? ⟨w.heap.size + 1, j, none⟩ = false := fun j => zi hR2
    have HX := zee (HT.out.1.mono hba) (HT.out.2.2.2.mono hba) (hB1.trans (hba.mono hB1.size))
    clear hbs hBs hb2 hba hR2 hX1
    go_wp2_with fail
    refine bodyPost_ret (v := (.agg (oC o a a' dap dap'))) (by simp [results, Tryz.results94, go_sem, hRc]) rfl ?_
    obtain ⟨ht, ht', hB⟩ := HX.out
    rw [HRES.out]
    exact ⟨a, dap, a', dap', m, rfl, (qK ht _ (by omega) _ _ _ _ _ _ _).low (by omega), HT.out.2.1, by have := HT.out.2.2.1; omega, qK ht' _ (by have := HT.out.2.2.1; omega) _ _ _ _ _ _ _, jU hB _ (by omega) _ _ _ _ _ _ _⟩
  have HC := hid hc
  have HRO := hid (Gate.rowOf hok hc)
  have HRES : Hid (Gate.zbj ss ms o = Gate.zfl ss ms o) := by unfold Hid Gate.zbj; rw [if_pos (by rw [Gate.zax hok]; exact hc)]
  have HK : Hid (Gate.zC ss o.kd = true) := by unfold Gate.zw at hc; simp only [Bool.and_eq_true] at hc; exact hc.1
  have HH := hid ho
  clear hc ho
  go_enter Tryz.func94, Tryz.ntmps94
  go_wp2_with fail
  refine (zg4 o b off b' off' cap cap' _ (HH.out.mono (zq w (.cells (oC o (some ⟨b, off, none⟩) (some ⟨b', off', none⟩) cap cap') 104) (.cells oZ 104))) hl hl').mono ?_
  rintro e w1 ⟨a, dap, a', dap', m, rfl, ht, hm, hsm, ht', hb1⟩
  have HO1 : Hid (w1.heap[w.heap.size]? = some (.cells (oC o (some ⟨b, off, none⟩) (some ⟨b', off', none⟩) cap cap') 104)) := (hb1.block w.heap.size (by simp; omega)).trans (zP _ _ _).1
  have HR1 : Hid (w1.heap[w.heap.size + 1]? = some (.cells oZ 104)) := (hb1.block (w.heap.size + 1) (by simp)).trans (zP _ _ _).2
  have hX1 : ∀ j, w1.cell? ⟨w.heap.size, j, none⟩ = (oC o (some ⟨b, off, none⟩) (some ⟨b', off', none⟩) cap cap')[j]? := fun j => cell_of_block HO1.out
  have hz1 : w.heap.size + 1 < w1.heap.size := by have := hb1.size; simp at this; omega
  have hz0 : w.heap.size < w1.heap.size := by omega
  have hB1 : Below w.heap.size w w1 := (zq _ _ _).trans (hb1.mono (by simp; omega))
  have HT : Hid (zn (w.heap.size + 1 + 1) w1 a o.vs /\ (∀ g, a = some g -> g.block < m) /\ w.heap.size + 1 + 1 <= m /\ zn m w1 a' o.hs) := by
    simp only [World.size_alloc] at ht hsm
    exact ⟨ht, hm, hsm, ht'⟩
  clear ht hm hsm ht' hb1
  go_wp2_with fail
  have hbs := (Below.refl w1.heap.size w1).alloc (Nat.le_refl _) (.cells (oC o a a' dap dap') 104)
  have hBs := hB1.trans (hbs.mono hB1.size)
  refine (zdH a0 cap0 ss o _ _ cap cap' w _ HW.out.1 hBs HC.out).mono ?_
  rintro e w2 ⟨fa, fcap, rfl, hf, hb2⟩
  have HFA := hid hf
  have hba := hbs.trans (hb2.mono hbs.size)
  have HR2 := hid ((hba.block _ hz1).trans HR1.out)
  have HO2 := hid ((hba.block _ hz0).trans HO1.out)
  have HU2 : Hid (w2.heap[w1.heap.size]? = some (.cells (oC o a a' dap dap') 104)) := (hb2.block _ (by simp)).trans (alloc_at _ _)
  have HX2 := zee (HT.out.1.mono hba) (HT.out.2.2.2.mono hba) (hB1.trans (hba.mono hB1.size))
  have hz2 := (Array.getElem?_eq_some_iff.1 HU2.out).1
  have hX2 : ∀ j, w2.cell? ⟨w.heap.size, j, none⟩ = (oC o (some ⟨b, off, none⟩) (some ⟨b', off', none⟩) cap cap')[j]? := fun j => cell_of_block HO2.out
  have hzo2 : w.heap.size < w2.heap.size := by omega
  clear hbs hBs hb2 hba hX1 hf
  go_wp2_with fail
  refine (zav _ _ _ _ _ (HW.out.1.mono HX2.out.2.2) HK.out).mono ?_
  rintro e w3 ⟨ix, hix, rfl, hsh, rfl⟩
  have HSh := hid hsh
  clear hsh
  obtain ⟨sb, soff, rfl, hsb0, hsr⟩ := HW.out.1.rows (by rintro rfl; simp at hix)
  obtain ⟨fa2, fcap2, hs0⟩ := hsr ix hix
  have hs := hs0.mono hsb0 HX2.out.2.2
  have hck := hs.kind
  have hcl := hs.list
  have HF2 := hid hs0.flds
  have hixI : (ix : Int) < (ss.length : Int) := by omega
  have hsbw := Nat.lt_of_lt_of_le hsb0 HX2.out.2.2.size
  clear hsr hs hs0
  go_wp2_with fail
  refine (ziQ fa2 ma fcap2 mcap ss[ix] ms _ (HF2.out.mono HX2.out.2.2) (HW.out.2.mono HX2.out.2.2) HRO.out.mends (by have := HRO.out.few; rw [HSh.out] at this; exact this)).mono ?_
  rintro e w4 ⟨v, rfl, hrow, hb4⟩
  rw [<- HSh.out, HRO.out.names] at hrow
  obtain ⟨ra, rcap, rfl, hrw⟩ := znu (by rw [List.length_map]; rw [List.length_map] at hrow; exact hrow)
  rw [List.length_map]
  have HRO2 := HRO.out
  have HX4 : Hid (zn (w.heap.size + 1 + 1) w4 a o.vs /\ zn m w4 a' o.hs /\ Below w.heap.size w w4) := ⟨HX2.out.1.mono hb4, HX2.out.2.1.mono hb4, HX2.out.2.2.trans (hb4.mono HX2.out.2.2.size)⟩
  have HR4 : Hid (w4.heap[w.heap.size + 1]? = some (.cells oZ 104)) := (hb4.block _ (by omega)).trans HR2.out
  have HU4 : Hid (w4.heap[w1.heap.size]? = some (.cells (oC o a a' dap dap') 104)) := (hb4.block _ hz2).trans HU2.out
  have HZ4 : Hid (w3.heap.size <= w4.heap.size) := hb4.size
  clear hb4 hX2 hck hcl HSh HF2 HRO hixI hrow
  revert HRO2 HFA hrw
  generalize Gate.greedy (Gate.zh (Gate.shapeOf ss o.kd) ms) (Gate.shapeOf ss o.kd).fs.length (Gate.shapeOf ss o.kd).fs.length = pl
  intro HFA hrw hro
  have HRW : Hid (Gate.znZ ss ms o pl) := hro
  have HVS : Hid (Gate.zfl ss ms o = Gate.zK (Gate.decided (Gate.shapeOf ss o.kd) ms) pl o.vs) := hro.res
  have hpl6 : pl.length <= 6 := by
    have h1 := Gate.zaK pl (List.range (Gate.shapeOf ss o.kd).fs.length) hro.zmF.nodup (fun x hx => List.mem_range.2 ((hro.zmF.mem x).1 hx))
    rw [List.length_range] at h1
    have := hro.few
    omega
  clear hro
  go_wp2_with fail
  go_loopw [11] (fun i wr => ∃ k : Nat, k <= pl.length /\ i = .int .i64 k /\ zn (w.heap.size + 1 + 1) wr a (Gate.zK (Gate.decided (Gate.shapeOf ss o.kd) ms) (pl.take k) o.vs) /\ zn m wr a' o.hs /\ wr.heap[w.heap.size + 1]? = some (.cells oZ 104) /\ wr.heap[w1.heap.size]? = some (.cells (oC o a a' dap dap') 104) /\ Below w.heap.size w wr /\ w3.heap.size <= wr.heap.size /\ (pl.map (Gate.zab (Gate.shapeOf ss o.kd)) ≠ [] -> ∃ rb, ra = some ⟨rb, 0, none⟩ /\ w3.heap.size <= rb /\ rb < wr.heap.size /\ ∀ i (h : i < (pl.map (Gate.zab (Gate.shapeOf ss o.kd))).length), wr.cell? ⟨rb, i, none⟩ = some (.string (pl.map (Gate.zab (Gate.shapeOf ss o.kd)))[i]))) (fun i _ => pl.length - (intOf i).toNat)
  case atStart => exact ⟨0, Nat.zero_le _, rfl, HX4.out.1, HX4.out.2.1, HR4.out, HU4.out, HX4.out.2.2, HZ4.out, hrw⟩
  case round =>
    obtain ⟨k, hk, rfl, ht, ht', hR, hO, hB, hz3, hrr⟩ := hrel
    by_cases hlt : k < pl.length
    · obtain ⟨rb, rfl, hrb0, hrbz, hrc⟩ := hrr (by intro h; have := congrArg List.length h; simp at this; rw [this] at hlt; simp at hlt)
      have hpn : pl[k] < (Gate.shapeOf ss o.kd).fs.length := (HRW.out.zmF.mem _).1 (List.getElem_mem hlt)
      have hck := hrc k (by rw [List.length_map]; exact hlt)
      rw [List.getElem_map] at hck
      have hnm : Gate.zab (Gate.shapeOf ss o.kd) pl[k] = (Gate.shapeOf ss o.kd).fs[pl[k]].nm := by unfold Gate.zab; rw [Gate.getD_at _ _ _ hpn]
      rw [hnm] at hck
      have HTS : Hid (Gate.zK (Gate.decided (Gate.shapeOf ss o.kd) ms) (pl.take (k + 1)) o.vs = (Gate.zK (Gate.decided (Gate.shapeOf ss o.kd) ms) (pl.take k) o.vs).set pl[k] (Gate.decided (Gate.shapeOf ss o.kd) ms pl[k] (Gate.zK (Gate.decided (Gate.shapeOf ss o.kd) ms) (pl.take k) o.vs))) := Gate.zjx _ pl o.vs k hlt
      have HUS : Hid (∀ x ∈ Gate.zK (Gate.decided (Gate.shapeOf ss o.kd) ms) (pl.take k) o.vs, x.size <= maxLen) := Gate.zaX HW.out.2.small _ _ HH.out.vals.small
      have HLV : Hid ((Gate.zK (Gate.decided (Gate.shapeOf ss o.kd) ms) (pl.take k) o.vs).length = o.vs.length) := Gate.qL _ _ _
      have HRR : Hid (∀ i (h : i < (pl.map (Gate.zab (Gate.shapeOf ss o.kd))).length), wr.cell? ⟨rb, i, none⟩ = some (.string (pl.map (Gate.zab (Gate.shapeOf ss o.kd)))[i])) := hrc
      clear hrr hrc hnm
      revert hck HTS hpn
      generalize pl[k] = p
      intro hpn hck HTS
      revert HTS HLV HUS ht
      generalize Gate.zK (Gate.decided (Gate.shapeOf ss o.kd) ms) (pl.take k) o.vs = us
      intro ht HUS HLV HTS
      have hltI : (k : Int) < (pl.length : Int) := by omega
      have hpv : p < us.length := by rw [HLV.out, HRW.out.len]; exact hpn
      have hpI : (p : Int) < (o.vs.length : Int) := by have := HRW.out.len; omega
      obtain ⟨g, C, hga, hgl, hgh, hgc⟩ : ∃ g C, a = some ⟨g, 0, none⟩ /\ w.heap.size + 1 + 1 <= g /\ wr.heap[g]? = some (.cells C 9) /\ ∀ i (h : i < us.length), C[i]? = some (.string us[i]) := by
        rcases ht with ⟨_, h0⟩ | h0
        · rw [h0] at hpv; simp at hpv
        · exact h0
      have hgm : g < m := HT.out.2.1 _ hga
      have hgw1 : g < w1.heap.size := HT.out.1.lt _ hga
      have hgw : g < wr.heap.size := by omega
      subst hga
      have hUS : zB wr (some ⟨g, 0, none⟩) us := ht.at (by rw [HLV.out]; exact HH.out.vals.len) HUS.out
      have HJP : Hid (Gate.zQ (Gate.shapeOf ss o.kd).fs (Gate.shapeOf ss o.kd).fs[p].nm = (p : Int)) := HRW.out.place p hpn
      have hOc : ∀ j, wr.cell? ⟨w1.heap.size, j, none⟩ = (oC o (some ⟨g, 0, none⟩) a' dap dap')[j]? := fun j => cell_of_block hO
      have hOz : w1.heap.size < wr.heap.size := (Array.getElem?_eq_some_iff.1 hO).1
      have hRk : (k : Int) < ((pl.map (Gate.zab (Gate.shapeOf ss o.kd))).length : Int) := by rw [List.length_map]; exact hltI
      have hkr : wr.cell? ⟨rb, 0 + k, none⟩ = some (.string (Gate.shapeOf ss o.kd).fs[p].nm) := by rw [Nat.zero_add]; exact hck
      have HX : Hid (zn (w.heap.size + 1 + 1) wr (some ⟨g, 0, none⟩) us /\ zn m wr a' o.hs /\ wr.heap[w.heap.size + 1]? = some (.cells oZ 104) /\ wr.heap[w1.heap.size]? = some (.cells (oC o (some ⟨g, 0, none⟩) a' dap dap') 104) /\ Below w.heap.size w wr /\ w3.heap.size <= wr.heap.size) := ⟨ht, ht', hR, hO, hB, hz3⟩
      clear ht ht' hR hO hB hz3 hgh hgc
      go_wp2_with fail
      have hb := (Below.refl wr.heap.size wr).drew
      have hS1 : ∀ j, wr.drew.cell? ⟨w1.heap.size, j, none⟩ = (oC o (some ⟨g, 0, none⟩) a' dap dap')[j]? := hOc
      have hS2 : wr.drew.cell? ⟨rb, k, none⟩ = some (.string (Gate.shapeOf ss o.kd).fs[p].nm) := hck
      have hrg : rb ≠ g := by omega
      have how : w1.heap.size ≠ g := by omega
      clear hOc hck hkr
      go_region_held3 (fun w' => (∀ j, w'.cell? ⟨w1.heap.size, j, none⟩ = (oC o (some ⟨g, 0, none⟩) a' dap dap')[j]?) /\ w'.cell? ⟨rb, k, none⟩ = some (.string (Gate.shapeOf ss o.kd).fs[p].nm)) (first | exact ⟨hS1, hS2⟩ | exact ⟨hS3, hS4⟩) (first
        | (go_at_call 138; refine (zjG HJP.out (jT _ _ (Gate.shapeOf ss o.kd).fs _ _ (by exact HFA.out.mono (HX.out.2.2.2.2.1.trans (hb.mono HX.out.2.2.2.2.1.size))))).mono ?_; rintro e w5 ⟨rfl, rfl⟩)
        | (go_at_call 143; refine (zhp (Gate.shapeOf ss o.kd) ms o us _ HLV.out p _ _ _ _ _ _ _ _ _ (by exact HFA.out.mono (HX.out.2.2.2.2.1.trans (hb.mono HX.out.2.2.2.2.1.size))) (by exact HW.out.2.mono (HX.out.2.2.2.2.1.trans (hb.mono HX.out.2.2.2.2.1.size))) (by exact hUS.mono hb) (by rw [HLV.out]; exact HRW.out.len) hpn HJP.out HRW.out.kd.symm (HRW.out.reads p hpn)).mono ?_; rintro e w6 ⟨rfl, hb6⟩; have hb := hb.trans (hb6.mono hb.size); have hS1 := za hS1 hOz hb6; have hS2 := (hb6.cell (p := ⟨rb, k, none⟩) hrbz).trans hS2; have hU6 := hUS.mono hb; have hG := HX.out.1.mono hb; clear hb6; have hS3 : ∀ j, (w6.setCell ⟨g, p, none⟩ (.string (Gate.decided (Gate.shapeOf ss o.kd) ms p us))).cell? ⟨w1.heap.size, j, none⟩ = (oC o (some ⟨g, 0, none⟩) a' dap dap')[j]? := fun j => (zR how).trans (hS1 j); have hS4 : (w6.setCell ⟨g, p, none⟩ (.string (Gate.decided (Gate.shapeOf ss o.kd) ms p us))).cell? ⟨rb, k, none⟩ = some (.string (Gate.shapeOf ss o.kd).fs[p].nm) := (zR hrg).trans hS2; have hgc6 : w6.cell? ⟨g, p, none⟩ = some (.string us[p]) := znC hG p hpv; have hgf6 : w6.frozen? ⟨g, p, none⟩ = false := znG hG hpv))
      go_wp2_with fail
      obtain ⟨ht, ht', hR, hO, hB, hz3⟩ := HX.out
      exact ⟨⟨k + 1, by omega, by go_num, by rw [HTS.out]; exact (ht.mono hb).set p _, (ht'.mono hb).setCell _ hgm _, (Below.heap_setCell _ _ _ _ (by show w.heap.size + 1 ≠ g; omega)).trans ((hb.block _ (by omega)).trans hR), (Below.heap_setCell _ _ _ _ (by show w1.heap.size ≠ g; omega)).trans ((hb.block _ hOz).trans hO), (hB.trans (hb.mono hB.size)).setCell (p := ⟨g, p, none⟩) (by show w.heap.size <= g; omega) _, by rw [World.size_setCell]; exact Nat.le_trans hz3 hb.size, fun _ => ⟨rb, rfl, hrb0, by rw [World.size_setCell]; exact Nat.lt_of_lt_of_le hrbz hb.size, fun i hi => (zR hrg).trans ((hb.cell (p := ⟨rb, i, none⟩) hrbz).trans (HRR.out i hi))⟩⟩, zm hlt⟩
    · have e : k = pl.length := by omega
      subst e
      rw [List.take_of_length_le (Nat.le_refl _), <- HVS.out] at ht
      have hRc : ∀ j, wr.cell? ⟨w.heap.size + 1, j, none⟩ = oZ[j]? := fun j => cell_of_block hR
      have hRf : ∀ j, wr.frozen? ⟨w.heap.size + 1, j, none⟩ = false := fun j => zi hR
      have hOc : ∀ j, wr.cell? ⟨w1.heap.size, j, none⟩ = (oC o a a' dap dap')[j]? := fun j => cell_of_block hO
      have hOz := (Array.getElem?_eq_some_iff.1 hO).1
      have HX := zee ht ht' hB
      clear ht ht' hB hR hO hrr
      go_wp2_with fail
      refine bodyPost_ret (v := (.agg (oC o a a' dap dap'))) (by simp [results, Tryz.results94, go_sem, hRc]) rfl ?_
      obtain ⟨ht, ht', hB⟩ := HX.out
      rw [HRES.out]
      exact ⟨a, dap, a', dap', m, rfl, (qK ht _ (by omega) _ _ _ _ _ _ _).low (by omega), HT.out.2.1, by have := HT.out.2.2.1; omega, qK ht' _ (by have := HT.out.2.2.1; omega) _ _ _ _ _ _ _, jU hB _ (by omega) _ _ _ _ _ _ _⟩
end Go.Proofs.YtkfigdbbncjojaaGreat

namespace Go.Proofs.YtkfigdbbncjojaaGreat
open Go.RowKit
namespace Gate
def zaD (l : Lw) (o : Ob) : Bool := decide ((yg l.ss o).1 = 0) && decide (za6 l o = o.vs)
theorem zaN {l : Lw} {o : Ob} (hok : zY l.ss l.ms = true) (h : (yg l.ss o).1 = 0) : y8 l.ss l.ms o = true := by
  have hw : whole l.ss o = true := by
    cases hc : whole l.ss o with
    | true => rfl
    | false => unfold yg at h; rw [if_neg (by rw [hc]; simp)] at h; simp at h
  unfold whole zw at hw
  unfold y8
  simp only [Bool.and_eq_true] at hw ⊢
  exact ⟨hw.2.1, hw.2.2, hok⟩
end Gate
theorem zeq {l : Lw} {o : Ob} (hm : Gate.y8 l.ss l.ms o = true) (hs : zcf l.ss) (hms : ∀ i (h : i < l.ms.length), l.ms[i].Small) (ho : ∀ s ∈ o.vs, s.size <= maxLen) : ∀ s ∈ Gate.za6 l o, s.size <= maxLen := by
  have hf := Gate.zbH hm
  have hk : Gate.zC l.ss o.kd = true := by unfold Gate.y8 at hm; simp only [Bool.and_eq_true] at hm; exact hm.1
  obtain ⟨i, hi, e⟩ := Gate.zdb hk
  have h1 : zaS (Gate.shapeOf l.ss o.kd).fs := by rw [e]; exact (hs.small i hi).2.2
  exact Gate.zaX hms _ _ (zeC h1 ho hf.1)
theorem zfE {l : Lw} {o : Ob} {w : World} {a : Option Addr} {lo : Nat} (h : zn lo w a (Gate.za6 l o)) (hm : Gate.y8 l.ss l.ms o = true) (hl : o.vs.length <= maxLen) (hs : ∀ s ∈ Gate.za6 l o, s.size <= maxLen) : zB w a (Gate.za6 l o) := h.at (by rw [zck hm]; exact hl) hs
theorem zhF (a c : Option Addr) (ca cc : Nat) (xs ys : List ByteArray) (w : World) (hx : zB w a xs) (hy : zB w c ys) (hl : xs.length <= 1048576) (hl' : ys.length <= 1048576) (hn : xs.length = ys.length) :
    Calls Tryz.prog 166 #[.slice a ys.length ca, .slice c ys.length cc] w fun e w' => e = .returned (.bool (decide (xs = ys))) /\ Below w.heap.size w w' := by
  have h := zfS a c ca cc xs ys w hx hy hl hl'
  rw [hn] at h
  exact h
set_option maxRecDepth 20000 in
set_option maxHeartbeats 4000000 in
theorem zjD (l : Lw) (a b c : Option Addr) (ca cb cc : Nat) (o : Ob) (va ha : Option Addr) (cap cap' : Nat) (w : World) (hL : qO w l a b c) (hml : l.ms.length <= 1048576) (ho : qQ w o va ha) (hl : o.vs.length <= 1048576) (hl' : o.hs.length <= 1048576) (hok : Gate.zY l.ss l.ms = true) :
    Calls Tryz.prog 117 #[.agg (lC l a b c ca cb cc), .agg (oC o va ha cap cap')] w fun e w' => e = .returned (.bool (Gate.zaD l o)) /\ Below w.heap.size w w' := by
  have hfd : ∀ (s0 s1 s2 : ByteArray) (x y : Option Addr) (n m p q : Nat) (t : Bool) (v : Int) (wf : World), (Instr.field 104 (.agg #[.string s0, .string s1, .string s2, .slice x n p, .bool t, .slice y m q, .int .i64 v]) 3).run Tryz.prog wf = .ok (.slice x n p) wf := fun s0 s1 s2 x y n m p q t v wf => by kernel_rfl
  have HH := jO hL ho
  clear hL ho
  obtain ⟨r, hr⟩ : ∃ r, r = Gate.zaD l o := ⟨_, rfl⟩
  rw [<- hr]
  have HR : Hid (r = Gate.zaD l o) := hr
  clear hr
  go_enter Tryz.func117, Tryz.ntmps117
  go_wp2_with fail
  have hb2 := zq w (.cells (lC l a b c ca cb cc) 40) (.cells (oC o va ha cap cap') 104)
  refine (zgq _ _ l.ss o _ _ _ _ _ (HH.out.1.ss.mono hb2) (HH.out.2.mono hb2)).mono ?_
  rintro e w1 ⟨rfl, hb1⟩
  have hX0 : ∀ j, w1.cell? ⟨w.heap.size, j, none⟩ = (lC l a b c ca cb cc)[j]? := fun j => cell_of_block ((hb1.block w.heap.size (by simp; omega)).trans (zP _ _ _).1)
  have hX1 : ∀ j, w1.cell? ⟨w.heap.size + 1, j, none⟩ = (oC o va ha cap cap')[j]? := fun j => cell_of_block ((hb1.block (w.heap.size + 1) (by simp)).trans (zP _ _ _).2)
  have hz1 : w.heap.size + 1 < w1.heap.size := by have := hb1.size; simp at this; omega
  have hz0 : w.heap.size < w1.heap.size := by omega
  have hB1 : Below w.heap.size w w1 := hb2.trans (hb1.mono (by simp; omega))
  clear hb1 hb2
  by_cases hc : (Gate.yg l.ss o).1 = 0
  rotate_left
  · have HF : Hid (r = false) := by unfold Hid; rw [HR.out]; unfold Gate.zaD; rw [decide_eq_false hc]; rfl
    have hv : zd3 l.ss o = .iface 254 (.agg #[.int .i64 (Gate.yg l.ss o).1, .int .i64 (Gate.yg l.ss o).2]) := zjA hc
    rw [hv]
    clear hc hv
    go_wp2_with fail
    go_ret
    exact ⟨ze HF.out.symm, hB1⟩
  have HMD := hid (Gate.zaN hok hc)
  have HS := hid (zeq HMD.out HH.out.1.ss.smalls HH.out.1.ms.small HH.out.2.vals.small)
  have HF : Hid (decide (Gate.za6 l o = o.vs) = r) := by unfold Hid; rw [HR.out]; unfold Gate.zaD; rw [decide_eq_true hc]; rfl
  have hv : zd3 l.ss o = .nilIface := by unfold zd3; rw [hc]; rfl
  rw [hv]
  have HLN := hid (zck HMD.out)
  clear hc hv
  go_wp2_with fail
  have hS0 := za hX0 hz0 (Below.refl w1.heap.size w1).drew
  have hS1 := za hX1 hz1 (Below.refl w1.heap.size w1).drew
  have hb := (Below.refl w1.heap.size w1).drew
  have hzl := hz0
  have hzo := hz1
  clear hX0 hX1
  go_region_held3 (fun w' => (∀ j, w'.cell? ⟨w.heap.size, j, none⟩ = (lC l a b c ca cb cc)[j]?) /\ (∀ j, w'.cell? ⟨w.heap.size + 1, j, none⟩ = (oC o va ha cap cap')[j]?)) (exact ⟨fun j => by rw [hS0], fun j => by rw [hS1]⟩) (first
    | (go_at_call 167; refine (zim l a b c ca cb cc o va ha cap cap' _ (by exact HH.out.1.mono (hB1.trans (hb.mono hB1.size))) hml (by exact HH.out.2.mono (hB1.trans (hb.mono hB1.size))) hl hl' HMD.out).mono ?_; rintro e w5 ⟨e0, dap, e1, dap', rfl, ht5, hb5⟩; have hS0 := za hS0 hzl hb5; have hS1 := za hS1 hzo hb5; have hb := hb.trans (hb5.mono hb.size); have hO5 : zB w5 e0 (Gate.za6 l o) := zfE ht5 HMD.out HH.out.2.vals.len HS.out; clear ht5 hb5)
    | (go_at_call 166; refine (zhF _ va _ cap (Gate.za6 l o) o.vs _ (by exact hO5) (by exact HH.out.2.vals.mono (hB1.trans (hb.mono hB1.size))) (by rw [HLN.out]; exact hl) hl HLN.out).mono ?_; rintro e w6 ⟨rfl, hb6⟩; rw [HF.out]; have hS0 := fun j => (hb6.cell (p := ⟨w.heap.size, j, none⟩) (Nat.lt_of_lt_of_le hzl hb.size)).trans (hS0 j); have hS1 := fun j => (hb6.cell (p := ⟨w.heap.size + 1, j, none⟩) (Nat.lt_of_lt_of_le hzo hb.size)).trans (hS1 j); have hb := hb.trans (hb6.mono hb.size); clear hb6))
  go_wp2_with fail
  go_ret
  exact ⟨rfl, hB1.trans (hb.mono hB1.size)⟩
end Go.Proofs.YtkfigdbbncjojaaGreat

namespace Go.Proofs.YtkfigdbbncjojaaGreat
open Go.RowKit
def zmx (o : Ob) (vs : List ByteArray) (w : World) (e : Ending) (w' : World) : Prop :=
  ∃ a dap a' dap' m, e = .returned (.agg (oC o a a' dap dap')) /\ zn w.heap.size w' a vs /\ (∀ g, a = some g -> g.block < m) /\ w.heap.size <= m /\ zn m w' a' o.hs /\ Below w.heap.size w w' /\ (∃ g, a = some ⟨g, 0, none⟩) /\ ∃ g, a' = some ⟨g, 0, none⟩
theorem zfG (o : Ob) (b off b' off' cap cap' : Nat) (w : World) (ho : qQ w o (some ⟨b, off, none⟩) (some ⟨b', off', none⟩)) (hl : o.vs.length <= 1048576) (hl' : o.hs.length <= 1048576) :
    Calls Tryz.prog 142 #[.agg (oC o (some ⟨b, off, none⟩) (some ⟨b', off', none⟩) cap cap')] w
      fun e w' => ∃ a dap a' dap' m, e = .returned (.agg (oC o a a' dap dap')) /\ zn w.heap.size w' a o.vs /\ (∀ g, a = some g -> g.block < m) /\ w.heap.size <= m /\ zn m w' a' o.hs /\ Below w.heap.size w w' /\ (∃ g, a = some ⟨g, 0, none⟩) /\ ∃ g, a' = some ⟨g, 0, none⟩ :=
  zgO o _ _ cap cap' w ho hl hl'
set_option maxHeartbeats 4000000 in
theorem zjX (a0 : Option Addr) (cap0 : Nat) (ss : List Shp) (o : Ob) (b off b' off' cap cap' : Nat) (w : World) (hw : yB w a0 ss) (ho : qQ w o (some ⟨b, off, none⟩) (some ⟨b', off', none⟩)) (hl : o.vs.length <= 1048576) (hl' : o.hs.length <= 1048576) :
    Calls Tryz.prog 95 #[.slice a0 ss.length cap0, .agg (oC o (some ⟨b, off, none⟩) (some ⟨b', off', none⟩) cap cap')] w (zmx o (Gate.yK ss o) w) := by
  by_cases hc : Gate.zw ss o = true
  rotate_left
  · have HC : Hid (Gate.zw ss o = false) := by simpa [Hid] using hc
    have HRES : Hid (Gate.yK ss o = o.vs) := by unfold Hid Gate.yK; rw [if_neg hc]
    clear hc
    have HH : Hid (qQ w o (some ⟨b, off, none⟩) (some ⟨b', off', none⟩)) := ho
    clear ho
    go_enter Tryz.func95, Tryz.ntmps95
    go_wp2_with fail
    refine (zfG o b off b' off' cap cap' _ (HH.out.mono (zq w (.cells (oC o (some ⟨b, off, none⟩) (some ⟨b', off', none⟩) cap cap') 104) (.cells oZ 104))) hl hl').mono ?_
    rintro e w1 ⟨a, dap, a', dap', m, rfl, ht, hm, hsm, ht', hb1, hsA, hsA'⟩
    have HO1 : Hid (w1.heap[w.heap.size]? = some (.cells (oC o (some ⟨b, off, none⟩) (some ⟨b', off', none⟩) cap cap') 104)) := (hb1.block w.heap.size (by simp; omega)).trans (zP _ _ _).1
    have HR1 : Hid (w1.heap[w.heap.size + 1]? = some (.cells oZ 104)) := (hb1.block (w.heap.size + 1) (by simp)).trans (zP _ _ _).2
    have hX1 : ∀ j, w1.cell? ⟨w.heap.size, j, none⟩ = (oC o (some ⟨b, off, none⟩) (some ⟨b', off', none⟩) cap cap')[j]? := fun j => cell_of_block HO1.out
    have hz1 : w.heap.size + 1 < w1.heap.size := by have := hb1.size; simp at this; omega
    have hz0 : w.heap.size < w1.heap.size := by omega
    have hB1 : Below w.heap.size w w1 := (zq _ _ _).trans (hb1.mono (by simp; omega))
    have HT : Hid (zn (w.heap.size + 1 + 1) w1 a o.vs /\ (∀ g, a = some g -> g.block < m) /\ w.heap.size + 1 + 1 <= m /\ zn m w1 a' o.hs) := by
      simp only [World.size_alloc] at ht hsm
      exact ⟨ht, hm, hsm, ht'⟩
    clear ht hm hsm ht' hb1
    go_wp2_with fail
    have hbs := (Below.refl w1.heap.size w1).alloc (Nat.le_refl _) (.cells (oC o a a' dap dap') 104)
    have hBs := hB1.trans (hbs.mono hB1.size)
    refine (zbS a0 cap0 ss o _ _ cap cap' _ (hw.mono hBs) (HH.out.mono hBs) HC.out).mono ?_
    rintro e w2 ⟨v, rfl, hb2⟩
    have hba := hbs.trans (hb2.mono hbs.size)
    have hR2 := (hba.block _ hz1).trans HR1.out
    have hU2 : ∀ j, w2.cell? ⟨w1.heap.size, j, none⟩ = (oC o a a' dap dap')[j]? := za (zH w1 _ _) (by simp) hb2
    have hRc : ∀ j, w2.cell? ⟨w.heap.size + 1, j, none⟩ = oZ[j]? := fun j => cell_of_block hR2
    have hRf : ∀ j, w2.frozen? ⟨w.heap.size + 1, j, none⟩ = false := fun j => zi hR2
    have HX : Hid (zn (w.heap.size + 1 + 1) w2 a o.vs /\ zn m w2 a' o.hs /\ Below w.heap.size w w2) := ⟨HT.out.1.mono hba, HT.out.2.2.2.mono hba, hB1.trans (hba.mono hB1.size)⟩
    clear hbs hBs hb2 hba hR2 hX1
    go_wp2_with fail
    refine bodyPost_ret (v := (.agg (oC o a a' dap dap'))) (by simp [results, Tryz.results95, go_sem, hRc]) rfl ?_
    obtain ⟨ht, ht', hB⟩ := HX.out
    rw [HRES.out]
    exact ⟨a, dap, a', dap', m, rfl, (qK ht _ (by omega) _ _ _ _ _ _ _).low (by omega), HT.out.2.1, by have := HT.out.2.2.1; omega, qK ht' _ (by have := HT.out.2.2.1; omega) _ _ _ _ _ _ _, jU hB _ (by omega) _ _ _ _ _ _ _, hsA, hsA'⟩
  have HC : Hid (Gate.zw ss o = true) := hc
  have HRES : Hid (Gate.yK ss o = Gate.jg (Gate.shapeOf ss o.kd).fs o.vs) := by unfold Hid Gate.yK; rw [if_pos hc]
  have HCC : Hid (o.vs.length = (Gate.shapeOf ss o.kd).fs.length) := by unfold Gate.zw at hc; simp only [Bool.and_eq_true, decide_eq_true_eq] at hc; exact hc.2
  clear hc
  have HH : Hid (qQ w o (some ⟨b, off, none⟩) (some ⟨b', off', none⟩)) := ho
  clear ho
  go_enter Tryz.func95, Tryz.ntmps95
  go_wp2_with fail
  refine (zfG o b off b' off' cap cap' _ (HH.out.mono (zq w (.cells (oC o (some ⟨b, off, none⟩) (some ⟨b', off', none⟩) cap cap') 104) (.cells oZ 104))) hl hl').mono ?_
  rintro e w1 ⟨a, dap, a', dap', m, rfl, ht, hm, hsm, ht', hb1, hsA, hsA'⟩
  have HO1 : Hid (w1.heap[w.heap.size]? = some (.cells (oC o (some ⟨b, off, none⟩) (some ⟨b', off', none⟩) cap cap') 104)) := (hb1.block w.heap.size (by simp; omega)).trans (zP _ _ _).1
  have HR1 : Hid (w1.heap[w.heap.size + 1]? = some (.cells oZ 104)) := (hb1.block (w.heap.size + 1) (by simp)).trans (zP _ _ _).2
  have hX1 : ∀ j, w1.cell? ⟨w.heap.size, j, none⟩ = (oC o (some ⟨b, off, none⟩) (some ⟨b', off', none⟩) cap cap')[j]? := fun j => cell_of_block HO1.out
  have hz1 : w.heap.size + 1 < w1.heap.size := by have := hb1.size; simp at this; omega
  have hz0 : w.heap.size < w1.heap.size := by omega
  have hB1 : Below w.heap.size w w1 := (zq _ _ _).trans (hb1.mono (by simp; omega))
  have HT : Hid (zn (w.heap.size + 1 + 1) w1 a o.vs /\ (∀ g, a = some g -> g.block < m) /\ w.heap.size + 1 + 1 <= m /\ zn m w1 a' o.hs) := by
    simp only [World.size_alloc] at ht hsm
    exact ⟨ht, hm, hsm, ht'⟩
  clear ht hm hsm ht' hb1
  go_wp2_with fail
  have hbs := (Below.refl w1.heap.size w1).alloc (Nat.le_refl _) (.cells (oC o a a' dap dap') 104)
  have hBs := hB1.trans (hbs.mono hB1.size)
  refine (zdH a0 cap0 ss o _ _ cap cap' w _ hw hBs HC.out).mono ?_
  rintro e w2 ⟨fa, fcap, rfl, hf, hb2⟩
  have hba := hbs.trans (hb2.mono hbs.size)
  have HR2 : Hid (w2.heap[w.heap.size + 1]? = some (.cells oZ 104)) := (hba.block _ hz1).trans HR1.out
  have HU2 : Hid (w2.heap[w1.heap.size]? = some (.cells (oC o a a' dap dap') 104)) := (hb2.block _ (by simp)).trans (alloc_at _ _)
  have HX2 : Hid (zn (w.heap.size + 1 + 1) w2 a o.vs /\ zn m w2 a' o.hs /\ Below w.heap.size w w2) := ⟨HT.out.1.mono hba, HT.out.2.2.2.mono hba, hB1.trans (hba.mono hB1.size)⟩
  have hz2 : w1.heap.size < w2.heap.size := (Array.getElem?_eq_some_iff.1 HU2.out).1
  clear hbs hBs hb2 hba hX1 hw
  have hlen := hf.len
  unfold maxLen at hlen
  revert HRES HCC hf hlen
  generalize (Gate.shapeOf ss o.kd).fs = fs
  intro HRES HCC hf hlen
  go_wp2_with fail
  go_loopw [8] (fun i wr => ∃ k : Nat, k <= fs.length /\ i = .int .i64 k /\ zn (w.heap.size + 1 + 1) wr a (Gate.qz fs o.vs k) /\ zn m wr a' o.hs /\ wr.heap[w.heap.size + 1]? = some (.cells oZ 104) /\ wr.heap[w1.heap.size]? = some (.cells (oC o a a' dap dap') 104) /\ Below w.heap.size w wr) (fun i _ => fs.length - (intOf i).toNat)
  case atStart => exact ⟨0, Nat.zero_le _, rfl, by rw [Gate.zfA]; exact HX2.out.1, HX2.out.2.1, HR2.out, HU2.out, HX2.out.2.2⟩
  case round =>
    obtain ⟨k, hk, rfl, ht, ht', hR, hO, hB⟩ := hrel
    have hOc : ∀ j, wr.cell? ⟨w1.heap.size, j, none⟩ = (oC o a a' dap dap')[j]? := fun j => cell_of_block hO
    have hOz : w1.heap.size < wr.heap.size := (Array.getElem?_eq_some_iff.1 hO).1
    by_cases hlt : k < fs.length
    · have hltv : k < o.vs.length := by rw [HCC.out]; exact hlt
      obtain ⟨fb, foff, rfl, hfb, hr⟩ := hf.rows (by rintro rfl; simp at hlt)
      obtain ⟨wa, wcap, hf0⟩ := hr k hlt
      have hf1 := hf0.mono hfb hB
      obtain ⟨c0, c1, c2, c3, c4, c5, c6, c7, c8, c9, c10⟩ := hf1.load
      have hltI : (k : Int) < (fs.length : Int) := by omega
      have hltV : (k : Int) < (o.vs.length : Int) := by omega
      obtain ⟨g, C, hga, hgl, hgh, hgc⟩ : ∃ g C, a = some ⟨g, 0, none⟩ /\ w.heap.size + 1 + 1 <= g /\ wr.heap[g]? = some (.cells C 9) /\ ∀ i (h : i < (Gate.qz fs o.vs k).length), C[i]? = some (.string (Gate.qz fs o.vs k)[i]) := by
        rcases ht with ⟨_, h0⟩ | h0
        · have := Gate.jE HCC.out k; rw [h0] at this; simp at this; omega
        · exact h0
      have hgm : g < m := HT.out.2.1 _ hga
      have hgw1 : g < w1.heap.size := HT.out.1.lt _ hga
      have hgw : g < wr.heap.size := by omega
      subst hga
      have hcell : wr.cell? ⟨g, k, none⟩ = some (.string o.vs[k]) := by
        have h1 := Gate.zdx HCC.out k hlt
        have hkl : k < (Gate.qz fs o.vs k).length := by rw [Gate.jE HCC.out]; exact hltv
        rw [List.getElem?_eq_getElem hkl, List.getElem?_eq_getElem hltv] at h1
        rw [cell_of_block hgh, hgc k hkl, Option.some.inj h1]
      have hgf : wr.frozen? ⟨g, k, none⟩ = false := zi hgh
      have HX : Hid (zn (w.heap.size + 1 + 1) wr (some ⟨g, 0, none⟩) (Gate.qz fs o.vs k) /\ zn m wr a' o.hs /\ wr.heap[w.heap.size + 1]? = some (.cells oZ 104) /\ wr.heap[w1.heap.size]? = some (.cells (oC o (some ⟨g, 0, none⟩) a' dap dap') 104) /\ Below w.heap.size w wr) := ⟨ht, ht', hR, hO, hB⟩
      clear ht ht' hR hO hB hr hf0 hf1 hgh hgc hf
      by_cases hv : o.vs[k].toList.isEmpty = true
      · have HV : Hid (Gate.jy fs[k] o.vs[k] = fs[k].df) := by unfold Hid Gate.jy; rw [if_pos hv]
        go_wp2_with fail
        have hfg : fb ≠ g := by omega
        have hq1 : (wr.setCell ⟨g, k, none⟩ (.string fs[k].df)).drew.cell? ⟨w1.heap.size, 3, none⟩ = some (.slice (some ⟨g, 0, none⟩) o.vs.length dap) := (zR (by show w1.heap.size ≠ g; omega)).trans (hOc 3)
        have hq2 : (wr.setCell ⟨g, k, none⟩ (.string fs[k].df)).drew.cell? ⟨fb, foff + k * 11 + 9, none⟩ = some (.string fs[k].df) := (zR hfg).trans c9
        have hgd : wr.drew.frozen? ⟨g, k, none⟩ = false := hgf
        have hcd : wr.drew.cell? ⟨g, k, none⟩ = some (.string o.vs[k]) := hcell
        go_region_held3 (fun w' => w'.cell? ⟨w1.heap.size, 3, none⟩ = some (.slice (some ⟨g, 0, none⟩) o.vs.length dap) /\ w'.cell? ⟨fb, foff + k * 11 + 9, none⟩ = some (.string fs[k].df)) (first | exact ⟨hOc 3, c9⟩ | exact ⟨hq1, hq2⟩) (fail)
        go_wp2_with fail
        obtain ⟨ht, ht', hR, hO, hB⟩ := HX.out
        exact ⟨⟨k + 1, by omega, by go_num, by rw [Gate.zbR HCC.out k hlt, HV.out]; exact ht.set k _, ht'.setCell _ hgm _, (Below.heap_setCell _ _ _ _ (by show w.heap.size + 1 ≠ g; omega)).trans hR, (Below.heap_setCell _ _ _ _ (by show w1.heap.size ≠ g; omega)).trans hO, (hB.setCell (p := ⟨g, k, none⟩) (by show w.heap.size <= g; omega) _).drew⟩, zm hlt⟩
      · have HV : Hid (Gate.jy fs[k] o.vs[k] = o.vs[k]) := by unfold Hid Gate.jy; rw [if_neg hv]
        go_wp2_with fail
        obtain ⟨ht, ht', hR, hO, hB⟩ := HX.out
        have hsame : (Gate.qz fs o.vs k).set k o.vs[k] = Gate.qz fs o.vs k := by
          have h1 := Gate.zdx HCC.out k hlt
          have hkl : k < (Gate.qz fs o.vs k).length := by rw [Gate.jE HCC.out]; exact hltv
          rw [List.getElem?_eq_getElem hkl, List.getElem?_eq_getElem hltv] at h1
          rw [<- Option.some.inj h1, List.set_getElem_self]
        exact ⟨⟨k + 1, by omega, by go_num, by rw [Gate.zbR HCC.out k hlt, HV.out, hsame]; exact ht, ht', hR, hO, hB⟩, zm hlt⟩
    · have e : k = fs.length := by omega
      subst e
      rw [Gate.zgQ HCC.out] at ht
      have hRc : ∀ j, wr.cell? ⟨w.heap.size + 1, j, none⟩ = oZ[j]? := fun j => cell_of_block hR
      have hRf : ∀ j, wr.frozen? ⟨w.heap.size + 1, j, none⟩ = false := fun j => zi hR
      have HX : Hid (zn (w.heap.size + 1 + 1) wr a (Gate.jg fs o.vs) /\ zn m wr a' o.hs /\ Below w.heap.size w wr) := ⟨ht, ht', hB⟩
      clear ht ht' hB hR hO hf
      go_wp2_with fail
      refine bodyPost_ret (v := (.agg (oC o a a' dap dap'))) (by simp [results, Tryz.results95, go_sem, hRc]) rfl ?_
      obtain ⟨ht, ht', hB⟩ := HX.out
      rw [HRES.out]
      exact ⟨a, dap, a', dap', m, rfl, (qK ht _ (by omega) _ _ _ _ _ _ _).low (by omega), HT.out.2.1, by have := HT.out.2.2.1; omega, qK ht' _ (by have := HT.out.2.2.1; omega) _ _ _ _ _ _ _, jU hB _ (by omega) _ _ _ _ _ _ _, hsA, hsA'⟩
end Go.Proofs.YtkfigdbbncjojaaGreat
