import Derived.Test.YtfpeplbmfbepcaaGreatM42
import Derived.Test.YtfpeplbmfbepcaaGreatM26
import Derived.Test.YtfpeplbmfbepcaaGreatM05
import Derived.Test.YtfpeplbmfbepcaaGreatM18
import Derived.Test.YtfpeplbmfbepcaaGreatM31
import Derived.Test.YtfpeplbmfbepcaaGreatM15
import Derived.Test.YtfpeplbmfbepcaaGreatM39
import Derived.Test.YtfpeplbmfbepcaaGreatM20
import Derived.Test.YtfpeplbmfbepcaaGreatM27
namespace Go.Proofs.YtfpeplbmfbepcaaGreat
open Go.RowKit
end Go.Proofs.YtfpeplbmfbepcaaGreat

namespace Go.Proofs.YtfpeplbmfbepcaaGreat
open Go.RowKit
set_option maxRecDepth 20000 in
set_option maxHeartbeats 4000000 in
theorem znK (o : Ob) (s : Shp) (ms : List Mnd) (fa ma ova oha : Option Addr) (fcap mcap cap cap' : Nat) (w : World) (hf : zW w fa s.fs) (hm : qy w ma ms) (ho : qR w o ova oha) (hA : zme ova o.vs) (hA' : zme oha o.hs) (hl : o.vs.length <= 1048576) (hl' : o.hs.length <= 1048576) (hc : o.vs.length = s.fs.length)
    (hml : ms.length <= 1048576) (hn : s.fs.length <= 6) (hrd : ∀ q, q < s.fs.length -> ∀ x ∈ Gate.yg s ms q, 0 <= x /\ x < s.fs.length) (hwk : (Gate.zD (Gate.zk s ms) s.fs.length).1 = true) :
    Calls Tryz.prog 214 #[.agg #[.string s.kd, .slice fa s.fs.length fcap], .slice ma ms.length mcap, .agg (oC o ova oha cap cap')] w
      fun e w' => ∃ a dap a' dap' m, e = .returned (.agg (oC o a a' dap dap')) /\ zq w.heap.size w' a (Gate.zQ (Gate.decided s ms) (Gate.zD (Gate.zk s ms) s.fs.length).2.row o.vs) /\ (∀ g, a = some g -> g.block < m) /\ w.heap.size <= m /\ zq m w' a' o.hs /\ Below w.heap.size w w' := by
  have HH : Hid (zW w fa s.fs /\ qy w ma ms /\ o.vs.length = s.fs.length /\ ms.length <= 1048576 /\ s.fs.length <= 6 /\ (∀ q, q < s.fs.length -> ∀ x ∈ Gate.yg s ms q, 0 <= x /\ x < s.fs.length) /\ (∀ x ∈ o.vs, x.size <= maxLen)) := ⟨hf, hm, hc, hml, hn, hrd, ho.vals.small⟩
  have HWK := hid hwk
  clear hf hm hc hml hrd hwk
  go_enter Tryz.func214, Tryz.ntmps214
  go_wp2_with fail
  refine (ziw o ova oha cap cap' _ (ho.mono (jl _ _ _ _)) hA hA' hl hl').mono ?_
  rintro e w1 ⟨a, dap, a', dap', m, rfl, ht, hmm, hsm, ht', hb1⟩
  have hX1 : ∀ j, w1.cell? ⟨w.heap.size, j, none⟩ = (#[.string s.kd, .slice fa s.fs.length fcap] : Array Value)[j]? := fun j => cell_of_block ((hb1.block w.heap.size (by simp; omega)).trans (zbL _ _ _ _))
  have HS1 : Hid (w1.heap[w.heap.size]? = some (.cells #[.string s.kd, .slice fa s.fs.length fcap] 123)) := (hb1.block w.heap.size (by simp; omega)).trans (zbL _ _ _ _)
  have HR1 : Hid (w1.heap[w.heap.size + 1 + 1]? = some (.cells oZ 119)) := (hb1.block (w.heap.size + 1 + 1) (by simp)).trans (zcw _ _ _ _)
  have HB1 : Hid (Below w.heap.size w w1) := (jl _ _ _ _).trans (hb1.mono (by simp; omega))
  have hz1 : w.heap.size + 1 + 1 < w1.heap.size := by have := hb1.size; simp at this; omega
  have HT : Hid (zq (w.heap.size + 1 + 1 + 1) w1 a o.vs /\ (∀ g, a = some g -> g.block < m) /\ w.heap.size + 1 + 1 + 1 <= m /\ zq m w1 a' o.hs) := by
    simp only [World.size_alloc] at ht hsm
    exact ⟨ht, hmm, hsm, ht'⟩
  have hz0 : w.heap.size < w1.heap.size := by omega
  clear ht hmm hsm ht' hb1 ho
  have hba := (Below.refl w1.heap.size w1).alloc (Nat.le_refl _) (.cells (oC o a a' dap dap') 119)
  have HBA := hid (HB1.out.trans (hba.mono HB1.out.size))
  have HBB := hid hba
  clear hba
  go_wp2_with fail
  have h := zgN s ms ma fa mcap fcap _ (HH.out.2.1.mono HBA.out) (HH.out.1.mono HBA.out) HH.out.2.2.2.1 HH.out.2.2.2.2.1 HH.out.2.2.2.2.2.1
  rw [HWK.out] at h
  refine h.mono ?_
  rintro e w2 ⟨rv, rfl, hb2, hrow⟩
  have hrow := hrow rfl
  obtain ⟨ra, rcap, rfl⟩ := yE hrow
  have HBC := hid (HBB.out.trans (hb2.mono HBB.out.size))
  have HR2 : Hid (w2.ownsRow (w1.heap.size + 1) 3 1 (.slice ra (Gate.zD (Gate.zk s ms) s.fs.length).2.row.length rcap) (Gate.zD (Gate.zk s ms) s.fs.length).2.row.length (zdR (Gate.zD (Gate.zk s ms) s.fs.length).2.row)) := by
    have := hrow; rw [World.size_alloc] at this; exact this
  have HU2 : Hid (w2.heap[w1.heap.size]? = some (.cells (oC o a a' dap dap') 119)) := (hb2.block _ (by simp)).trans (alloc_at _ _)
  have HTP : Hid (Gate.zjM (Gate.zk s ms) s.fs.length (Gate.zD (Gate.zk s ms) s.fs.length).2.row) := Gate.zdo (fun p hp q hq => by
    unfold Gate.zk at hq
    obtain ⟨x, hx, rfl⟩ := List.mem_map.1 hq
    have := HH.out.2.2.2.2.2.1 p hp x hx
    omega) HWK.out
  have hz2 := (Array.getElem?_eq_some_iff.1 HU2.out).1
  have HRL : Hid ((Gate.zD (Gate.zk s ms) s.fs.length).2.row.length <= 6) := by
    have h1 := Gate.zbp (Gate.zD (Gate.zk s ms) s.fs.length).2.row (List.range s.fs.length) HTP.out.nodup (fun x hx => List.mem_range.2 ((HTP.out.mem x).1 hx))
    have h2 := HH.out.2.2.2.2.1
    rw [List.length_range] at h1
    show _ <= _; omega
  clear h hrow hb2 hX1
  go_wp2_with fail
  go_loopw [22] (fun iv wr => ∃ j : Nat, j <= (Gate.zD (Gate.zk s ms) s.fs.length).2.row.length /\ iv = .int .i64 j /\ zq (w.heap.size + 1 + 1 + 1) wr a (Gate.zQ (Gate.decided s ms) ((Gate.zD (Gate.zk s ms) s.fs.length).2.row.take j) o.vs) /\ zq m wr a' o.hs /\ wr.heap[w.heap.size + 1 + 1]? = some (.cells oZ 119) /\ wr.heap[w1.heap.size]? = some (.cells (oC o a a' dap dap') 119) /\ wr.heap[w.heap.size]? = some (.cells #[.string s.kd, .slice fa s.fs.length fcap] 123) /\ wr.ownsRow (w1.heap.size + 1) 3 1 (.slice ra (Gate.zD (Gate.zk s ms) s.fs.length).2.row.length rcap) (Gate.zD (Gate.zk s ms) s.fs.length).2.row.length (zdR (Gate.zD (Gate.zk s ms) s.fs.length).2.row) /\ Below w.heap.size w wr) (fun iv _ => (Gate.zD (Gate.zk s ms) s.fs.length).2.row.length - (intOf iv).toNat)
  case atStart => exact ⟨0, Nat.zero_le _, rfl, HT.out.1.mono HBC.out, HT.out.2.2.2.mono HBC.out, (HBC.out.block _ hz1).trans HR1.out, HU2.out, (HBC.out.block _ hz0).trans HS1.out, HR2.out, HB1.out.trans (HBC.out.mono HB1.out.size)⟩
  case round =>
    obtain ⟨j, hj, rfl, hinv⟩ := hrel
    have HI : Hid (zq (w.heap.size + 1 + 1 + 1) wr a (Gate.zQ (Gate.decided s ms) ((Gate.zD (Gate.zk s ms) s.fs.length).2.row.take j) o.vs) /\ zq m wr a' o.hs /\ wr.heap[w.heap.size + 1 + 1]? = some (.cells oZ 119) /\ wr.heap[w1.heap.size]? = some (.cells (oC o a a' dap dap') 119) /\ wr.heap[w.heap.size]? = some (.cells #[.string s.kd, .slice fa s.fs.length fcap] 123) /\ wr.ownsRow (w1.heap.size + 1) 3 1 (.slice ra (Gate.zD (Gate.zk s ms) s.fs.length).2.row.length rcap) (Gate.zD (Gate.zk s ms) s.fs.length).2.row.length (zdR (Gate.zD (Gate.zk s ms) s.fs.length).2.row) /\ Below w.heap.size w wr) := hinv
    clear hinv
    by_cases hlt : j < (Gate.zD (Gate.zk s ms) s.fs.length).2.row.length
    · have hltI : (j : Int) < ((Gate.zD (Gate.zk s ms) s.fs.length).2.row.length : Int) := by omega
      have hqn : (Gate.zD (Gate.zk s ms) s.fs.length).2.row[j] < s.fs.length := (HTP.out.mem _).1 (List.getElem_mem hlt)
      obtain ⟨rg, rfl, hrc⟩ : ∃ rg, ra = some ⟨rg, 0, none⟩ /\ wr.cell? ⟨rg, j, none⟩ = some (.int .i64 (((Gate.zD (Gate.zk s ms) s.fs.length).2.row[j] : Nat) : Int)) := by
        have hrow := HI.out.2.2.2.2.2.1
        obtain ⟨_, ⟨h0, h1⟩ | ⟨g, cp, cur, h0, h1⟩⟩ := id hrow
        · rw [h1] at hlt; exact absurd hlt (by omega)
        · cases h0
          refine ⟨g, rfl, ?_⟩
          rw [hrow.cellAt j (by omega)]
          simp [zdR, hlt]
      have HTS : Hid ((Gate.zQ (Gate.decided s ms) ((Gate.zD (Gate.zk s ms) s.fs.length).2.row.take (j + 1)) o.vs) = (Gate.zQ (Gate.decided s ms) ((Gate.zD (Gate.zk s ms) s.fs.length).2.row.take j) o.vs).set (Gate.zD (Gate.zk s ms) s.fs.length).2.row[j] (Gate.decided s ms (Gate.zD (Gate.zk s ms) s.fs.length).2.row[j] (Gate.zQ (Gate.decided s ms) ((Gate.zD (Gate.zk s ms) s.fs.length).2.row.take j) o.vs))) := by
        unfold Hid
        rw [List.take_succ_eq_append_getElem hlt, Gate.zcl]
        rfl
      have HTL : Hid ((Gate.zQ (Gate.decided s ms) ((Gate.zD (Gate.zk s ms) s.fs.length).2.row.take j) o.vs).length = o.vs.length) := Gate.qX _ _ _
      have HSML : Hid (∀ x ∈ (Gate.zQ (Gate.decided s ms) ((Gate.zD (Gate.zk s ms) s.fs.length).2.row.take j) o.vs), x.size <= maxLen) := Gate.zbE HH.out.2.1.small _ _ HH.out.2.2.2.2.2.2
      have hvl : 0 < o.vs.length := by rw [HH.out.2.2.1]; omega
      obtain ⟨g, C, hga, hgl, hgh, hgc⟩ : ∃ g C, a = some ⟨g, 0, none⟩ /\ w.heap.size + 1 + 1 + 1 <= g /\ wr.heap[g]? = some (.cells C 9) /\ ∀ i (h : i < (Gate.zQ (Gate.decided s ms) ((Gate.zD (Gate.zk s ms) s.fs.length).2.row.take j) o.vs).length), C[i]? = some (.string (Gate.zQ (Gate.decided s ms) ((Gate.zD (Gate.zk s ms) s.fs.length).2.row.take j) o.vs)[i]) := by
        rcases HI.out.1 with ⟨_, h0⟩ | h0
        · have := HTL.out; rw [h0] at this; simp at this; omega
        · exact h0
      have hgm := HT.out.2.1 _ hga
      have hgw1 := HT.out.1.lt _ hga
      subst hga
      revert hqn hrc HTS
      generalize (Gate.zD (Gate.zk s ms) s.fs.length).2.row[j] = q
      intro hqn hrc HTS
      have hqv : q < o.vs.length := by rw [HH.out.2.2.1]; exact hqn
      have hqI : (q : Int) < (o.vs.length : Int) := by omega
      have HCS : Hid (C.size = C.size /\ q < C.size) := by
        refine ⟨rfl, ?_⟩
        rcases Nat.lt_or_ge q C.size with h1 | h1
        · exact h1
        · have h2 := hgc q (by rw [HTL.out]; exact hqv)
          rw [Array.getElem?_eq_none h1] at h2; cases h2
      have hOc := za6 HI.out.2.2.2.1
      have hSc := za6 HI.out.2.2.2.2.1
      have hzw : w1.heap.size < wr.heap.size := (Array.getElem?_eq_some_iff.1 HI.out.2.2.2.1).1
      have HST : Hid (zA wr (some ⟨g, 0, none⟩) (Gate.zQ (Gate.decided s ms) ((Gate.zD (Gate.zk s ms) s.fs.length).2.row.take j) o.vs)) := HI.out.1.at (by rw [HTL.out]; unfold maxLen; omega) HSML.out
      have HBD : Hid (Below w.heap.size w wr.drew /\ Below wr.heap.size wr wr.drew) := ⟨HI.out.2.2.2.2.2.2.drew, (Below.refl _ _).drew⟩
      have HGH := hid hgh
      clear hgh hgc
      go_wp2_with fail
      clear hrc
      have hbd := HBD.out.2
      have hOd := za hOc hzw hbd
      have hSd := za hSc (by omega) hbd
      have HDV : Hid (∀ W, Below wr.heap.size wr W -> Calls Tryz.prog 224 #[.agg #[.string s.kd, .slice fa s.fs.length fcap], .slice ma ms.length mcap, .slice (some ⟨g, 0, none⟩) o.vs.length dap, .int .i64 (q : Int)] W fun e w' => e = .returned (.string (Gate.decided s ms q (Gate.zQ (Gate.decided s ms) ((Gate.zD (Gate.zk s ms) s.fs.length).2.row.take j) o.vs))) /\ Below W.heap.size W w') := by
        intro W hb
        have hbw := HI.out.2.2.2.2.2.2.trans (hb.mono HI.out.2.2.2.2.2.2.size)
        have h := zgc s ms (Gate.zQ (Gate.decided s ms) ((Gate.zD (Gate.zk s ms) s.fs.length).2.row.take j) o.vs) q fa ma (some ⟨g, 0, none⟩) fcap mcap dap W (HH.out.1.mono hbw) (HH.out.2.1.mono hbw) (HST.out.mono hb) (by rw [HTL.out]; exact HH.out.2.2.1) hqn
        rw [HTL.out] at h
        exact h
      go_region_held3 (fun w' => (∀ k, w'.cell? ⟨w1.heap.size, k, none⟩ = (oC o (some ⟨g, 0, none⟩) a' dap dap')[k]?) /\ ∀ k, w'.cell? ⟨w.heap.size, k, none⟩ = (#[.string s.kd, .slice fa s.fs.length fcap] : Array Value)[k]?) (first | (refine ⟨fun k => ?_, fun k => ?_⟩; rw [hOd]; rw [hSd]) | (refine ⟨fun k => ?_, fun k => ?_⟩; rw [hqo]; rw [hqs])) (first
        | (go_at_call 224; refine (HDV.out _ hbd).mono ?_; rintro e w5 ⟨rfl, hb5⟩; have hbd := hbd.trans (hb5.mono hbd.size); have hOd := za hOc hzw hbd; have hSd := za hSc (by omega) hbd; have hg5 := (hbd.block g (by omega)).trans HGH.out; have hcg : w5.cell? ⟨g, q, none⟩ = some (C[q]'HCS.out.2) := (by rw [cell_of_block hg5]; exact Array.getElem?_eq_getElem HCS.out.2); have hfg : w5.frozen? ⟨g, q, none⟩ = false := zh hg5; have hqo : ∀ k, (w5.setCell ⟨g, q, none⟩ (.string (Gate.decided s ms q (Gate.zQ (Gate.decided s ms) ((Gate.zD (Gate.zk s ms) s.fs.length).2.row.take j) o.vs)))).cell? ⟨w1.heap.size, k, none⟩ = (oC o (some ⟨g, 0, none⟩) a' dap dap')[k]? := (fun k => (zY (by show w1.heap.size ≠ g; omega)).trans (hOd k)); have hqs : ∀ k, (w5.setCell ⟨g, q, none⟩ (.string (Gate.decided s ms q (Gate.zQ (Gate.decided s ms) ((Gate.zD (Gate.zk s ms) s.fs.length).2.row.take j) o.vs)))).cell? ⟨w.heap.size, k, none⟩ = (#[.string s.kd, .slice fa s.fs.length fcap] : Array Value)[k]? := (fun k => (zY (by show w.heap.size ≠ g; omega)).trans (hSd k)); have HBE : Hid (Below wr.heap.size wr w5) := hbd; clear hb5 hg5))
      go_wp2_with fail
      obtain ⟨i1, i2, i3, i4, i5, i6, i7⟩ := HI.out
      have hE := HBE.out
      refine ⟨⟨j + 1, by omega, by rw [wrap_one (by have := HRL.out; omega)], ?_, (i2.mono hE).setCell _ hgm _, (Below.heap_setCell _ _ _ _ (by show w.heap.size + 1 + 1 ≠ g; omega)).trans ((hE.block _ (by omega)).trans i3), (Below.heap_setCell _ _ _ _ (by show w1.heap.size ≠ g; omega)).trans ((hE.block _ hzw).trans i4), (Below.heap_setCell _ _ _ _ (by show w.heap.size ≠ g; omega)).trans ((hE.block _ (by omega)).trans i5), ?_, (i7.trans (hE.mono i7.size)).setCell (p := ⟨g, q, none⟩) (by show w.heap.size <= g; omega) _⟩, qK hlt (by have := HRL.out; omega)⟩
      · rw [HTS.out]; exact (i1.mono hE).set q _
      · refine jX (yA i6 hE) (fun g' hg' => Below.heap_setCell _ _ _ _ ?_)
        have := (i6.lt g' hg').1
        show g' ≠ g
        omega
    · have e : j = (Gate.zD (Gate.zk s ms) s.fs.length).2.row.length := by omega
      obtain ⟨i1, i2, i3, i4, i5, i6, i7⟩ := HI.out
      rw [e, List.take_of_length_le (Nat.le_refl _)] at i1
      have hRc : ∀ k, wr.cell? ⟨w.heap.size + 1 + 1, k, none⟩ = oZ[k]? := fun k => cell_of_block i3
      have hRf : ∀ k, wr.frozen? ⟨w.heap.size + 1 + 1, k, none⟩ = false := fun k => zh i3
      have hOc := za6 i4
      have HX := zdB i1 i2 i7
      clear i1 i2 i3 i4 i5 i6 i7 HI
      subst e
      go_wp2_with fail
      refine bodyPost_ret (v := (.agg (oC o a a' dap dap'))) (by simp [results, Tryz.results214, go_sem, hRc]) rfl ?_
      obtain ⟨ht, ht', hB⟩ := HX.out
      exact ⟨a, dap, a', dap', m, rfl, (qW ht _ (by omega) _ _ _ _ _ _ _).low (by omega), HT.out.2.1, by have := HT.out.2.2.1; omega, qW ht' _ (by have := HT.out.2.2.1; omega) _ _ _ _ _ _ _, zau hB _ (by omega) _ _ _ _ _ _ _⟩
end Go.Proofs.YtfpeplbmfbepcaaGreat

namespace Go.Proofs.YtfpeplbmfbepcaaGreat
open Go.RowKit
def Gate.y8 (ss : List Shp) (ms : List Mnd) (o : Ob) : Bool := Gate.zC ss o.kd && (decide (o.vs.length = (Gate.shapeOf ss o.kd).fs.length) && Gate.yc ss ms)
namespace Gate
theorem zcr {ss : List Shp} {v : ByteArray} (h : zC ss v = true) : ∃ i, ∃ hi : i < ss.length, shapeOf ss v = ss[i] := by
  unfold zC at h
  rw [List.any_eq_true] at h
  obtain ⟨x, hx, he⟩ := h
  unfold shapeOf
  cases hf : ss.find? (fun s => decide (s.kd = v)) with
  | none => rw [List.find?_eq_none] at hf; exact absurd he (hf x hx)
  | some y =>
    obtain ⟨i, hi, rfl⟩ := List.mem_iff_getElem.1 (List.mem_of_find?_eq_some hf)
    exact ⟨i, hi, rfl⟩
theorem zb9 {ss : List Shp} {ms : List Mnd} {o : Ob} (h : y8 ss ms o = true) : o.vs.length = (shapeOf ss o.kd).fs.length /\ (shapeOf ss o.kd).fs.length <= 6 /\ (∀ q, q < (shapeOf ss o.kd).fs.length -> ∀ x ∈ yg (shapeOf ss o.kd) ms q, 0 <= x /\ x < (shapeOf ss o.kd).fs.length) /\ (zD (zk (shapeOf ss o.kd) ms) (shapeOf ss o.kd).fs.length).1 = true := by
  unfold y8 at h
  simp only [Bool.and_eq_true, decide_eq_true_eq] at h
  obtain ⟨hk, hl, hm⟩ := h
  obtain ⟨i, hi, e⟩ := zcr hk
  unfold yc at hm
  simp only [Bool.and_eq_true, decide_eq_true_eq] at hm
  obtain ⟨⟨⟨h12, hs⟩, ha⟩, hr⟩ := hm
  rw [e] at hl ⊢
  refine ⟨hl, zeV hs i hi, ziP hs ha i hi, ?_⟩
  have := List.all_eq_true.1 hr ss[i] (List.getElem_mem hi)
  exact this
def zgy (ss : List Shp) (ms : List Mnd) (o : Ob) : List ByteArray := zQ (decided (shapeOf ss o.kd) ms) (zD (zk (shapeOf ss o.kd) ms) (shapeOf ss o.kd).fs.length).2.row o.vs
def zbX (ss : List Shp) (ms : List Mnd) (o : Ob) : List ByteArray := if y8 ss ms o = true then zgy ss ms o else o.vs
end Gate
namespace Gate
def zfQ (ss : List Shp) (o : Ob) : Ob := ⟨o.kd, o.nm, o.tm, jN (shapeOf ss o.kd).fs o.vs, o.en, o.hs, o.vr⟩
def zbv (ss : List Shp) (ms : List Mnd) (o : Ob) : List ByteArray := if y8 ss ms o = true then zgy ss ms (zfQ ss o) else o.vs
theorem zno {ss : List Shp} {ms : List Mnd} {o : Ob} (h : y8 ss ms o = true) : (zfQ ss o).vs.length = o.vs.length := qj (zb9 h).1
end Gate
theorem zfS {fs : List Fld} {vs : List ByteArray} (hf : zbw fs) (hv : ∀ s ∈ vs, s.size <= maxLen) (hl : vs.length = fs.length) : ∀ s ∈ Gate.jN fs vs, s.size <= maxLen := by
  intro s hm
  obtain ⟨i, hi, rfl⟩ := List.mem_iff_getElem.1 hm
  have h2 := Gate.qj hl
  have e : (Gate.jN fs vs)[i] = Gate.jW (fs[i]'(by omega)) (vs[i]'(by omega)) := by simp [Gate.jN]
  rw [e]
  unfold Gate.jW
  split
  · exact (hf.small i (by omega)).1.df
  · exact hv _ (List.getElem_mem _)
theorem zoS (o : Ob) (us : List ByteArray) (hnn : us.length = o.vs.length) (s : Shp) (ms : List Mnd) (fa ma ova oha : Option Addr) (fcap mcap cap cap' : Nat) (w : World) (hf : zW w fa s.fs) (hm : qy w ma ms) (hsm : o.Small) (ho : zA w ova us) (ho' : zA w oha o.hs) (hA : zme ova us) (hA' : zme oha o.hs) (hl : o.vs.length <= 1048576) (hl' : o.hs.length <= 1048576) (hc : o.vs.length = s.fs.length)
    (hml : ms.length <= 1048576) (hn : s.fs.length <= 6) (hrd : ∀ q, q < s.fs.length -> ∀ x ∈ Gate.yg s ms q, 0 <= x /\ x < s.fs.length) (hwk : (Gate.zD (Gate.zk s ms) s.fs.length).1 = true) :
    Calls Tryz.prog 214 #[.agg #[.string s.kd, .slice fa s.fs.length fcap], .slice ma ms.length mcap, .agg #[.string o.kd, .string o.nm, .string o.tm, .slice ova o.vs.length cap, .bool o.en, .slice oha o.hs.length cap', .int .i64 o.vr]] w
      fun e w' => ∃ a dap a' dap' m, e = .returned (.agg #[.string o.kd, .string o.nm, .string o.tm, .slice a o.vs.length dap, .bool o.en, .slice a' o.hs.length dap', .int .i64 o.vr]) /\ zq w.heap.size w' a (Gate.zQ (Gate.decided s ms) (Gate.zD (Gate.zk s ms) s.fs.length).2.row us) /\ (∀ g, a = some g -> g.block < m) /\ w.heap.size <= m /\ zq m w' a' o.hs /\ Below w.heap.size w w' := by
  have h := znK ⟨o.kd, o.nm, o.tm, us, o.en, o.hs, o.vr⟩ s ms fa ma ova oha fcap mcap cap cap' w hf hm ⟨⟨hsm.kd, hsm.nm, hsm.tm⟩, ho, ho'⟩ hA hA' (by show us.length <= _; omega) hl' (by show us.length = _; omega) hml hn hrd hwk
  simp only [oC, hnn] at h
  exact h
end Go.Proofs.YtfpeplbmfbepcaaGreat

namespace Go.Proofs.YtfpeplbmfbepcaaGreat
open Go.RowKit
def Gate.zbN (l : Lw) : Bool := Gate.yc l.ss l.ms && Gate.zbk l.ts
set_option maxHeartbeats 1000000 in
theorem zj3 (l : Lw) (a b c : Option Addr) (ca cb cc : Nat) (w : World) (hl : qB w l a b c) (hf : l.Few) :
    Calls Tryz.prog 71 #[.agg (l.cells a b c ca cb cc)] w fun e w' => e = .returned (.bool (Gate.zbN l)) /\ Below w.heap.size w w' := by
  have HL : Hid (qB w l a b c) := hl
  have HF : Hid l.Few := hf
  clear hl hf
  unfold Lw.cells
  by_cases h1 : Gate.yc l.ss l.ms = true
  · have HQ : Hid (Gate.zbN l = Gate.zbk l.ts) := by unfold Hid Gate.zbN; rw [h1]; rfl
    have HM : Hid (Gate.yc l.ss l.ms = true) := h1
    clear h1
    go_enter Tryz.func71, Tryz.ntmps71
    go_wp2_with fail
    refine (zw HM.out (zdG _ _ _ _ l.ss l.ms _ (HL.out.ss.mono ((Below.refl _ _).alloc (Nat.le_refl _) _)) (HL.out.ms.mono ((Below.refl _ _).alloc (Nat.le_refl _) _)) HF.out.ms)).mono ?_
    rintro e w1 ⟨rfl, hb⟩
    have hX1 := za (zG w (lC l a b c ca cb cc) 41) (by simp) hb
    have hz1 : w.heap.size < w1.heap.size := by have := hb.size; simp at this; omega
    have hB1 : Below w.heap.size w w1 := ((Below.refl _ _).alloc (Nat.le_refl _) _).trans (hb.mono (by simp))
    clear hb
    go_wp2_with fail
    refine (zhI _ _ l.ts _ (HL.out.ts.mono hB1)).mono ?_
    rintro e w2 ⟨rfl, hb⟩
    have hB2 := hB1.trans (hb.mono hB1.size)
    clear hb hX1 hz1 hB1
    go_wp2_with fail
    go_ret
    exact ⟨ze HQ.out.symm, hB2⟩
  · have h1' : Gate.yc l.ss l.ms = false := by simpa using h1
    have HQ : Hid (Gate.zbN l = false) := by unfold Hid Gate.zbN; rw [h1']; rfl
    have HM : Hid (Gate.yc l.ss l.ms = false) := h1'
    clear h1 h1'
    go_enter Tryz.func71, Tryz.ntmps71
    go_wp2_with fail
    refine (zw HM.out (zdG _ _ _ _ l.ss l.ms _ (HL.out.ss.mono ((Below.refl _ _).alloc (Nat.le_refl _) _)) (HL.out.ms.mono ((Below.refl _ _).alloc (Nat.le_refl _) _)) HF.out.ms)).mono ?_
    rintro e w1 ⟨rfl, hb⟩
    have hB1 : Below w.heap.size w w1 := ((Below.refl _ _).alloc (Nat.le_refl _) _).trans (hb.mono (by simp))
    clear hb
    go_wp2_with fail
    go_ret
    exact ⟨ze HQ.out.symm, hB1⟩
set_option maxHeartbeats 1000000 in
theorem zjv (l : Lw) (a b c : Option Addr) (ca cb cc : Nat) (w : World) (hl : qB w l a b c) :
    Calls Tryz.prog 58 #[.agg (l.cells a b c ca cb cc)] w fun e w' => e = .returned (.bool (Gate.zbN l)) /\ Below w.heap.size w w' := by
  have HL : Hid (qB w l a b c) := hl
  clear hl
  unfold Lw.cells
  by_cases h1 : Gate.yc l.ss l.ms = true
  · have HQ : Hid (Gate.zbN l = Gate.zas l.ts) := by unfold Hid Gate.zbN; rw [h1, Gate.zk9]; rfl
    have HM : Hid (Gate.qM l.ss l.ms = true) := by unfold Hid; rw [<- Gate.zfH]; exact h1
    clear h1
    go_enter Tryz.func58, Tryz.ntmps58
    go_wp2_with fail
    refine (zw HM.out (zdL _ _ _ _ l.ss l.ms _ (HL.out.ss.mono ((Below.refl _ _).alloc (Nat.le_refl _) _)) (HL.out.ms.mono ((Below.refl _ _).alloc (Nat.le_refl _) _)))).mono ?_
    rintro e w1 ⟨rfl, hb⟩
    have hX1 := za (zG w (lC l a b c ca cb cc) 41) (by simp) hb
    have hz1 : w.heap.size < w1.heap.size := by have := hb.size; simp at this; omega
    have hB1 : Below w.heap.size w w1 := ((Below.refl _ _).alloc (Nat.le_refl _) _).trans (hb.mono (by simp))
    clear hb
    go_wp2_with fail
    refine (zhg _ _ l.ts _ (HL.out.ts.mono hB1)).mono ?_
    rintro e w2 ⟨rfl, hb⟩
    have hB2 := hB1.trans (hb.mono hB1.size)
    clear hb hX1 hz1 hB1
    go_wp2_with fail
    go_ret
    exact ⟨ze HQ.out.symm, hB2⟩
  · have h1' : Gate.yc l.ss l.ms = false := by simpa using h1
    have HQ : Hid (Gate.zbN l = false) := by unfold Hid Gate.zbN; rw [h1']; rfl
    have HM : Hid (Gate.qM l.ss l.ms = false) := by unfold Hid; rw [<- Gate.zfH]; exact h1'
    clear h1 h1'
    go_enter Tryz.func58, Tryz.ntmps58
    go_wp2_with fail
    refine (zw HM.out (zdL _ _ _ _ l.ss l.ms _ (HL.out.ss.mono ((Below.refl _ _).alloc (Nat.le_refl _) _)) (HL.out.ms.mono ((Below.refl _ _).alloc (Nat.le_refl _) _)))).mono ?_
    rintro e w1 ⟨rfl, hb⟩
    have hB1 : Below w.heap.size w w1 := ((Below.refl _ _).alloc (Nat.le_refl _) _).trans (hb.mono (by simp))
    clear hb
    go_wp2_with fail
    go_ret
    exact ⟨ze HQ.out.symm, hB1⟩
end Go.Proofs.YtfpeplbmfbepcaaGreat
