import Derived.Test.YtfcdmlnpfoikhaaGreatM16
import Derived.Test.YtfcdmlnpfoikhaaGreatM25
import Derived.Test.YtfcdmlnpfoikhaaGreatM26
import Derived.Test.YtfcdmlnpfoikhaaGreatM11
import Derived.Test.YtfcdmlnpfoikhaaGreatM15
import Derived.Test.YtfcdmlnpfoikhaaGreatM17
import Derived.Test.YtfcdmlnpfoikhaaGreatM14
namespace Go.Proofs.YtfcdmlnpfoikhaaGreat
open Go.RowKit
set_option maxHeartbeats 1000000 in
theorem zgW (a : Option Addr) (cap : Nat) (w : World) :
    Calls Tryz.prog 222 #[.slice a 0 cap] w fun e w' => ∃ v, e = .returned v /\ w'.ownsRow w.heap.size 9 1 v 0 [] /\ Below w.heap.size w w' := by
  cases a with
  | none => exact zdF cap w
  | some g =>
    go_enter Tryz.func222, Tryz.ntmps222
    go_wp2_with fail
    go_ret
    exact ⟨_, rfl, World.ownsRow_nil _ _ _ _, Below.refl _ _⟩
theorem zep (a : Option Addr) (cap : Nat) (ws : List ByteArray) (w : World) (hw : zB w a ws) (hl : ws.length <= 1048576) :
    Calls Tryz.prog 222 #[.slice a ws.length cap] w
      fun e w' => ∃ v, e = .returned v /\ w'.ownsRow w.heap.size 9 1 v ws.length (ws.map Value.string) /\ Below w.heap.size w w' := by
  by_cases h : ws = []
  · subst h
    exact zgW a cap w
  · obtain ⟨b, off, rfl, _⟩ := hw.cells h
    exact zel b off cap ws w hw hl
set_option maxHeartbeats 1000000 in
theorem zhZ (o : Ob) (va ha : Option Addr) (cap cap' : Nat) (w : World) (ho : qL w o va ha) (hl : o.vs.length <= 1048576) (hl' : o.hs.length <= 1048576) :
    Calls Tryz.prog 219 #[.agg (oC o va ha cap cap')] w
      fun e w' => ∃ a dap a' dap' m, e = .returned (.agg (oC o a a' dap dap')) /\ zn w.heap.size w' a o.vs /\ (∀ g, a = some g -> g.block < m) /\ w.heap.size <= m /\ zn m w' a' o.hs /\ Below w.heap.size w w' := by
  go_enter Tryz.func219, Tryz.ntmps219
  go_wp2_with fail
  refine (zep _ _ _ _ (ho.vals.mono (zq _ _ _)) hl).mono ?_
  rintro e w1 ⟨v, rfl, hown1, hb1⟩
  obtain ⟨a, dap, rfl, ht1⟩ := zn.zfH hown1
  have hk1 := (hb1.block w.heap.size (by simp; omega)).trans (zR _ _ _).1
  have hr1 := (hb1.block (w.heap.size + 1) (by simp)).trans (zR _ _ _).2
  have HT : Hid (zn (w.heap.size + 1 + 1) w1 a o.vs) := by unfold Hid; simpa using ht1
  have hz1 : w.heap.size + 1 < w1.heap.size := by have := hb1.size; simp at this; omega
  have hB1 := (zq _ _ _).trans (hb1.mono (by simp; omega))
  have HK := hid hk1
  have HRR := hid hr1
  have hX1 : ∀ j, w1.cell? ⟨w.heap.size, j, none⟩ = (oC o va ha cap cap')[j]? := fun j => cell_of_block hk1
  have hF1 : ∀ j, w1.frozen? ⟨w.heap.size, j, none⟩ = false := fun j => zh hk1
  clear hb1 hown1 ht1 hk1 hr1
  go_wp2_with fail
  have hB1' := hB1.setCell (p := ⟨w.heap.size, 3, none⟩) (Nat.le_refl _) (.slice a o.vs.length dap)
  refine (zep _ _ _ _ (ho.holds.mono hB1') hl').mono ?_
  rintro e w2 ⟨v, rfl, hown2, hb2⟩
  obtain ⟨a', dap', rfl, ht2⟩ := zn.zfH hown2
  have hk2 := (hb2.block w.heap.size (by simp [World.setCell]; omega)).trans (zf HK.out _)
  have hr2 := (hb2.block (w.heap.size + 1) (by simp [World.setCell]; omega)).trans ((Below.heap_setCell _ _ _ _ (by simp)).trans HRR.out)
  have HT2 := hid ((HT.out.setCell _ (by simp; omega) _).mono hb2)
  have HU2 : Hid (zn w1.heap.size w2 a' o.hs) := by unfold Hid; simpa [World.setCell] using ht2
  have HM : Hid (∀ g, a = some g -> g.block < w1.heap.size) := by
    intro g hg
    rcases HT.out with ⟨h0, _⟩ | ⟨g', C, h0, _, hh, _⟩
    · rw [h0] at hg; cases hg
    · rw [h0] at hg; cases hg; exact (Array.getElem?_eq_some_iff.1 hh).1
  have hz2 : w.heap.size + 1 < w2.heap.size := by have := hb2.size; simp [World.setCell] at this; omega
  have hB2 := hB1'.trans (hb2.mono hB1'.size)
  have hX2 : ∀ j, w2.cell? ⟨w.heap.size, j, none⟩ = (oC o a ha dap cap')[j]? := fun j => cell_of_block hk2
  have hF2 : ∀ j, w2.frozen? ⟨w.heap.size, j, none⟩ = false := fun j => zh hk2
  have hY2 : ∀ j, w2.cell? ⟨w.heap.size + 1, j, none⟩ = oZ[j]? := fun j => cell_of_block hr2
  have hG2 : ∀ j, w2.frozen? ⟨w.heap.size + 1, j, none⟩ = false := fun j => zh hr2
  have hzz : w.heap.size <= w1.heap.size := by omega
  clear hb2 hown2 ht2 hX1 hF1 hB1 hB1' hk2 hr2
  go_wp2_with fail
  refine bodyPost_ret (v := (.agg (oC o a a' dap dap'))) (by simp [results, Tryz.results219, go_sem, hY2]) rfl ⟨a, dap, a', dap', w1.heap.size, rfl, ((((((((HT2.out.setCell _ (by simp; omega) _).setCell _ (by simp) _).setCell _ (by simp) _).setCell _ (by simp) _).setCell _ (by simp) _).setCell _ (by simp) _).setCell _ (by simp) _).setCell _ (by simp) _).low (by omega), HM.out, hzz, ((((((((HU2.out.setCell _ (by simp; omega) _).setCell _ (by simp; omega) _).setCell _ (by simp; omega) _).setCell _ (by simp; omega) _).setCell _ (by simp; omega) _).setCell _ (by simp; omega) _).setCell _ (by simp; omega) _).setCell _ (by simp; omega) _), ((((((((hB2.setCell (Nat.le_refl _) _).setCell (by simp) _).setCell (by simp) _).setCell (by simp) _).setCell (by simp) _).setCell (by simp) _).setCell (by simp) _).setCell (by simp) _)⟩
set_option maxHeartbeats 2000000 in
theorem znc (o : Ob) (kd : ByteArray) (fs : List Fld) (fa : Option Addr) (va ha : Option Addr) (fcap cap cap' : Nat) (w : World) (hf : zY w fa fs) (ho : qL w o va ha) (hl : o.vs.length <= 1048576) (hl' : o.hs.length <= 1048576) (hc : o.vs.length = fs.length) :
    Calls Tryz.prog 211 #[.agg #[.string kd, .slice fa fs.length fcap], .agg (oC o va ha cap cap')] w
      fun e w' => ∃ a dap a' dap' m, e = .returned (.agg (oC o a a' dap dap')) /\ zn w.heap.size w' a (Gate.jK fs o.vs) /\ (∀ g, a = some g -> g.block < m) /\ w.heap.size <= m /\ zn m w' a' o.hs /\ Below w.heap.size w w' := by
  have HC := hid hc
  clear hc
  go_enter Tryz.func211, Tryz.ntmps211
  go_wp2_with fail
  refine (zhZ o va ha cap cap' _ (ho.mono (qP _ _ _ _)) hl hl').mono ?_
  rintro e w1 ⟨a, dap, a', dap', m, rfl, ht, hm, hsm, ht', hb1⟩
  have hX1 : ∀ j, w1.cell? ⟨w.heap.size, j, none⟩ = (#[.string kd, .slice fa fs.length fcap] : Array Value)[j]? := fun j => cell_of_block ((hb1.block w.heap.size (by simp; omega)).trans (zby _ _ _ _))
  have HR1 := hid ((hb1.block (w.heap.size + 1 + 1) (by simp)).trans (zch _ _ _ _))
  have hB1 := (qP _ _ _ _).trans (hb1.mono (by simp; omega))
  have hz1 : w.heap.size + 1 + 1 < w1.heap.size := by have := hb1.size; simp at this; omega
  have HT : Hid (zn (w.heap.size + 1 + 1 + 1) w1 a o.vs /\ (∀ g, a = some g -> g.block < m) /\ w.heap.size + 1 + 1 + 1 <= m /\ zn m w1 a' o.hs) := by
    simp only [World.size_alloc] at ht hsm
    exact ⟨ht, hm, hsm, ht'⟩
  have hz0 : w.heap.size < w1.heap.size := by omega
  clear ht hm hsm ht' hb1 ho
  have hlen := hf.len
  unfold maxLen at hlen
  go_wp2_with fail
  clear hX1
  go_loopw [13] (fun i wr => ∃ k : Nat, k <= fs.length /\ i = .int .i64 k /\ zn (w.heap.size + 1 + 1 + 1) wr a (Gate.qH fs o.vs k) /\ zn m wr a' o.hs /\ wr.heap[w.heap.size + 1 + 1]? = some (.cells oZ 115) /\ wr.heap[w1.heap.size]? = some (.cells (oC o a a' dap dap') 115) /\ Below w.heap.size w wr) (fun i _ => fs.length - (intOf i).toNat)
  case atStart =>
    have hba := (Below.refl w1.heap.size w1).alloc (Nat.le_refl _) (.cells (oC o a a' dap dap') 115)
    exact ⟨0, Nat.zero_le _, rfl, by rw [Gate.zgz]; exact HT.out.1.mono hba, HT.out.2.2.2.mono hba, (hba.block _ hz1).trans HR1.out, alloc_at _ _, hB1.alloc hB1.size _⟩
  case round =>
    obtain ⟨k, hk, rfl, ht, ht', hR, hO, hB⟩ := hrel
    have hOc : ∀ j, wr.cell? ⟨w1.heap.size, j, none⟩ = (oC o a a' dap dap')[j]? := fun j => cell_of_block hO
    have hOz := (Array.getElem?_eq_some_iff.1 hO).1
    by_cases hlt : k < fs.length
    · have hltv : k < o.vs.length := by rw [HC.out]; exact hlt
      obtain ⟨fb, foff, rfl, hfb, hr⟩ := hf.rows (by rintro rfl; simp at hlt)
      obtain ⟨wa, wcap, hf0⟩ := hr k hlt
      have hf1 := hf0.mono hfb hB
      obtain ⟨c0, c1, c2, c3, c4, c5, c6, c7, c8, c9, c10⟩ := hf1.load
      have hltI : (k : Int) < (fs.length : Int) := by omega
      have hltV : (k : Int) < (o.vs.length : Int) := by omega
      have hfbw := Nat.lt_of_lt_of_le hfb hB.size
      obtain ⟨g, C, hga, hgl, hgh, hgc⟩ : ∃ g C, a = some ⟨g, 0, none⟩ /\ w.heap.size + 1 + 1 + 1 <= g /\ wr.heap[g]? = some (.cells C 9) /\ ∀ i (h : i < (Gate.qH fs o.vs k).length), C[i]? = some (.string (Gate.qH fs o.vs k)[i]) := by
        rcases ht with ⟨_, h0⟩ | h0
        · have := Gate.jY HC.out k; rw [h0] at this; simp at this; omega
        · exact h0
      have hgm : g < m := HT.out.2.1 _ hga
      have hgw1 : g < w1.heap.size := by have := HT.out.1.lt _ hga; exact this
      have hgw : g < wr.heap.size := by omega
      subst hga
      have hcell : wr.cell? ⟨g, k, none⟩ = some (.string o.vs[k]) := by
        have h1 := Gate.zd6 HC.out k hlt
        have hkl : k < (Gate.qH fs o.vs k).length := by rw [Gate.jY HC.out]; exact hltv
        rw [List.getElem?_eq_getElem hkl, List.getElem?_eq_getElem hltv] at h1
        rw [cell_of_block hgh, hgc k hkl, Option.some.inj h1]
      have hgf : wr.frozen? ⟨g, k, none⟩ = false := zh hgh
      have HX := zol ht ht' hR hO hB
      clear ht ht' hR hO hB hf hr hf0 hf1 hgh hgc
      by_cases hv : o.vs[k].toList.isEmpty = true
      · have HV : Hid (Gate.jS fs[k] o.vs[k] = fs[k].df) := by unfold Hid Gate.jS; rw [if_pos hv]
        go_wp2_with fail
        obtain ⟨ht, ht', hR, hO, hB⟩ := HX.out
        have hba := (Below.refl (wr.setCell ⟨g, k, none⟩ (.string fs[k].df)).heap.size (wr.setCell ⟨g, k, none⟩ (.string fs[k].df))).alloc (Nat.le_refl _) (.cells #[.string fs[k].nm, .int .i64 fs[k].kd, .int .i64 fs[k].ls, .int .i64 fs[k].ms, .slice wa fs[k].ws.length wcap, .string fs[k].to, .int .i64 fs[k].rl, .bool fs[k].mu, .bool fs[k].fx, .string fs[k].df, .string fs[k].wg] 161)
        have hs0 : (wr.setCell ⟨g, k, none⟩ (.string fs[k].df)).heap.size = wr.heap.size := by simp [World.setCell]
        exact ⟨⟨k + 1, by omega, by go_num, by rw [Gate.zcj HC.out k hlt, HV.out]; exact (ht.set k _).mono hba, (ht'.setCell _ hgm _).mono hba, (hba.block _ (by rw [hs0]; omega)).trans ((Below.heap_setCell _ _ _ _ (by show w.heap.size + 1 + 1 ≠ g; omega)).trans hR), (hba.block _ (by rw [hs0]; exact hOz)).trans ((Below.heap_setCell _ _ _ _ (by show w1.heap.size ≠ g; omega)).trans hO), (hB.setCell (p := ⟨g, k, none⟩) (by show w.heap.size <= g; omega) _).alloc (by rw [hs0]; exact hB.size) _⟩, zk hlt⟩
      · have HV : Hid (Gate.jS fs[k] o.vs[k] = o.vs[k]) := by unfold Hid Gate.jS; rw [if_neg hv]
        go_wp2_with fail
        obtain ⟨ht, ht', hR, hO, hB⟩ := HX.out
        have hba := (Below.refl wr.heap.size wr).alloc (Nat.le_refl _) (.cells #[.string fs[k].nm, .int .i64 fs[k].kd, .int .i64 fs[k].ls, .int .i64 fs[k].ms, .slice wa fs[k].ws.length wcap, .string fs[k].to, .int .i64 fs[k].rl, .bool fs[k].mu, .bool fs[k].fx, .string fs[k].df, .string fs[k].wg] 161)
        have hsame : (Gate.qH fs o.vs k).set k o.vs[k] = Gate.qH fs o.vs k := by
          have h1 := Gate.zd6 HC.out k hlt
          have hkl : k < (Gate.qH fs o.vs k).length := by rw [Gate.jY HC.out]; exact hltv
          rw [List.getElem?_eq_getElem hkl, List.getElem?_eq_getElem hltv] at h1
          rw [<- Option.some.inj h1, List.set_getElem_self]
        exact ⟨⟨k + 1, by omega, by go_num, by rw [Gate.zcj HC.out k hlt, HV.out, hsame]; exact ht.mono hba, ht'.mono hba, (hba.block _ (by omega)).trans hR, (hba.block _ hOz).trans hO, hB.alloc hB.size _⟩, zk hlt⟩
    · have e : k = fs.length := by omega
      subst e
      rw [Gate.zhS HC.out] at ht
      have hRc : ∀ j, wr.cell? ⟨w.heap.size + 1 + 1, j, none⟩ = oZ[j]? := fun j => cell_of_block hR
      have hRf : ∀ j, wr.frozen? ⟨w.heap.size + 1 + 1, j, none⟩ = false := fun j => zh hR
      have HX := zfw ht ht' hB
      have HM := jE HT.out.2.2.1 HT.out.2.1
      clear ht ht' hB hR hO hf
      go_wp2_with fail
      refine bodyPost_ret (v := (.agg (oC o a a' dap dap'))) (by simp [results, Tryz.results211, go_sem, hRc]) rfl ?_
      obtain ⟨ht, ht', hB⟩ := HX.out
      exact ⟨a, dap, a', dap', m, rfl, (qW ht _ (by omega) _ _ _ _ _ _ _).low (by omega), HM.out.2, by have := HM.out.1; omega, qW ht' _ (by have := HM.out.1; omega) _ _ _ _ _ _ _, zam hB _ (by omega) _ _ _ _ _ _ _⟩
end Go.Proofs.YtfcdmlnpfoikhaaGreat

namespace Go.Proofs.YtfcdmlnpfoikhaaGreat
open Go.RowKit
structure zbg (w : World) (a : Option Addr) (ms : List Ob) : Prop where
  len : ms.length <= maxLen
  rows : ms ≠ [] -> ∃ b off, a = some ⟨b, off, none⟩ /\ b < w.heap.size /\ ∀ i (h : i < ms.length), ∃ g0 g1 c0 c1, znR w b (off + i * 7) ms[i] (some ⟨g0, 0, none⟩) (some ⟨g1, 0, none⟩) c0 c1
theorem zbg.at {w : World} {a : Option Addr} {ms : List Ob} (h : zbg w a ms) : zbf w a ms :=
  ⟨h.len, fun hne => by
    obtain ⟨b, off, ha, hb, hr⟩ := h.rows hne
    refine ⟨b, off, ha, hb, fun i hi => ?_⟩
    obtain ⟨g0, g1, c0, c1, hf⟩ := hr i hi
    exact ⟨_, _, c0, c1, hf⟩⟩
theorem zbg.mono {w w' : World} {a : Option Addr} {ms : List Ob} (h : zbg w a ms) (hl : Below w.heap.size w w') : zbg w' a ms :=
  ⟨h.len, fun hne => by
    obtain ⟨b, off, ha, hb, hr⟩ := h.rows hne
    refine ⟨b, off, ha, Nat.lt_of_lt_of_le hb hl.size, fun i hi => ?_⟩
    obtain ⟨g0, g1, c0, c1, hf⟩ := hr i hi
    exact ⟨g0, g1, c0, c1, hf.mono hb hl⟩⟩
theorem zbg.load {w w' : World} {a : Option Addr} {ms : List Ob} (h : zbg w a ms) (hl : Below w.heap.size w w') (i : Nat) (hi : i < ms.length) : ∃ b off g0 g1 c0 c1, a = some ⟨b, off, none⟩ /\ b < w.heap.size /\ ms[i].Small /\ zB w' (some ⟨g0, 0, none⟩) ms[i].vs /\ zB w' (some ⟨g1, 0, none⟩) ms[i].hs /\
    w'.cell? ⟨b, off + i * 7, none⟩ = some (.string ms[i].kd) /\ w'.cell? ⟨b, off + i * 7 + 1, none⟩ = some (.string ms[i].nm) /\ w'.cell? ⟨b, off + i * 7 + 2, none⟩ = some (.string ms[i].tm) /\ w'.cell? ⟨b, off + i * 7 + 3, none⟩ = some (.slice (some ⟨g0, 0, none⟩) ms[i].vs.length c0) /\ w'.cell? ⟨b, off + i * 7 + 4, none⟩ = some (.bool ms[i].en) /\ w'.cell? ⟨b, off + i * 7 + 5, none⟩ = some (.slice (some ⟨g1, 0, none⟩) ms[i].hs.length c1) /\ w'.cell? ⟨b, off + i * 7 + 6, none⟩ = some (.int .i64 ms[i].vr) := by
  obtain ⟨b, off, ha, hb, hr⟩ := h.rows (by rintro rfl; simp at hi)
  obtain ⟨g0, g1, c0, c1, hf0⟩ := hr i hi
  have hf := hf0.mono hb hl
  exact ⟨b, off, g0, g1, c0, c1, ha, hb, hf.small, hf.l0, hf.l1, hf.cell 0 (by omega), hf.cell 1 (by omega), hf.cell 2 (by omega), hf.cell 3 (by omega), hf.cell 4 (by omega), hf.cell 5 (by omega), hf.cell 6 (by omega)⟩
theorem qV.has {lo : Nat} {w : World} {bo : Nat} {ms : List Ob} (h : qV lo w bo ms ms.length) (hs : ze5 ms) (hl : ms.length <= maxLen) : zbg w (some ⟨bo, 0, none⟩) ms := by
  obtain ⟨C, hC, hsz, hr⟩ := h.rows
  refine ⟨hl, fun _ => ⟨bo, 0, rfl, (Array.getElem?_eq_some_iff.1 hC).1, fun i hi => ?_⟩⟩
  obtain ⟨g0, g1, _, _, hk0, _, _, hk1, hc⟩ := hr i hi hi
  obtain ⟨s0, s1, s2⟩ := hs.small i hi
  refine ⟨g0, g1, ms[i].vs.length, ms[i].hs.length, s0, zcD hk0 s1.1 s1.2, zcD hk1 s2.1 s2.2, fun j hj => ?_⟩
  rw [cell_of_block hC, Nat.zero_add]
  exact hc j hj
theorem ziD (b : Bk) (a0 a1 a2 a3 : Option Addr) (c0 c1 c2 c3 : Nat) (w : World) (hl : qD w b a0 a1 a2 a3) (hf : b.Few) :
    Calls Tryz.prog 8 #[.agg (b.cells a0 a1 a2 a3 c0 c1 c2 c3)] w fun e w' => ∃ a0' a1' a2' a3', e = .returned (.agg (b.cells a0' a1' a2' a3' b.os.length b.gs.length b.ls.length b.ps.length)) /\ qD w' b a0' a1' a2' a3' /\ zbg w' a0' b.os /\ Below w.heap.size w w' := by
  refine (zb2 b a0 a1 a2 a3 c0 c1 c2 c3 w hl hf).mono ?_
  rintro e w' ⟨lo, g0, g1, g2, g3, he, _, ho, hb⟩
  exact ⟨_, _, _, _, he, ho.at hl.small, ho.os.has hl.os.smalls hl.os.len, hb⟩
end Go.Proofs.YtfcdmlnpfoikhaaGreat

namespace Go.Proofs.YtfcdmlnpfoikhaaGreat
open Go.RowKit
structure zad (lo hi : Nat) (w : World) (bo : Nat) (ms : List Tm) : Prop where
  low : lo <= bo
  high : bo < hi
  rows : ∃ C, w.heap[bo]? = some (.cells C 123) /\ C.size = ms.length * 2 /\ ∀ i, i < ms.length -> (∀ j, j < 2 -> zaG C (i * 2 + j))
theorem zad.mono {lo hi : Nat} {w w' : World} {b : Nat} {ms : List Tm} (h : zad lo hi w b ms) (hM : Marked lo hi w w') : zad lo hi w' b ms := by
  obtain ⟨C, hC, hs, hn⟩ := h.rows
  obtain ⟨C', hC', hs', hk⟩ := hM.inn b C _ h.low h.high hC
  refine ⟨h.low, h.high, C', hC', by omega, fun i hi => ?_⟩
  have h0 := hn i hi
  exact fun j hj a m c he => h0 j hj a m c ((hk _ a m c).1 he)
theorem jM.form {lo : Nat} {w : World} {bo : Nat} {ms : List Tm} (h : jM 123 lo w bo ms ms.length) : zad lo w.heap.size w bo ms := by
  obtain ⟨C, hC, hsz, hr⟩ := h.rows
  refine ⟨h.low, (Array.getElem?_eq_some_iff.1 hC).1, C, hC, hsz, fun i hi j hj a n c he => ?_⟩
  rw [hr i hi hi j hj] at he
  rcases j with _ | _ | j <;> first | omega | (simp [Tm.cells] at he)
theorem zad.ready {lo hi bo : Nat} {w W : World} {ms : List Tm} (h : zad lo hi w bo ms) (hM : Marked lo hi w W) (i : Nat) (hi' : i < ms.length) :
    (∀ j, j < 2 -> ∃ v, W.cell? ⟨bo, i * 2 + j, none⟩ = some v) /\ (∀ o, W.frozen? ⟨bo, o, none⟩ = false) := by
  have h' := h.mono hM
  obtain ⟨C, hC, hs, hn⟩ := h'.rows
  exact ⟨fun j hj => ⟨C[i * 2 + j]'(by omega), by rw [cell_of_block hC]; exact Array.getElem?_eq_getElem (by omega)⟩, fun o => zh hC⟩
theorem zad.put {lo hi bo : Nat} {w W : World} {ms : List Tm} (h : zad lo hi w bo ms) (hM : Marked lo hi w W) (i j : Nat) (hi' : i < ms.length) (hj : j < 2) (v : Value) (hv : ∀ a n c, v ≠ Value.slice a n c) : Marked lo hi w (W.setCell ⟨bo, i * 2 + j, none⟩ v) := by
  obtain ⟨C, hC, hs, hn⟩ := h.rows
  exact hM.put h.low h.high hC (hn i hi' j hj) v hv
set_option maxRecDepth 20000 in
set_option maxHeartbeats 8000000 in
theorem zfh (lo hi bo cap : Nat) (ms : List Tm) (k : Int) (w : World) (h : zad lo hi w bo ms) (hl : ms.length <= 1048576) (hk : 0 < k) (hk2 : k < 5000000000000000000) :
    Calls Tryz.prog 44 #[.slice (some ⟨bo, 0, none⟩) ms.length cap, .int .i64 k] w fun e w' => ∃ k', e = .returned (.int .i64 k') /\ k <= k' /\ k' <= k + ms.length * 2 /\ Marked lo hi w w' := by
  have HF : Hid (zad lo hi w bo ms) := h
  have HL : Hid (ms.length <= 1048576) := hl
  have HK : Hid (0 < k /\ k < 5000000000000000000) := ⟨hk, hk2⟩
  clear h hl hk hk2
  go_enter Tryz.func44, Tryz.ntmps44
  go_wp2_with fail
  go_loopw [1, 5] (fun kv iv wr => ∃ (i : Nat) (kk : Int), i <= ms.length /\ kv = .int .i64 kk /\ iv = .int .i64 i /\ k <= kk /\ kk <= k + i * 2 /\ Marked lo hi w wr) (fun _ iv _ => ms.length - (intOf iv).toNat)
  case atStart => exact ⟨0, k, Nat.zero_le _, rfl, rfl, Int.le_refl _, by simp, Marked.refl _ _ _⟩
  case round =>
    obtain ⟨i, kk, hile, rfl, rfl, h1, h2, hM⟩ := hrel
    by_cases hlt : i < ms.length
    · have hltI : (i : Int) < (ms.length : Int) := by omega
      have HB : Hid (0 < kk /\ kk < 7000000000000000000 /\ kk <= k + i * 2 /\ k <= kk) := by have a := HK.out; have b := HL.out; exact ⟨by omega, by omega, h2, h1⟩
      have HM : Hid (Marked lo hi w wr) := hM
      clear h1 h2 hM
      go_wp2_with fail
      refine (zI _ _ (by have a0 := HB.out; omega) (by have a0 := HB.out; omega)).mono ?_
      rintro e wm1 ⟨s1, rfl, hb⟩
      have HM1 : Hid (Marked lo hi w wm1) := (HM.out).trans (Marked.of_below hb)
      clear hb
      obtain ⟨hex, hfz1⟩ := HF.out.ready (HM1.out) i hlt
      obtain ⟨v1, hv1⟩ := hex 0 (by omega)
      rw [Nat.add_zero] at hv1
      clear hex
      have HP1_0 : Hid (Marked lo hi w (wm1.setCell ⟨bo, i * 2, none⟩ (.string s1))) := HF.out.put (HM1.out) i 0 hlt (by omega)  (.string s1) (fun _ _ _ h => by cases h)
      have hw1 : wrap64 (kk + 1) = kk + 1 := z8 _ ⟨by have a0 := HB.out; omega, by have a0 := HB.out; omega⟩
      go_wp2_with fail
      clear hfz1 hv1
      refine (zI _ _ (by have a0 := HB.out; omega) (by have a0 := HB.out; omega)).mono ?_
      rintro e wm2 ⟨s2, rfl, hb⟩
      have HM2 : Hid (Marked lo hi w wm2) := (HP1_0.out).trans (Marked.of_below hb)
      clear hb
      obtain ⟨hex, hfz2⟩ := HF.out.ready (HM2.out) i hlt
      obtain ⟨v2, hv2⟩ := hex 1 (by omega)
      clear hex
      have HP2_1 : Hid (Marked lo hi w (wm2.setCell ⟨bo, i * 2 + 1, none⟩ (.string s2))) := HF.out.put (HM2.out) i 1 hlt (by omega)  (.string s2) (fun _ _ _ h => by cases h)
      have hw2 : wrap64 (kk + 1 + 1) = kk + 1 + 1 := z8 _ ⟨by have a0 := HB.out; omega, by have a0 := HB.out; omega⟩
      go_wp2_with fail
      go_roundw
      case rel => exact ⟨i + 1, kk + 1 + 1, by omega, by first | rfl | rw [hw2], by rw [wrap_one (by have := HL.out; omega)], by have a0 := HB.out; omega, by have a0 := HB.out; omega, HP2_1.out⟩
      case measure => exact qJ hlt (by have := HL.out; omega)
    · have e : i = ms.length := by omega
      subst e
      go_wp2_with fail
      go_ret
      exact ⟨kk, rfl, h1, h2, hM⟩
end Go.Proofs.YtfcdmlnpfoikhaaGreat

namespace Go.Proofs.YtfcdmlnpfoikhaaGreat
open Go.RowKit
structure zac (lo hi : Nat) (w : World) (bo : Nat) (ms : List Lg) : Prop where
  low : lo <= bo
  high : bo < hi
  rows : ∃ C, w.heap[bo]? = some (.cells C 130) /\ C.size = ms.length * 4 /\ ∀ i, i < ms.length -> (∀ j, j < 4 -> zaG C (i * 4 + j))
theorem zac.mono {lo hi : Nat} {w w' : World} {b : Nat} {ms : List Lg} (h : zac lo hi w b ms) (hM : Marked lo hi w w') : zac lo hi w' b ms := by
  obtain ⟨C, hC, hs, hn⟩ := h.rows
  obtain ⟨C', hC', hs', hk⟩ := hM.inn b C _ h.low h.high hC
  refine ⟨h.low, h.high, C', hC', by omega, fun i hi => ?_⟩
  have h0 := hn i hi
  exact fun j hj a m c he => h0 j hj a m c ((hk _ a m c).1 he)
theorem jA.form {lo : Nat} {w : World} {bo : Nat} {ms : List Lg} (h : jA lo w bo ms ms.length) : zac lo w.heap.size w bo ms := by
  obtain ⟨C, hC, hsz, hr⟩ := h.rows
  refine ⟨h.low, (Array.getElem?_eq_some_iff.1 hC).1, C, hC, hsz, fun i hi j hj a n c he => ?_⟩
  rw [hr i hi hi j hj] at he
  rcases j with _ | _ | _ | _ | j <;> first | omega | (simp [Lg.cells] at he)
theorem zac.ready {lo hi bo : Nat} {w W : World} {ms : List Lg} (h : zac lo hi w bo ms) (hM : Marked lo hi w W) (i : Nat) (hi' : i < ms.length) :
    (∀ j, j < 4 -> ∃ v, W.cell? ⟨bo, i * 4 + j, none⟩ = some v) /\ (∀ o, W.frozen? ⟨bo, o, none⟩ = false) := by
  have h' := h.mono hM
  obtain ⟨C, hC, hs, hn⟩ := h'.rows
  exact ⟨fun j hj => ⟨C[i * 4 + j]'(by omega), by rw [cell_of_block hC]; exact Array.getElem?_eq_getElem (by omega)⟩, fun o => zh hC⟩
theorem zac.put {lo hi bo : Nat} {w W : World} {ms : List Lg} (h : zac lo hi w bo ms) (hM : Marked lo hi w W) (i j : Nat) (hi' : i < ms.length) (hj : j < 4) (v : Value) (hv : ∀ a n c, v ≠ Value.slice a n c) : Marked lo hi w (W.setCell ⟨bo, i * 4 + j, none⟩ v) := by
  obtain ⟨C, hC, hs, hn⟩ := h.rows
  exact hM.put h.low h.high hC (hn i hi' j hj) v hv
set_option maxRecDepth 20000 in
set_option maxHeartbeats 8000000 in
theorem zef (lo hi bo cap : Nat) (ms : List Lg) (k : Int) (w : World) (h : zac lo hi w bo ms) (hl : ms.length <= 1048576) (hk : 0 < k) (hk2 : k < 5000000000000000000) :
    Calls Tryz.prog 47 #[.slice (some ⟨bo, 0, none⟩) ms.length cap, .int .i64 k] w fun e w' => ∃ k', e = .returned (.int .i64 k') /\ k <= k' /\ k' <= k + ms.length * 4 /\ Marked lo hi w w' := by
  have HF : Hid (zac lo hi w bo ms) := h
  have HL : Hid (ms.length <= 1048576) := hl
  have HK : Hid (0 < k /\ k < 5000000000000000000) := ⟨hk, hk2⟩
  clear h hl hk hk2
  go_enter Tryz.func47, Tryz.ntmps47
  go_wp2_with fail
  go_loopw [1, 5] (fun kv iv wr => ∃ (i : Nat) (kk : Int), i <= ms.length /\ kv = .int .i64 kk /\ iv = .int .i64 i /\ k <= kk /\ kk <= k + i * 4 /\ Marked lo hi w wr) (fun _ iv _ => ms.length - (intOf iv).toNat)
  case atStart => exact ⟨0, k, Nat.zero_le _, rfl, rfl, Int.le_refl _, by simp, Marked.refl _ _ _⟩
  case round =>
    obtain ⟨i, kk, hile, rfl, rfl, h1, h2, hM⟩ := hrel
    by_cases hlt : i < ms.length
    · have hltI : (i : Int) < (ms.length : Int) := by omega
      have HB : Hid (0 < kk /\ kk < 7000000000000000000 /\ kk <= k + i * 4 /\ k <= kk) := by have a := HK.out; have b := HL.out; exact ⟨by omega, by omega, h2, h1⟩
      have HM := hid hM
      clear h1 h2 hM
      go_wp2_with fail
      refine (zI _ _ (by have a0 := HB.out; omega) (by have a0 := HB.out; omega)).mono ?_
      rintro e wm1 ⟨s1, rfl, hb⟩
      have HM1 : Hid (Marked lo hi w wm1) := (HM.out).trans (Marked.of_below hb)
      clear hb
      obtain ⟨hex, hfz1⟩ := HF.out.ready (HM1.out) i hlt
      obtain ⟨v1, hv1⟩ := hex 0 (by omega)
      rw [Nat.add_zero] at hv1
      clear hex
      have HP1_0 : Hid (Marked lo hi w (wm1.setCell ⟨bo, i * 4, none⟩ (.string s1))) := HF.out.put (HM1.out) i 0 hlt (by omega)  (.string s1) (fun _ _ _ h => by cases h)
      have hw1 : wrap64 (kk + 1) = kk + 1 := z8 _ ⟨by have a0 := HB.out; omega, by have a0 := HB.out; omega⟩
      go_wp2_with fail
      clear hfz1 hv1
      refine (zI _ _ (by have a0 := HB.out; omega) (by have a0 := HB.out; omega)).mono ?_
      rintro e wm2 ⟨s2, rfl, hb⟩
      have HM2 : Hid (Marked lo hi w wm2) := (HP1_0.out).trans (Marked.of_below hb)
      clear hb
      obtain ⟨hex, hfz2⟩ := HF.out.ready (HM2.out) i hlt
      obtain ⟨v2, hv2⟩ := hex 1 (by omega)
      clear hex
      have HP2_1 : Hid (Marked lo hi w (wm2.setCell ⟨bo, i * 4 + 1, none⟩ (.string s2))) := HF.out.put (HM2.out) i 1 hlt (by omega)  (.string s2) (fun _ _ _ h => by cases h)
      have hw2 : wrap64 (kk + 1 + 1) = kk + 1 + 1 := z8 _ ⟨by have a0 := HB.out; omega, by have a0 := HB.out; omega⟩
      obtain ⟨hex, hfz3⟩ := HF.out.ready (HP2_1.out) i hlt
      obtain ⟨v3, hv3⟩ := hex 2 (by omega)
      clear hex
      have HP2_2 : Hid (Marked lo hi w ((wm2.setCell ⟨bo, i * 4 + 1, none⟩ (.string s2)).setCell ⟨bo, i * 4 + 2, none⟩ (.int .i64 (kk + 1 + 1)))) := HF.out.put (HP2_1.out) i 2 hlt (by omega)  (.int .i64 (kk + 1 + 1)) (fun _ _ _ h => by cases h)
      have hw3 : wrap64 (kk + 1 + 1 + 1) = kk + 1 + 1 + 1 := z8 _ ⟨by have a0 := HB.out; omega, by have a0 := HB.out; omega⟩
      obtain ⟨hex, hfz4⟩ := HF.out.ready (HP2_2.out) i hlt
      obtain ⟨v4, hv4⟩ := hex 3 (by omega)
      clear hex
      have HP2_3 : Hid (Marked lo hi w (((wm2.setCell ⟨bo, i * 4 + 1, none⟩ (.string s2)).setCell ⟨bo, i * 4 + 2, none⟩ (.int .i64 (kk + 1 + 1))).setCell ⟨bo, i * 4 + 3, none⟩ (.int .i64 (kk + 1 + 1 + 1)))) := HF.out.put (HP2_2.out) i 3 hlt (by omega)  (.int .i64 (kk + 1 + 1 + 1)) (fun _ _ _ h => by cases h)
      have hw4 : wrap64 (kk + 1 + 1 + 1 + 1) = kk + 1 + 1 + 1 + 1 := z8 _ ⟨by have a0 := HB.out; omega, by have a0 := HB.out; omega⟩
      go_wp2_with fail
      go_roundw
      case rel => exact ⟨i + 1, kk + 1 + 1 + 1 + 1, by omega, by first | rfl | rw [hw4], by rw [wrap_one (by have := HL.out; omega)], by have a0 := HB.out; omega, by have a0 := HB.out; omega, HP2_3.out⟩
      case measure => exact qJ hlt (by have := HL.out; omega)
    · have e : i = ms.length := by omega
      subst e
      go_wp2_with fail
      go_ret
      exact ⟨kk, rfl, h1, h2, hM⟩
end Go.Proofs.YtfcdmlnpfoikhaaGreat

namespace Go.Proofs.YtfcdmlnpfoikhaaGreat
open Go.RowKit
def za9 (k n : Nat) : List Int := (List.range n).map fun i => ((k + i : Nat) : Int)
theorem zaH (k n : Nat) : (za9 k n).length = n := by simp [za9]
theorem zgI (k n i : Nat) (h : i < (za9 k n).length) : (za9 k n)[i] = ((k + i : Nat) : Int) := by simp [za9]
theorem zbJ {w : World} {lo : Nat} {v : Value} {xs : List Int} (h : w.ownsRow lo 3 1 v xs.length (ints xs)) (hl : xs.length <= maxLen) : ∃ a cap, v = .slice a xs.length cap /\ yL w a xs := by
  obtain ⟨a, cap, rfl⟩ := yM h
  refine ⟨a, cap, rfl, hl, fun hne => ?_⟩
  obtain ⟨_, ⟨h0, h1⟩ | ⟨g, cp, cur, h0, h1⟩⟩ := id h
  · exact absurd (List.length_eq_zero_iff.1 h1) hne
  · cases h0
    refine ⟨g, 0, rfl, (h.lt g rfl).2, fun i hi => ?_⟩
    rw [Nat.zero_add, h.cellAt i (by omega)]
    simp [ints, hi]
theorem zjh (k : Int) (a : Option Addr) (cap : Nat) (w : World) :
    Calls Tryz.prog 15 #[.slice a 0 cap, .int .i64 k] w fun e w' => e = .returned (.int .i64 k) /\ w' = w := by
  go_enter Tryz.func15, Tryz.ntmps15
  go_wp2_with fail
  go_loopw [1, 5] (fun kv iv wr => kv = .int .i64 k /\ iv = .int .i64 0 /\ wr = w) (fun _ _ _ => 0)
  case atStart => exact ⟨rfl, rfl, rfl⟩
  case round =>
    obtain ⟨rfl, rfl, rfl⟩ := hrel
    go_wp2_with fail
    go_ret
    exact ⟨rfl, rfl⟩
theorem zkz (lo cap : Nat) (a : Option Addr) (n : Nat) (xs : List Value) (k : Nat) (w : World) (h : w.ownsRow lo 3 1 (.slice a n cap) n xs) (hi : ∀ (j : Nat) (a' : Option Addr) (m c : Nat), xs[j]? ≠ some (Value.slice a' m c)) (hn : n <= 1048576) (hk : 0 < k) (hk2 : k < 1000000) (hlo : lo <= w.heap.size) :
    Calls Tryz.prog 15 #[.slice a n cap, .int .i64 k] w fun e w' => e = .returned (.int .i64 ((k + n : Nat) : Int)) /\ yL w' a (za9 k n) /\ Below lo w w' := by
  obtain ⟨hlx, ⟨h0, h1⟩ | ⟨g, cp, cur, h0, h2, h3, h4, h5, h6, h7⟩⟩ := id h
  · cases h0
    refine (zjh (k : Int) none 0 w).mono ?_
    rintro e w' ⟨rfl, rfl⟩
    exact ⟨by simp, ⟨by rw [zaH]; unfold maxLen; omega, fun hne => absurd rfl hne⟩, Below.refl _ _⟩
  · cases h0
    refine (zfi g n cap cur k w h3 (by omega) (fun i hin a' m c he => hi i a' m c ?_) hk (by omega)).mono ?_
    · rw [<- h7, List.getElem?_take_of_lt (by omega)]
      simpa using he
    · rintro e w' ⟨rfl, hM, C', hC', hs', hc'⟩
      refine ⟨rfl, ⟨by rw [zaH]; unfold maxLen; omega, fun _ => ⟨g, 0, rfl, (Array.getElem?_eq_some_iff.1 hC').1, fun i hin => ?_⟩⟩, hM.below h2 hlo⟩
      rw [zaH] at hin
      rw [cell_of_block hC', Nat.zero_add, hc' i hin, zgI]
theorem zkd (xs : List Int) (j : Nat) (a : Option Addr) (m c : Nat) : (ints xs)[j]? ≠ some (Value.slice a m c) := by
  unfold ints
  rw [List.getElem?_map]
  cases xs[j]? <;> simp
structure zc9 (lo : Nat) (w : World) (v : Value) (xs : List Int) : Prop where
  row : w.ownsRow lo 3 1 v xs.length (ints xs)
theorem zc9.mono {lo : Nat} {w w' : World} {v : Value} {xs : List Int} (h : zc9 lo w v xs) (hb : Below w.heap.size w w') : zc9 lo w' v xs := ⟨yJ h.row hb⟩
theorem zc9.marked {lo lo' hi' : Nat} {w w' : World} {v : Value} {xs : List Int} (h : zc9 lo w v xs) (hM : Marked lo' hi' w w') (hl : hi' <= lo) : zc9 lo w' v xs := by
  refine ⟨jU h.row fun g hg => ?_⟩
  have h1 := h.row.lt g hg
  exact hM.out g h1.2 (Or.inr (Nat.le_trans hl h1.1))
theorem zc9.ints {lo : Nat} {w : World} {a : Option Addr} {c : Nat} {xs : List Int} (h : zc9 lo w (.slice a xs.length c) xs) (hl : xs.length <= maxLen) : yL w a xs := by
  obtain ⟨a', c', e, hi⟩ := zbJ h.row hl
  cases e
  exact hi
structure Grown (n : Nat) (w : World) : Prop where
  size : n <= w.heap.size
theorem Grown.mono {n : Nat} {w w' : World} (h : Grown n w) (hb : Below w.heap.size w w') : Grown n w' := ⟨Nat.le_trans h.size hb.size⟩
structure Since (w0 w : World) : Prop where
  below : Below w0.heap.size w0 w
theorem Since.mono {w0 w w' : World} (h : Since w0 w) (hb : Below w.heap.size w w') : Since w0 w' := ⟨h.below.trans (hb.mono h.below.size)⟩
theorem Since.low {w0 w w' : World} {B : Nat} (h : Since w0 w) (hb : Below B w w') (hB : w0.heap.size <= B) : Since w0 w' := ⟨h.below.trans (hb.mono hB)⟩
set_option maxHeartbeats 2000000 in
theorem zfl (a : Option Addr) (cap : Nat) (n k : Nat) (w : World) (hw : yL w a (za9 k n)) (hk : 0 < k) (hn : n <= 1048576) (hk2 : k < 8000000000000000000) :
    Calls Tryz.prog 16 #[.slice a n cap, .int .i64 k] w fun e w' => e = .returned (.int .i64 ((k + n : Nat) : Int)) /\ w' = w := by
  have HW : Hid (yL w a (za9 k n)) := hw
  clear hw
  go_enter Tryz.func16, Tryz.ntmps16
  go_wp2_with fail
  go_loopw [1, 5] (fun kv iv wr => ∃ i : Nat, i <= n /\ kv = .int .i64 ((k + i : Nat) : Int) /\ iv = .int .i64 i /\ wr = w) (fun _ iv _ => n - (intOf iv).toNat)
  case atStart => exact ⟨0, Nat.zero_le _, rfl, rfl, rfl⟩
  case round =>
    obtain ⟨i, hi, rfl, rfl, rfl⟩ := hrel
    by_cases hlt : i < n
    · have hlt' : i < (za9 k n).length := by rw [zaH]; exact hlt
      obtain ⟨b, off, rfl, hb, hc⟩ := HW.out.cells (by intro e; rw [e] at hlt'; simp at hlt')
      have hltI : (i : Int) < (n : Int) := by omega
      have hci := hc i hlt'
      rw [zgI] at hci
      have hw1 : wrap64 ((k + i : Nat) + 1 : Int) = ((k + (i + 1) : Nat) : Int) := by rw [z8 _ ⟨by omega, by omega⟩]; omega
      obtain ⟨kk, hkk⟩ : ∃ kk : Int, kk = ((k + i : Nat) : Int) := ⟨_, rfl⟩
      rw [<- hkk] at hci hw1 ⊢
      have hnn : (kk != kk) = false := by simp
      clear hkk hc
      go_wp2_with fail
      go_roundw
      case rel => exact ⟨i + 1, by omega, by first | rw [hw1] | rfl, by go_num, trivial⟩
      case measure => exact zk hlt
    · have e : i = n := by omega
      subst e
      go_wp2_with fail
      go_ret
      exact ⟨rfl, rfl⟩
end Go.Proofs.YtfcdmlnpfoikhaaGreat
