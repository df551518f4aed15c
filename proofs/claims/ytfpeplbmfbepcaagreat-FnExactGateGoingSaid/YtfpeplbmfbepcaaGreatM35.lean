import Derived.Test.YtfpeplbmfbepcaaGreatM18
import Derived.Test.YtfpeplbmfbepcaaGreatM26
import Derived.Test.YtfpeplbmfbepcaaGreatM22
import Derived.Test.YtfpeplbmfbepcaaGreatM11
import Derived.Test.YtfpeplbmfbepcaaGreatM24
import Derived.Test.YtfpeplbmfbepcaaGreatM15
import Derived.Deep.RegionWith
import Derived.Test.YtfpeplbmfbepcaaGreatM05
import Derived.Test.YtfpeplbmfbepcaaGreatM03
import Derived.Deep.OwnRows
import Derived.MapKept
import Derived.Test.YtfpeplbmfbepcaaGreatM28
import Derived.Test.YtfpeplbmfbepcaaGreatM13
namespace Go.Proofs.YtfpeplbmfbepcaaGreat
open Go.RowKit
set_option maxHeartbeats 1000000 in
theorem zhr (a : Option Addr) (cap : Nat) (w : World) :
    Calls Tryz.prog 226 #[.slice a 0 cap] w fun e w' => ∃ v, e = .returned v /\ w'.ownsRow w.heap.size 9 1 v 0 [] /\ Below w.heap.size w w' := by
  cases a with
  | none => exact zdY cap w
  | some g =>
    go_enter Tryz.func226, Tryz.ntmps226
    go_wp2_with fail
    go_ret
    exact ⟨_, rfl, World.ownsRow_nil _ _ _ _, Below.refl _ _⟩
theorem zeL (a : Option Addr) (cap : Nat) (ws : List ByteArray) (w : World) (hw : zA w a ws) (hl : ws.length <= 1048576) :
    Calls Tryz.prog 226 #[.slice a ws.length cap] w
      fun e w' => ∃ v, e = .returned v /\ w'.ownsRow w.heap.size 9 1 v ws.length (ws.map Value.string) /\ Below w.heap.size w w' := by
  by_cases h : ws = []
  · subst h
    exact zhr a cap w
  · obtain ⟨b, off, rfl, _⟩ := hw.cells h
    exact zeH b off cap ws w hw hl
set_option maxHeartbeats 1000000 in
theorem ziz (o : Ob) (va ha : Option Addr) (cap cap' : Nat) (w : World) (ho : qR w o va ha) (hl : o.vs.length <= 1048576) (hl' : o.hs.length <= 1048576) :
    Calls Tryz.prog 223 #[.agg (oC o va ha cap cap')] w
      fun e w' => ∃ a dap a' dap' m, e = .returned (.agg (oC o a a' dap dap')) /\ zq w.heap.size w' a o.vs /\ (∀ g, a = some g -> g.block < m) /\ w.heap.size <= m /\ zq m w' a' o.hs /\ Below w.heap.size w w' := by
  go_enter Tryz.func223, Tryz.ntmps223
  go_wp2_with fail
  refine (zeL _ _ _ _ (ho.vals.mono (zn _ _ _)) hl).mono ?_
  rintro e w1 ⟨v, rfl, hown1, hb1⟩
  obtain ⟨a, dap, rfl, ht1⟩ := zq.zf8 hown1
  have hk1 := (hb1.block w.heap.size (by simp; omega)).trans (zP _ _ _).1
  have hr1 := (hb1.block (w.heap.size + 1) (by simp)).trans (zP _ _ _).2
  have HT : Hid (zq (w.heap.size + 1 + 1) w1 a o.vs) := by unfold Hid; simpa using ht1
  have hz1 : w.heap.size + 1 < w1.heap.size := by have := hb1.size; simp at this; omega
  have hB1 := (zn _ _ _).trans (hb1.mono (by simp; omega))
  have HK := hid hk1
  have HRR := hid hr1
  have hX1 : ∀ j, w1.cell? ⟨w.heap.size, j, none⟩ = (oC o va ha cap cap')[j]? := fun j => cell_of_block hk1
  have hF1 : ∀ j, w1.frozen? ⟨w.heap.size, j, none⟩ = false := fun j => zh hk1
  clear hb1 hown1 ht1 hk1 hr1
  go_wp2_with fail
  have hB1' := hB1.setCell (p := ⟨w.heap.size, 3, none⟩) (Nat.le_refl _) (.slice a o.vs.length dap)
  refine (zeL _ _ _ _ (ho.holds.mono hB1') hl').mono ?_
  rintro e w2 ⟨v, rfl, hown2, hb2⟩
  obtain ⟨a', dap', rfl, ht2⟩ := zq.zf8 hown2
  have hk2 := (hb2.block w.heap.size (by simp [World.setCell]; omega)).trans (zf HK.out _)
  have hr2 := (hb2.block (w.heap.size + 1) (by simp [World.setCell]; omega)).trans ((Below.heap_setCell _ _ _ _ (by simp)).trans HRR.out)
  have HT2 := hid ((HT.out.setCell _ (by simp; omega) _).mono hb2)
  have HU2 : Hid (zq w1.heap.size w2 a' o.hs) := by unfold Hid; simpa [World.setCell] using ht2
  have HM : Hid (∀ g, a = some g -> g.block < w1.heap.size) := by
    intro g hg
    rcases HT.out with ⟨h0, _⟩ | ⟨g', C, h0, _, hh, _⟩
    · rw [h0] at hg; cases hg
    · rw [h0] at hg; cases hg; exact (Array.getElem?_eq_some_iff.1 hh).1
  have hz2 : w.heap.size + 1 < w2.heap.size := by have := hb2.size; simp [World.setCell] at this; omega
  have hB2 := hB1'.trans (hb2.mono hB1'.size)
  have hX2 : ∀ j, w2.cell? ⟨w.heap.size, j, none⟩ = (oC o a ha dap cap')[j]? := fun j => cell_of_block hk2
  have hF2 : ∀ j, w2.frozen? ⟨w.heap.size, j, none⟩ = false := fun j => zh hk2
  have hY2 : ∀ j, w2.cell? ⟨w.heap.size + 1, j, none⟩ = oZ[j]? := fun j => cell_of_block hr2
  have hG2 : ∀ j, w2.frozen? ⟨w.heap.size + 1, j, none⟩ = false := fun j => zh hr2
  have hzz : w.heap.size <= w1.heap.size := by omega
  clear hb2 hown2 ht2 hX1 hF1 hB1 hB1' hk2 hr2
  go_wp2_with fail
  refine bodyPost_ret (v := (.agg (oC o a a' dap dap'))) (by simp [results, Tryz.results223, go_sem, hY2]) rfl ⟨a, dap, a', dap', w1.heap.size, rfl, ((((((((HT2.out.setCell _ (by simp; omega) _).setCell _ (by simp) _).setCell _ (by simp) _).setCell _ (by simp) _).setCell _ (by simp) _).setCell _ (by simp) _).setCell _ (by simp) _).setCell _ (by simp) _).low (by omega), HM.out, hzz, ((((((((HU2.out.setCell _ (by simp; omega) _).setCell _ (by simp; omega) _).setCell _ (by simp; omega) _).setCell _ (by simp; omega) _).setCell _ (by simp; omega) _).setCell _ (by simp; omega) _).setCell _ (by simp; omega) _).setCell _ (by simp; omega) _), ((((((((hB2.setCell (Nat.le_refl _) _).setCell (by simp) _).setCell (by simp) _).setCell (by simp) _).setCell (by simp) _).setCell (by simp) _).setCell (by simp) _).setCell (by simp) _)⟩
set_option maxHeartbeats 2000000 in
theorem zn6 (o : Ob) (kd : ByteArray) (fs : List Fld) (fa : Option Addr) (va ha : Option Addr) (fcap cap cap' : Nat) (w : World) (hf : zW w fa fs) (ho : qR w o va ha) (hl : o.vs.length <= 1048576) (hl' : o.hs.length <= 1048576) (hc : o.vs.length = fs.length) :
    Calls Tryz.prog 215 #[.agg #[.string kd, .slice fa fs.length fcap], .agg (oC o va ha cap cap')] w
      fun e w' => ∃ a dap a' dap' m, e = .returned (.agg (oC o a a' dap dap')) /\ zq w.heap.size w' a (Gate.jN fs o.vs) /\ (∀ g, a = some g -> g.block < m) /\ w.heap.size <= m /\ zq m w' a' o.hs /\ Below w.heap.size w w' := by
  have HC := hid hc
  clear hc
  go_enter Tryz.func215, Tryz.ntmps215
  go_wp2_with fail
  refine (ziz o va ha cap cap' _ (ho.mono (jl _ _ _ _)) hl hl').mono ?_
  rintro e w1 ⟨a, dap, a', dap', m, rfl, ht, hm, hsm, ht', hb1⟩
  have hX1 : ∀ j, w1.cell? ⟨w.heap.size, j, none⟩ = (#[.string kd, .slice fa fs.length fcap] : Array Value)[j]? := fun j => cell_of_block ((hb1.block w.heap.size (by simp; omega)).trans (zbL _ _ _ _))
  have HR1 := hid ((hb1.block (w.heap.size + 1 + 1) (by simp)).trans (zcw _ _ _ _))
  have hB1 := (jl _ _ _ _).trans (hb1.mono (by simp; omega))
  have hz1 : w.heap.size + 1 + 1 < w1.heap.size := by have := hb1.size; simp at this; omega
  have HT : Hid (zq (w.heap.size + 1 + 1 + 1) w1 a o.vs /\ (∀ g, a = some g -> g.block < m) /\ w.heap.size + 1 + 1 + 1 <= m /\ zq m w1 a' o.hs) := by
    simp only [World.size_alloc] at ht hsm
    exact ⟨ht, hm, hsm, ht'⟩
  have hz0 : w.heap.size < w1.heap.size := by omega
  clear ht hm hsm ht' hb1 ho
  have hlen := hf.len
  unfold maxLen at hlen
  go_wp2_with fail
  clear hX1
  go_loopw [13] (fun i wr => ∃ k : Nat, k <= fs.length /\ i = .int .i64 k /\ zq (w.heap.size + 1 + 1 + 1) wr a (Gate.qH fs o.vs k) /\ zq m wr a' o.hs /\ wr.heap[w.heap.size + 1 + 1]? = some (.cells oZ 119) /\ wr.heap[w1.heap.size]? = some (.cells (oC o a a' dap dap') 119) /\ Below w.heap.size w wr) (fun i _ => fs.length - (intOf i).toNat)
  case atStart =>
    have hba := (Below.refl w1.heap.size w1).alloc (Nat.le_refl _) (.cells (oC o a a' dap dap') 119)
    exact ⟨0, Nat.zero_le _, rfl, by rw [Gate.zg2]; exact HT.out.1.mono hba, HT.out.2.2.2.mono hba, (hba.block _ hz1).trans HR1.out, alloc_at _ _, hB1.alloc hB1.size _⟩
  case round =>
    obtain ⟨k, hk, rfl, ht, ht', hR, hO, hB⟩ := hrel
    have hOc : ∀ j, wr.cell? ⟨w1.heap.size, j, none⟩ = (oC o a a' dap dap')[j]? := fun j => cell_of_block hO
    have hOz := (Array.getElem?_eq_some_iff.1 hO).1
    by_cases hlt : k < fs.length
    · have hltv : k < o.vs.length := by rw [HC.out]; exact hlt
      obtain ⟨fb, foff, rfl, hfb, hr⟩ := hf.rows (by rintro rfl; simp at hlt)
      obtain ⟨wa, wcap, hf0⟩ := hr k hlt
      have hf1 := hf0.mono hfb hB
      obtain ⟨c0, c1, c2, c3, c4, c5, c6, c7, c8, c9, c10⟩ := hf1.load
      have hltI : (k : Int) < (fs.length : Int) := by omega
      have hltV : (k : Int) < (o.vs.length : Int) := by omega
      have hfbw := Nat.lt_of_lt_of_le hfb hB.size
      obtain ⟨g, C, hga, hgl, hgh, hgc⟩ : ∃ g C, a = some ⟨g, 0, none⟩ /\ w.heap.size + 1 + 1 + 1 <= g /\ wr.heap[g]? = some (.cells C 9) /\ ∀ i (h : i < (Gate.qH fs o.vs k).length), C[i]? = some (.string (Gate.qH fs o.vs k)[i]) := by
        rcases ht with ⟨_, h0⟩ | h0
        · have := Gate.zaa HC.out k; rw [h0] at this; simp at this; omega
        · exact h0
      have hgm : g < m := HT.out.2.1 _ hga
      have hgw1 : g < w1.heap.size := by have := HT.out.1.lt _ hga; exact this
      have hgw : g < wr.heap.size := by omega
      subst hga
      have hcell : wr.cell? ⟨g, k, none⟩ = some (.string o.vs[k]) := by
        have h1 := Gate.zes HC.out k hlt
        have hkl : k < (Gate.qH fs o.vs k).length := by rw [Gate.zaa HC.out]; exact hltv
        rw [List.getElem?_eq_getElem hkl, List.getElem?_eq_getElem hltv] at h1
        rw [cell_of_block hgh, hgc k hkl, Option.some.inj h1]
      have hgf : wr.frozen? ⟨g, k, none⟩ = false := zh hgh
      have HX := zoB ht ht' hR hO hB
      clear ht ht' hR hO hB hf hr hf0 hf1 hgh hgc
      by_cases hv : o.vs[k].toList.isEmpty = true
      · have HV : Hid (Gate.jW fs[k] o.vs[k] = fs[k].df) := by unfold Hid Gate.jW; rw [if_pos hv]
        go_wp2_with fail
        obtain ⟨ht, ht', hR, hO, hB⟩ := HX.out
        have hba := (Below.refl (wr.setCell ⟨g, k, none⟩ (.string fs[k].df)).heap.size (wr.setCell ⟨g, k, none⟩ (.string fs[k].df))).alloc (Nat.le_refl _) (.cells #[.string fs[k].nm, .int .i64 fs[k].kd, .int .i64 fs[k].ls, .int .i64 fs[k].ms, .slice wa fs[k].ws.length wcap, .string fs[k].to, .int .i64 fs[k].rl, .bool fs[k].mu, .bool fs[k].fx, .string fs[k].df, .string fs[k].wg] 165)
        have hs0 : (wr.setCell ⟨g, k, none⟩ (.string fs[k].df)).heap.size = wr.heap.size := by simp [World.setCell]
        exact ⟨⟨k + 1, by omega, by go_num, by rw [Gate.zcz HC.out k hlt, HV.out]; exact (ht.set k _).mono hba, (ht'.setCell _ hgm _).mono hba, (hba.block _ (by rw [hs0]; omega)).trans ((Below.heap_setCell _ _ _ _ (by show w.heap.size + 1 + 1 ≠ g; omega)).trans hR), (hba.block _ (by rw [hs0]; exact hOz)).trans ((Below.heap_setCell _ _ _ _ (by show w1.heap.size ≠ g; omega)).trans hO), (hB.setCell (p := ⟨g, k, none⟩) (by show w.heap.size <= g; omega) _).alloc (by rw [hs0]; exact hB.size) _⟩, zi hlt⟩
      · have HV : Hid (Gate.jW fs[k] o.vs[k] = o.vs[k]) := by unfold Hid Gate.jW; rw [if_neg hv]
        go_wp2_with fail
        obtain ⟨ht, ht', hR, hO, hB⟩ := HX.out
        have hba := (Below.refl wr.heap.size wr).alloc (Nat.le_refl _) (.cells #[.string fs[k].nm, .int .i64 fs[k].kd, .int .i64 fs[k].ls, .int .i64 fs[k].ms, .slice wa fs[k].ws.length wcap, .string fs[k].to, .int .i64 fs[k].rl, .bool fs[k].mu, .bool fs[k].fx, .string fs[k].df, .string fs[k].wg] 165)
        have hsame : (Gate.qH fs o.vs k).set k o.vs[k] = Gate.qH fs o.vs k := by
          have h1 := Gate.zes HC.out k hlt
          have hkl : k < (Gate.qH fs o.vs k).length := by rw [Gate.zaa HC.out]; exact hltv
          rw [List.getElem?_eq_getElem hkl, List.getElem?_eq_getElem hltv] at h1
          rw [<- Option.some.inj h1, List.set_getElem_self]
        exact ⟨⟨k + 1, by omega, by go_num, by rw [Gate.zcz HC.out k hlt, HV.out, hsame]; exact ht.mono hba, ht'.mono hba, (hba.block _ (by omega)).trans hR, (hba.block _ hOz).trans hO, hB.alloc hB.size _⟩, zi hlt⟩
    · have e : k = fs.length := by omega
      subst e
      rw [Gate.zis HC.out] at ht
      have hRc : ∀ j, wr.cell? ⟨w.heap.size + 1 + 1, j, none⟩ = oZ[j]? := fun j => cell_of_block hR
      have hRf : ∀ j, wr.frozen? ⟨w.heap.size + 1 + 1, j, none⟩ = false := fun j => zh hR
      have HX := zdB ht ht' hB
      have HM := qJ HT.out.2.2.1 HT.out.2.1
      clear ht ht' hB hR hO hf
      go_wp2_with fail
      refine bodyPost_ret (v := (.agg (oC o a a' dap dap'))) (by simp [results, Tryz.results215, go_sem, hRc]) rfl ?_
      obtain ⟨ht, ht', hB⟩ := HX.out
      exact ⟨a, dap, a', dap', m, rfl, (qW ht _ (by omega) _ _ _ _ _ _ _).low (by omega), HM.out.2, by have := HM.out.1; omega, qW ht' _ (by have := HM.out.1; omega) _ _ _ _ _ _ _, zau hB _ (by omega) _ _ _ _ _ _ _⟩
end Go.Proofs.YtfpeplbmfbepcaaGreat

namespace Go.Proofs.YtfpeplbmfbepcaaGreat
open Go.RowKit
theorem zg8 (s : ByteArray) : (0 < qA s /\ zad s = qA s) \/ (¬ 0 < qA s /\ zad s = 0) := by
  unfold qA zad
  by_cases h : Gate.jZ s = true
  · rw [if_pos h, if_pos h]
    have := Gate.zcq s h
    omega
  · rw [if_neg h, if_neg h]
    omega
set_option maxHeartbeats 2000000 in
theorem zjO (l : Lw) (la lb lc : Option Addr) (lca lcb lcc : Nat) (o : Ob) (oa oa' : Option Addr) (ocap ocap' : Nat) (res : ByteArray) (w : World) (hl : qB w l la lb lc) (ho : qR w o oa oa') (hc : ¬ (Gate.zo l.ss o = true /\ res.toList.isEmpty = false)) :
    Calls Tryz.prog 137 #[.agg (l.cells la lb lc lca lcb lcc), .agg (oC o oa oa' ocap ocap'), .string res] w fun e w' => e = .returned (.int .i64 (Gate.qp l.ss o res)) /\ Below w.heap.size w w' := by
  have HL := hid hl
  have HO := hid ho
  have HW : Hid (Gate.qp l.ss o res = 0) := by unfold Hid Gate.qp; rw [if_neg hc]
  have HC := hid hc
  clear hl ho hc
  unfold Lw.cells
  by_cases hk : Gate.zo l.ss o = true
  · have he : res.toList.isEmpty = true := by
      cases h : res.toList.isEmpty with
      | true => rfl
      | false => exact absurd ⟨hk, h⟩ HC.out
    have HK := hid hk
    clear hk
    go_enter Tryz.func137, Tryz.ntmps137
    go_wp2_with fail
    refine (zbe _ _ l.ss o _ _ _ _ _ (HL.out.ss.mono (zn _ _ _)) (HO.out.mono (zn _ _ _)) HK.out).mono ?_
    rintro e w1 ⟨fa, fcap, rfl, hfl, hb⟩
    have HB1 : Hid (Below w.heap.size w w1) := (zn w _ _).trans (hb.mono (by simp; omega))
    clear hfl hb
    go_wp2_with fail
    go_ret
    exact ⟨zl HW.out.symm, HB1.out⟩
  · have HK : Hid (Gate.zo l.ss o = false) := by unfold Hid; simpa using hk
    clear hk
    go_enter Tryz.func137, Tryz.ntmps137
    go_wp2_with fail
    refine (zcA _ _ l.ss o _ _ _ _ _ (HL.out.ss.mono (zn _ _ _)) (HO.out.mono (zn _ _ _)) HK.out).mono ?_
    rintro e w1 ⟨v, rfl, hb⟩
    have HB1 : Hid (Below w.heap.size w w1) := (zn w _ _).trans (hb.mono (by simp; omega))
    clear hb
    go_wp2_with fail
    go_ret
    exact ⟨zl HW.out.symm, HB1.out⟩
set_option maxHeartbeats 4000000 in
theorem ziM (l : Lw) (la lb lc : Option Addr) (lca lcb lcc : Nat) (o : Ob) (oa oa' : Option Addr) (ocap ocap' : Nat) (res : ByteArray) (w : World) (hl : qB w l la lb lc) (ho : qR w o oa oa') (hc : Gate.zo l.ss o = true) (he : res.toList.isEmpty = false) (hlen : o.vs.length <= 1048576) :
    Calls Tryz.prog 137 #[.agg (l.cells la lb lc lca lcb lcc), .agg (oC o oa oa' ocap ocap'), .string res] w fun e w' => e = .returned (.int .i64 (Gate.qp l.ss o res)) /\ Below w.heap.size w w' := by
  have HL := hid hl
  have HO := hid ho
  have HW : Hid (Gate.qp l.ss o res = (if res = o.kd then 1 else 0) + Gate.zdi (Gate.shapeOf l.ss o.kd).fs o.vs res (Gate.shapeOf l.ss o.kd).fs.length) := by unfold Hid Gate.qp; rw [if_pos ⟨hc, he⟩]
  have HC := hid hc
  have HK : Hid (Gate.zC l.ss o.kd = true /\ o.vs.length = (Gate.shapeOf l.ss o.kd).fs.length) := by unfold Gate.zo at hc; unfold Hid; simpa using hc
  have HN := hid hlen
  clear hl ho hc hlen
  unfold Lw.cells
  go_enter Tryz.func137, Tryz.ntmps137
  go_wp2_with fail
  refine (zbe _ _ l.ss o _ _ _ _ _ (HL.out.ss.mono (zn _ _ _)) (HO.out.mono (zn _ _ _)) HC.out).mono ?_
  rintro e w1 ⟨fa, fcap, rfl, hfl, hb⟩
  obtain ⟨hX0, hY0⟩ := yP w (lC l la lb lc lca lcb lcc) (oC o oa oa' ocap ocap') 41 119
  have hY1 := za hY0 (by simp) hb
  have hz1 : w.heap.size + 1 < w1.heap.size := by have := hb.size; simp at this; omega
  have HB1 : Hid (Below w.heap.size w w1) := (zn w _ _).trans (hb.mono (by simp; omega))
  have HFl := hid (hfl.mono hb)
  clear hfl hb hX0 hY0
  obtain ⟨S, HS⟩ : ∃ S, Hid (S = Gate.shapeOf l.ss o.kd) := ⟨_, rfl⟩
  rw [<- HS.out] at HFl HK HW ⊢
  obtain ⟨n0, hn0⟩ : ∃ n0 : Int, n0 = if res = o.kd then 1 else 0 := ⟨_, rfl⟩
  have hb0 : 0 <= n0 /\ n0 <= 1 := by rw [hn0]; split <;> omega
  rw [<- hn0] at HW
  have HN0 := hid hn0
  clear hn0
  by_cases hk : res = o.kd
  all_goals (
    first
    | (have hq : (res.toList == o.kd.toList) = true := by rw [Gate.beq_toList]; simpa using hk)
    | (have hq : (res.toList == o.kd.toList) = false := by rw [Gate.beq_toList]; simpa using hk)
    have HKE := zi1 hk
    clear hk
    go_wp2_with fail
    go_loopw [9, 10] (fun nv iv wr => ∃ (k : Nat) (s : Int), k <= S.fs.length /\ iv = .int .i64 k /\ nv = .int .i64 s /\ Hid (s = n0 + Gate.zdi S.fs o.vs res k /\ Below w1.heap.size w1 wr)) (fun _ iv _ => S.fs.length - (intOf iv).toNat)
    case atStart => exact ⟨0, n0, Nat.zero_le _, rfl, by have := HN0.out; first | (rw [if_pos HKE.out] at this; rw [this]) | (rw [if_neg HKE.out] at this; rw [this]), by simp [Gate.zdi], Below.refl _ _⟩
    case round =>
      obtain ⟨k, s, hk, rfl, rfl, HQ⟩ := hrel
      have hsb : 0 <= s /\ s <= 1 + k * 10000000 := by have h1 := HQ.out.1; have h2 := Gate.zcn S.fs o.vs res k; omega
      have hkn : k <= 1048576 := by have := HN.out; have := HK.out.2; omega
      by_cases hlt : k < S.fs.length
      · obtain ⟨b, off, rfl, hb, hr⟩ := HFl.out.rows (by intro e; rw [e] at hlt; simp at hlt)
        obtain ⟨wa, wcap, hf⟩ := hr k hlt
        obtain ⟨c0, c1, c2, c3, c4, c5, c6, c7, c8, c9, c10⟩ := (hf.mono hb HQ.out.2).load
        have hlv : k < o.vs.length := by have := HK.out.2; omega
        have hltI : (k : Int) < (S.fs.length : Int) := by omega
        have hlvI : (k : Int) < (o.vs.length : Int) := by omega
        obtain ⟨vb, voff, rfl, hvb, hvc0⟩ := HO.out.vals.cells (by intro e; rw [e] at hlv; simp at hlv)
        have hvc := ((HB1.out.trans (HQ.out.2.mono HB1.out.size)).cell (p := ⟨vb, voff + k, none⟩) hvb).trans (hvc0 k hlv)
        have hvb' := Nat.lt_of_lt_of_le hvb (HB1.out.trans (HQ.out.2.mono HB1.out.size)).size
        have hb' := Nat.lt_of_lt_of_le hb HQ.out.2.size
        have hY := za hY1 hz1 HQ.out.2
        have hz := Nat.lt_of_lt_of_le hz1 HQ.out.2.size
        have HSt : Hid (Gate.zdi S.fs o.vs res (k + 1) = Gate.zdi S.fs o.vs res k + Gate.yx S.fs[k] o.vs[k] res) := Gate.zof S.fs o.vs res k hlt hlv
        have HVs : Hid (o.vs[k].size <= maxLen) := HO.out.vals.small _ (List.getElem_mem _)
        have hnr : -1 <= qA o.vs[k] /\ qA o.vs[k] <= 10000000 := by
          have h1 := zg8 o.vs[k]; have h2 := Gate.zdg o.vs[k]
          have h3 : qA o.vs[k] = -1 \/ 0 <= qA o.vs[k] := by
            unfold qA; split
            · rename_i h; exact Or.inr (Gate.zcq _ h)
            · exact Or.inl rfl
          omega
        clear hf hr hvc0 c0 c2 c3 c4 c5 c6 c7 c8 c9
        go_wp2_with fail
        refine (zdA o.vs[k] _ HVs.out).mono ?_
        rintro e w2 ⟨rfl, rfl⟩
        by_cases h1 : S.fs[k].kd = 1
        · have e1 : (S.fs[k].kd == 1) = true := by simpa using h1
          by_cases h2 : S.fs[k].wg = res
          · have e2 : (S.fs[k].wg.toList == res.toList) = true := by rw [Gate.beq_toList]; simpa using h2
            have HFw : Hid (Gate.yx S.fs[k] o.vs[k] res = zad o.vs[k]) := by unfold Hid Gate.yx; rw [if_pos ⟨h1, h2⟩]
            clear h1 h2
            rcases zg8 o.vs[k] with ⟨hp, hd⟩ | ⟨hp, hd⟩
            · have HD := zi1 hd
              have hpd : decide (0 < qA o.vs[k]) = true := by simpa using hp
              clear hd
              go_wp2_with fail
              first
                | exact ⟨⟨k + 1, s + qA o.vs[k], by omega, by go_num, by go_num, by rw [HSt.out, HFw.out, HQ.out.1, HD.out]; omega, HQ.out.2⟩, zi hlt⟩
                | (go_quiet (fail); go_wp2_with fail; exact ⟨⟨k + 1, s + qA o.vs[k], by omega, by go_num, by go_num, by rw [HSt.out, HFw.out, HQ.out.1, HD.out]; omega, below_drewN HQ.out.2 _⟩, zi hlt⟩)
            · have HD := zi1 hd
              have hpd : decide (0 < qA o.vs[k]) = false := by simpa using hp
              clear hd
              go_wp2_with fail
              first
                | exact ⟨⟨k + 1, s, by omega, by go_num, rfl, by rw [HSt.out, HFw.out, HQ.out.1, HD.out]; omega, HQ.out.2⟩, zi hlt⟩
                | (go_quiet (fail); go_wp2_with fail; exact ⟨⟨k + 1, s, by omega, by go_num, rfl, by rw [HSt.out, HFw.out, HQ.out.1, HD.out]; omega, below_drewN HQ.out.2 _⟩, zi hlt⟩)
          · have e2 : (S.fs[k].wg.toList == res.toList) = false := by rw [Gate.beq_toList]; simpa using h2
            have HFw : Hid (Gate.yx S.fs[k] o.vs[k] res = 0) := by unfold Hid Gate.yx; rw [if_neg (fun h => h2 h.2)]
            clear h1 h2
            go_wp2_with fail
            first
              | exact ⟨⟨k + 1, s, by omega, by go_num, rfl, by rw [HSt.out, HFw.out, HQ.out.1]; omega, HQ.out.2⟩, zi hlt⟩
              | (go_quiet (fail); go_wp2_with fail; exact ⟨⟨k + 1, s, by omega, by go_num, rfl, by rw [HSt.out, HFw.out, HQ.out.1]; omega, below_drewN HQ.out.2 _⟩, zi hlt⟩)
        · have e1 : (S.fs[k].kd == 1) = false := by simpa using h1
          have HFw : Hid (Gate.yx S.fs[k] o.vs[k] res = 0) := by unfold Hid Gate.yx; rw [if_neg (fun h => h1 h.1)]
          clear h1
          go_wp2_with fail
          first
            | exact ⟨⟨k + 1, s, by omega, by go_num, rfl, by rw [HSt.out, HFw.out, HQ.out.1]; omega, HQ.out.2⟩, zi hlt⟩
            | (go_quiet (fail); go_wp2_with fail; exact ⟨⟨k + 1, s, by omega, by go_num, rfl, by rw [HSt.out, HFw.out, HQ.out.1]; omega, below_drewN HQ.out.2 _⟩, zi hlt⟩)
      · have e : k = S.fs.length := by omega
        subst e
        have HE : Hid (Gate.qp l.ss o res = s) := by unfold Hid; rw [HW.out, HQ.out.1]
        clear hlt hk
        go_wp2_with fail
        go_ret
        exact ⟨zl HE.out.symm, HB1.out.trans (HQ.out.2.mono HB1.out.size)⟩)
theorem ziy (l : Lw) (la lb lc : Option Addr) (lca lcb lcc : Nat) (o : Ob) (oa oa' : Option Addr) (ocap ocap' : Nat) (res : ByteArray) (w : World) (hl : qB w l la lb lc) (ho : qR w o oa oa') (hlen : o.vs.length <= 1048576) :
    Calls Tryz.prog 219 #[.agg (l.cells la lb lc lca lcb lcc), .agg (oC o oa oa' ocap ocap'), .string res] w fun e w' => e = .returned (.int .i64 (Gate.qp l.ss o res)) /\ Below w.heap.size w w' := by
  by_cases hc : Gate.zo l.ss o = true /\ res.toList.isEmpty = false
  · exact ziC l la lb lc lca lcb lcc o oa oa' ocap ocap' res w hl ho hc.1 hc.2 hlen
  · exact zj5 l la lb lc lca lcb lcc o oa oa' ocap ocap' res w hl ho hc
theorem zjg (l : Lw) (la lb lc : Option Addr) (lca lcb lcc : Nat) (o : Ob) (oa oa' : Option Addr) (ocap ocap' : Nat) (res : ByteArray) (w : World) (hl : qB w l la lb lc) (ho : qR w o oa oa') (hlen : o.vs.length <= 1048576) :
    Calls Tryz.prog 137 #[.agg (l.cells la lb lc lca lcb lcc), .agg (oC o oa oa' ocap ocap'), .string res] w fun e w' => e = .returned (.int .i64 (Gate.qp l.ss o res)) /\ Below w.heap.size w w' := by
  by_cases hc : Gate.zo l.ss o = true /\ res.toList.isEmpty = false
  · exact ziM l la lb lc lca lcb lcc o oa oa' ocap ocap' res w hl ho hc.1 hc.2 hlen
  · exact zjO l la lb lc lca lcb lcc o oa oa' ocap ocap' res w hl ho hc
end Go.Proofs.YtfpeplbmfbepcaaGreat

namespace Go.Proofs.YtfpeplbmfbepcaaGreat
open Go.RowKit
namespace Gate
def zqp : Ob := ⟨ByteArray.empty, ByteArray.empty, ByteArray.empty, [], false, [], 0⟩
def zbq (l : Lw) (team res : ByteArray) (o : Ob) : Int := if under l.ts 4 o.tm team = true then qp l.ss o res else 0
def zak (l : Lw) (os : List Ob) (team res : ByteArray) : Nat -> Int
  | 0 => 0
  | k + 1 => zak l os team res k + zbq l team res (os.getD k zqp)
def used (l : Lw) (os : List Ob) (team res : ByteArray) : Int := zak l os team res os.length
theorem zoz (ss : List Shp) (o : Ob) (res : ByteArray) : 0 <= qp ss o res /\ qp ss o res <= 1 + o.sz * 10000000 := by
  have h0 : o.vs.length <= o.sz := by unfold Ob.sz zcY qm; omega
  unfold qp
  split
  · rename_i hc
    have hc1 := hc.1
    unfold zo at hc1
    simp only [Bool.and_eq_true, decide_eq_true_eq] at hc1
    have := zcn (shapeOf ss o.kd).fs o.vs res (shapeOf ss o.kd).fs.length
    have h3 := hc1.2
    split <;> omega
  · omega
theorem zkG (l : Lw) (team res : ByteArray) (o : Ob) : 0 <= zbq l team res o /\ zbq l team res o <= 1 + o.sz * 10000000 := by
  unfold zbq
  split
  · exact zoz _ _ _
  · omega
theorem ze3 (l : Lw) (os : List Ob) (team res : ByteArray) (k : Nat) (h : k < os.length) : zak l os team res (k + 1) = zak l os team res k + zbq l team res os[k] := by
  have e1 : os.getD k zqp = os[k] := by simp [List.getD, h]
  simp only [zak]
  rw [e1]
theorem zbD (l : Lw) (os : List Ob) (team res : ByteArray) : ∀ k, k <= os.length -> 0 <= zak l os team res k /\ zak l os team res k <= k + zaI (os.take k) * 10000000
  | 0, _ => by simp [zak, zaI]
  | k + 1, h => by
    have h1 := zbD l os team res k (by omega)
    have h2 := zkG l team res os[k]
    have h3 : zaI (os.take (k + 1)) = zaI (os.take k) + os[k].sz := zaH Ob.sz os k h
    rw [ze3 l os team res k h, h3]
    omega
end Gate
set_option maxHeartbeats 4000000 in
theorem zkP (l : Lw) (la lb lc : Option Addr) (lca lcb lcc : Nat) (b : Bk) (a0 a1 a2 a3 : Option Addr) (c0 c1 c2 c3 : Nat) (team res : ByteArray) (w : World) (hl : qB w l la lb lc) (hb : y9 w b a0 a1 a2 a3) (hz : yZ b.os <= 1048576) :
    Calls Tryz.prog 201 #[.agg (l.cells la lb lc lca lcb lcc), .agg (b.cells a0 a1 a2 a3 c0 c1 c2 c3), .string team, .string res] w fun e w' => e = .returned (.int .i64 (Gate.used l b.os team res)) /\ Below w.heap.size w w' := by
  have HL : Hid (qB w l la lb lc) := hl
  have HK : Hid (y9 w b a0 a1 a2 a3) := hb
  have HZ : Hid (yZ b.os <= 1048576 /\ b.os.length <= 1048576) := ⟨hz, by unfold yZ at hz; omega⟩
  clear hl hb hz
  unfold Lw.cells Bk.cells
  go_enter Tryz.func201, Tryz.ntmps201
  go_wp2_with fail
  obtain ⟨hX0, hY0⟩ := yP w (lC l la lb lc lca lcb lcc) (bC b a0 a1 a2 a3 c0 c1 c2 c3) 41 48
  have HB0 : Hid (Below w.heap.size w ((w.alloc (.cells (lC l la lb lc lca lcb lcc) 41)).alloc (.cells (bC b a0 a1 a2 a3 c0 c1 c2 c3) 48))) := zn w _ _
  obtain ⟨W0, hW0⟩ : ∃ W0, W0 = (w.alloc (.cells (lC l la lb lc lca lcb lcc) 41)).alloc (.cells (bC b a0 a1 a2 a3 c0 c1 c2 c3) 48) := ⟨_, rfl⟩
  have hz0 : w.heap.size + 1 < W0.heap.size := by rw [hW0]; simp
  rw [<- hW0] at HB0 hX0 hY0 ⊢
  clear hW0
  go_loopw [9, 15] (fun nv iv wr => ∃ (k : Nat) (s : Int), k <= b.os.length /\ iv = .int .i64 k /\ nv = .int .i64 s /\ Hid (s = Gate.zak l b.os team res k /\ Below W0.heap.size W0 wr)) (fun _ iv _ => b.os.length - (intOf iv).toNat)
  case atStart => exact ⟨0, 0, Nat.zero_le _, rfl, rfl, by simp [Gate.zak], Below.refl _ _⟩
  case round =>
    obtain ⟨k, s, hk, rfl, rfl, HQ⟩ := hrel
    have hsb : 0 <= s /\ s <= 20000000000000 := by
      have h1 := HQ.out.1; have h2 := Gate.zbD l b.os team res k hk; have h3 := HZ.out
      have h4 : zaI (b.os.take k) <= zaI b.os := zce Ob.sz b.os k
      unfold yZ at h3
      omega
    have hkn : k <= 1048576 := by have := HZ.out.2; omega
    by_cases hlt : k < b.os.length
    · obtain ⟨ob, off, v0, v1, q0, q1, rfl, hob, hsm, hl0, hl1, d0, d1, d2, d3, d4, d5, d6⟩ := HK.out.os.load (HB0.out.trans (HQ.out.2.mono HB0.out.size)) k hlt
      have hob' := Nat.lt_of_lt_of_le hob (HB0.out.trans (HQ.out.2.mono HB0.out.size)).size
      have hltI : (k : Int) < (b.os.length : Int) := by omega
      have hX := za hX0 (Nat.lt_of_succ_lt hz0) HQ.out.2
      have hz := Nat.lt_of_lt_of_le hz0 HQ.out.2.size
      have hzX := Nat.lt_of_succ_lt hz
      have HSt := hid (Gate.ze3 l b.os team res k hlt)
      have HOo : Hid (qR wr b.os[k] v0 v1) := ⟨hsm, hl0, hl1⟩
      have HOl : Hid (b.os[k].vs.length <= 1048576) := by
        have h3 := HZ.out.1
        have := (zkZ (left := 1048576) (ms := b.os) (by omega) (by omega)).2 k hlt
        exact this.1
      have hub := Gate.zkG l team res b.os[k]
      have hwb := Gate.zfU l.ss b.os[k] res HOl.out
      clear hsm hl0 hl1 hub
      go_wp2_with fail
      have hb1 : Below wr.heap.size wr (wr.alloc (.cells (oC b.os[k] v0 v1 q0 q1) 119)) := (Below.refl _ _).alloc (Nat.le_refl _) _
      have hN := zG wr (oC b.os[k] v0 v1 q0 q1) 119
      obtain ⟨w1, hw1⟩ : ∃ w1, w1 = wr.alloc (.cells (oC b.os[k] v0 v1 q0 q1) 119) := ⟨_, rfl⟩
      have hn1 : wr.heap.size < w1.heap.size := by rw [hw1]; simp
      rw [<- hw1] at hb1 hN ⊢
      clear hw1 d0 d1 d2 d3 d4 d5 d6
      have HB1 := hid (HQ.out.2.trans (hb1.mono HQ.out.2.size))
      have hX1 := za hX (Nat.lt_of_succ_lt hz) hb1
      have HO1 := hid (HOo.out.mono hb1)
      have hz1 := Nat.lt_trans hz hn1
      clear hb1 hX
      refine (zju _ _ l.ts b.os[k].tm team _ (HL.out.ts.mono (HB0.out.trans (HB1.out.mono HB0.out.size)))).mono ?_
      rintro e w2 ⟨rfl, hb2⟩
      have HB2 := hid (HB1.out.trans (hb2.mono HB1.out.size))
      have hX2 := za hX1 (Nat.lt_of_succ_lt hz1) hb2
      have hN2 := za hN hn1 hb2
      have HO2 := hid (HO1.out.mono hb2)
      have hz2 := Nat.lt_of_lt_of_le hz1 hb2.size
      have hn2 := Nat.lt_of_lt_of_le hn1 hb2.size
      clear hb2 hX1 hN
      by_cases hu : Gate.under l.ts 4 b.os[k].tm team = true
      · have HU : Hid (Gate.zbq l team res b.os[k] = Gate.qp l.ss b.os[k] res) := by unfold Hid Gate.zbq; rw [if_pos hu]
        rw [hu]
        clear hu
        go_wp2_with fail
        refine (ziy l _ _ _ _ _ _ b.os[k] _ _ _ _ res _ (HL.out.mono (HB0.out.trans (HB2.out.mono HB0.out.size))) HO2.out HOl.out).mono ?_
        rintro e w3 ⟨rfl, hb3⟩
        have HB3 := hid (HB2.out.trans (hb3.mono HB2.out.size))
        clear hb3
        go_wp2_with fail
        exact ⟨⟨k + 1, s + Gate.qp l.ss b.os[k] res, by omega, by go_num, by go_num, by rw [HSt.out, HU.out, HQ.out.1], HB3.out⟩, zi hlt⟩
      · have hu' : Gate.under l.ts 4 b.os[k].tm team = false := by simpa using hu
        have HU : Hid (Gate.zbq l team res b.os[k] = 0) := by unfold Hid Gate.zbq; rw [if_neg hu]
        rw [hu']
        clear hu hu'
        go_wp2_with fail
        exact ⟨⟨k + 1, s, by omega, by go_num, rfl, by rw [HSt.out, HU.out, HQ.out.1]; omega, HB2.out⟩, zi hlt⟩
    · have e : k = b.os.length := by omega
      subst e
      have HE : Hid (Gate.used l b.os team res = s) := by unfold Hid Gate.used; rw [HQ.out.1]
      clear hlt hk
      go_wp2_with fail
      go_ret
      exact ⟨zl HE.out.symm, HB0.out.trans (HQ.out.2.mono HB0.out.size)⟩
end Go.Proofs.YtfpeplbmfbepcaaGreat

namespace Go.Proofs.YtfpeplbmfbepcaaGreat
open Go.RowKit
set_option maxHeartbeats 4000000 in
theorem zcg (b : Bk) (a0 a1 a2 a3 : Option Addr) (c0 c1 c2 c3 : Nat) (w : World) (hl : y9 w b a0 a1 a2 a3) (hf : b.Few) :
    Calls Tryz.prog 8 #[.agg (b.cells a0 a1 a2 a3 c0 c1 c2 c3)] w fun e w' => ∃ lo g0 g1 g2 g3, e = .returned (.agg (b.cells (some ⟨g0, 0, none⟩) (some ⟨g1, 0, none⟩) (some ⟨g2, 0, none⟩) (some ⟨g3, 0, none⟩) b.os.length b.gs.length b.ls.length b.ps.length)) /\ w.heap.size <= lo /\ zgO lo w' b g0 g1 g2 g3 /\ Below w.heap.size w w' := by
  have HL : Hid (y9 w b a0 a1 a2 a3) := hl
  have HF : Hid b.Few := hf
  clear hl hf
  unfold Bk.cells
  go_enter Tryz.func8, Tryz.ntmps8
  go_wp2_with fail
  have k0 := zo7 w (.cells (bC b a0 a1 a2 a3 c0 c1 c2 c3) 32) (.cells bZ 48) (.cells #[.int .i64 b.now, .int .i64 b.tick, .int .i64 b.given, .slice none 0 0, .slice none 0 0, .slice none 0 0, .slice none 0 0] 48)
  have hB0 := below3' w (.cells (bC b a0 a1 a2 a3 c0 c1 c2 c3) 32) (.cells bZ 48) (.cells #[.int .i64 b.now, .int .i64 b.tick, .int .i64 b.given, .slice none 0 0, .slice none 0 0, .slice none 0 0, .slice none 0 0] 48)
  obtain ⟨W0, hW0⟩ : ∃ W0, W0 = ((w.alloc (.cells (bC b a0 a1 a2 a3 c0 c1 c2 c3) 32)).alloc (.cells bZ 48)).alloc (.cells #[.int .i64 b.now, .int .i64 b.tick, .int .i64 b.given, .slice none 0 0, .slice none 0 0, .slice none 0 0, .slice none 0 0] 48) := ⟨_, rfl⟩
  have hz0 : w.heap.size + 1 + 1 < W0.heap.size := by rw [hW0]; simp
  rw [<- hW0] at k0 hB0 ⊢
  clear hW0
  have HLO : Hid (w.heap.size + 1 + 1 < W0.heap.size) := hz0
  refine (zf1 _ _ b.os _ (HL.out.os.mono hB0) HF.out.os.1 HF.out.os.2).mono ?_
  rintro e w1 ⟨rfl, hown, hb⟩
  obtain ⟨g0, hp'⟩ : ∃ g0, g0 = W0.heap.size := ⟨_, rfl⟩
  have HN1 : Hid (qV W0.heap.size w1 g0 b.os b.os.length) := by rw [hp']; exact hown
  have hX1 := (hb.block _ (by omega)).trans k0.1
  have hR1 := (hb.block _ (by omega)).trans k0.2.1
  have hO1 := (hb.block _ hz0).trans k0.2.2
  have HZ1 : Hid (W0.heap.size <= w1.heap.size) := hb.size
  have HB1 : Hid (Below w.heap.size w w1) := hB0.trans (hb.mono hB0.size)
  rw [<- hp']
  clear hown hb k0 hB0 hz0 hp'
  have cO1 := fun j => cell_of_block (o := j) hO1
  have fO1 := fun j => zh (o := j) hO1
  have HX1' : Hid ((w1.setCell ⟨w.heap.size + 1 + 1, 3, none⟩ (.slice (some ⟨g0, 0, none⟩) b.os.length b.os.length)).heap[w.heap.size]? = some (.cells (bC b a0 a1 a2 a3 c0 c1 c2 c3) 32)) := (zB (by omega)).trans hX1
  have HR1' : Hid ((w1.setCell ⟨w.heap.size + 1 + 1, 3, none⟩ (.slice (some ⟨g0, 0, none⟩) b.os.length b.os.length)).heap[w.heap.size + 1]? = some (.cells bZ 48)) := (zB (by omega)).trans hR1
  have HO1' : Hid ((w1.setCell ⟨w.heap.size + 1 + 1, 3, none⟩ (.slice (some ⟨g0, 0, none⟩) b.os.length b.os.length)).heap[w.heap.size + 1 + 1]? = some (.cells #[.int .i64 b.now, .int .i64 b.tick, .int .i64 b.given, .slice (some ⟨g0, 0, none⟩) b.os.length b.os.length, .slice none 0 0, .slice none 0 0, .slice none 0 0] 48)) := zf hO1 _
  have HAB1 : Hid (yt W0.heap.size w1 (w1.setCell ⟨w.heap.size + 1 + 1, 3, none⟩ (.slice (some ⟨g0, 0, none⟩) b.os.length b.os.length))) := yt.setCell HLO.out _
  have HBB1 : Hid (Below w.heap.size w (w1.setCell ⟨w.heap.size + 1 + 1, 3, none⟩ (.slice (some ⟨g0, 0, none⟩) b.os.length b.os.length))) := HB1.out.setCell (by show w.heap.size <= w.heap.size + 1 + 1; omega) _
  have HZZ1 : Hid (W0.heap.size <= (w1.setCell ⟨w.heap.size + 1 + 1, 3, none⟩ (.slice (some ⟨g0, 0, none⟩) b.os.length b.os.length)).heap.size) := by unfold Hid; rw [World.size_setCell]; exact HZ1.out
  clear hX1 hR1 hO1
  have cX1 := fun j => cell_of_block (o := j) HX1'.out
  have cR1 := fun j => cell_of_block (o := j) HR1'.out
  have fR1 := fun j => zh (o := j) HR1'.out
  have cOO1 := fun j => cell_of_block (o := j) HO1'.out
  go_wp2_with fail
  refine (zf3 _ _ b.gs _ (HL.out.gs.mono HBB1.out) HF.out.gs.1 HF.out.gs.2).mono ?_
  rintro e w2 ⟨rfl, hown, hb⟩
  obtain ⟨g1, hp'⟩ : ∃ g1, g1 = (w1.setCell ⟨w.heap.size + 1 + 1, 3, none⟩ (.slice (some ⟨g0, 0, none⟩) b.os.length b.os.length)).heap.size := ⟨_, rfl⟩
  have HN2 : Hid (jE W0.heap.size w2 g1 b.gs b.gs.length) := by rw [hp']; exact hown.weaken HZZ1.out
  have HAA2 : Hid (yt W0.heap.size w1 w2) := HAB1.out.trans (yt.below hb)
  have hX2 := (hb.block _ (lt_of_some HX1'.out)).trans HX1'.out
  have hR2 := (hb.block _ (lt_of_some HR1'.out)).trans HR1'.out
  have hO2 := (hb.block _ (lt_of_some HO1'.out)).trans HO1'.out
  have HZ2 : Hid (W0.heap.size <= w2.heap.size) := Nat.le_trans HZZ1.out hb.size
  have HB2 : Hid (Below w.heap.size w w2) := HBB1.out.trans (hb.mono HBB1.out.size)
  rw [<- hp']
  clear hown hb hp' cX1 cR1 fR1 cOO1
  have cO2 := fun j => cell_of_block (o := j) hO2
  have fO2 := fun j => zh (o := j) hO2
  have HX2' : Hid ((w2.setCell ⟨w.heap.size + 1 + 1, 4, none⟩ (.slice (some ⟨g1, 0, none⟩) b.gs.length b.gs.length)).heap[w.heap.size]? = some (.cells (bC b a0 a1 a2 a3 c0 c1 c2 c3) 32)) := (zB (by omega)).trans hX2
  have HR2' : Hid ((w2.setCell ⟨w.heap.size + 1 + 1, 4, none⟩ (.slice (some ⟨g1, 0, none⟩) b.gs.length b.gs.length)).heap[w.heap.size + 1]? = some (.cells bZ 48)) := (zB (by omega)).trans hR2
  have HO2' : Hid ((w2.setCell ⟨w.heap.size + 1 + 1, 4, none⟩ (.slice (some ⟨g1, 0, none⟩) b.gs.length b.gs.length)).heap[w.heap.size + 1 + 1]? = some (.cells #[.int .i64 b.now, .int .i64 b.tick, .int .i64 b.given, .slice (some ⟨g0, 0, none⟩) b.os.length b.os.length, .slice (some ⟨g1, 0, none⟩) b.gs.length b.gs.length, .slice none 0 0, .slice none 0 0] 48)) := zf hO2 _
  have HAB2 : Hid (yt W0.heap.size w2 (w2.setCell ⟨w.heap.size + 1 + 1, 4, none⟩ (.slice (some ⟨g1, 0, none⟩) b.gs.length b.gs.length))) := yt.setCell HLO.out _
  have HBB2 : Hid (Below w.heap.size w (w2.setCell ⟨w.heap.size + 1 + 1, 4, none⟩ (.slice (some ⟨g1, 0, none⟩) b.gs.length b.gs.length))) := HB2.out.setCell (by show w.heap.size <= w.heap.size + 1 + 1; omega) _
  have HZZ2 : Hid (W0.heap.size <= (w2.setCell ⟨w.heap.size + 1 + 1, 4, none⟩ (.slice (some ⟨g1, 0, none⟩) b.gs.length b.gs.length)).heap.size) := by unfold Hid; rw [World.size_setCell]; exact HZ2.out
  clear hX2 hR2 hO2
  have cX2 := fun j => cell_of_block (o := j) HX2'.out
  have cR2 := fun j => cell_of_block (o := j) HR2'.out
  have fR2 := fun j => zh (o := j) HR2'.out
  have cOO2 := fun j => cell_of_block (o := j) HO2'.out
  go_wp2_with fail
  refine (zfR _ _ b.ls _ (HL.out.ls.mono HBB2.out) HF.out.ls).mono ?_
  rintro e w3 ⟨rfl, hown, hb⟩
  obtain ⟨g2, hp'⟩ : ∃ g2, g2 = (w2.setCell ⟨w.heap.size + 1 + 1, 4, none⟩ (.slice (some ⟨g1, 0, none⟩) b.gs.length b.gs.length)).heap.size := ⟨_, rfl⟩
  have HN3 : Hid (jC W0.heap.size w3 g2 b.ls b.ls.length) := by rw [hp']; exact hown.weaken HZZ2.out
  have HAA3 : Hid (yt W0.heap.size w2 w3) := HAB2.out.trans (yt.below hb)
  have hX3 := (hb.block _ (lt_of_some HX2'.out)).trans HX2'.out
  have hR3 := (hb.block _ (lt_of_some HR2'.out)).trans HR2'.out
  have hO3 := (hb.block _ (lt_of_some HO2'.out)).trans HO2'.out
  have HZ3 : Hid (W0.heap.size <= w3.heap.size) := Nat.le_trans HZZ2.out hb.size
  have HB3 : Hid (Below w.heap.size w w3) := HBB2.out.trans (hb.mono HBB2.out.size)
  rw [<- hp']
  clear hown hb hp' cX2 cR2 fR2 cOO2
  have cO3 := fun j => cell_of_block (o := j) hO3
  have fO3 := fun j => zh (o := j) hO3
  have HX3' : Hid ((w3.setCell ⟨w.heap.size + 1 + 1, 5, none⟩ (.slice (some ⟨g2, 0, none⟩) b.ls.length b.ls.length)).heap[w.heap.size]? = some (.cells (bC b a0 a1 a2 a3 c0 c1 c2 c3) 32)) := (zB (by omega)).trans hX3
  have HR3' : Hid ((w3.setCell ⟨w.heap.size + 1 + 1, 5, none⟩ (.slice (some ⟨g2, 0, none⟩) b.ls.length b.ls.length)).heap[w.heap.size + 1]? = some (.cells bZ 48)) := (zB (by omega)).trans hR3
  have HO3' : Hid ((w3.setCell ⟨w.heap.size + 1 + 1, 5, none⟩ (.slice (some ⟨g2, 0, none⟩) b.ls.length b.ls.length)).heap[w.heap.size + 1 + 1]? = some (.cells #[.int .i64 b.now, .int .i64 b.tick, .int .i64 b.given, .slice (some ⟨g0, 0, none⟩) b.os.length b.os.length, .slice (some ⟨g1, 0, none⟩) b.gs.length b.gs.length, .slice (some ⟨g2, 0, none⟩) b.ls.length b.ls.length, .slice none 0 0] 48)) := zf hO3 _
  have HAB3 : Hid (yt W0.heap.size w3 (w3.setCell ⟨w.heap.size + 1 + 1, 5, none⟩ (.slice (some ⟨g2, 0, none⟩) b.ls.length b.ls.length))) := yt.setCell HLO.out _
  have HBB3 : Hid (Below w.heap.size w (w3.setCell ⟨w.heap.size + 1 + 1, 5, none⟩ (.slice (some ⟨g2, 0, none⟩) b.ls.length b.ls.length))) := HB3.out.setCell (by show w.heap.size <= w.heap.size + 1 + 1; omega) _
  have HZZ3 : Hid (W0.heap.size <= (w3.setCell ⟨w.heap.size + 1 + 1, 5, none⟩ (.slice (some ⟨g2, 0, none⟩) b.ls.length b.ls.length)).heap.size) := by unfold Hid; rw [World.size_setCell]; exact HZ3.out
  clear hX3 hR3 hO3
  have cX3 := fun j => cell_of_block (o := j) HX3'.out
  have cR3 := fun j => cell_of_block (o := j) HR3'.out
  have fR3 := fun j => zh (o := j) HR3'.out
  have cOO3 := fun j => cell_of_block (o := j) HO3'.out
  go_wp2_with fail
  refine (zgf _ _ b.ps _ (HL.out.ps.mono HBB3.out) HF.out.ps).mono ?_
  rintro e w4 ⟨rfl, hown, hb⟩
  obtain ⟨g3, hp'⟩ : ∃ g3, g3 = (w3.setCell ⟨w.heap.size + 1 + 1, 5, none⟩ (.slice (some ⟨g2, 0, none⟩) b.ls.length b.ls.length)).heap.size := ⟨_, rfl⟩
  have HN4 : Hid (jB W0.heap.size w4 g3 b.ps b.ps.length) := by rw [hp']; exact hown.weaken HZZ3.out
  have HAA4 : Hid (yt W0.heap.size w3 w4) := HAB3.out.trans (yt.below hb)
  have hX4 := (hb.block _ (lt_of_some HX3'.out)).trans HX3'.out
  have hR4 := (hb.block _ (lt_of_some HR3'.out)).trans HR3'.out
  have hO4 := (hb.block _ (lt_of_some HO3'.out)).trans HO3'.out
  have HZ4 : Hid (W0.heap.size <= w4.heap.size) := Nat.le_trans HZZ3.out hb.size
  have HB4 : Hid (Below w.heap.size w w4) := HBB3.out.trans (hb.mono HBB3.out.size)
  rw [<- hp']
  clear hown hb hp' cX3 cR3 fR3 cOO3
  have cO4 := fun j => cell_of_block (o := j) hO4
  have fO4 := fun j => zh (o := j) hO4
  have HX4' : Hid ((w4.setCell ⟨w.heap.size + 1 + 1, 6, none⟩ (.slice (some ⟨g3, 0, none⟩) b.ps.length b.ps.length)).heap[w.heap.size]? = some (.cells (bC b a0 a1 a2 a3 c0 c1 c2 c3) 32)) := (zB (by omega)).trans hX4
  have HR4' : Hid ((w4.setCell ⟨w.heap.size + 1 + 1, 6, none⟩ (.slice (some ⟨g3, 0, none⟩) b.ps.length b.ps.length)).heap[w.heap.size + 1]? = some (.cells bZ 48)) := (zB (by omega)).trans hR4
  have HO4' : Hid ((w4.setCell ⟨w.heap.size + 1 + 1, 6, none⟩ (.slice (some ⟨g3, 0, none⟩) b.ps.length b.ps.length)).heap[w.heap.size + 1 + 1]? = some (.cells (bC b (some ⟨g0, 0, none⟩) (some ⟨g1, 0, none⟩) (some ⟨g2, 0, none⟩) (some ⟨g3, 0, none⟩) (b.os.length) (b.gs.length) (b.ls.length) (b.ps.length)) 48)) := zf hO4 _
  have HAB4 : Hid (yt W0.heap.size w4 (w4.setCell ⟨w.heap.size + 1 + 1, 6, none⟩ (.slice (some ⟨g3, 0, none⟩) b.ps.length b.ps.length))) := yt.setCell HLO.out _
  have HBB4 : Hid (Below w.heap.size w (w4.setCell ⟨w.heap.size + 1 + 1, 6, none⟩ (.slice (some ⟨g3, 0, none⟩) b.ps.length b.ps.length))) := HB4.out.setCell (by show w.heap.size <= w.heap.size + 1 + 1; omega) _
  have HZZ4 : Hid (W0.heap.size <= (w4.setCell ⟨w.heap.size + 1 + 1, 6, none⟩ (.slice (some ⟨g3, 0, none⟩) b.ps.length b.ps.length)).heap.size) := by unfold Hid; rw [World.size_setCell]; exact HZ4.out
  clear hX4 hR4 hO4
  have cX4 := fun j => cell_of_block (o := j) HX4'.out
  have cR4 := fun j => cell_of_block (o := j) HR4'.out
  have fR4 := fun j => zh (o := j) HR4'.out
  have cOO4 := fun j => cell_of_block (o := j) HO4'.out
  go_wp2_with fail
  refine bodyPost_ret (v := .agg #[.int .i64 b.now, .int .i64 b.tick, .int .i64 b.given, .slice (some ⟨g0, 0, none⟩) b.os.length b.os.length, .slice (some ⟨g1, 0, none⟩) b.gs.length b.gs.length, .slice (some ⟨g2, 0, none⟩) b.ls.length b.ls.length, .slice (some ⟨g3, 0, none⟩) b.ps.length b.ps.length]) (by simp [results, Tryz.results8, go_sem, cR4]) rfl ⟨W0.heap.size, g0, g1, g2, g3, rfl, by have := HLO.out; omega, ?_, ?_⟩
  · have hlt1 : w.heap.size + 1 < W0.heap.size := by have := HLO.out; omega
    have hA4 : ∀ v0 v1 v2 v3 v4 v5 v6, yt W0.heap.size w4 ((((((((w4.setCell ⟨w.heap.size + 1 + 1, 6, none⟩ (.slice (some ⟨g3, 0, none⟩) b.ps.length b.ps.length)).setCell ⟨w.heap.size + 1, 0, none⟩ v0).setCell ⟨w.heap.size + 1, 1, none⟩ v1).setCell ⟨w.heap.size + 1, 2, none⟩ v2).setCell ⟨w.heap.size + 1, 3, none⟩ v3).setCell ⟨w.heap.size + 1, 4, none⟩ v4).setCell ⟨w.heap.size + 1, 5, none⟩ v5).setCell ⟨w.heap.size + 1, 6, none⟩ v6) := fun v0 v1 v2 v3 v4 v5 v6 => (((((((HAB4.out.trans (yt.setCell (p := ⟨w.heap.size + 1, 0, none⟩) hlt1 v0)).trans (yt.setCell (p := ⟨w.heap.size + 1, 1, none⟩) hlt1 v1)).trans (yt.setCell (p := ⟨w.heap.size + 1, 2, none⟩) hlt1 v2)).trans (yt.setCell (p := ⟨w.heap.size + 1, 3, none⟩) hlt1 v3)).trans (yt.setCell (p := ⟨w.heap.size + 1, 4, none⟩) hlt1 v4)).trans (yt.setCell (p := ⟨w.heap.size + 1, 5, none⟩) hlt1 v5)).trans (yt.setCell (p := ⟨w.heap.size + 1, 6, none⟩) hlt1 v6))
    exact ⟨HN1.out.above (((HAA2.out.trans HAA3.out).trans HAA4.out).trans (hA4 _ _ _ _ _ _ _)), HN2.out.above ((HAA3.out.trans HAA4.out).trans (hA4 _ _ _ _ _ _ _)), HN3.out.above (HAA4.out.trans (hA4 _ _ _ _ _ _ _)), HN4.out.above (hA4 _ _ _ _ _ _ _)⟩
  · exact ((((((HBB4.out.setCell (Nat.le_succ _) _).setCell (Nat.le_succ _) _).setCell (Nat.le_succ _) _).setCell (Nat.le_succ _) _).setCell (Nat.le_succ _) _).setCell (Nat.le_succ _) _).setCell (Nat.le_succ _) _
theorem zdZ (b : Bk) (a0 a1 a2 a3 : Option Addr) (c0 c1 c2 c3 : Nat) (w : World) (hl : y9 w b a0 a1 a2 a3) (hf : b.Few) :
    Calls Tryz.prog 8 #[.agg (b.cells a0 a1 a2 a3 c0 c1 c2 c3)] w fun e w' => ∃ a0' a1' a2' a3', e = .returned (.agg (b.cells a0' a1' a2' a3' b.os.length b.gs.length b.ls.length b.ps.length)) /\ y9 w' b a0' a1' a2' a3' /\ Below w.heap.size w w' := by
  refine (zcg b a0 a1 a2 a3 c0 c1 c2 c3 w hl hf).mono ?_
  rintro e w' ⟨lo, g0, g1, g2, g3, he, _, ho, hb⟩
  exact ⟨_, _, _, _, he, ho.at hl.small, hb⟩
end Go.Proofs.YtfpeplbmfbepcaaGreat

namespace Go.Proofs.YtfpeplbmfbepcaaGreat
open Go.RowKit
structure zbu (w : World) (a : Option Addr) (ms : List Ob) : Prop where
  len : ms.length <= maxLen
  rows : ms ≠ [] -> ∃ b off, a = some ⟨b, off, none⟩ /\ b < w.heap.size /\ ∀ i (h : i < ms.length), ∃ g0 g1 c0 c1, zoN w b (off + i * 7) ms[i] (some ⟨g0, 0, none⟩) (some ⟨g1, 0, none⟩) c0 c1
theorem zbu.at {w : World} {a : Option Addr} {ms : List Ob} (h : zbu w a ms) : zbn w a ms :=
  ⟨h.len, fun hne => by
    obtain ⟨b, off, ha, hb, hr⟩ := h.rows hne
    refine ⟨b, off, ha, hb, fun i hi => ?_⟩
    obtain ⟨g0, g1, c0, c1, hf⟩ := hr i hi
    exact ⟨_, _, c0, c1, hf⟩⟩
theorem zbu.mono {w w' : World} {a : Option Addr} {ms : List Ob} (h : zbu w a ms) (hl : Below w.heap.size w w') : zbu w' a ms :=
  ⟨h.len, fun hne => by
    obtain ⟨b, off, ha, hb, hr⟩ := h.rows hne
    refine ⟨b, off, ha, Nat.lt_of_lt_of_le hb hl.size, fun i hi => ?_⟩
    obtain ⟨g0, g1, c0, c1, hf⟩ := hr i hi
    exact ⟨g0, g1, c0, c1, hf.mono hb hl⟩⟩
theorem zbu.load {w w' : World} {a : Option Addr} {ms : List Ob} (h : zbu w a ms) (hl : Below w.heap.size w w') (i : Nat) (hi : i < ms.length) : ∃ b off g0 g1 c0 c1, a = some ⟨b, off, none⟩ /\ b < w.heap.size /\ ms[i].Small /\ zA w' (some ⟨g0, 0, none⟩) ms[i].vs /\ zA w' (some ⟨g1, 0, none⟩) ms[i].hs /\
    w'.cell? ⟨b, off + i * 7, none⟩ = some (.string ms[i].kd) /\ w'.cell? ⟨b, off + i * 7 + 1, none⟩ = some (.string ms[i].nm) /\ w'.cell? ⟨b, off + i * 7 + 2, none⟩ = some (.string ms[i].tm) /\ w'.cell? ⟨b, off + i * 7 + 3, none⟩ = some (.slice (some ⟨g0, 0, none⟩) ms[i].vs.length c0) /\ w'.cell? ⟨b, off + i * 7 + 4, none⟩ = some (.bool ms[i].en) /\ w'.cell? ⟨b, off + i * 7 + 5, none⟩ = some (.slice (some ⟨g1, 0, none⟩) ms[i].hs.length c1) /\ w'.cell? ⟨b, off + i * 7 + 6, none⟩ = some (.int .i64 ms[i].vr) := by
  obtain ⟨b, off, ha, hb, hr⟩ := h.rows (by rintro rfl; simp at hi)
  obtain ⟨g0, g1, c0, c1, hf0⟩ := hr i hi
  have hf := hf0.mono hb hl
  exact ⟨b, off, g0, g1, c0, c1, ha, hb, hf.small, hf.l0, hf.l1, hf.cell 0 (by omega), hf.cell 1 (by omega), hf.cell 2 (by omega), hf.cell 3 (by omega), hf.cell 4 (by omega), hf.cell 5 (by omega), hf.cell 6 (by omega)⟩
theorem qV.has {lo : Nat} {w : World} {bo : Nat} {ms : List Ob} (h : qV lo w bo ms ms.length) (hs : zfv ms) (hl : ms.length <= maxLen) : zbu w (some ⟨bo, 0, none⟩) ms := by
  obtain ⟨C, hC, hsz, hr⟩ := h.rows
  refine ⟨hl, fun _ => ⟨bo, 0, rfl, (Array.getElem?_eq_some_iff.1 hC).1, fun i hi => ?_⟩⟩
  obtain ⟨g0, g1, _, _, hk0, _, _, hk1, hc⟩ := hr i hi hi
  obtain ⟨s0, s1, s2⟩ := hs.small i hi
  refine ⟨g0, g1, ms[i].vs.length, ms[i].hs.length, s0, zcU hk0 s1.1 s1.2, zcU hk1 s2.1 s2.2, fun j hj => ?_⟩
  rw [cell_of_block hC, Nat.zero_add]
  exact hc j hj
theorem zjb (b : Bk) (a0 a1 a2 a3 : Option Addr) (c0 c1 c2 c3 : Nat) (w : World) (hl : y9 w b a0 a1 a2 a3) (hf : b.Few) :
    Calls Tryz.prog 8 #[.agg (b.cells a0 a1 a2 a3 c0 c1 c2 c3)] w fun e w' => ∃ a0' a1' a2' a3', e = .returned (.agg (b.cells a0' a1' a2' a3' b.os.length b.gs.length b.ls.length b.ps.length)) /\ y9 w' b a0' a1' a2' a3' /\ zbu w' a0' b.os /\ Below w.heap.size w w' := by
  refine (zcg b a0 a1 a2 a3 c0 c1 c2 c3 w hl hf).mono ?_
  rintro e w' ⟨lo, g0, g1, g2, g3, he, _, ho, hb⟩
  exact ⟨_, _, _, _, he, ho.at hl.small, ho.os.has hl.os.smalls hl.os.len, hb⟩
end Go.Proofs.YtfpeplbmfbepcaaGreat

namespace Go.Proofs.YtfpeplbmfbepcaaGreat
open Go.RowKit
namespace Gate
def zh4 (ss : List Shp) (o : Ob) : List ByteArray := if zC ss o.kd = true /\ zJ ss = true /\ o.vs.length = (shapeOf ss o.kd).fs.length then jN (shapeOf ss o.kd).fs o.vs else o.vs
end Gate
def zfO (o : Ob) (vs : List ByteArray) (w : World) (e : Ending) (w' : World) : Prop :=
  ∃ a dap a' dap' m, e = .returned (.agg (oC o a a' dap dap')) /\ zq w.heap.size w' a vs /\ (∀ g, a = some g -> g.block < m) /\ w.heap.size <= m /\ zq m w' a' o.hs /\ Below w.heap.size w w'
end Go.Proofs.YtfpeplbmfbepcaaGreat

namespace Go.Proofs.YtfpeplbmfbepcaaGreat
open Go.RowKit
theorem zql {fs : List Fld} (h : zbw fs) : ∀ f ∈ fs, f.df.size <= maxLen := by
  intro f hf
  obtain ⟨i, hi, rfl⟩ := List.mem_iff_getElem.1 hf
  exact (h.small i hi).1.df
theorem znP {ss : List Shp} {o : Ob} (hs : zc2 ss) (ho : ∀ s ∈ o.vs, s.size <= maxLen) : ∀ s ∈ Gate.zh4 ss o, s.size <= maxLen := by
  unfold Gate.zh4
  split
  · rename_i h
    have hf : zbw (Gate.shapeOf ss o.kd).fs := by
      obtain ⟨hk, _, _⟩ := h
      unfold Gate.zC at hk
      rw [List.any_eq_true] at hk
      obtain ⟨x, hx, he⟩ := hk
      unfold Gate.shapeOf
      cases hfi : ss.find? (fun s => decide (s.kd = o.kd)) with
      | none => rw [List.find?_eq_none] at hfi; exact absurd he (hfi x hx)
      | some y =>
        obtain ⟨i, hi, rfl⟩ := List.mem_iff_getElem.1 (List.mem_of_find?_eq_some hfi)
        exact (hs.small i hi).2.2
    intro s hm
    obtain ⟨i, hi, rfl⟩ := List.mem_iff_getElem.1 hm
    have hl := Gate.qj h.2.2
    have e : (Gate.jN (Gate.shapeOf ss o.kd).fs o.vs)[i] = Gate.jW ((Gate.shapeOf ss o.kd).fs[i]'(by have := h.2.2; omega)) (o.vs[i]'(by omega)) := by simp [Gate.jN]
    rw [e]
    unfold Gate.jW
    split
    · exact zql hf _ (List.getElem_mem _)
    · exact ho _ (List.getElem_mem _)
  · exact ho
end Go.Proofs.YtfpeplbmfbepcaaGreat

namespace Go.Proofs.YtfpeplbmfbepcaaGreat
open Go.RowKit
structure zaj (lo hi : Nat) (w : World) (bo : Nat) (ms : List Tm) : Prop where
  low : lo <= bo
  high : bo < hi
  rows : ∃ C, w.heap[bo]? = some (.cells C 127) /\ C.size = ms.length * 2 /\ ∀ i, i < ms.length -> (∀ j, j < 2 -> zaP C (i * 2 + j))
theorem zaj.mono {lo hi : Nat} {w w' : World} {b : Nat} {ms : List Tm} (h : zaj lo hi w b ms) (hM : Marked lo hi w w') : zaj lo hi w' b ms := by
  obtain ⟨C, hC, hs, hn⟩ := h.rows
  obtain ⟨C', hC', hs', hk⟩ := hM.inn b C _ h.low h.high hC
  refine ⟨h.low, h.high, C', hC', by omega, fun i hi => ?_⟩
  have h0 := hn i hi
  exact fun j hj a m c he => h0 j hj a m c ((hk _ a m c).1 he)
theorem jP.form {lo : Nat} {w : World} {bo : Nat} {ms : List Tm} (h : jP 127 lo w bo ms ms.length) : zaj lo w.heap.size w bo ms := by
  obtain ⟨C, hC, hsz, hr⟩ := h.rows
  refine ⟨h.low, (Array.getElem?_eq_some_iff.1 hC).1, C, hC, hsz, fun i hi j hj a n c he => ?_⟩
  rw [hr i hi hi j hj] at he
  rcases j with _ | _ | j <;> first | omega | (simp [Tm.cells] at he)
theorem zaj.ready {lo hi bo : Nat} {w W : World} {ms : List Tm} (h : zaj lo hi w bo ms) (hM : Marked lo hi w W) (i : Nat) (hi' : i < ms.length) :
    (∀ j, j < 2 -> ∃ v, W.cell? ⟨bo, i * 2 + j, none⟩ = some v) /\ (∀ o, W.frozen? ⟨bo, o, none⟩ = false) := by
  have h' := h.mono hM
  obtain ⟨C, hC, hs, hn⟩ := h'.rows
  exact ⟨fun j hj => ⟨C[i * 2 + j]'(by omega), by rw [cell_of_block hC]; exact Array.getElem?_eq_getElem (by omega)⟩, fun o => zh hC⟩
theorem zaj.put {lo hi bo : Nat} {w W : World} {ms : List Tm} (h : zaj lo hi w bo ms) (hM : Marked lo hi w W) (i j : Nat) (hi' : i < ms.length) (hj : j < 2) (v : Value) (hv : ∀ a n c, v ≠ Value.slice a n c) : Marked lo hi w (W.setCell ⟨bo, i * 2 + j, none⟩ v) := by
  obtain ⟨C, hC, hs, hn⟩ := h.rows
  exact hM.put h.low h.high hC (hn i hi' j hj) v hv
set_option maxRecDepth 20000 in
set_option maxHeartbeats 8000000 in
theorem zfI (lo hi bo cap : Nat) (ms : List Tm) (k : Int) (w : World) (h : zaj lo hi w bo ms) (hl : ms.length <= 1048576) (hk : 0 < k) (hk2 : k < 5000000000000000000) :
    Calls Tryz.prog 46 #[.slice (some ⟨bo, 0, none⟩) ms.length cap, .int .i64 k] w fun e w' => ∃ k', e = .returned (.int .i64 k') /\ k <= k' /\ k' <= k + ms.length * 2 /\ Marked lo hi w w' := by
  have HF : Hid (zaj lo hi w bo ms) := h
  have HL : Hid (ms.length <= 1048576) := hl
  have HK : Hid (0 < k /\ k < 5000000000000000000) := ⟨hk, hk2⟩
  clear h hl hk hk2
  go_enter Tryz.func46, Tryz.ntmps46
  go_wp2_with fail
  go_loopw [1, 5] (fun kv iv wr => ∃ (i : Nat) (kk : Int), i <= ms.length /\ kv = .int .i64 kk /\ iv = .int .i64 i /\ k <= kk /\ kk <= k + i * 2 /\ Marked lo hi w wr) (fun _ iv _ => ms.length - (intOf iv).toNat)
  case atStart => exact ⟨0, k, Nat.zero_le _, rfl, rfl, Int.le_refl _, by simp, Marked.refl _ _ _⟩
  case round =>
    obtain ⟨i, kk, hile, rfl, rfl, h1, h2, hM⟩ := hrel
    by_cases hlt : i < ms.length
    · have hltI : (i : Int) < (ms.length : Int) := by omega
      have HB : Hid (0 < kk /\ kk < 7000000000000000000 /\ kk <= k + i * 2 /\ k <= kk) := by have a := HK.out; have b := HL.out; exact ⟨by omega, by omega, h2, h1⟩
      have HM : Hid (Marked lo hi w wr) := hM
      clear h1 h2 hM
      go_wp2_with fail
      refine (zI _ _ (by have a0 := HB.out; omega) (by have a0 := HB.out; omega)).mono ?_
      rintro e wm1 ⟨s1, rfl, hb⟩
      have HM1 : Hid (Marked lo hi w wm1) := (HM.out).trans (Marked.of_below hb)
      clear hb
      obtain ⟨hex, hfz1⟩ := HF.out.ready (HM1.out) i hlt
      obtain ⟨v1, hv1⟩ := hex 0 (by omega)
      rw [Nat.add_zero] at hv1
      clear hex
      have HP1_0 : Hid (Marked lo hi w (wm1.setCell ⟨bo, i * 2, none⟩ (.string s1))) := HF.out.put (HM1.out) i 0 hlt (by omega)  (.string s1) (fun _ _ _ h => by cases h)
      have hw1 : wrap64 (kk + 1) = kk + 1 := z8 _ ⟨by have a0 := HB.out; omega, by have a0 := HB.out; omega⟩
      go_wp2_with fail
      clear hfz1 hv1
      refine (zI _ _ (by have a0 := HB.out; omega) (by have a0 := HB.out; omega)).mono ?_
      rintro e wm2 ⟨s2, rfl, hb⟩
      have HM2 : Hid (Marked lo hi w wm2) := (HP1_0.out).trans (Marked.of_below hb)
      clear hb
      obtain ⟨hex, hfz2⟩ := HF.out.ready (HM2.out) i hlt
      obtain ⟨v2, hv2⟩ := hex 1 (by omega)
      clear hex
      have HP2_1 : Hid (Marked lo hi w (wm2.setCell ⟨bo, i * 2 + 1, none⟩ (.string s2))) := HF.out.put (HM2.out) i 1 hlt (by omega)  (.string s2) (fun _ _ _ h => by cases h)
      have hw2 : wrap64 (kk + 1 + 1) = kk + 1 + 1 := z8 _ ⟨by have a0 := HB.out; omega, by have a0 := HB.out; omega⟩
      go_wp2_with fail
      go_roundw
      case rel => exact ⟨i + 1, kk + 1 + 1, by omega, by first | rfl | rw [hw2], by rw [wrap_one (by have := HL.out; omega)], by have a0 := HB.out; omega, by have a0 := HB.out; omega, HP2_1.out⟩
      case measure => exact qK hlt (by have := HL.out; omega)
    · have e : i = ms.length := by omega
      subst e
      go_wp2_with fail
      go_ret
      exact ⟨kk, rfl, h1, h2, hM⟩
end Go.Proofs.YtfpeplbmfbepcaaGreat

namespace Go.Proofs.YtfpeplbmfbepcaaGreat
open Go.RowKit
def Kept (lo hi : Nat) (w w' : World) : Prop := ∀ (k : Nat) (C : Array Value) (t : TypeId), lo <= k -> k < hi -> w.heap[k]? = some (.cells C t) -> ∃ C' : Array Value, w'.heap[k]? = some (.cells C' t) /\ C'.size = C.size /\ ∀ (j : Nat) a n c, C'[j]? = some (Value.slice a n c) ↔ C[j]? = some (Value.slice a n c)
theorem Marked.kept {lo hi : Nat} {w w' : World} (h : Marked lo hi w w') : Kept lo hi w w' := h.inn
theorem Kept.of_below {lo hi : Nat} {w w' : World} (h : Below w.heap.size w w') : Kept lo hi w w' := (Marked.of_below h).kept
theorem Kept.apart {lo hi lo' hi' : Nat} {w w' : World} (h : Marked lo hi w w') (ha : hi <= lo' \/ hi' <= lo) : Kept lo' hi' w w' := fun k C _ h1 h2 hC => ⟨C, (h.out k (Array.getElem?_eq_some_iff.1 hC).1 (by omega)).trans hC, rfl, fun _ _ _ _ => Iff.rfl⟩
theorem q9.kept {lo hi : Nat} {w w' : World} {b n : Nat} (h : q9 lo hi w b n) (hM : Kept lo hi w w') : q9 lo hi w' b n := by
  obtain ⟨C, hC, hs, hn⟩ := h.rows
  obtain ⟨C', hC', hs', hk⟩ := hM b C _ h.low h.high hC
  exact ⟨h.low, h.high, C', hC', by omega, fun j hj a m c he => hn j hj a m c ((hk j a m c).1 he)⟩
theorem qN.kept {lo hi : Nat} {w w' : World} {b : Nat} {fs : List Fld} (h : qN lo hi w b fs) (hM : Kept lo hi w w') : qN lo hi w' b fs := by
  obtain ⟨C, hC, hs, hn⟩ := h.rows
  obtain ⟨C', hC', hs', hk⟩ := hM b C _ h.low h.high hC
  refine ⟨h.low, h.high, C', hC', by omega, fun i hi => ?_⟩
  obtain ⟨bk, cap, h1, h2, h3⟩ := hn i hi
  exact ⟨bk, cap, h1.kept hM, (hk _ _ _ _).2 h2, fun j hj hj4 a m c he => h3 j hj hj4 a m c ((hk _ a m c).1 he)⟩
theorem qY.kept {lo hi : Nat} {w w' : World} {b : Nat} {ss : List Shp} (h : qY lo hi w b ss) (hM : Kept lo hi w w') : qY lo hi w' b ss := by
  obtain ⟨C, hC, hs, hn⟩ := h.rows
  obtain ⟨C', hC', hs', hk⟩ := hM b C _ h.low h.high hC
  refine ⟨h.low, h.high, C', hC', by omega, fun i hi => ?_⟩
  obtain ⟨bk, cap, h1, h2, h3⟩ := hn i hi
  exact ⟨bk, cap, h1.kept hM, (hk _ _ _ _).2 h2, fun a m c he => h3 a m c ((hk _ a m c).1 he)⟩
theorem jy.kept {lo hi : Nat} {w w' : World} {b : Nat} {ms : List Mnd} (h : jy lo hi w b ms) (hM : Kept lo hi w w') : jy lo hi w' b ms := by
  obtain ⟨C, hC, hs, hn⟩ := h.rows
  obtain ⟨C', hC', hs', hk⟩ := hM b C _ h.low h.high hC
  exact ⟨h.low, h.high, C', hC', by omega, fun j hj a m c he => hn j hj a m c ((hk j a m c).1 he)⟩
theorem zaj.kept {lo hi : Nat} {w w' : World} {b : Nat} {ms : List Tm} (h : zaj lo hi w b ms) (hM : Kept lo hi w w') : zaj lo hi w' b ms := by
  obtain ⟨C, hC, hs, hn⟩ := h.rows
  obtain ⟨C', hC', hs', hk⟩ := hM b C _ h.low h.high hC
  refine ⟨h.low, h.high, C', hC', by omega, fun i hi => ?_⟩
  have h0 := hn i hi
  exact fun j hj a m c he => h0 j hj a m c ((hk _ a m c).1 he)
theorem zai.kept {lo hi : Nat} {w w' : World} {b : Nat} {ms : List Lg} (h : zai lo hi w b ms) (hM : Kept lo hi w w') : zai lo hi w' b ms := by
  obtain ⟨C, hC, hs, hn⟩ := h.rows
  obtain ⟨C', hC', hs', hk⟩ := hM b C _ h.low h.high hC
  refine ⟨h.low, h.high, C', hC', by omega, fun i hi => ?_⟩
  have h0 := hn i hi
  exact fun j hj a m c he => h0 j hj a m c ((hk _ a m c).1 he)
theorem zaf.kept {lo hi : Nat} {w w' : World} {b : Nat} {ms : List Pu} (h : zaf lo hi w b ms) (hM : Kept lo hi w w') : zaf lo hi w' b ms := by
  obtain ⟨C, hC, hs, hn⟩ := h.rows
  obtain ⟨C', hC', hs', hk⟩ := hM b C _ h.low h.high hC
  refine ⟨h.low, h.high, C', hC', by omega, fun i hi => ?_⟩
  have h0 := hn i hi
  exact fun j hj a m c he => h0 j hj a m c ((hk _ a m c).1 he)
theorem zaF.kept {lo hi : Nat} {w w' : World} {b n : Nat} (h : zaF lo hi w b n) (hM : Kept lo hi w w') : zaF lo hi w' b n := by
  obtain ⟨C, hC, hs, hn⟩ := h.rows
  obtain ⟨C', hC', hs', hk⟩ := hM b C _ h.low h.high hC
  exact ⟨h.low, h.high, C', hC', by omega, fun j hj a m c he => hn j hj a m c ((hk j a m c).1 he)⟩
theorem jH.kept {lo hi : Nat} {w w' : World} {b : Nat} {ms : List Gr} (h : jH lo hi w b ms) (hM : Kept lo hi w w') : jH lo hi w' b ms := by
  obtain ⟨C, hC, hs, hn⟩ := h.rows
  obtain ⟨C', hC', hs', hk⟩ := hM b C _ h.low h.high hC
  refine ⟨h.low, h.high, C', hC', by omega, fun i hi => ?_⟩
  obtain ⟨h0, bk, cap, f1, g1⟩ := hn i hi
  exact ⟨fun j hj n3 a m c he => h0 j hj n3 a m c ((hk _ a m c).1 he), bk, cap, f1.kept hM, (hk _ _ _ _).2 g1⟩
theorem jd.kept {lo hi : Nat} {w w' : World} {b : Nat} {ms : List Ob} (h : jd lo hi w b ms) (hM : Kept lo hi w w') : jd lo hi w' b ms := by
  obtain ⟨C, hC, hs, hn⟩ := h.rows
  obtain ⟨C', hC', hs', hk⟩ := hM b C _ h.low h.high hC
  refine ⟨h.low, h.high, C', hC', by omega, fun i hi => ?_⟩
  obtain ⟨h0, ⟨bk, cap, f1, g1⟩, ⟨bk2, cap2, f2, g2⟩⟩ := hn i hi
  exact ⟨fun j hj n3 n5 a m c he => h0 j hj n3 n5 a m c ((hk _ a m c).1 he), ⟨bk, cap, f1.kept hM, (hk _ _ _ _).2 g1⟩, ⟨bk2, cap2, f2.kept hM, (hk _ _ _ _).2 g2⟩⟩
structure zdV (lo hi : Nat) (w : World) (l : Lw) (a b c : Nat) : Prop where
  ss : qY lo hi w a l.ss
  ms : jy lo hi w b l.ms
  ts : zaj lo hi w c l.ts
structure zd4 (lo hi : Nat) (w : World) (b : Bk) (g0 g1 g2 g3 : Nat) : Prop where
  os : jd lo hi w g0 b.os
  gs : jH lo hi w g1 b.gs
  ls : zai lo hi w g2 b.ls
  ps : zaf lo hi w g3 b.ps
theorem zdV.kept {lo hi : Nat} {w w' : World} {l : Lw} {a b c : Nat} (h : zdV lo hi w l a b c) (hM : Kept lo hi w w') : zdV lo hi w' l a b c := ⟨h.ss.kept hM, h.ms.kept hM, h.ts.kept hM⟩
theorem zd4.kept {lo hi : Nat} {w w' : World} {b : Bk} {g0 g1 g2 g3 : Nat} (h : zd4 lo hi w b g0 g1 g2 g3) (hM : Kept lo hi w w') : zd4 lo hi w' b g0 g1 g2 g3 := ⟨h.os.kept hM, h.gs.kept hM, h.ls.kept hM, h.ps.kept hM⟩
theorem zdV.mono {lo hi : Nat} {w w' : World} {l : Lw} {a b c : Nat} (h : zdV lo hi w l a b c) (hb : Below w.heap.size w w') : zdV lo hi w' l a b c := h.kept (Kept.of_below hb)
theorem zd4.mono {lo hi : Nat} {w w' : World} {b : Bk} {g0 g1 g2 g3 : Nat} (h : zd4 lo hi w b g0 g1 g2 g3) (hb : Below w.heap.size w w') : zd4 lo hi w' b g0 g1 g2 g3 := h.kept (Kept.of_below hb)
theorem zg1.form {lo : Nat} {w : World} {l : Lw} {a b c : Nat} (h : zg1 lo w l a b c) : zdV lo w.heap.size w l a b c := ⟨h.ss.form, h.ms.form, h.ts.form⟩
theorem zgO.form {lo : Nat} {w : World} {b : Bk} {g0 g1 g2 g3 : Nat} (h : zgO lo w b g0 g1 g2 g3) : zd4 lo w.heap.size w b g0 g1 g2 g3 := ⟨h.os.form, h.gs.form, h.ls.form, h.ps.form⟩
set_option maxHeartbeats 4000000 in
theorem zgs (l : Lw) (a b c ca cb cc : Nat) (lo hi : Nat) (k : Int) (w : World) (h : zdV lo hi w l a b c) (hf : l.Few) (hhi : hi <= w.heap.size) (hk : 0 < k) (hk2 : k < 1000000000000000000) :
    Calls Tryz.prog 13 #[.agg (lC l (some ⟨a, 0, none⟩) (some ⟨b, 0, none⟩) (some ⟨c, 0, none⟩) ca cb cc), .int .i64 k] w fun e w' => ∃ k', e = .returned (.int .i64 k') /\ 0 < k' /\ k' < 3000000000000000000 /\ Marked lo hi w w' := by
  have HF := hid h
  have HL := hid hf
  have HK : Hid (0 < k /\ k < 1000000000000000000) := ⟨hk, hk2⟩
  clear h hf hk hk2
  go_enter Tryz.func13, Tryz.ntmps13
  go_wp2_with fail
  have hX0 := zG w (lC l (some ⟨a, 0, none⟩) (some ⟨b, 0, none⟩) (some ⟨c, 0, none⟩) ca cb cc) 41
  have HM0 : Hid (Marked lo hi w (w.alloc (.cells (lC l (some ⟨a, 0, none⟩) (some ⟨b, 0, none⟩) (some ⟨c, 0, none⟩) ca cb cc) 41))) := Marked.of_below ((Below.refl _ _).alloc (Nat.le_refl _) _)
  obtain ⟨W0, hW0⟩ : ∃ W0, W0 = w.alloc (.cells (lC l (some ⟨a, 0, none⟩) (some ⟨b, 0, none⟩) (some ⟨c, 0, none⟩) ca cb cc) 41) := ⟨_, rfl⟩
  have hz0 : w.heap.size < W0.heap.size := by rw [hW0]; simp
  rw [<- hW0] at hX0 HM0 ⊢
  clear hW0
  refine (ze2 lo hi _ _ _ _ _ (HF.out.ss.mono HM0.out) HL.out.ss.1 HL.out.ss.2 (by have a0 := HK.out; omega) (by have a0 := HK.out; omega)).mono ?_
  rintro e w1 ⟨k1, rfl, h1, h2, hM⟩
  have HK1 : Hid (k <= k1 /\ k1 <= k + 1200000000000000000) := ⟨h1, by have := HL.out; have c1 := HL.out.ss.1; omega⟩
  have HM1 := hid (HM0.out.trans hM)
  have hX1 := hM.box hX0 hz0 (Or.inr hhi)
  have hz1 := Nat.lt_of_lt_of_le hz0 hM.size
  clear h1 h2 hM hX0 hz0
  go_wp2_with fail
  refine (zfs lo hi _ _ _ _ _ (HF.out.ms.mono HM1.out) HL.out.ms (by have a0 := HK.out; have b1 := HK1.out; omega) (by have a0 := HK.out; have b1 := HK1.out; omega)).mono ?_
  rintro e w2 ⟨k2, rfl, h1, h2, hM⟩
  have HK2 : Hid (k1 <= k2 /\ k2 <= k1 + 10000000) := ⟨h1, by have := HL.out; have c1 := HL.out.ms; omega⟩
  have HM2 := hid (HM1.out.trans hM)
  have hX2 := hM.box hX1 hz1 (Or.inr hhi)
  have hz2 := Nat.lt_of_lt_of_le hz1 hM.size
  clear h1 h2 hM hX1 hz1
  go_wp2_with fail
  refine (zfI lo hi _ _ _ _ _ (HF.out.ts.mono HM2.out) HL.out.ts (by have a0 := HK.out; have b1 := HK1.out; have b2 := HK2.out; omega) (by have a0 := HK.out; have b1 := HK1.out; have b2 := HK2.out; omega)).mono ?_
  rintro e w3 ⟨k3, rfl, h1, h2, hM⟩
  have HK3 : Hid (k2 <= k3 /\ k3 <= k2 + 10000000) := ⟨h1, by have := HL.out; have c1 := HL.out.ts; omega⟩
  have HM3 := hid (HM2.out.trans hM)
  have hX3 := hM.box hX2 hz2 (Or.inr hhi)
  have hz3 := Nat.lt_of_lt_of_le hz2 hM.size
  clear h1 h2 hM hX2 hz2
  go_wp2_with fail
  go_ret
  exact ⟨k3, rfl, by have a0 := HK.out; have b1 := HK1.out; have b2 := HK2.out; have b3 := HK3.out; omega, by have a0 := HK.out; have b1 := HK1.out; have b2 := HK2.out; have b3 := HK3.out; omega, HM3.out⟩
set_option maxHeartbeats 4000000 in
theorem zfY (b : Bk) (g0 g1 g2 g3 c0 c1 c2 c3 : Nat) (lo hi : Nat) (k : Int) (w : World) (h : zd4 lo hi w b g0 g1 g2 g3) (hf : b.Few) (hhi : hi <= w.heap.size) (hk : 0 < k) (hk2 : k < 3000000000000000000) :
    Calls Tryz.prog 14 #[.agg (bC b (some ⟨g0, 0, none⟩) (some ⟨g1, 0, none⟩) (some ⟨g2, 0, none⟩) (some ⟨g3, 0, none⟩) c0 c1 c2 c3), .int .i64 k] w fun e w' => ∃ k', e = .returned (.int .i64 k') /\ 0 < k' /\ k' < 4000000000000000000 /\ Marked lo hi w w' := by
  have HF := hid h
  have HL := hid hf
  have HK : Hid (0 < k /\ k < 3000000000000000000) := ⟨hk, hk2⟩
  clear h hf hk hk2
  go_enter Tryz.func14, Tryz.ntmps14
  go_wp2_with fail
  have hX0 := zG w (bC b (some ⟨g0, 0, none⟩) (some ⟨g1, 0, none⟩) (some ⟨g2, 0, none⟩) (some ⟨g3, 0, none⟩) c0 c1 c2 c3) 48
  have HM0 : Hid (Marked lo hi w (w.alloc (.cells (bC b (some ⟨g0, 0, none⟩) (some ⟨g1, 0, none⟩) (some ⟨g2, 0, none⟩) (some ⟨g3, 0, none⟩) c0 c1 c2 c3) 48))) := Marked.of_below ((Below.refl _ _).alloc (Nat.le_refl _) _)
  obtain ⟨W0, hW0⟩ : ∃ W0, W0 = w.alloc (.cells (bC b (some ⟨g0, 0, none⟩) (some ⟨g1, 0, none⟩) (some ⟨g2, 0, none⟩) (some ⟨g3, 0, none⟩) c0 c1 c2 c3) 48) := ⟨_, rfl⟩
  have hz0 : w.heap.size < W0.heap.size := by rw [hW0]; simp
  rw [<- hW0] at hX0 HM0 ⊢
  clear hW0
  refine (zeA lo hi _ _ _ _ _ (HF.out.os.mono HM0.out) HL.out.os.1 HL.out.os.2 (by have a0 := HK.out; omega) (by have a0 := HK.out; omega)).mono ?_
  rintro e w1 ⟨k1, rfl, h1, h2, hM⟩
  have HK1 : Hid (k <= k1 /\ k1 <= k + 3000000000000) := ⟨h1, by have := HL.out; have c1 := HL.out.os.1; omega⟩
  have HM1 := hid (HM0.out.trans hM)
  have hX1 := hM.box hX0 hz0 (Or.inr hhi)
  have hz1 := Nat.lt_of_lt_of_le hz0 hM.size
  clear h1 h2 hM hX0 hz0
  go_wp2_with fail
  refine (ze7 lo hi _ _ _ _ _ (HF.out.gs.mono HM1.out) HL.out.gs.1 HL.out.gs.2 (by have a0 := HK.out; have b1 := HK1.out; omega) (by have a0 := HK.out; have b1 := HK1.out; omega)).mono ?_
  rintro e w2 ⟨k2, rfl, h1, h2, hM⟩
  have HK2 : Hid (k1 <= k2 /\ k2 <= k1 + 3000000000000) := ⟨h1, by have := HL.out; have c1 := HL.out.gs.1; omega⟩
  have HM2 := hid (HM1.out.trans hM)
  have hX2 := hM.box hX1 hz1 (Or.inr hhi)
  have hz2 := Nat.lt_of_lt_of_le hz1 hM.size
  clear h1 h2 hM hX1 hz1
  go_wp2_with fail
  refine (zeB lo hi _ _ _ _ _ (HF.out.ls.mono HM2.out) HL.out.ls (by have a0 := HK.out; have b1 := HK1.out; have b2 := HK2.out; omega) (by have a0 := HK.out; have b1 := HK1.out; have b2 := HK2.out; omega)).mono ?_
  rintro e w3 ⟨k3, rfl, h1, h2, hM⟩
  have HK3 : Hid (k2 <= k3 /\ k3 <= k2 + 10000000) := ⟨h1, by have := HL.out; have c1 := HL.out.ls; omega⟩
  have HM3 := hid (HM2.out.trans hM)
  have hX3 := hM.box hX2 hz2 (Or.inr hhi)
  have hz3 := Nat.lt_of_lt_of_le hz2 hM.size
  clear h1 h2 hM hX2 hz2
  go_wp2_with fail
  refine (ze6 lo hi _ _ _ _ _ (HF.out.ps.mono HM3.out) HL.out.ps (by have a0 := HK.out; have b1 := HK1.out; have b2 := HK2.out; have b3 := HK3.out; omega) (by have a0 := HK.out; have b1 := HK1.out; have b2 := HK2.out; have b3 := HK3.out; omega)).mono ?_
  rintro e w4 ⟨k4, rfl, h1, h2, hM⟩
  have HK4 : Hid (k3 <= k4 /\ k4 <= k3 + 10000000) := ⟨h1, by have := HL.out; have c1 := HL.out.ps; omega⟩
  have HM4 := hid (HM3.out.trans hM)
  have hX4 := hM.box hX3 hz3 (Or.inr hhi)
  have hz4 := Nat.lt_of_lt_of_le hz3 hM.size
  clear h1 h2 hM hX3 hz3
  go_wp2_with fail
  go_ret
  exact ⟨k4, rfl, by have a0 := HK.out; have b1 := HK1.out; have b2 := HK2.out; have b3 := HK3.out; have b4 := HK4.out; omega, by have a0 := HK.out; have b1 := HK1.out; have b2 := HK2.out; have b3 := HK3.out; have b4 := HK4.out; omega, HM4.out⟩
end Go.Proofs.YtfpeplbmfbepcaaGreat

namespace Go.Proofs.YtfpeplbmfbepcaaGreat
open Go.ChangeShapes Go.WideShapes Go.ChangeAt Go.RowKit
theorem Tryz.zg5 : Tryz.prog.cellsOf 112 = 4 := by kernel_rfl
theorem Tryz.zjc : Tryz.prog.cellsOf 115 = 5 := by kernel_rfl
theorem Tryz.zjh : Tryz.prog.cellsOf 109 = 7 := by kernel_rfl
theorem Tryz.zoX : Tryz.prog.cellsOf 32 = 7 := by kernel_rfl
theorem Tryz.zlE : Tryz.prog.cellsOf 27 = 1 := by kernel_rfl
theorem Tryz.zmB : Tryz.prog.cellsOf 28 = 1 := by kernel_rfl
theorem Tryz.zlA : Tryz.prog.cellsOf 29 = 1 := by kernel_rfl
theorem Tryz.zl5 : Tryz.prog.cellsOf 30 = 1 := by kernel_rfl
section
variable {H : Type} {enc : TypeId × Value -> H} {w : World} {base : Nat} {spare : Nat -> Bool} {held : Bool}
theorem zn9 {P : Program} {t : TypeId} {fs : Array Field} {fuel : Nat} {cs : List Value} {x : DataW H × List MemPlace} (ht : P.underlying t = some (.struct fs)) (h : DataW.trod enc P w base spare held fuel t cs = some x)
    (i tf off n : Nat) (hf : (fs[i]?).map (fun f => (f.type, f.offset)) = some (tf, off)) (hn : P.cellsOf tf = n) : ∃ m y, DataW.trod enc P w base spare held m tf ((cs.drop off).take n) = some y := by
  obtain ⟨f, hf1, hf2⟩ := Option.map_eq_some_iff.1 hf
  simp only [Prod.mk.injEq] at hf2
  obtain ⟨rfl, rfl⟩ := hf2
  subst hn
  exact zh8 ht h i f hf1
theorem zmZ {fuel : Nat} {cs : List Value} {x : DataW H × List MemPlace} (h : DataW.trod enc Tryz.prog w base spare held fuel 112 cs = some x) :
    ∃ m : Lg, cs = m.cells.toList /\ m.Small := by
  have hlen : cs.length = 4 := by
    obtain ⟨_, _, _, _, hl, _, _⟩ := DataW.trod_struct Tryz.underlying112 h
    rw [hl]; exact Tryz.zg5
  match cs, hlen with
  | [c0, c1, c2, c3], _ =>
    have hf := jL Tryz.underlying112 h
    obtain ⟨_, _, f0⟩ := hf 0 9 0 c0 rfl Tryz.zM rfl
    obtain ⟨_, _, f1⟩ := hf 1 9 1 c1 rfl Tryz.zM rfl
    obtain ⟨_, _, f2⟩ := hf 2 3 2 c2 rfl Tryz.jm rfl
    obtain ⟨_, _, f3⟩ := hf 3 3 3 c3 rfl Tryz.jm rfl
    obtain ⟨x0, e0, _, s0⟩ := DataW.trod_string Tryz.underlying9 f0
    obtain ⟨x1, e1, _, s1⟩ := DataW.trod_string Tryz.underlying9 f1
    obtain ⟨x2, e2, _, _⟩ := DataW.trod_int Tryz.underlying3 f2
    obtain ⟨x3, e3, _, _⟩ := DataW.trod_int Tryz.underlying3 f3
    simp only [List.cons.injEq, and_true] at e0 e1 e2 e3
    subst e0 e1 e2 e3
    exact ⟨⟨x0, x1, x2, x3⟩, rfl, s0, s1⟩
theorem zlr {fuel : Nat} {cs : List Value} {x : DataW H × List MemPlace} (h : DataW.trod enc Tryz.prog w base spare held fuel 29 cs = some x) :
    ∃ a cap ms, cs = [.slice a (List.length ms) cap] /\ zck w a ms := by
  obtain ⟨a, len, cap, rfl, hm, hr⟩ := zax Tryz.underlying29 Tryz.zg5 (by omega) h
  rcases Nat.eq_zero_or_pos len with h0 | hp
  · subst h0
    exact ⟨a, cap, [], rfl, ⟨by simp [maxLen], fun i h => absurd h (by simp), fun h => absurd rfl h⟩⟩
  · obtain ⟨b, off, rfl, hb, hrow⟩ := hr hp
    have hf : ∀ i, i < len -> ∃ m : Lg, m.Small /\ ∀ j, j < 4 -> w.cell? ⟨b, off + i * 4 + j, none⟩ = m.cells[j]? := by
      intro i hi
      obtain ⟨es, n, y, hel, hcell, hy⟩ := hrow i hi
      obtain ⟨m, rfl, hs⟩ := zmZ hy
      exact ⟨m, hs, fun j hj => by rw [hcell j hj]; simp⟩
    obtain ⟨ms, hl, hms⟩ := zbG len hf
    exact ⟨_, cap, ms, by rw [hl], ⟨by omega, fun i hi => (hms i hi).1, fun _ => ⟨b, off, rfl, hb, fun i hi => (hms i hi).2⟩⟩⟩
theorem znX {fuel : Nat} {cs : List Value} {x : DataW H × List MemPlace} (h : DataW.trod enc Tryz.prog w base spare held fuel 115 cs = some x) :
    ∃ m : Pu, cs = m.cells.toList /\ m.Small := by
  have hlen : cs.length = 5 := by
    obtain ⟨_, _, _, _, hl, _, _⟩ := DataW.trod_struct Tryz.underlying115 h
    rw [hl]; exact Tryz.zjc
  match cs, hlen with
  | [c0, c1, c2, c3, c4], _ =>
    have hf := jL Tryz.underlying115 h
    obtain ⟨_, _, f0⟩ := hf 0 9 0 c0 rfl Tryz.zM rfl
    obtain ⟨_, _, f1⟩ := hf 1 9 1 c1 rfl Tryz.zM rfl
    obtain ⟨_, _, f2⟩ := hf 2 9 2 c2 rfl Tryz.zM rfl
    obtain ⟨_, _, f3⟩ := hf 3 3 3 c3 rfl Tryz.jm rfl
    obtain ⟨_, _, f4⟩ := hf 4 3 4 c4 rfl Tryz.jm rfl
    obtain ⟨x0, e0, _, s0⟩ := DataW.trod_string Tryz.underlying9 f0
    obtain ⟨x1, e1, _, s1⟩ := DataW.trod_string Tryz.underlying9 f1
    obtain ⟨x2, e2, _, s2⟩ := DataW.trod_string Tryz.underlying9 f2
    obtain ⟨x3, e3, _, _⟩ := DataW.trod_int Tryz.underlying3 f3
    obtain ⟨x4, e4, _, _⟩ := DataW.trod_int Tryz.underlying3 f4
    simp only [List.cons.injEq, and_true] at e0 e1 e2 e3 e4
    subst e0 e1 e2 e3 e4
    exact ⟨⟨x0, x1, x2, x3, x4⟩, rfl, s0, s1, s2⟩
theorem zmp {fuel : Nat} {cs : List Value} {x : DataW H × List MemPlace} (h : DataW.trod enc Tryz.prog w base spare held fuel 30 cs = some x) :
    ∃ a cap ms, cs = [.slice a (List.length ms) cap] /\ zcV w a ms := by
  obtain ⟨a, len, cap, rfl, hm, hr⟩ := zax Tryz.underlying30 Tryz.zjc (by omega) h
  rcases Nat.eq_zero_or_pos len with h0 | hp
  · subst h0
    exact ⟨a, cap, [], rfl, ⟨by simp [maxLen], fun i h => absurd h (by simp), fun h => absurd rfl h⟩⟩
  · obtain ⟨b, off, rfl, hb, hrow⟩ := hr hp
    have hf : ∀ i, i < len -> ∃ m : Pu, m.Small /\ ∀ j, j < 5 -> w.cell? ⟨b, off + i * 5 + j, none⟩ = m.cells[j]? := by
      intro i hi
      obtain ⟨es, n, y, hel, hcell, hy⟩ := hrow i hi
      obtain ⟨m, rfl, hs⟩ := znX hy
      exact ⟨m, hs, fun j hj => by rw [hcell j hj]; simp⟩
    obtain ⟨ms, hl, hms⟩ := zbG len hf
    exact ⟨_, cap, ms, by rw [hl], ⟨by omega, fun i hi => (hms i hi).1, fun _ => ⟨b, off, rfl, hb, fun i hi => (hms i hi).2⟩⟩⟩
theorem zlB {fuel : Nat} {cs : List Value} {x : DataW H × List MemPlace} (h : DataW.trod enc Tryz.prog w base spare held fuel 27 cs = some x) :
    ∃ a cap ms, cs = [.slice a (List.length ms) cap] /\ zbn w a ms := by
  obtain ⟨a, len, cap, rfl, hm, hr⟩ := zax Tryz.underlying27 Tryz.zgT (by omega) h
  rcases Nat.eq_zero_or_pos len with h0 | hp
  · subst h0
    exact ⟨a, cap, [], rfl, ⟨by simp [maxLen], fun h => absurd rfl h⟩⟩
  · obtain ⟨b, off, rfl, hb, hrow⟩ := hr hp
    have hf : ∀ i, i < len -> ∃ o : Ob, ∃ a0 a1 c0 c1, zoN w b (off + i * 7) o a0 a1 c0 c1 := by
      intro i hi
      obtain ⟨es, n, y, hel, hcell, hy⟩ := hrow i hi
      obtain ⟨o, a0, a1, c0, c1, rfl, hs⟩ := zmV hy
      exact ⟨o, a0, a1, c0, c1, hs.small, hs.vals, hs.holds, fun j hj => by rw [hcell j hj]; simp [Ob.row]⟩
    obtain ⟨ms, hl, hms⟩ := zbG len hf
    exact ⟨_, cap, ms, by rw [hl], ⟨by omega, fun _ => ⟨b, off, rfl, hb, hms⟩⟩⟩
theorem znb {fuel : Nat} {cs : List Value} {x : DataW H × List MemPlace} (h : DataW.trod enc Tryz.prog w base spare held fuel 109 cs = some x) :
    ∃ (g : Gr) (a : Option Addr) (cap : Nat), cs = (g.cells a cap).toList /\ g.Small /\ yM w a g.r.vs := by
  have hlen : cs.length = 7 := by
    obtain ⟨_, _, _, _, hl, _, _⟩ := DataW.trod_struct Tryz.underlying109 h
    rw [hl]; exact Tryz.zjh
  match cs, hlen with
  | [c0, c1, c2, c3, c4, c5, c6], _ =>
    have hf := jL Tryz.underlying109 h
    obtain ⟨_, _, f0⟩ := hf 0 3 0 c0 rfl Tryz.jm rfl
    obtain ⟨_, _, f1⟩ := hf 1 9 1 c1 rfl Tryz.zM rfl
    obtain ⟨_, _, f2⟩ := hf 2 9 2 c2 rfl Tryz.zM rfl
    obtain ⟨_, _, f3⟩ := zn9 Tryz.underlying109 h 3 107 3 4 rfl Tryz.zks
    obtain ⟨x0, e0, _, _⟩ := DataW.trod_int Tryz.underlying3 f0
    obtain ⟨x1, e1, _, s1⟩ := DataW.trod_string Tryz.underlying9 f1
    obtain ⟨x2, e2, _, s2⟩ := DataW.trod_string Tryz.underlying9 f2
    obtain ⟨r, a, cap, e3, hs, hI⟩ := zoI f3
    simp only [List.cons.injEq, and_true] at e0 e1 e2
    subst e0 e1 e2
    have e3' : [c3, c4, c5, c6] = (r.cells a cap).toList := e3
    unfold Rl.cells at e3'
    simp only [List.cons.injEq, and_true] at e3'
    obtain ⟨e3, e4, e5, e6⟩ := e3'
    subst e3 e4 e5 e6
    exact ⟨⟨x0, x1, x2, r⟩, a, cap, rfl, ⟨s1, s2, hs⟩, hI⟩
theorem zl8 {fuel : Nat} {cs : List Value} {x : DataW H × List MemPlace} (h : DataW.trod enc Tryz.prog w base spare held fuel 28 cs = some x) :
    ∃ a cap ms, cs = [.slice a (List.length ms) cap] /\ zcd w a ms := by
  obtain ⟨a, len, cap, rfl, hm, hr⟩ := zax Tryz.underlying28 Tryz.zjh (by omega) h
  rcases Nat.eq_zero_or_pos len with h0 | hp
  · subst h0
    exact ⟨a, cap, [], rfl, ⟨by simp [maxLen], fun h => absurd rfl h⟩⟩
  · obtain ⟨b, off, rfl, hb, hrow⟩ := hr hp
    have hf : ∀ i, i < len -> ∃ g : Gr, ∃ a0 c0, zpv w b (off + i * 7) g a0 c0 := by
      intro i hi
      obtain ⟨es, n, y, hel, hcell, hy⟩ := hrow i hi
      obtain ⟨g, a0, c0, rfl, hs, hI⟩ := znb hy
      exact ⟨g, a0, c0, hs, hI, fun j hj => by rw [hcell j hj]; simp⟩
    obtain ⟨ms, hl, hms⟩ := zbG len hf
    exact ⟨_, cap, ms, by rw [hl], ⟨by omega, fun _ => ⟨b, off, rfl, hb, hms⟩⟩⟩
theorem zo9 {fuel : Nat} {cs : List Value} {x : DataW H × List MemPlace} (h : DataW.trod enc Tryz.prog w base spare held fuel 32 cs = some x) :
    ∃ (b : Bk) (a0 a1 a2 a3 : Option Addr) (k0 k1 k2 k3 : Nat), cs = (b.cells a0 a1 a2 a3 k0 k1 k2 k3).toList /\ y9 w b a0 a1 a2 a3 := by
  have hlen : cs.length = 7 := by
    obtain ⟨_, _, _, _, hl, _, _⟩ := DataW.trod_struct Tryz.underlying32 h
    rw [hl]; exact Tryz.zoX
  match cs, hlen with
  | [c0, c1, c2, c3, c4, c5, c6], _ =>
    have hf := jL Tryz.underlying32 h
    obtain ⟨_, _, f0⟩ := hf 0 3 0 c0 rfl Tryz.jm rfl
    obtain ⟨_, _, f1⟩ := hf 1 3 1 c1 rfl Tryz.jm rfl
    obtain ⟨_, _, f2⟩ := hf 2 3 2 c2 rfl Tryz.jm rfl
    obtain ⟨_, _, f3⟩ := hf 3 27 3 c3 rfl Tryz.zlE rfl
    obtain ⟨_, _, f4⟩ := hf 4 28 4 c4 rfl Tryz.zmB rfl
    obtain ⟨_, _, f5⟩ := hf 5 29 5 c5 rfl Tryz.zlA rfl
    obtain ⟨_, _, f6⟩ := hf 6 30 6 c6 rfl Tryz.zl5 rfl
    obtain ⟨x0, e0, _, _⟩ := DataW.trod_int Tryz.underlying3 f0
    obtain ⟨x1, e1, _, _⟩ := DataW.trod_int Tryz.underlying3 f1
    obtain ⟨x2, e2, _, _⟩ := DataW.trod_int Tryz.underlying3 f2
    obtain ⟨a0, k0, os, e3, hO⟩ := zlB f3
    obtain ⟨a1, k1, gs, e4, hG⟩ := zl8 f4
    obtain ⟨a2, k2, ls, e5, hL⟩ := zlr f5
    obtain ⟨a3, k3, ps, e6, hP⟩ := zmp f6
    simp only [List.cons.injEq, and_true] at e0 e1 e2 e3 e4 e5 e6
    subst e0 e1 e2 e3 e4 e5 e6
    exact ⟨⟨x0, x1, x2, os, gs, ls, ps⟩, a0, a1, a2, a3, k0, k1, k2, k3, rfl, ⟨hO, hG, hL, hP⟩⟩
end
end Go.Proofs.YtfpeplbmfbepcaaGreat
