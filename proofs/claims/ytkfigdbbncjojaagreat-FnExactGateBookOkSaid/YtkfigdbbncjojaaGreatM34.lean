import Derived.Test.YtkfigdbbncjojaaGreatM32
import Derived.Test.YtkfigdbbncjojaaGreatM26
import Derived.Test.YtkfigdbbncjojaaGreatM19
import Derived.Test.YtkfigdbbncjojaaGreatM17
import Derived.Test.YtkfigdbbncjojaaGreatM16
import Derived.Test.YtkfigdbbncjojaaGreatM14
namespace Go.Proofs.YtkfigdbbncjojaaGreat
open Go.RowKit
theorem zmG (k : Nat) : zcZ (List.range (k + 1)) = zcZ (List.range k) ++ [.int .i64 (k : Int)] := by simp [zcZ, List.range_succ]
set_option maxRecDepth 20000 in
set_option maxHeartbeats 4000000 in
theorem zfw (s : Shp) (ms : List Mnd) (ma fa : Option Addr) (mcap fcap : Nat) (w : World) (hm : y5 w ma ms) (hf : zW w fa s.fs) (hl : ms.length <= 1048576) (hn : s.fs.length <= 6)
    (hrd : ∀ q, q < s.fs.length -> ∀ x ∈ Gate.zZ s ms q, 0 <= x /\ x < s.fs.length) :
    Calls Tryz.prog 107 #[.agg #[.string s.kd, .slice fa s.fs.length fcap], .slice ma ms.length mcap] w
      fun e w' => ∃ v, e = .returned (.tuple #[v, .bool (Gate.zD (Gate.zh s ms) s.fs.length).1]) /\ Below w.heap.size w w' /\ ((Gate.zD (Gate.zh s ms) s.fs.length).1 = true -> w'.ownsRow w.heap.size 3 1 v (Gate.zD (Gate.zh s ms) s.fs.length).2.row.length (zcZ (Gate.zD (Gate.zh s ms) s.fs.length).2.row)) := by
  obtain ⟨i0, hi0, hz0, hz1', hz2⟩ := info_parts Tryz.zjn
  have HH := znz hm hf hl hn hrd
  clear hm hf hl hrd
  go_enter Tryz.func107, Tryz.ntmps107
  go_wp2_with fail
  go_loopw [6, 11] (fun v0 iv wr => ∃ (k : Nat) (v : Value), v = v0 /\ k <= s.fs.length /\ iv = .int .i64 k /\ wr.ownsRow (w.heap.size + 2) 3 1 v k (zcZ (List.range k)) /\ wr.heap[w.heap.size]? = some (.cells #[.string s.kd, .slice fa s.fs.length fcap] 127) /\ wr.heap[w.heap.size + 1]? = some (.cells #[.slice ma ms.length mcap] 37) /\ Below w.heap.size w wr) (fun _ iv _ => s.fs.length - (intOf iv).toNat)
  case atStart => exact ⟨0, _, rfl, Nat.zero_le _, rfl, World.ownsRow_nil _ _ _ _, (zP _ _ _).1, (zP _ _ _).2, zq _ _ _⟩
  case round =>
    obtain ⟨k, v, hv, hk, rfl, hown, hs, hmm, hB⟩ := hrel
    subst hv
    have HX := zkz hown hs hmm hB
    have hzz := (Array.getElem?_eq_some_iff.1 hmm).1
    clear hown hs hmm hB
    by_cases hlt : k < s.fs.length
    · have hltI : (k : Int) < (s.fs.length : Int) := by omega
      have hgb : ∀ g, v.ownBlock = some g -> w.heap.size + 2 <= g := fun g hg => (HX.out.1.lt g hg).1
      have HGB := hid hgb
      clear hgb
      go_wp2_with (at_builtin; refine zff ?_)
      show wpList _ _ _ _ _ _
      refine wpList_append_own _ rfl (.tmp 14) (.tmp 16) 91 rfl (w.heap.size + 2) 3 i0 (.int .i64 0) 1 8 Tryz.underlying91 hi0 hz0 hz1' hz2 rfl (by decide) v _ _ rfl (HX.out.1.alloc _) ⟨wr.heap.size, 0, none⟩ 1 1 [.int .i64 (k : Int)] rfl rfl (zdf _ _ _) (by intro u hu; simp at hu; subst hu; rfl) (by unfold maxLen; omega) (by omega) (by simp; omega) ?_
      intro v' w1 hown' hgr _
      obtain ⟨va, vcap, rfl⟩ := yM hown'
      go_wp2_with fail
      refine ⟨⟨k + 1, _, rfl, by omega, by go_num, by rw [zmG]; exact hown', ?_, ?_, zbN HX.out.2.2.2 HX.out.2.2.2.size hgr (fun g hg => by have := HGB.out g hg; omega)⟩, zm hlt⟩
      · exact (jR hgr (by simp; omega) (fun g hg => by have := HGB.out g hg; omega)).trans ((Below.heap_alloc _ _ _ (by omega)).trans HX.out.2.1)
      · exact (jR hgr (by simp; omega) (fun g hg => by have := HGB.out g hg; omega)).trans ((Below.heap_alloc _ _ _ hzz).trans HX.out.2.2.1)
    · have e : k = s.fs.length := by omega
      subst e
      obtain ⟨va, vcap, rfl⟩ := yM HX.out.1
      have HPL : Hid (zkR wr va s.fs.length) := by
        intro hpos
        obtain ⟨_, ⟨h0, h1⟩ | ⟨g, cap, cur, h0, h1⟩⟩ := id HX.out.1
        · omega
        · cases h0
          refine ⟨g, rfl, (HX.out.1.lt g rfl).2, fun q hq => ?_⟩
          rw [HX.out.1.cellAt q (by omega)]
          simp [zcZ, hq]
      go_wp2_with fail
      refine (zmp s ms w ma fa va mcap fcap vcap (w.heap.size + 1) w.heap.size wr HH.out.1 HH.out.2.1 HH.out.2.2.1 HH.out.2.2.2.1 HH.out.2.2.2.2 HX.out.2.2.2 hzz (by omega) (by rw [cell_of_block HX.out.2.2.1]; rfl) (fun j => cell_of_block HX.out.2.1) HPL.out).mono ?_
      rintro e w2 ⟨v2, rfl, hb2, hyes⟩
      have HY : Hid (Below w.heap.size w w2 /\ ((Gate.zD (Gate.zh s ms) s.fs.length).1 = true -> w2.ownsRow w.heap.size 3 1 v2 (Gate.zD (Gate.zh s ms) s.fs.length).2.row.length (zcZ (Gate.zD (Gate.zh s ms) s.fs.length).2.row))) := ⟨hb2, fun h => zbK (hyes h) (by omega)⟩
      clear hb2 hyes
      go_wp2_with fail
      go_ret2
      exact ⟨v2, rfl, HY.out⟩
end Go.Proofs.YtkfigdbbncjojaaGreat

namespace Go.Proofs.YtkfigdbbncjojaaGreat
open Go.RowKit
set_option maxHeartbeats 1000000 in
theorem zf4 (a : Option Addr) (cap : Nat) (w : World) :
    Calls Tryz.prog 200 #[.slice a 0 cap] w fun e w' => ∃ v, e = .returned v /\ w'.ownsRow w.heap.size 9 1 v 0 [] /\ Below w.heap.size w w' := by
  cases a with
  | none => exact zdh cap w
  | some g =>
    go_enter Tryz.func200, Tryz.ntmps200
    go_wp2_with fail
    go_ret
    exact ⟨_, rfl, World.ownsRow_nil _ _ _ _, Below.refl _ _⟩
theorem zdI (a : Option Addr) (cap : Nat) (ws : List ByteArray) (w : World) (hw : zB w a ws) (hl : ws.length <= 1048576) :
    Calls Tryz.prog 200 #[.slice a ws.length cap] w
      fun e w' => ∃ v, e = .returned v /\ w'.ownsRow w.heap.size 9 1 v ws.length (ws.map Value.string) /\ Below w.heap.size w w' := by
  by_cases h : ws = []
  · subst h
    exact zf4 a cap w
  · obtain ⟨b, off, rfl, _⟩ := hw.cells h
    exact zdL b off cap ws w hw hl
set_option maxHeartbeats 1000000 in
theorem zhb (o : Ob) (va ha : Option Addr) (cap cap' : Nat) (w : World) (ho : qQ w o va ha) (hl : o.vs.length <= 1048576) (hl' : o.hs.length <= 1048576) :
    Calls Tryz.prog 197 #[.agg (oC o va ha cap cap')] w
      fun e w' => ∃ a dap a' dap' m, e = .returned (.agg (oC o a a' dap dap')) /\ zn w.heap.size w' a o.vs /\ (∀ g, a = some g -> g.block < m) /\ w.heap.size <= m /\ zn m w' a' o.hs /\ Below w.heap.size w w' := by
  go_enter Tryz.func197, Tryz.ntmps197
  go_wp2_with fail
  refine (zdI _ _ _ _ (ho.vals.mono (zq _ _ _)) hl).mono ?_
  rintro e w1 ⟨v, rfl, hown1, hb1⟩
  obtain ⟨a, dap, rfl, ht1⟩ := zn.zfb hown1
  have hk1 := (hb1.block w.heap.size (by simp; omega)).trans (zP _ _ _).1
  have hr1 := (hb1.block (w.heap.size + 1) (by simp)).trans (zP _ _ _).2
  have HT : Hid (zn (w.heap.size + 1 + 1) w1 a o.vs) := by unfold Hid; simpa using ht1
  have hz1 : w.heap.size + 1 < w1.heap.size := by have := hb1.size; simp at this; omega
  have hB1 := (zq _ _ _).trans (hb1.mono (by simp; omega))
  have HK := hid hk1
  have HRR := hid hr1
  have hX1 : ∀ j, w1.cell? ⟨w.heap.size, j, none⟩ = (oC o va ha cap cap')[j]? := fun j => cell_of_block hk1
  have hF1 : ∀ j, w1.frozen? ⟨w.heap.size, j, none⟩ = false := fun j => zi hk1
  clear hb1 hown1 ht1 hk1 hr1
  go_wp2_with fail
  have hB1' := hB1.setCell (p := ⟨w.heap.size, 3, none⟩) (Nat.le_refl _) (.slice a o.vs.length dap)
  refine (zdI _ _ _ _ (ho.holds.mono hB1') hl').mono ?_
  rintro e w2 ⟨v, rfl, hown2, hb2⟩
  obtain ⟨a', dap', rfl, ht2⟩ := zn.zfb hown2
  have hk2 := (hb2.block w.heap.size (by simp [World.setCell]; omega)).trans (zf HK.out _)
  have hr2 := (hb2.block (w.heap.size + 1) (by simp [World.setCell]; omega)).trans ((Below.heap_setCell _ _ _ _ (by simp)).trans HRR.out)
  have HT2 := hid ((HT.out.setCell _ (by simp; omega) _).mono hb2)
  have HU2 : Hid (zn w1.heap.size w2 a' o.hs) := by unfold Hid; simpa [World.setCell] using ht2
  have HM : Hid (∀ g, a = some g -> g.block < w1.heap.size) := by
    intro g hg
    rcases HT.out with ⟨h0, _⟩ | ⟨g', C, h0, _, hh, _⟩
    · rw [h0] at hg; cases hg
    · rw [h0] at hg; cases hg; exact (Array.getElem?_eq_some_iff.1 hh).1
  have hz2 : w.heap.size + 1 < w2.heap.size := by have := hb2.size; simp [World.setCell] at this; omega
  have hB2 := hB1'.trans (hb2.mono hB1'.size)
  have hX2 : ∀ j, w2.cell? ⟨w.heap.size, j, none⟩ = (oC o a ha dap cap')[j]? := fun j => cell_of_block hk2
  have hF2 : ∀ j, w2.frozen? ⟨w.heap.size, j, none⟩ = false := fun j => zi hk2
  have hY2 : ∀ j, w2.cell? ⟨w.heap.size + 1, j, none⟩ = oZ[j]? := fun j => cell_of_block hr2
  have hG2 : ∀ j, w2.frozen? ⟨w.heap.size + 1, j, none⟩ = false := fun j => zi hr2
  have hzz : w.heap.size <= w1.heap.size := by omega
  clear hb2 hown2 ht2 hX1 hF1 hB1 hB1' hk2 hr2
  go_wp2_with fail
  refine bodyPost_ret (v := (.agg (oC o a a' dap dap'))) (by simp [results, Tryz.results197, go_sem, hY2]) rfl ⟨a, dap, a', dap', w1.heap.size, rfl, ((((((((HT2.out.setCell _ (by simp; omega) _).setCell _ (by simp) _).setCell _ (by simp) _).setCell _ (by simp) _).setCell _ (by simp) _).setCell _ (by simp) _).setCell _ (by simp) _).setCell _ (by simp) _).low (by omega), HM.out, hzz, ((((((((HU2.out.setCell _ (by simp; omega) _).setCell _ (by simp; omega) _).setCell _ (by simp; omega) _).setCell _ (by simp; omega) _).setCell _ (by simp; omega) _).setCell _ (by simp; omega) _).setCell _ (by simp; omega) _).setCell _ (by simp; omega) _), ((((((((hB2.setCell (Nat.le_refl _) _).setCell (by simp) _).setCell (by simp) _).setCell (by simp) _).setCell (by simp) _).setCell (by simp) _).setCell (by simp) _).setCell (by simp) _)⟩
set_option maxHeartbeats 2000000 in
theorem zlx (o : Ob) (kd : ByteArray) (fs : List Fld) (fa : Option Addr) (va ha : Option Addr) (fcap cap cap' : Nat) (w : World) (hf : zW w fa fs) (ho : qQ w o va ha) (hl : o.vs.length <= 1048576) (hl' : o.hs.length <= 1048576) (hc : o.vs.length = fs.length) :
    Calls Tryz.prog 188 #[.agg #[.string kd, .slice fa fs.length fcap], .agg (oC o va ha cap cap')] w
      fun e w' => ∃ a dap a' dap' m, e = .returned (.agg (oC o a a' dap dap')) /\ zn w.heap.size w' a (Gate.jg fs o.vs) /\ (∀ g, a = some g -> g.block < m) /\ w.heap.size <= m /\ zn m w' a' o.hs /\ Below w.heap.size w w' := by
  have HC := hid hc
  clear hc
  go_enter Tryz.func188, Tryz.ntmps188
  go_wp2_with fail
  refine (zhb o va ha cap cap' _ (ho.mono (qU _ _ _ _)) hl hl').mono ?_
  rintro e w1 ⟨a, dap, a', dap', m, rfl, ht, hm, hsm, ht', hb1⟩
  have hX1 : ∀ j, w1.cell? ⟨w.heap.size, j, none⟩ = (#[.string kd, .slice fa fs.length fcap] : Array Value)[j]? := fun j => cell_of_block ((hb1.block w.heap.size (by simp; omega)).trans (za4 _ _ _ _))
  have HR1 := hid ((hb1.block (w.heap.size + 1 + 1) (by simp)).trans (zbT _ _ _ _))
  have hB1 := (qU _ _ _ _).trans (hb1.mono (by simp; omega))
  have hz1 : w.heap.size + 1 + 1 < w1.heap.size := by have := hb1.size; simp at this; omega
  have HT : Hid (zn (w.heap.size + 1 + 1 + 1) w1 a o.vs /\ (∀ g, a = some g -> g.block < m) /\ w.heap.size + 1 + 1 + 1 <= m /\ zn m w1 a' o.hs) := by
    simp only [World.size_alloc] at ht hsm
    exact ⟨ht, hm, hsm, ht'⟩
  have hz0 : w.heap.size < w1.heap.size := by omega
  clear ht hm hsm ht' hb1 ho
  have hlen := hf.len
  unfold maxLen at hlen
  go_wp2_with fail
  clear hX1
  go_loopw [13] (fun i wr => ∃ k : Nat, k <= fs.length /\ i = .int .i64 k /\ zn (w.heap.size + 1 + 1 + 1) wr a (Gate.qz fs o.vs k) /\ zn m wr a' o.hs /\ wr.heap[w.heap.size + 1 + 1]? = some (.cells oZ 104) /\ wr.heap[w1.heap.size]? = some (.cells (oC o a a' dap dap') 104) /\ Below w.heap.size w wr) (fun i _ => fs.length - (intOf i).toNat)
  case atStart =>
    have hba := (Below.refl w1.heap.size w1).alloc (Nat.le_refl _) (.cells (oC o a a' dap dap') 104)
    exact ⟨0, Nat.zero_le _, rfl, by rw [Gate.zfA]; exact HT.out.1.mono hba, HT.out.2.2.2.mono hba, (hba.block _ hz1).trans HR1.out, alloc_at _ _, hB1.alloc hB1.size _⟩
  case round =>
    obtain ⟨k, hk, rfl, ht, ht', hR, hO, hB⟩ := hrel
    have hOc : ∀ j, wr.cell? ⟨w1.heap.size, j, none⟩ = (oC o a a' dap dap')[j]? := fun j => cell_of_block hO
    have hOz := (Array.getElem?_eq_some_iff.1 hO).1
    by_cases hlt : k < fs.length
    · have hltv : k < o.vs.length := by rw [HC.out]; exact hlt
      obtain ⟨fb, foff, rfl, hfb, hr⟩ := hf.rows (by rintro rfl; simp at hlt)
      obtain ⟨wa, wcap, hf0⟩ := hr k hlt
      have hf1 := hf0.mono hfb hB
      obtain ⟨c0, c1, c2, c3, c4, c5, c6, c7, c8, c9, c10⟩ := hf1.load
      have hltI : (k : Int) < (fs.length : Int) := by omega
      have hltV : (k : Int) < (o.vs.length : Int) := by omega
      have hfbw := Nat.lt_of_lt_of_le hfb hB.size
      obtain ⟨g, C, hga, hgl, hgh, hgc⟩ : ∃ g C, a = some ⟨g, 0, none⟩ /\ w.heap.size + 1 + 1 + 1 <= g /\ wr.heap[g]? = some (.cells C 9) /\ ∀ i (h : i < (Gate.qz fs o.vs k).length), C[i]? = some (.string (Gate.qz fs o.vs k)[i]) := by
        rcases ht with ⟨_, h0⟩ | h0
        · have := Gate.jE HC.out k; rw [h0] at this; simp at this; omega
        · exact h0
      have hgm : g < m := HT.out.2.1 _ hga
      have hgw1 : g < w1.heap.size := by have := HT.out.1.lt _ hga; exact this
      have hgw : g < wr.heap.size := by omega
      subst hga
      have hcell : wr.cell? ⟨g, k, none⟩ = some (.string o.vs[k]) := by
        have h1 := Gate.zdx HC.out k hlt
        have hkl : k < (Gate.qz fs o.vs k).length := by rw [Gate.jE HC.out]; exact hltv
        rw [List.getElem?_eq_getElem hkl, List.getElem?_eq_getElem hltv] at h1
        rw [cell_of_block hgh, hgc k hkl, Option.some.inj h1]
      have hgf : wr.frozen? ⟨g, k, none⟩ = false := zi hgh
      have HX := znz ht ht' hR hO hB
      clear ht ht' hR hO hB hf hr hf0 hf1 hgh hgc
      by_cases hv : o.vs[k].toList.isEmpty = true
      · have HV : Hid (Gate.jy fs[k] o.vs[k] = fs[k].df) := by unfold Hid Gate.jy; rw [if_pos hv]
        go_wp2_with fail
        obtain ⟨ht, ht', hR, hO, hB⟩ := HX.out
        have hba := (Below.refl (wr.setCell ⟨g, k, none⟩ (.string fs[k].df)).heap.size (wr.setCell ⟨g, k, none⟩ (.string fs[k].df))).alloc (Nat.le_refl _) (.cells #[.string fs[k].nm, .int .i64 fs[k].kd, .int .i64 fs[k].ls, .int .i64 fs[k].ms, .slice wa fs[k].ws.length wcap, .string fs[k].to, .int .i64 fs[k].rl, .bool fs[k].mu, .bool fs[k].fx, .string fs[k].df, .string fs[k].wg] 115)
        have hs0 : (wr.setCell ⟨g, k, none⟩ (.string fs[k].df)).heap.size = wr.heap.size := by simp [World.setCell]
        exact ⟨⟨k + 1, by omega, by go_num, by rw [Gate.zbR HC.out k hlt, HV.out]; exact (ht.set k _).mono hba, (ht'.setCell _ hgm _).mono hba, (hba.block _ (by rw [hs0]; omega)).trans ((Below.heap_setCell _ _ _ _ (by show w.heap.size + 1 + 1 ≠ g; omega)).trans hR), (hba.block _ (by rw [hs0]; exact hOz)).trans ((Below.heap_setCell _ _ _ _ (by show w1.heap.size ≠ g; omega)).trans hO), (hB.setCell (p := ⟨g, k, none⟩) (by show w.heap.size <= g; omega) _).alloc (by rw [hs0]; exact hB.size) _⟩, zm hlt⟩
      · have HV : Hid (Gate.jy fs[k] o.vs[k] = o.vs[k]) := by unfold Hid Gate.jy; rw [if_neg hv]
        go_wp2_with fail
        obtain ⟨ht, ht', hR, hO, hB⟩ := HX.out
        have hba := (Below.refl wr.heap.size wr).alloc (Nat.le_refl _) (.cells #[.string fs[k].nm, .int .i64 fs[k].kd, .int .i64 fs[k].ls, .int .i64 fs[k].ms, .slice wa fs[k].ws.length wcap, .string fs[k].to, .int .i64 fs[k].rl, .bool fs[k].mu, .bool fs[k].fx, .string fs[k].df, .string fs[k].wg] 115)
        have hsame : (Gate.qz fs o.vs k).set k o.vs[k] = Gate.qz fs o.vs k := by
          have h1 := Gate.zdx HC.out k hlt
          have hkl : k < (Gate.qz fs o.vs k).length := by rw [Gate.jE HC.out]; exact hltv
          rw [List.getElem?_eq_getElem hkl, List.getElem?_eq_getElem hltv] at h1
          rw [<- Option.some.inj h1, List.set_getElem_self]
        exact ⟨⟨k + 1, by omega, by go_num, by rw [Gate.zbR HC.out k hlt, HV.out, hsame]; exact ht.mono hba, ht'.mono hba, (hba.block _ (by omega)).trans hR, (hba.block _ hOz).trans hO, hB.alloc hB.size _⟩, zm hlt⟩
    · have e : k = fs.length := by omega
      subst e
      rw [Gate.zgQ HC.out] at ht
      have hRc : ∀ j, wr.cell? ⟨w.heap.size + 1 + 1, j, none⟩ = oZ[j]? := fun j => cell_of_block hR
      have hRf : ∀ j, wr.frozen? ⟨w.heap.size + 1 + 1, j, none⟩ = false := fun j => zi hR
      have HX := zee ht ht' hB
      have HM := jO HT.out.2.2.1 HT.out.2.1
      clear ht ht' hB hR hO hf
      go_wp2_with fail
      refine bodyPost_ret (v := (.agg (oC o a a' dap dap'))) (by simp [results, Tryz.results188, go_sem, hRc]) rfl ?_
      obtain ⟨ht, ht', hB⟩ := HX.out
      exact ⟨a, dap, a', dap', m, rfl, (qK ht _ (by omega) _ _ _ _ _ _ _).low (by omega), HM.out.2, by have := HM.out.1; omega, qK ht' _ (by have := HM.out.1; omega) _ _ _ _ _ _ _, jU hB _ (by omega) _ _ _ _ _ _ _⟩
end Go.Proofs.YtkfigdbbncjojaaGreat

namespace Go.Proofs.YtkfigdbbncjojaaGreat
open Go.RowKit
namespace Gate
def jV (b : Bk) : Bool := within b.now 0 1000000 && (within b.tick 0 1000000 && within b.given 0 b.now)
def yI (given : Int) (g : Gr) : Bool := within g.no 1 given && (zy g.to && ((g.gb.toList.isEmpty || zy g.gb) && jJ g.r))
noncomputable def yu (b : Bk) : Bool := decide (b.gs.length <= 24) && (zaP zbp b.gs && b.gs.all (yI b.given))
def yj (ts : List Tm) (g : Lg) : Bool := z8 ts g.tm && (zy g.rs && qV g.fr g.mo 0 1000000)
noncomputable def yw (ts : List Tm) (b : Bk) : Bool := decide (b.ls.length <= 10) && (zaP yL b.ls && b.ls.all (yj ts))
end Gate
set_option maxHeartbeats 1000000 in
theorem zhU (b : Bk) (a0 a1 a2 a3 : Option Addr) (c0 c1 c2 c3 : Nat) (w : World) :
    Calls Tryz.prog 71 #[.agg (b.cells a0 a1 a2 a3 c0 c1 c2 c3)] w fun e w' => e = .returned (.bool (Gate.jV b)) /\ Below w.heap.size w w' := by
  have HB : Hid (∀ ob, Below w.heap.size w (w.alloc ob)) := fun ob => (Below.refl _ _).alloc (Nat.le_refl _) _
  unfold Bk.cells
  by_cases h1 : Gate.within b.now 0 1000000 = true
  rotate_left
  · have h1' : Gate.within b.now 0 1000000 = false := by simpa using h1
    have HF : Hid (Gate.jV b = false) := by unfold Hid Gate.jV; rw [h1']; rfl
    have H1 : Hid (∀ W, Calls Tryz.prog 113 #[.int .i64 b.now, .int .i64 0, .int .i64 1000000] W fun e w' => e = .returned (.bool false) /\ w' = W) := fun W => zu h1' (qx _ _ _ W)
    clear h1 h1'
    go_enter Tryz.func71, Tryz.ntmps71
    go_wp2_with (go_at_call 113; refine (H1.out _).mono ?_; rintro e w2 ⟨rfl, rfl⟩)
    go_ret
    exact ⟨ze HF.out.symm, HB.out _⟩
  by_cases h2 : Gate.within b.tick 0 1000000 = true
  rotate_left
  · have h2' : Gate.within b.tick 0 1000000 = false := by simpa using h2
    have HF : Hid (Gate.jV b = false) := by unfold Hid Gate.jV; rw [h1, h2']; rfl
    have H1 : Hid (∀ W, Calls Tryz.prog 113 #[.int .i64 b.now, .int .i64 0, .int .i64 1000000] W fun e w' => e = .returned (.bool true) /\ w' = W) := fun W => zu h1 (qx _ _ _ W)
    have H2 : Hid (∀ W, Calls Tryz.prog 113 #[.int .i64 b.tick, .int .i64 0, .int .i64 1000000] W fun e w' => e = .returned (.bool false) /\ w' = W) := fun W => zu h2' (qx _ _ _ W)
    clear h1 h2 h2'
    go_enter Tryz.func71, Tryz.ntmps71
    go_wp2_with fail
    refine (H1.out _).mono ?_
    rintro e w2 ⟨rfl, rfl⟩
    go_wp2_with fail
    refine (H2.out _).mono ?_
    rintro e w2 ⟨rfl, rfl⟩
    go_wp2_with fail
    go_ret
    exact ⟨ze HF.out.symm, HB.out _⟩
  · have HF : Hid (Gate.jV b = Gate.within b.given 0 b.now) := by unfold Hid Gate.jV; rw [h1, h2]; rfl
    have H1 : Hid (∀ W, Calls Tryz.prog 113 #[.int .i64 b.now, .int .i64 0, .int .i64 1000000] W fun e w' => e = .returned (.bool true) /\ w' = W) := fun W => zu h1 (qx _ _ _ W)
    have H2 : Hid (∀ W, Calls Tryz.prog 113 #[.int .i64 b.tick, .int .i64 0, .int .i64 1000000] W fun e w' => e = .returned (.bool true) /\ w' = W) := fun W => zu h2 (qx _ _ _ W)
    clear h1 h2
    go_enter Tryz.func71, Tryz.ntmps71
    go_wp2_with fail
    refine (H1.out _).mono ?_
    rintro e w2 ⟨rfl, rfl⟩
    go_wp2_with fail
    refine (H2.out _).mono ?_
    rintro e w2 ⟨rfl, rfl⟩
    go_wp2_with fail
    refine (qx _ _ _ _).mono ?_
    rintro e w2 ⟨rfl, rfl⟩
    go_wp2_with fail
    go_ret
    exact ⟨ze HF.out.symm, HB.out _⟩
set_option maxHeartbeats 4000000 in
theorem zh3 (b : Bk) (a0 a1 a2 a3 : Option Addr) (c0 c1 c2 c3 : Nat) (w : World) (hb : qY w b a0 a1 a2 a3) :
    Calls Tryz.prog 73 #[.agg (b.cells a0 a1 a2 a3 c0 c1 c2 c3)] w fun e w' => e = .returned (.bool (Gate.yu b)) /\ Below w.heap.size w w' := by
  have HK := hid hb
  clear hb
  unfold Bk.cells
  by_cases hln : b.gs.length <= 24
  rotate_left
  · have HF : Hid (Gate.yu b = false) := by unfold Hid Gate.yu; rw [decide_eq_false hln]; rfl
    have hg : (24 : Int) < (b.gs.length : Int) := by omega
    go_enter Tryz.func73, Tryz.ntmps73
    go_wp2_with fail
    go_ret
    exact ⟨ze HF.out.symm, (Below.refl _ _).alloc (Nat.le_refl _) _⟩
  have hg : decide ((24 : Int) < (b.gs.length : Int)) = false := by simp; omega
  have HLN : Hid (b.gs.length <= 24) := hln
  clear hln
  go_enter Tryz.func73, Tryz.ntmps73
  go_wp2_with fail
  have hX0 := zH w (bC b a0 a1 a2 a3 c0 c1 c2 c3) 47
  have HB0 : Hid (Below w.heap.size w (w.alloc (.cells (bC b a0 a1 a2 a3 c0 c1 c2 c3) 47))) := (Below.refl _ _).alloc (Nat.le_refl _) _
  obtain ⟨W0, hW0⟩ : ∃ W0, W0 = w.alloc (.cells (bC b a0 a1 a2 a3 c0 c1 c2 c3) 47) := ⟨_, rfl⟩
  have hz0 : w.heap.size < W0.heap.size := by rw [hW0]; simp
  rw [<- hW0] at HB0 hX0 ⊢
  clear hW0
  refine (zfW _ _ b.gs _ (HK.out.gs.mono HB0.out)).mono ?_
  rintro e w1 ⟨rfl, hb1⟩
  have HB1 := hid (HB0.out.trans (hb1.mono HB0.out.size))
  have hX1 := za hX0 hz0 hb1
  have hz1 := Nat.lt_of_lt_of_le hz0 hb1.size
  clear hb1 hX0 hz0 HB0
  by_cases has : Gate.zaP Gate.zbp b.gs = true
  rotate_left
  · have has' : Gate.zaP Gate.zbp b.gs = false := by simpa using has
    have HF : Hid (Gate.yu b = false) := by unfold Hid Gate.yu; rw [has']; simp
    rw [has']
    clear has has'
    go_wp2_with fail
    go_ret
    exact ⟨ze HF.out.symm, HB1.out⟩
  have HG : Hid (Gate.yu b = b.gs.all (Gate.yI b.given)) := by unfold Hid Gate.yu; rw [has, decide_eq_true HLN.out]; rfl
  rw [has]
  clear has
  go_wp2_with fail
  go_loopw [18] (fun iv wr => ∃ k : Nat, k <= b.gs.length /\ iv = .int .i64 k /\ Hid ((b.gs.take k).all (Gate.yI b.given) = true /\ Below w1.heap.size w1 wr)) (fun iv _ => b.gs.length - (intOf iv).toNat)
  case atStart => exact ⟨0, Nat.zero_le _, rfl, by simp, Below.refl _ _⟩
  case round =>
    obtain ⟨k, hk, rfl, HQ⟩ := hrel
    have hkn : k <= 24 := by have := HLN.out; omega
    by_cases hlt : k < b.gs.length
    · obtain ⟨ob, off, v0, q0, rfl, hob, hsm, hi0, d0, d1, d2, d3, d4, d5, d6⟩ := HK.out.gs.load (HB1.out.trans (HQ.out.2.mono HB1.out.size)) k hlt
      have hob' := Nat.lt_of_lt_of_le hob (HB1.out.trans (HQ.out.2.mono HB1.out.size)).size
      have hltI : (k : Int) < (b.gs.length : Int) := by omega
      have hX := za hX1 hz1 HQ.out.2
      have hz : w.heap.size < wr.heap.size := Nat.lt_of_lt_of_le hz1 HQ.out.2.size
      have HSn : Hid ((b.gs.take (k + 1)).all (Gate.yI b.given) = ((b.gs.take k).all (Gate.yI b.given) && (Gate.yI b.given) b.gs[k])) := Gate.yS _ _ _ hlt
      have HBo : Hid (∀ ob, Below w1.heap.size w1 (wr.alloc ob)) := fun ob => HQ.out.2.alloc HQ.out.2.size _
      have HBw : Hid (∀ W, Below w1.heap.size w1 W -> Below w.heap.size w W) := fun W hW => HB1.out.trans (hW.mono HB1.out.size)
      have HNo : Hid ((Gate.yI b.given) b.gs[k] = false -> Gate.yu b = false) := fun h => by rw [HG.out]; exact Gate.jF _ _ _ hlt h
      have HYes : Hid ((Gate.yI b.given) b.gs[k] = true -> (b.gs.take (k + 1)).all (Gate.yI b.given) = true) := fun h => by rw [HSn.out, HQ.out.1, h]; rfl
      have HIt := jO hi0 hsm
      clear hsm hi0
      have HW1 : ∀ v, Gate.within b.gs[k].no 1 b.given = v -> Hid (∀ W, Calls Tryz.prog 113 #[.int .i64 b.gs[k].no, .int .i64 1, .int .i64 b.given] W fun e w' => e = .returned (.bool v) /\ w' = W) := fun v h W => zu h (qx _ _ _ W)
      have HN1 : ∀ v, Gate.zy b.gs[k].to = v -> Hid (∀ W, Calls Tryz.prog 108 #[.string b.gs[k].to] W fun e w' => e = .returned (.bool v) /\ w' = W) := fun v h W => zu h (zL _ W HIt.out.2.to)
      have HN2 : ∀ v, Gate.zy b.gs[k].gb = v -> Hid (∀ W, Calls Tryz.prog 108 #[.string b.gs[k].gb] W fun e w' => e = .returned (.bool v) /\ w' = W) := fun v h W => zu h (zL _ W HIt.out.2.gb)
      have HR1 : ∀ v, Gate.jJ b.gs[k].r = v -> Hid (∀ W, Below wr.heap.size wr W -> Calls Tryz.prog 121 #[.agg #[.slice v0 b.gs[k].r.vs.length q0, .string b.gs[k].r.kd, .string b.gs[k].r.tm, .string b.gs[k].r.px]] W fun e w' => e = .returned (.bool v) /\ Below W.heap.size W w') := fun v h W hW => zu h (zk8 b.gs[k].r v0 q0 W HIt.out.2.r (HIt.out.1.mono hW))
      by_cases t1 : Gate.within b.gs[k].no 1 b.given = true
      rotate_left
      · have HF : Hid (Gate.yu b = false) := HNo.out (by unfold Gate.yI; rw [Bool.eq_false_iff.2 t1]; rfl)
        have H1 := HW1 false (Bool.eq_false_iff.2 t1)
        clear HW1 HN1 HN2 HR1 t1
        go_wp2_with fail
        refine (H1.out _).mono ?_
        rintro e w2 ⟨rfl, rfl⟩
        go_wp2_with fail
        go_ret
        exact ⟨ze HF.out.symm, HBw.out _ (HBo.out _)⟩
      have H1 := HW1 true t1
      by_cases t2 : Gate.zy b.gs[k].to = true
      rotate_left
      · have HF : Hid (Gate.yu b = false) := HNo.out (by unfold Gate.yI; rw [t1, Bool.eq_false_iff.2 t2]; rfl)
        have H2 := HN1 false (Bool.eq_false_iff.2 t2)
        clear HW1 HN1 HN2 HR1 t1 t2
        go_wp2_with fail
        refine (H1.out _).mono ?_
        rintro e w2 ⟨rfl, rfl⟩
        go_wp2_with fail
        refine (H2.out _).mono ?_
        rintro e w2 ⟨rfl, rfl⟩
        go_wp2_with fail
        go_ret
        exact ⟨ze HF.out.symm, HBw.out _ (HBo.out _)⟩
      have H2 := HN1 true t2
      by_cases t3 : b.gs[k].gb.toList.isEmpty = true
      · by_cases t5 : Gate.jJ b.gs[k].r = true
        · have HY : Hid ((b.gs.take (k + 1)).all (Gate.yI b.given) = true) := HYes.out (by unfold Gate.yI; rw [t1, t2, t3, t5]; rfl)
          have H5 := HR1 true t5
          clear HW1 HN1 HN2 HR1 t1 t2 t5
          go_wp2_with fail
          refine (H1.out _).mono ?_
          rintro e w2 ⟨rfl, rfl⟩
          go_wp2_with fail
          refine (H2.out _).mono ?_
          rintro e w2 ⟨rfl, rfl⟩
          go_wp2_with fail
          refine (H5.out _ ((Below.refl _ _).alloc (Nat.le_refl _) _)).mono ?_
          rintro e w2 ⟨rfl, hb2⟩
          have HB2 := hid ((HBo.out _).trans (hb2.mono (HBo.out _).size))
          clear hb2
          go_wp2_with fail
          exact ⟨⟨k + 1, by omega, by go_num, HY.out, HB2.out⟩, zm hlt⟩
        · have HF : Hid (Gate.yu b = false) := HNo.out (by unfold Gate.yI; rw [t1, t2, t3, Bool.eq_false_iff.2 t5]; rfl)
          have H5 := HR1 false (Bool.eq_false_iff.2 t5)
          clear HW1 HN1 HN2 HR1 t1 t2 t5
          go_wp2_with fail
          refine (H1.out _).mono ?_
          rintro e w2 ⟨rfl, rfl⟩
          go_wp2_with fail
          refine (H2.out _).mono ?_
          rintro e w2 ⟨rfl, rfl⟩
          go_wp2_with fail
          refine (H5.out _ ((Below.refl _ _).alloc (Nat.le_refl _) _)).mono ?_
          rintro e w2 ⟨rfl, hb2⟩
          have HB2 := hid ((HBo.out _).trans (hb2.mono (HBo.out _).size))
          clear hb2
          go_wp2_with fail
          go_ret
          exact ⟨ze HF.out.symm, HBw.out _ HB2.out⟩
      have t3' := Bool.eq_false_iff.2 t3
      clear t3
      by_cases t4 : Gate.zy b.gs[k].gb = true
      rotate_left
      · have HF : Hid (Gate.yu b = false) := HNo.out (by unfold Gate.yI; rw [t1, t2, t3', Bool.eq_false_iff.2 t4]; rfl)
        have H4 := HN2 false (Bool.eq_false_iff.2 t4)
        clear HW1 HN1 HN2 HR1 t1 t2 t4
        go_wp2_with fail
        refine (H1.out _).mono ?_
        rintro e w2 ⟨rfl, rfl⟩
        go_wp2_with fail
        refine (H2.out _).mono ?_
        rintro e w2 ⟨rfl, rfl⟩
        go_wp2_with fail
        refine (H4.out _).mono ?_
        rintro e w2 ⟨rfl, rfl⟩
        go_wp2_with fail
        go_ret
        exact ⟨ze HF.out.symm, HBw.out _ (HBo.out _)⟩
      have H4 := HN2 true t4
      by_cases t5 : Gate.jJ b.gs[k].r = true
      · have HY : Hid ((b.gs.take (k + 1)).all (Gate.yI b.given) = true) := HYes.out (by unfold Gate.yI; rw [t1, t2, t3', t4, t5]; rfl)
        have H5 := HR1 true t5
        clear HW1 HN1 HN2 HR1 t1 t2 t4 t5
        go_wp2_with fail
        refine (H1.out _).mono ?_
        rintro e w2 ⟨rfl, rfl⟩
        go_wp2_with fail
        refine (H2.out _).mono ?_
        rintro e w2 ⟨rfl, rfl⟩
        go_wp2_with fail
        refine (H4.out _).mono ?_
        rintro e w2 ⟨rfl, rfl⟩
        go_wp2_with fail
        refine (H5.out _ ((Below.refl _ _).alloc (Nat.le_refl _) _)).mono ?_
        rintro e w2 ⟨rfl, hb2⟩
        have HB2 := hid ((HBo.out _).trans (hb2.mono (HBo.out _).size))
        clear hb2
        go_wp2_with fail
        exact ⟨⟨k + 1, by omega, by go_num, HY.out, HB2.out⟩, zm hlt⟩
      · have HF : Hid (Gate.yu b = false) := HNo.out (by unfold Gate.yI; rw [t1, t2, t3', t4, Bool.eq_false_iff.2 t5]; rfl)
        have H5 := HR1 false (Bool.eq_false_iff.2 t5)
        clear HW1 HN1 HN2 HR1 t1 t2 t4 t5
        go_wp2_with fail
        refine (H1.out _).mono ?_
        rintro e w2 ⟨rfl, rfl⟩
        go_wp2_with fail
        refine (H2.out _).mono ?_
        rintro e w2 ⟨rfl, rfl⟩
        go_wp2_with fail
        refine (H4.out _).mono ?_
        rintro e w2 ⟨rfl, rfl⟩
        go_wp2_with fail
        refine (H5.out _ ((Below.refl _ _).alloc (Nat.le_refl _) _)).mono ?_
        rintro e w2 ⟨rfl, hb2⟩
        have HB2 := hid ((HBo.out _).trans (hb2.mono (HBo.out _).size))
        clear hb2
        go_wp2_with fail
        go_ret
        exact ⟨ze HF.out.symm, HBw.out _ HB2.out⟩
    · have e : k = b.gs.length := by omega
      subst e
      have HE : Hid (Gate.yu b = true) := by
        unfold Hid
        rw [HG.out]
        have h := HQ.out.1
        rw [List.take_of_length_le (Nat.le_refl _)] at h
        exact h
      have HBe := hid (HB1.out.trans (HQ.out.2.mono HB1.out.size))
      clear hlt hk HQ
      go_wp2_with fail
      go_ret
      exact ⟨ze HE.out.symm, HBe.out⟩
end Go.Proofs.YtkfigdbbncjojaaGreat

namespace Go.Proofs.YtkfigdbbncjojaaGreat
open Go.RowKit
namespace Gate
def zgC (ss : List Shp) (o : Ob) : List ByteArray := if zC ss o.kd = true /\ zM ss = true /\ o.vs.length = (shapeOf ss o.kd).fs.length then jg (shapeOf ss o.kd).fs o.vs else o.vs
end Gate
def zet (o : Ob) (vs : List ByteArray) (w : World) (e : Ending) (w' : World) : Prop :=
  ∃ a dap a' dap' m, e = .returned (.agg (oC o a a' dap dap')) /\ zn w.heap.size w' a vs /\ (∀ g, a = some g -> g.block < m) /\ w.heap.size <= m /\ zn m w' a' o.hs /\ Below w.heap.size w w'
end Go.Proofs.YtkfigdbbncjojaaGreat
