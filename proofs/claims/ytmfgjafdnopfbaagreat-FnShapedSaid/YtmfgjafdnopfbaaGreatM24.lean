import Derived.Test.YtmfgjafdnopfbaaGreatM23
import Derived.Test.YtmfgjafdnopfbaaGreatM18
namespace Go.Proofs.YtmfgjafdnopfbaaGreat
open Go.RowKit
theorem zhH (k : Nat) : zcc (List.range (k + 1)) = zcc (List.range k) ++ [.int .i64 (k : Int)] := by simp [zcc, List.range_succ]
set_option maxRecDepth 20000 in
set_option maxHeartbeats 4000000 in
theorem zdQ (s : Shp) (ms : List Mnd) (ma fa : Option Addr) (mcap fcap : Nat) (w : World) (hm : qg w ma ms) (hf : yc w fa s.fs) (hl : ms.length <= 1048576) (hn : s.fs.length <= 6)
    (hrd : ∀ q, q < s.fs.length -> ∀ x ∈ Gate.yg s ms q, 0 <= x /\ x < s.fs.length) :
    Calls Tryz.prog 28 #[.agg #[.string s.kd, .slice fa s.fs.length fcap], .slice ma ms.length mcap] w
      fun e w' => ∃ v, e = .returned (.tuple #[v, .bool (Gate.zA (Gate.zi s ms) s.fs.length).1]) /\ Below w.heap.size w w' /\ ((Gate.zA (Gate.zi s ms) s.fs.length).1 = true -> w'.ownsRow w.heap.size 3 1 v (Gate.zA (Gate.zi s ms) s.fs.length).2.row.length (zcc (Gate.zA (Gate.zi s ms) s.fs.length).2.row)) := by
  obtain ⟨i0, hi0, hz0, hz1', hz2⟩ := info_parts Tryz.zfR
  have HH := zeY hm hf hl hn hrd
  clear hm hf hl hrd
  go_enter Tryz.func28, Tryz.ntmps28
  go_wp2_with fail
  go_loopw [6, 11] (fun v0 iv wr => ∃ (k : Nat) (v : Value), v = v0 /\ k <= s.fs.length /\ iv = .int .i64 k /\ wr.ownsRow (w.heap.size + 2) 3 1 v k (zcc (List.range k)) /\ wr.heap[w.heap.size]? = some (.cells #[.string s.kd, .slice fa s.fs.length fcap] 45) /\ wr.heap[w.heap.size + 1]? = some (.cells #[.slice ma ms.length mcap] 24) /\ Below w.heap.size w wr) (fun _ iv _ => s.fs.length - (intOf iv).toNat)
  case atStart => exact ⟨0, _, rfl, Nat.zero_le _, rfl, World.ownsRow_nil _ _ _ _, (zq _ _ _).1, (zq _ _ _).2, yC _ _ _⟩
  case round =>
    obtain ⟨k, v, hv, hk, rfl, hown, hs, hmm, hB⟩ := hrel
    subst hv
    have HX := zae hown hs hmm hB
    have hzz := (Array.getElem?_eq_some_iff.1 hmm).1
    clear hown hs hmm hB
    by_cases hlt : k < s.fs.length
    · have hltI : (k : Int) < (s.fs.length : Int) := by omega
      have hgb : ∀ g, v.ownBlock = some g -> w.heap.size + 2 <= g := fun g hg => (HX.out.1.lt g hg).1
      have HGB := hid hgb
      clear hgb
      go_wp2_with (at_builtin; refine yM ?_)
      show wpList _ _ _ _ _ _
      refine wpList_append_own _ rfl (.tmp 14) (.tmp 16) 59 rfl (w.heap.size + 2) 3 i0 (.int .i64 0) 1 8 Tryz.underlying59 hi0 hz0 hz1' hz2 rfl (by decide) v _ _ rfl (HX.out.1.alloc _) ⟨wr.heap.size, 0, none⟩ 1 1 [.int .i64 (k : Int)] rfl rfl (zbC _ _ _) (by intro u hu; simp at hu; subst hu; rfl) (by unfold maxLen; omega) (by omega) (by simp; omega) ?_
      intro v' w1 hown' hgr _
      obtain ⟨va, vcap, rfl⟩ := qB hown'
      go_wp2_with fail
      refine ⟨⟨k + 1, _, rfl, by omega, by go_num, by rw [zhH]; exact hown', ?_, ?_, zaM HX.out.2.2.2 HX.out.2.2.2.size hgr (fun g hg => by have := HGB.out g hg; omega)⟩, z8 hlt⟩
      · exact (jS hgr (by simp; omega) (fun g hg => by have := HGB.out g hg; omega)).trans ((Below.heap_alloc _ _ _ (by omega)).trans HX.out.2.1)
      · exact (jS hgr (by simp; omega) (fun g hg => by have := HGB.out g hg; omega)).trans ((Below.heap_alloc _ _ _ hzz).trans HX.out.2.2.1)
    · have e : k = s.fs.length := by omega
      subst e
      obtain ⟨va, vcap, rfl⟩ := qB HX.out.1
      have HPL : Hid (zf0 wr va s.fs.length) := by
        intro hpos
        obtain ⟨_, ⟨h0, h1⟩ | ⟨g, cap, cur, h0, h1⟩⟩ := id HX.out.1
        · omega
        · cases h0
          refine ⟨g, rfl, (HX.out.1.lt g rfl).2, fun q hq => ?_⟩
          rw [HX.out.1.cellAt q (by omega)]
          simp [zcc, hq]
      go_wp2_with fail
      refine (zhJ s ms w ma fa va mcap fcap vcap (w.heap.size + 1) w.heap.size wr HH.out.1 HH.out.2.1 HH.out.2.2.1 HH.out.2.2.2.1 HH.out.2.2.2.2 HX.out.2.2.2 hzz (by omega) (by rw [cell_of_block HX.out.2.2.1]; rfl) (fun j => cell_of_block HX.out.2.1) HPL.out).mono ?_
      rintro e w2 ⟨v2, rfl, hb2, hyes⟩
      have HY : Hid (Below w.heap.size w w2 /\ ((Gate.zA (Gate.zi s ms) s.fs.length).1 = true -> w2.ownsRow w.heap.size 3 1 v2 (Gate.zA (Gate.zi s ms) s.fs.length).2.row.length (zcc (Gate.zA (Gate.zi s ms) s.fs.length).2.row))) := ⟨hb2, fun h => zbn (hyes h) (by omega)⟩
      clear hb2 hyes
      go_wp2_with fail
      go_ret2
      exact ⟨v2, rfl, HY.out⟩
end Go.Proofs.YtmfgjafdnopfbaaGreat

namespace Go.Proofs.YtmfgjafdnopfbaaGreat
open Go.RowKit
namespace Gate
def jh (ss : List Shp) (o : Ob) : List ByteArray := if zy ss o.kd = true /\ zT ss = true /\ o.vs.length = (shapeOf ss o.kd).fs.length then qG (shapeOf ss o.kd).fs o.vs else o.vs
end Gate
def jB (o : Ob) (vs : List ByteArray) (w : World) (e : Ending) (w' : World) : Prop :=
  ∃ a dap a' dap' m, e = .returned (.agg #[.string o.kd, .string o.nm, .string o.tm, .slice a o.vs.length dap, .bool o.en, .slice a' o.hs.length dap', .int .i64 o.vr]) /\ zk w.heap.size w' a vs /\ (∀ g, a = some g -> g.block < m) /\ w.heap.size <= m /\ zk m w' a' o.hs /\ Below w.heap.size w w'
end Go.Proofs.YtmfgjafdnopfbaaGreat

namespace Go.Proofs.YtmfgjafdnopfbaaGreat
open Go.RowKit
set_option maxHeartbeats 1000000 in
theorem zd1 (a : Option Addr) (cap : Nat) (w : World) :
    Calls Tryz.prog 33 #[.slice a 0 cap] w fun e w' => ∃ v, e = .returned v /\ w'.ownsRow w.heap.size 9 1 v 0 [] /\ Below w.heap.size w w' := by
  cases a with
  | none => exact zcf cap w
  | some g =>
    go_enter Tryz.func33, Tryz.ntmps33
    go_wp2_with fail
    go_ret
    exact ⟨_, rfl, World.ownsRow_nil _ _ _ _, Below.refl _ _⟩
theorem zcX (a : Option Addr) (cap : Nat) (ws : List ByteArray) (w : World) (hw : zZ w a ws) (hl : ws.length <= 1048576) :
    Calls Tryz.prog 33 #[.slice a ws.length cap] w
      fun e w' => ∃ v, e = .returned v /\ w'.ownsRow w.heap.size 9 1 v ws.length (ws.map Value.string) /\ Below w.heap.size w w' := by
  by_cases h : ws = []
  · subst h
    exact zd1 a cap w
  · obtain ⟨b, off, rfl, _⟩ := hw.cells h
    exact zcW b off cap ws w hw hl
set_option maxHeartbeats 1000000 in
theorem jF (o : Ob) (va ha : Option Addr) (cap cap' : Nat) (w : World) (ho : qX w o va ha) (hl : o.vs.length <= 1048576) (hl' : o.hs.length <= 1048576) :
    Calls Tryz.prog 18 #[.agg #[.string o.kd, .string o.nm, .string o.tm, .slice va o.vs.length cap, .bool o.en, .slice ha o.hs.length cap', .int .i64 o.vr]] w
      fun e w' => ∃ a dap a' dap' m, e = .returned (.agg #[.string o.kd, .string o.nm, .string o.tm, .slice a o.vs.length dap, .bool o.en, .slice a' o.hs.length dap', .int .i64 o.vr]) /\ zk w.heap.size w' a o.vs /\ (∀ g, a = some g -> g.block < m) /\ w.heap.size <= m /\ zk m w' a' o.hs /\ Below w.heap.size w w' := by
  go_enter Tryz.func18, Tryz.ntmps18
  go_wp2_with fail
  refine (zcX _ _ _ _ (ho.vals.mono (yC _ _ _)) hl).mono ?_
  rintro e w1 ⟨v, rfl, hown1, hb1⟩
  obtain ⟨a, dap, rfl, ht1⟩ := zk.qC hown1
  have hk1 := (hb1.block w.heap.size (by simp; omega)).trans (zq _ _ _).1
  have hr1 := (hb1.block (w.heap.size + 1) (by simp)).trans (zq _ _ _).2
  have HT : Hid (zk (w.heap.size + 1 + 1) w1 a o.vs) := by unfold Hid; simpa using ht1
  have hz1 : w.heap.size + 1 < w1.heap.size := by have := hb1.size; simp at this; omega
  have hB1 := (yC _ _ _).trans (hb1.mono (by simp; omega))
  have HK := hid hk1
  have HRR := hid hr1
  have hX1 : ∀ j, w1.cell? ⟨w.heap.size, j, none⟩ = ((oC o va ha cap cap') : Array Value)[j]? := fun j => cell_of_block hk1
  have hF1 : ∀ j, w1.frozen? ⟨w.heap.size, j, none⟩ = false := fun j => za hk1
  clear hb1 hown1 ht1 hk1 hr1
  go_wp2_with fail
  have hB1' := hB1.setCell (p := ⟨w.heap.size, 3, none⟩) (Nat.le_refl _) (.slice a o.vs.length dap)
  refine (zcX _ _ _ _ (ho.holds.mono hB1') hl').mono ?_
  rintro e w2 ⟨v, rfl, hown2, hb2⟩
  obtain ⟨a', dap', rfl, ht2⟩ := zk.qC hown2
  have hk2 := (hb2.block w.heap.size (by simp [World.setCell]; omega)).trans (zu HK.out _)
  have hr2 := (hb2.block (w.heap.size + 1) (by simp [World.setCell]; omega)).trans ((Below.heap_setCell _ _ _ _ (by simp)).trans HRR.out)
  have HT2 := hid ((HT.out.setCell _ (by simp; omega) _).mono hb2)
  have HU2 : Hid (zk w1.heap.size w2 a' o.hs) := by unfold Hid; simpa [World.setCell] using ht2
  have HM : Hid (∀ g, a = some g -> g.block < w1.heap.size) := by
    intro g hg
    rcases HT.out with ⟨h0, _⟩ | ⟨g', C, h0, _, hh, _⟩
    · rw [h0] at hg; cases hg
    · rw [h0] at hg; cases hg; exact (Array.getElem?_eq_some_iff.1 hh).1
  have hz2 : w.heap.size + 1 < w2.heap.size := by have := hb2.size; simp [World.setCell] at this; omega
  have hB2 := hB1'.trans (hb2.mono hB1'.size)
  have hX2 : ∀ j, w2.cell? ⟨w.heap.size, j, none⟩ = ((oC o a ha dap cap') : Array Value)[j]? := fun j => cell_of_block hk2
  have hF2 : ∀ j, w2.frozen? ⟨w.heap.size, j, none⟩ = false := fun j => za hk2
  have hY2 : ∀ j, w2.cell? ⟨w.heap.size + 1, j, none⟩ = (oZ : Array Value)[j]? := fun j => cell_of_block hr2
  have hG2 : ∀ j, w2.frozen? ⟨w.heap.size + 1, j, none⟩ = false := fun j => za hr2
  have hzz : w.heap.size <= w1.heap.size := by omega
  clear hb2 hown2 ht2 hX1 hF1 hB1 hB1' hk2 hr2
  go_wp2_with fail
  refine bodyPost_ret (v := (.agg #[.string o.kd, .string o.nm, .string o.tm, .slice a o.vs.length dap, .bool o.en, .slice a' o.hs.length dap', .int .i64 o.vr])) (by simp [results, Tryz.results18, go_sem, hY2]) rfl ⟨a, dap, a', dap', w1.heap.size, rfl, ((((((((HT2.out.setCell _ (by simp; omega) _).setCell _ (by simp) _).setCell _ (by simp) _).setCell _ (by simp) _).setCell _ (by simp) _).setCell _ (by simp) _).setCell _ (by simp) _).setCell _ (by simp) _).low (by omega), HM.out, hzz, ((((((((HU2.out.setCell _ (by simp; omega) _).setCell _ (by simp; omega) _).setCell _ (by simp; omega) _).setCell _ (by simp; omega) _).setCell _ (by simp; omega) _).setCell _ (by simp; omega) _).setCell _ (by simp; omega) _).setCell _ (by simp; omega) _), ((((((((hB2.setCell (Nat.le_refl _) _).setCell (by simp) _).setCell (by simp) _).setCell (by simp) _).setCell (by simp) _).setCell (by simp) _).setCell (by simp) _).setCell (by simp) _)⟩
set_option maxHeartbeats 2000000 in
theorem zeG (o : Ob) (kd : ByteArray) (fs : List Fld) (fa : Option Addr) (va ha : Option Addr) (fcap cap cap' : Nat) (w : World) (hf : yc w fa fs) (ho : qX w o va ha) (hl : o.vs.length <= 1048576) (hl' : o.hs.length <= 1048576) (hc : o.vs.length = fs.length) :
    Calls Tryz.prog 20 #[.agg #[.string kd, .slice fa fs.length fcap], .agg #[.string o.kd, .string o.nm, .string o.tm, .slice va o.vs.length cap, .bool o.en, .slice ha o.hs.length cap', .int .i64 o.vr]] w
      fun e w' => ∃ a dap a' dap' m, e = .returned (.agg #[.string o.kd, .string o.nm, .string o.tm, .slice a o.vs.length dap, .bool o.en, .slice a' o.hs.length dap', .int .i64 o.vr]) /\ zk w.heap.size w' a (Gate.qG fs o.vs) /\ (∀ g, a = some g -> g.block < m) /\ w.heap.size <= m /\ zk m w' a' o.hs /\ Below w.heap.size w w' := by
  have HC := hid hc
  clear hc
  go_enter Tryz.func20, Tryz.ntmps20
  go_wp2_with fail
  refine (jF o va ha cap cap' _ (ho.mono (jv _ _ _ _)) hl hl').mono ?_
  rintro e w1 ⟨a, dap, a', dap', m, rfl, ht, hm, hsm, ht', hb1⟩
  have hX1 : ∀ j, w1.cell? ⟨w.heap.size, j, none⟩ = (#[.string kd, .slice fa fs.length fcap] : Array Value)[j]? := fun j => cell_of_block ((hb1.block w.heap.size (by simp; omega)).trans (zbu _ _ _ _))
  have HR1 := hid ((hb1.block (w.heap.size + 1 + 1) (by simp)).trans (zaI _ _ _ _))
  have hB1 := (jv _ _ _ _).trans (hb1.mono (by simp; omega))
  have hz1 : w.heap.size + 1 + 1 < w1.heap.size := by have := hb1.size; simp at this; omega
  have HT : Hid (zk (w.heap.size + 1 + 1 + 1) w1 a o.vs /\ (∀ g, a = some g -> g.block < m) /\ w.heap.size + 1 + 1 + 1 <= m /\ zk m w1 a' o.hs) := by
    simp only [World.size_alloc] at ht hsm
    exact ⟨ht, hm, hsm, ht'⟩
  have hz0 : w.heap.size < w1.heap.size := by omega
  clear ht hm hsm ht' hb1 ho
  have hlen := hf.len
  unfold maxLen at hlen
  go_wp2_with fail
  clear hX1
  go_loopw [13] (fun i wr => ∃ k : Nat, k <= fs.length /\ i = .int .i64 k /\ zk (w.heap.size + 1 + 1 + 1) wr a (Gate.qP fs o.vs k) /\ zk m wr a' o.hs /\ wr.heap[w.heap.size + 1 + 1]? = some (.cells #[.string ByteArray.empty, .string ByteArray.empty, .string ByteArray.empty, .slice none 0 0, .bool false, .slice none 0 0, .int .i64 0] 27) /\ wr.heap[w1.heap.size]? = some (.cells #[.string o.kd, .string o.nm, .string o.tm, .slice a o.vs.length dap, .bool o.en, .slice a' o.hs.length dap', .int .i64 o.vr] 27) /\ Below w.heap.size w wr) (fun i _ => fs.length - (intOf i).toNat)
  case atStart =>
    have hba := (Below.refl w1.heap.size w1).alloc (Nat.le_refl _) (.cells (oC o a a' dap dap') 27)
    exact ⟨0, Nat.zero_le _, rfl, by rw [Gate.zdU]; exact HT.out.1.mono hba, HT.out.2.2.2.mono hba, (hba.block _ hz1).trans HR1.out, alloc_at _ _, hB1.alloc hB1.size _⟩
  case round =>
    obtain ⟨k, hk, rfl, ht, ht', hR, hO, hB⟩ := hrel
    have hOc : ∀ j, wr.cell? ⟨w1.heap.size, j, none⟩ = ((oC o a a' dap dap') : Array Value)[j]? := fun j => cell_of_block hO
    have hOz := (Array.getElem?_eq_some_iff.1 hO).1
    by_cases hlt : k < fs.length
    · have hltv : k < o.vs.length := by rw [HC.out]; exact hlt
      obtain ⟨fb, foff, rfl, hfb, hr⟩ := hf.rows (by rintro rfl; simp at hlt)
      obtain ⟨wa, wcap, hf0⟩ := hr k hlt
      have hf1 := hf0.mono hfb hB
      obtain ⟨c0, c1, c2, c3, c4, c5, c6, c7, c8, c9, c10⟩ := hf1.load
      have hltI : (k : Int) < (fs.length : Int) := by omega
      have hltV : (k : Int) < (o.vs.length : Int) := by omega
      have hfbw := Nat.lt_of_lt_of_le hfb hB.size
      obtain ⟨g, C, hga, hgl, hgh, hgc⟩ : ∃ g C, a = some ⟨g, 0, none⟩ /\ w.heap.size + 1 + 1 + 1 <= g /\ wr.heap[g]? = some (.cells C 9) /\ ∀ i (h : i < (Gate.qP fs o.vs k).length), C[i]? = some (.string (Gate.qP fs o.vs k)[i]) := by
        rcases ht with ⟨_, h0⟩ | h0
        · have := Gate.jN HC.out k; rw [h0] at this; simp at this; omega
        · exact h0
      have hgm : g < m := HT.out.2.1 _ hga
      have hgw1 : g < w1.heap.size := by have := HT.out.1.lt _ hga; exact this
      have hgw : g < wr.heap.size := by omega
      subst hga
      have hcell : wr.cell? ⟨g, k, none⟩ = some (.string o.vs[k]) := by
        have h1 := Gate.zcL HC.out k hlt
        have hkl : k < (Gate.qP fs o.vs k).length := by rw [Gate.jN HC.out]; exact hltv
        rw [List.getElem?_eq_getElem hkl, List.getElem?_eq_getElem hltv] at h1
        rw [cell_of_block hgh, hgc k hkl, Option.some.inj h1]
      have hgf : wr.frozen? ⟨g, k, none⟩ = false := za hgh
      have HX := zeY ht ht' hR hO hB
      clear ht ht' hR hO hB hf hr hf0 hf1 hgh hgc
      by_cases hv : o.vs[k].toList.isEmpty = true
      · have HV : Hid (Gate.qY fs[k] o.vs[k] = fs[k].df) := by unfold Hid Gate.qY; rw [if_pos hv]
        go_wp2_with fail
        obtain ⟨ht, ht', hR, hO, hB⟩ := HX.out
        have hba := (Below.refl (wr.setCell ⟨g, k, none⟩ (.string fs[k].df)).heap.size (wr.setCell ⟨g, k, none⟩ (.string fs[k].df))).alloc (Nat.le_refl _) (.cells #[.string fs[k].nm, .int .i64 fs[k].kd, .int .i64 fs[k].ls, .int .i64 fs[k].ms, .slice wa fs[k].ws.length wcap, .string fs[k].to, .int .i64 fs[k].rl, .bool fs[k].mu, .bool fs[k].fx, .string fs[k].df, .string fs[k].wg] 63)
        have hs0 : (wr.setCell ⟨g, k, none⟩ (.string fs[k].df)).heap.size = wr.heap.size := by simp [World.setCell]
        exact ⟨⟨k + 1, by omega, by go_num, by rw [Gate.zbq HC.out k hlt, HV.out]; exact (ht.set k _).mono hba, (ht'.setCell _ hgm _).mono hba, (hba.block _ (by rw [hs0]; omega)).trans ((Below.heap_setCell _ _ _ _ (by show w.heap.size + 1 + 1 ≠ g; omega)).trans hR), (hba.block _ (by rw [hs0]; exact hOz)).trans ((Below.heap_setCell _ _ _ _ (by show w1.heap.size ≠ g; omega)).trans hO), (hB.setCell (p := ⟨g, k, none⟩) (by show w.heap.size <= g; omega) _).alloc (by rw [hs0]; exact hB.size) _⟩, z8 hlt⟩
      · have HV : Hid (Gate.qY fs[k] o.vs[k] = o.vs[k]) := by unfold Hid Gate.qY; rw [if_neg hv]
        go_wp2_with fail
        obtain ⟨ht, ht', hR, hO, hB⟩ := HX.out
        have hba := (Below.refl wr.heap.size wr).alloc (Nat.le_refl _) (.cells #[.string fs[k].nm, .int .i64 fs[k].kd, .int .i64 fs[k].ls, .int .i64 fs[k].ms, .slice wa fs[k].ws.length wcap, .string fs[k].to, .int .i64 fs[k].rl, .bool fs[k].mu, .bool fs[k].fx, .string fs[k].df, .string fs[k].wg] 63)
        have hsame : (Gate.qP fs o.vs k).set k o.vs[k] = Gate.qP fs o.vs k := by
          have h1 := Gate.zcL HC.out k hlt
          have hkl : k < (Gate.qP fs o.vs k).length := by rw [Gate.jN HC.out]; exact hltv
          rw [List.getElem?_eq_getElem hkl, List.getElem?_eq_getElem hltv] at h1
          rw [<- Option.some.inj h1, List.set_getElem_self]
        exact ⟨⟨k + 1, by omega, by go_num, by rw [Gate.zbq HC.out k hlt, HV.out, hsame]; exact ht.mono hba, ht'.mono hba, (hba.block _ (by omega)).trans hR, (hba.block _ hOz).trans hO, hB.alloc hB.size _⟩, z8 hlt⟩
    · have e : k = fs.length := by omega
      subst e
      rw [Gate.zek HC.out] at ht
      have hRc : ∀ j, wr.cell? ⟨w.heap.size + 1 + 1, j, none⟩ = (oZ : Array Value)[j]? := fun j => cell_of_block hR
      have hRf : ∀ j, wr.frozen? ⟨w.heap.size + 1 + 1, j, none⟩ = false := fun j => za hR
      have HX := yK ht ht' hB
      have HM := qO HT.out.2.2.1 HT.out.2.1
      clear ht ht' hB hR hO hf
      go_wp2_with fail
      refine bodyPost_ret (v := (.agg #[.string o.kd, .string o.nm, .string o.tm, .slice a o.vs.length dap, .bool o.en, .slice a' o.hs.length dap', .int .i64 o.vr])) (by simp [results, Tryz.results20, go_sem, hRc]) rfl ?_
      obtain ⟨ht, ht', hB⟩ := HX.out
      exact ⟨a, dap, a', dap', m, rfl, (yB ht _ (by omega) _ _ _ _ _ _ _).low (by omega), HM.out.2, by have := HM.out.1; omega, yB ht' _ (by have := HM.out.1; omega) _ _ _ _ _ _ _, qm hB _ (by omega) _ _ _ _ _ _ _⟩
end Go.Proofs.YtmfgjafdnopfbaaGreat

namespace Go.Proofs.YtmfgjafdnopfbaaGreat
open Go.RowKit
theorem qE.span {lo b : Nat} {P : Nat -> Value -> Prop} {t : TypeId} {sz : Nat} {w : World} {a : Addr} {n cap : Nat} (h : qE lo b P t sz w (.slice (some a) n cap)) : ∃ g C, a = ⟨g, 0, none⟩ /\ lo <= g /\ w.heap[g]? = some (.cells C t) /\ C.size = cap * sz /\ n <= cap /\ cap <= maxLen /\ n <= b /\ (C.toList.take (n * sz)).length = n * sz /\ (∀ j x, (C.toList.take (n * sz))[j]? = some x -> w.cell? (a.add j) = some x) /\ (∀ j x, (C.toList.take (n * sz))[j]? = some x -> P (j % sz) x) /\ ∀ j x, C[j]? = some x -> P (j % sz) x := by
  rcases h with h | ⟨g, n', cap', C, h1, h2, h3, h4, h5, h6, h7, h8⟩
  · cases h
  · cases h1
    have hm : n * sz <= cap * sz := Nat.mul_le_mul_right sz h5
    have ht : ∀ j x, (C.toList.take (n * sz))[j]? = some x -> C[j]? = some x := fun j x hx => by
      rw [List.getElem?_take] at hx
      split at hx
      · simpa using hx
      · cases hx
    exact ⟨g, C, rfl, h2, h3, h4, h5, h6, h7, by simp; omega, fun j x hx => by rw [Addr.add_mid, Nat.zero_add, cell_of_block h3]; exact ht j x hx, fun j x hx => h8 j x (ht j x hx), h8⟩
theorem zcI {n sz j : Nat} (h : n * sz <= j) : (j - n * sz) % sz = j % sz := by
  have e : j = (j - n * sz) + n * sz := by omega
  conv => rhs; rw [e, Nat.add_mul_mod_self_right]
theorem zbg {P : Program} (lo b B : Nat) (Q : Nat -> Value -> Prop) (t ty e : TypeId) (i : TypeInfo) (z : Value) (sz bytes : Nat) (ht : P.underlying t = some (.slice e)) (hi : P.info? e = some i) (hz : i.zero = some z) (hsize : i.size = sz) (hby : i.bytes = bytes) (hzs : z.cells.size = sz) (hsz : 0 < sz)
    (hz1 : ∀ j x, z.cells[j]? = some x -> Q j x) (h1 : ∀ j x, j < sz -> Q j x -> x.oneCell' = true) (w : World) (hg : ∀ j x, Q (j % sz) x -> zey lo B w e j x) (a : Option Addr) (n cap : Nat) (c : Option Addr) (m cp : Nat)
    (hv : qE lo b Q e sz w (.slice a n cap)) (hu : qE lo b Q e sz w (.slice c m cp)) (hnm : n + m <= 1048576) (hbb : bytes <= 1000000) (hlo : lo <= w.heap.size) :
    ∃ a' cap' w', (Builtin.append_ #[t, t] ty #[.slice a n cap, .slice c m cp]).run P w = .ok (.slice a' (n + m) cap') w' /\ qE lo (n + m) Q e sz w' (.slice a' (n + m) cap') /\ Chg lo B w w' /\ w.grownBy w' (Value.slice a n cap).ownBlock /\ ((∃ g, a = some g) -> ∃ g', a' = some g') := by
  subst hsize
  subst hby
  have hlen : n + m <= maxLen := by unfold maxLen; omega
  have hbytes : (n + m) * i.bytes <= 140737488355328 := Nat.le_trans (Nat.mul_le_mul hnm hbb) (by omega)
  cases c with
  | none =>
    have hm : m = 0 /\ cp = 0 := by
      rcases hu with h | ⟨_, _, _, _, h, _⟩
      · cases h; exact ⟨rfl, rfl⟩
      · cases h
    obtain ⟨rfl, rfl⟩ := hm
    cases a with
    | none =>
      have hn : n = 0 /\ cap = 0 := by
        rcases hv with h | ⟨_, _, _, _, h, _⟩
        · cases h; exact ⟨rfl, rfl⟩
        · cases h
      obtain ⟨rfl, rfl⟩ := hn
      refine ⟨none, 0, w, ?_, Or.inl rfl, zaH fun _ _ _ => rfl, ⟨rfl, rfl, rfl, Nat.le_refl _, fun _ _ _ => rfl⟩, fun ⟨g, h⟩ => by cases h⟩
      simp [Builtin.append_, run_underlying ht, sizeOf, typeInfo, hi, Builtin.lenOf, Builtin.firstCells]
    | some g0 =>
      obtain ⟨g, C, rfl, q1, q2, q3, q4, q5, q6, q7, q8, q9, q10⟩ := hv.span
      refine ⟨some ⟨g, 0, none⟩, cap, w, ?_, Or.inr ⟨g, n, cap, C, rfl, q1, q2, q3, q4, q5, Nat.le_refl _, q10⟩, zaH fun _ _ _ => rfl, ⟨rfl, rfl, rfl, Nat.le_refl _, fun _ _ _ => rfl⟩, fun _ => ⟨_, rfl⟩⟩
      simp [Builtin.append_, run_underlying ht, sizeOf, typeInfo, hi, Builtin.lenOf, Builtin.firstCells, storeCells, go_sem, Result.andThen, q4]
  | some c0 =>
    obtain ⟨gu, Cu, rfl, u1, u2, u3, u4, u5, u6, u7, u8, u9, u10⟩ := hu.span
    have hq : ∀ k x, (Builtin.zeroCells z.cells k)[x]? = none \/ ∃ y, (Builtin.zeroCells z.cells k)[x]? = some y /\ Q (x % i.size) y := fun k x => by
      by_cases hx : x < k * i.size
      · refine Or.inr ⟨z.cells[x % i.size]'(by rw [hzs]; exact Nat.mod_lt _ hsz), ?_, hz1 _ _ (Array.getElem?_eq_getElem _)⟩
        have hm := Nat.mod_lt x hsz
        simp only [Builtin.zeroCells, hzs, Array.getElem?_map, Array.getElem?_range, hx, if_true, Option.map_some]
        congr 1
        rw [getElem!_pos]
      · refine Or.inl (Array.getElem?_eq_none (by rw [size_zeroCells, hzs]; omega))
    have hsmall : n + m <= 9223372036854775807 := by omega
    cases a with
    | none =>
      have hn : n = 0 /\ cap = 0 := by
        rcases hv with h | ⟨_, _, _, _, h, _⟩
        · cases h; exact ⟨rfl, rfl⟩
        · cases h
      obtain ⟨rfl, rfl⟩ := hn
      by_cases hm : m = 0
      · subst hm
        refine ⟨none, 0, w, ?_, Or.inl rfl, zaH fun _ _ _ => rfl, ⟨rfl, rfl, rfl, Nat.le_refl _, fun _ _ _ => rfl⟩, fun ⟨g, h⟩ => by cases h⟩
        simp [Builtin.append_, run_underlying ht, sizeOf, typeInfo, hi, Builtin.lenOf, Builtin.firstCells, loadCells, loadCellsFrom]
      · have hr := run_append_nil (P := P) w t ty e i z ht hi hz ⟨gu, 0, none⟩ m cp _ u7 u8 (by omega) (by omega) (by rw [Nat.zero_add] at hbytes; omega)
        rw [Nat.zero_add]
        have hge := grownCap_ge w m 0 e
        have hcm : grownCap w m 0 e <= maxLen := grownCap_le_maxLen w m 0 e (by omega)
        refine ⟨_, _, _, hr, Or.inr ⟨w.heap.size, m, _, _, rfl, hlo, heap_alloc_new w.drew _, ?_, hge, hcm, Nat.le_refl _, fun j x hx => ?_⟩, zaH fun k _ hk => (show (w.drew.alloc _).heap[k]? = w.drew.heap[k]? from Below.heap_alloc w.drew _ k hk), ⟨rfl, rfl, rfl, by simp, fun k hk _ => (show (w.drew.alloc _).heap[k]? = w.drew.heap[k]? from Below.heap_alloc w.drew _ k hk)⟩, fun _ => ⟨_, rfl⟩⟩
        · simp only [Array.size_append, List.size_toArray, size_zeroCells, hzs, u7, <- Nat.add_mul]
          congr 1; omega
        · rw [Array.getElem?_append] at hx
          simp only [List.size_toArray, u7] at hx
          split at hx
          · exact u9 j x (by simpa using hx)
          · rcases hq (grownCap w m 0 e - m) (j - m * i.size) with h | ⟨y, h, hy⟩
            · rw [h] at hx; cases hx
            · rw [h] at hx; cases hx
              rw [zcI (by omega)] at hy
              exact hy
    | some g0 =>
      obtain ⟨g, C, rfl, q1, q2, q3, q4, q5, q6, q7, q8, q9, q10⟩ := hv.span
      by_cases hroom : n + m <= cap
      · have hfit : n * i.size + (Cu.toList.take (m * i.size)).length <= C.size := by rw [u7, q3, <- Nat.add_mul]; exact Nat.mul_le_mul_right _ hroom
        have hr := run_append_room (P := P) w t ty e i ht hi g n cap C q2 ⟨gu, 0, none⟩ m cp _ u7 u8 (fun u hu => by
          obtain ⟨j, hj⟩ := List.getElem?_of_mem hu
          exact h1 _ _ (Nat.mod_lt _ hsz) (u9 j u hj)) hroom hfit
        have hcell : ∀ j x, (C.toList.take (n * i.size) ++ Cu.toList.take (m * i.size) ++ C.toList.drop (n * i.size + (Cu.toList.take (m * i.size)).length)).toArray[j]? = some x -> C[j]? = some x \/ Q (j % i.size) x := fun j x hx => by
          rw [List.getElem?_toArray, List.getElem?_append] at hx
          rw [List.length_append, q7, u7] at hx
          split at hx
          · rw [List.getElem?_append, q7] at hx
            split at hx
            · exact Or.inr (q9 j x hx)
            · have := u9 _ x hx
              rw [zcI (by omega)] at this
              exact Or.inr this
          · rw [List.getElem?_drop] at hx
            have e2 : n * i.size + m * i.size + (j - (n * i.size + m * i.size)) = j := by omega
            rw [e2] at hx
            exact Or.inl (by simpa using hx)
        refine ⟨_, _, _, hr, Or.inr ⟨g, n + m, cap, _, rfl, q1, setRow_heap w g C _ e _ q2, ?_, hroom, q5, Nat.le_refl _, fun j x hx => ?_⟩, fun k C' t' hk hC' => ?_, ⟨rfl, rfl, rfl, by simp, fun k _ hk => setRow_other w g k _ (fun e => hk (by simp [Value.ownBlock, e]))⟩, fun _ => ⟨_, rfl⟩⟩
        · rw [List.size_toArray, List.length_append, List.length_append, q7, u7, List.length_drop, Array.length_toList, q3]
          rw [u7, q3] at hfit
          omega
        · rcases hcell j x hx with h | h
          · exact q10 j x h
          · exact h
        · by_cases e9 : k = g
          · subst e9
            rw [q2] at hC'
            cases hC'
            refine ⟨_, setRow_heap w k C _ e _ q2, ?_, fun j x hx => ?_⟩
            · rw [List.size_toArray, List.length_append, List.length_append, q7, u7, List.length_drop, Array.length_toList, q3]
              rw [u7, q3] at hfit
              omega
            · rcases hcell j x hx with h | h
              · exact Or.inl h
              · exact Or.inr (hg j x h)
          · exact ⟨C', (setRow_other w g k _ e9).trans hC', rfl, fun _ _ h => Or.inl h⟩
      · have hr := run_append_grow (P := P) w t ty e i z ht hi hz ⟨g, 0, none⟩ n cap _ q7 q8 ⟨gu, 0, none⟩ m cp _ u7 u8 (by omega) (by omega) (growslice_fits (by omega) hbytes)
        have hge := grownCap_ge w (n + m) cap e
        have hcm : grownCap w (n + m) cap e <= maxLen := grownCap_le_maxLen w (n + m) cap e (by omega)
        refine ⟨_, _, _, hr, Or.inr ⟨w.heap.size, n + m, _, _, rfl, hlo, heap_alloc_new w.drew _, ?_, hge, hcm, Nat.le_refl _, fun j x hx => ?_⟩, zaH fun k _ hk => (show (w.drew.alloc _).heap[k]? = w.drew.heap[k]? from Below.heap_alloc w.drew _ k hk), ⟨rfl, rfl, rfl, by simp, fun k hk _ => (show (w.drew.alloc _).heap[k]? = w.drew.heap[k]? from Below.heap_alloc w.drew _ k hk)⟩, fun _ => ⟨_, rfl⟩⟩
        · simp only [Array.size_append, List.size_toArray, size_zeroCells, hzs, q7, u7, <- Nat.add_mul]
          congr 1; omega
        · rw [Array.getElem?_append, Array.getElem?_append] at hx
          simp only [Array.size_append, List.size_toArray, q7, u7] at hx
          split at hx
          · split at hx
            · exact q9 j x (by simpa using hx)
            · have := u9 _ x (by simpa using hx)
              rwa [zcI (by omega)] at this
          · rcases hq (grownCap w (n + m) cap e - (n + m)) (j - (n * i.size + m * i.size)) with h | ⟨y, h, hy⟩
            · rw [h] at hx; cases hx
            · rw [h] at hx; cases hx
              rw [<- Nat.add_mul, zcI (by rw [Nat.add_mul]; omega)] at hy
              exact hy
end Go.Proofs.YtmfgjafdnopfbaaGreat
