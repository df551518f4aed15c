import Derived.Test.YtnbpglbbjnkhpaaGreatM19
import Derived.Test.YtnbpglbbjnkhpaaGreatM13
import Derived.Test.YtnbpglbbjnkhpaaGreatM18
import Derived.Test.YtnbpglbbjnkhpaaGreatM03
import Derived.Deep.RegionWith
import Derived.Test.YtnbpglbbjnkhpaaGreatM02
import Derived.Test.YtnbpglbbjnkhpaaGreatM05
namespace Go.Proofs.YtnbpglbbjnkhpaaGreat
open Go.RowKit
def Gate.qz (ss : List Shp) (ms : List Mnd) (o : Ob) : Bool := Gate.zG ss o.kd && (decide (o.vs.length = (Gate.shapeOf ss o.kd).fs.length) && Gate.yj ss ms)
namespace Gate
theorem zdB {ss : List Shp} {v : ByteArray} (h : zG ss v = true) : ∃ i, ∃ hi : i < ss.length, shapeOf ss v = ss[i] := by
  unfold zG at h
  rw [List.any_eq_true] at h
  obtain ⟨x, hx, he⟩ := h
  unfold shapeOf
  cases hf : ss.find? (fun s => decide (s.kd = v)) with
  | none => rw [List.find?_eq_none] at hf; exact absurd he (hf x hx)
  | some y =>
    obtain ⟨i, hi, rfl⟩ := List.mem_iff_getElem.1 (List.mem_of_find?_eq_some hf)
    exact ⟨i, hi, rfl⟩
theorem zb2 {ss : List Shp} {ms : List Mnd} {o : Ob} (h : qz ss ms o = true) : o.vs.length = (shapeOf ss o.kd).fs.length /\ (shapeOf ss o.kd).fs.length <= 6 /\ (∀ q, q < (shapeOf ss o.kd).fs.length -> ∀ x ∈ zR (shapeOf ss o.kd) ms q, 0 <= x /\ x < (shapeOf ss o.kd).fs.length) /\ (zH (zk (shapeOf ss o.kd) ms) (shapeOf ss o.kd).fs.length).1 = true := by
  unfold qz at h
  simp only [Bool.and_eq_true, decide_eq_true_eq] at h
  obtain ⟨hk, hl, hm⟩ := h
  obtain ⟨i, hi, e⟩ := zdB hk
  unfold yj at hm
  simp only [Bool.and_eq_true, decide_eq_true_eq] at hm
  obtain ⟨⟨⟨h12, hs⟩, ha⟩, hr⟩ := hm
  rw [e] at hl ⊢
  refine ⟨hl, zem hs i hi, zhL hs ha i hi, ?_⟩
  have := List.all_eq_true.1 hr ss[i] (List.getElem_mem hi)
  exact this
def zep (ss : List Shp) (ms : List Mnd) (o : Ob) : List ByteArray := zY (decided (shapeOf ss o.kd) ms) (zH (zk (shapeOf ss o.kd) ms) (shapeOf ss o.kd).fs.length).2.row o.vs
def zbI (ss : List Shp) (ms : List Mnd) (o : Ob) : List ByteArray := if qz ss ms o = true then zep ss ms o else o.vs
end Gate
namespace Gate
def zeL (ss : List Shp) (o : Ob) : Ob := ⟨o.kd, o.nm, o.tm, jJ (shapeOf ss o.kd).fs o.vs, o.en, o.hs, o.vr⟩
def zbj (ss : List Shp) (ms : List Mnd) (o : Ob) : List ByteArray := if qz ss ms o = true then zep ss ms (zeL ss o) else o.vs
theorem zls {ss : List Shp} {ms : List Mnd} {o : Ob} (h : qz ss ms o = true) : (zeL ss o).vs.length = o.vs.length := qG (zb2 h).1
end Gate
theorem zfg {fs : List Fld} {vs : List ByteArray} (hf : zbi fs) (hv : ∀ s ∈ vs, s.size <= maxLen) (hl : vs.length = fs.length) : ∀ s ∈ Gate.jJ fs vs, s.size <= maxLen := by
  intro s hm
  obtain ⟨i, hi, rfl⟩ := List.mem_iff_getElem.1 hm
  have h2 := Gate.qG hl
  have e : (Gate.jJ fs vs)[i] = Gate.jW (fs[i]'(by omega)) (vs[i]'(by omega)) := by simp [Gate.jJ]
  rw [e]
  unfold Gate.jW
  split
  · exact (hf.small i (by omega)).1.df
  · exact hv _ (List.getElem_mem _)
theorem zmZ (o : Ob) (us : List ByteArray) (hnn : us.length = o.vs.length) (s : Shp) (ms : List Mnd) (fa ma ova oha : Option Addr) (fcap mcap cap cap' : Nat) (w : World) (hf : zP w fa s.fs) (hm : yS w ma ms) (hsm : o.Small) (ho : zD w ova us) (ho' : zD w oha o.hs) (hA : zj7 ova us) (hA' : zj7 oha o.hs) (hl : o.vs.length <= 1048576) (hl' : o.hs.length <= 1048576) (hc : o.vs.length = s.fs.length)
    (hml : ms.length <= 1048576) (hn : s.fs.length <= 6) (hrd : ∀ q, q < s.fs.length -> ∀ x ∈ Gate.zR s ms q, 0 <= x /\ x < s.fs.length) (hwk : (Gate.zH (Gate.zk s ms) s.fs.length).1 = true) :
    Calls Tryz.prog 187 #[.agg #[.string s.kd, .slice fa s.fs.length fcap], .slice ma ms.length mcap, .agg #[.string o.kd, .string o.nm, .string o.tm, .slice ova o.vs.length cap, .bool o.en, .slice oha o.hs.length cap', .int .i64 o.vr]] w
      fun e w' => ∃ a dap a' dap' m, e = .returned (.agg #[.string o.kd, .string o.nm, .string o.tm, .slice a o.vs.length dap, .bool o.en, .slice a' o.hs.length dap', .int .i64 o.vr]) /\ zu w.heap.size w' a (Gate.zY (Gate.decided s ms) (Gate.zH (Gate.zk s ms) s.fs.length).2.row us) /\ (∀ g, a = some g -> g.block < m) /\ w.heap.size <= m /\ zu m w' a' o.hs /\ Below w.heap.size w w' := by
  have h := zlx ⟨o.kd, o.nm, o.tm, us, o.en, o.hs, o.vr⟩ s ms fa ma ova oha fcap mcap cap cap' w hf hm ⟨⟨hsm.kd, hsm.nm, hsm.tm⟩, ho, ho'⟩ hA hA' (by show us.length <= _; omega) hl' (by show us.length = _; omega) hml hn hrd hwk
  simp only [hnn] at h
  exact h
end Go.Proofs.YtnbpglbbjnkhpaaGreat

namespace Go.Proofs.YtnbpglbbjnkhpaaGreat
open Go.RowKit
set_option maxHeartbeats 1000000 in
theorem zgt (a : Option Addr) (cap : Nat) (w : World) :
    Calls Tryz.prog 200 #[.slice a 0 cap] w fun e w' => ∃ v, e = .returned v /\ w'.ownsRow w.heap.size 9 1 v 0 [] /\ Below w.heap.size w w' := by
  cases a with
  | none => exact zdT cap w
  | some g =>
    go_enter Tryz.func200, Tryz.ntmps200
    go_wp2_with fail
    go_ret
    exact ⟨_, rfl, World.ownsRow_nil _ _ _ _, Below.refl _ _⟩
theorem zec (a : Option Addr) (cap : Nat) (ws : List ByteArray) (w : World) (hw : zD w a ws) (hl : ws.length <= 1048576) :
    Calls Tryz.prog 200 #[.slice a ws.length cap] w
      fun e w' => ∃ v, e = .returned v /\ w'.ownsRow w.heap.size 9 1 v ws.length (ws.map Value.string) /\ Below w.heap.size w w' := by
  by_cases h : ws = []
  · subst h
    exact zgt a cap w
  · obtain ⟨b, off, rfl, _⟩ := hw.cells h
    exact zd9 b off cap ws w hw hl
set_option maxHeartbeats 1000000 in
theorem zhf (o : Ob) (va ha : Option Addr) (cap cap' : Nat) (w : World) (ho : ql w o va ha) (hl : o.vs.length <= 1048576) (hl' : o.hs.length <= 1048576) :
    Calls Tryz.prog 197 #[.agg #[.string o.kd, .string o.nm, .string o.tm, .slice va o.vs.length cap, .bool o.en, .slice ha o.hs.length cap', .int .i64 o.vr]] w
      fun e w' => ∃ a dap a' dap' m, e = .returned (.agg #[.string o.kd, .string o.nm, .string o.tm, .slice a o.vs.length dap, .bool o.en, .slice a' o.hs.length dap', .int .i64 o.vr]) /\ zu w.heap.size w' a o.vs /\ (∀ g, a = some g -> g.block < m) /\ w.heap.size <= m /\ zu m w' a' o.hs /\ Below w.heap.size w w' := by
  go_enter Tryz.func197, Tryz.ntmps197
  go_wp2_with fail
  refine (zec _ _ _ _ (ho.vals.mono (zB _ _ _)) hl).mono ?_
  rintro e w1 ⟨v, rfl, hown1, hb1⟩
  obtain ⟨a, dap, rfl, ht1⟩ := zu.zel hown1
  have hk1 : w1.heap[w.heap.size]? = some (.cells #[.string o.kd, .string o.nm, .string o.tm, .slice va o.vs.length cap, .bool o.en, .slice ha o.hs.length cap', .int .i64 o.vr] 104) := (hb1.block w.heap.size (by simp; omega)).trans (yh _ _ _).1
  have hr1 : w1.heap[w.heap.size + 1]? = some (.cells #[.string ByteArray.empty, .string ByteArray.empty, .string ByteArray.empty, .slice none 0 0, .bool false, .slice none 0 0, .int .i64 0] 104) := (hb1.block (w.heap.size + 1) (by simp)).trans (yh _ _ _).2
  have HT : Hid (zu (w.heap.size + 1 + 1) w1 a o.vs) := by unfold Hid; simpa using ht1
  have hz1 : w.heap.size + 1 < w1.heap.size := by have := hb1.size; simp at this; omega
  have hB1 : Below w.heap.size w w1 := (zB _ _ _).trans (hb1.mono (by simp; omega))
  have HK : Hid (w1.heap[w.heap.size]? = some (.cells #[.string o.kd, .string o.nm, .string o.tm, .slice va o.vs.length cap, .bool o.en, .slice ha o.hs.length cap', .int .i64 o.vr] 104)) := hk1
  have HRR : Hid (w1.heap[w.heap.size + 1]? = some (.cells #[.string ByteArray.empty, .string ByteArray.empty, .string ByteArray.empty, .slice none 0 0, .bool false, .slice none 0 0, .int .i64 0] 104)) := hr1
  have hX1 : ∀ j, w1.cell? ⟨w.heap.size, j, none⟩ = (#[.string o.kd, .string o.nm, .string o.tm, .slice va o.vs.length cap, .bool o.en, .slice ha o.hs.length cap', .int .i64 o.vr] : Array Value)[j]? := fun j => cell_of_block hk1
  have hF1 : ∀ j, w1.frozen? ⟨w.heap.size, j, none⟩ = false := fun j => zm hk1
  clear hb1 hown1 ht1 hk1 hr1
  go_wp2_with fail
  have hB1' := hB1.setCell (p := ⟨w.heap.size, 3, none⟩) (Nat.le_refl _) (.slice a o.vs.length dap)
  refine (zec _ _ _ _ (ho.holds.mono hB1') hl').mono ?_
  rintro e w2 ⟨v, rfl, hown2, hb2⟩
  obtain ⟨a', dap', rfl, ht2⟩ := zu.zel hown2
  have hk2 : w2.heap[w.heap.size]? = some (.cells #[.string o.kd, .string o.nm, .string o.tm, .slice a o.vs.length dap, .bool o.en, .slice ha o.hs.length cap', .int .i64 o.vr] 104) := (hb2.block w.heap.size (by simp [World.setCell]; omega)).trans (zi HK.out _)
  have hr2 : w2.heap[w.heap.size + 1]? = some (.cells #[.string ByteArray.empty, .string ByteArray.empty, .string ByteArray.empty, .slice none 0 0, .bool false, .slice none 0 0, .int .i64 0] 104) := (hb2.block (w.heap.size + 1) (by simp [World.setCell]; omega)).trans ((Below.heap_setCell _ _ _ _ (by simp)).trans HRR.out)
  have HT2 : Hid (zu (w.heap.size + 1 + 1) w2 a o.vs) := (HT.out.setCell _ (by simp; omega) _).mono hb2
  have HU2 : Hid (zu w1.heap.size w2 a' o.hs) := by unfold Hid; simpa [World.setCell] using ht2
  have HM : Hid (∀ g, a = some g -> g.block < w1.heap.size) := by
    intro g hg
    rcases HT.out with ⟨h0, _⟩ | ⟨g', C, h0, _, hh, _⟩
    · rw [h0] at hg; cases hg
    · rw [h0] at hg; cases hg; exact (Array.getElem?_eq_some_iff.1 hh).1
  have hz2 : w.heap.size + 1 < w2.heap.size := by have := hb2.size; simp [World.setCell] at this; omega
  have hB2 : Below w.heap.size w w2 := hB1'.trans (hb2.mono hB1'.size)
  have hX2 : ∀ j, w2.cell? ⟨w.heap.size, j, none⟩ = (#[.string o.kd, .string o.nm, .string o.tm, .slice a o.vs.length dap, .bool o.en, .slice ha o.hs.length cap', .int .i64 o.vr] : Array Value)[j]? := fun j => cell_of_block hk2
  have hF2 : ∀ j, w2.frozen? ⟨w.heap.size, j, none⟩ = false := fun j => zm hk2
  have hY2 : ∀ j, w2.cell? ⟨w.heap.size + 1, j, none⟩ = (#[.string ByteArray.empty, .string ByteArray.empty, .string ByteArray.empty, .slice none 0 0, .bool false, .slice none 0 0, .int .i64 0] : Array Value)[j]? := fun j => cell_of_block hr2
  have hG2 : ∀ j, w2.frozen? ⟨w.heap.size + 1, j, none⟩ = false := fun j => zm hr2
  have hzz : w.heap.size <= w1.heap.size := by omega
  clear hb2 hown2 ht2 hX1 hF1 hB1 hB1' hk2 hr2
  go_wp2_with fail
  refine bodyPost_ret (v := (.agg #[.string o.kd, .string o.nm, .string o.tm, .slice a o.vs.length dap, .bool o.en, .slice a' o.hs.length dap', .int .i64 o.vr])) (by simp [results, Tryz.results197, go_sem, hY2]) rfl ⟨a, dap, a', dap', w1.heap.size, rfl, ((((((((HT2.out.setCell _ (by simp; omega) _).setCell _ (by simp) _).setCell _ (by simp) _).setCell _ (by simp) _).setCell _ (by simp) _).setCell _ (by simp) _).setCell _ (by simp) _).setCell _ (by simp) _).low (by omega), HM.out, hzz, ((((((((HU2.out.setCell _ (by simp; omega) _).setCell _ (by simp; omega) _).setCell _ (by simp; omega) _).setCell _ (by simp; omega) _).setCell _ (by simp; omega) _).setCell _ (by simp; omega) _).setCell _ (by simp; omega) _).setCell _ (by simp; omega) _), ((((((((hB2.setCell (Nat.le_refl _) _).setCell (by simp) _).setCell (by simp) _).setCell (by simp) _).setCell (by simp) _).setCell (by simp) _).setCell (by simp) _).setCell (by simp) _)⟩
set_option maxHeartbeats 2000000 in
theorem zlz (o : Ob) (kd : ByteArray) (fs : List Fld) (fa : Option Addr) (va ha : Option Addr) (fcap cap cap' : Nat) (w : World) (hf : zP w fa fs) (ho : ql w o va ha) (hl : o.vs.length <= 1048576) (hl' : o.hs.length <= 1048576) (hc : o.vs.length = fs.length) :
    Calls Tryz.prog 188 #[.agg #[.string kd, .slice fa fs.length fcap], .agg #[.string o.kd, .string o.nm, .string o.tm, .slice va o.vs.length cap, .bool o.en, .slice ha o.hs.length cap', .int .i64 o.vr]] w
      fun e w' => ∃ a dap a' dap' m, e = .returned (.agg #[.string o.kd, .string o.nm, .string o.tm, .slice a o.vs.length dap, .bool o.en, .slice a' o.hs.length dap', .int .i64 o.vr]) /\ zu w.heap.size w' a (Gate.jJ fs o.vs) /\ (∀ g, a = some g -> g.block < m) /\ w.heap.size <= m /\ zu m w' a' o.hs /\ Below w.heap.size w w' := by
  have HC : Hid (o.vs.length = fs.length) := hc
  clear hc
  go_enter Tryz.func188, Tryz.ntmps188
  go_wp2_with fail
  refine (zhf o va ha cap cap' _ (ho.mono (jo _ _ _ _)) hl hl').mono ?_
  rintro e w1 ⟨a, dap, a', dap', m, rfl, ht, hm, hsm, ht', hb1⟩
  have hX1 : ∀ j, w1.cell? ⟨w.heap.size, j, none⟩ = (#[.string kd, .slice fa fs.length fcap] : Array Value)[j]? := fun j => cell_of_block ((hb1.block w.heap.size (by simp; omega)).trans (zbu _ _ _ _))
  have HR1 : Hid (w1.heap[w.heap.size + 1 + 1]? = some (.cells #[.string ByteArray.empty, .string ByteArray.empty, .string ByteArray.empty, .slice none 0 0, .bool false, .slice none 0 0, .int .i64 0] 104)) := (hb1.block (w.heap.size + 1 + 1) (by simp)).trans (zbA _ _ _ _)
  have hB1 : Below w.heap.size w w1 := (jo _ _ _ _).trans (hb1.mono (by simp; omega))
  have hz1 : w.heap.size + 1 + 1 < w1.heap.size := by have := hb1.size; simp at this; omega
  have HT : Hid (zu (w.heap.size + 1 + 1 + 1) w1 a o.vs /\ (∀ g, a = some g -> g.block < m) /\ w.heap.size + 1 + 1 + 1 <= m /\ zu m w1 a' o.hs) := by
    simp only [World.size_alloc] at ht hsm
    exact ⟨ht, hm, hsm, ht'⟩
  have hz0 : w.heap.size < w1.heap.size := by omega
  clear ht hm hsm ht' hb1 ho
  have hlen := hf.len
  unfold maxLen at hlen
  go_wp2_with fail
  clear hX1
  go_loopw [13] (fun i wr => ∃ k : Nat, k <= fs.length /\ i = .int .i64 k /\ zu (w.heap.size + 1 + 1 + 1) wr a (Gate.qU fs o.vs k) /\ zu m wr a' o.hs /\ wr.heap[w.heap.size + 1 + 1]? = some (.cells #[.string ByteArray.empty, .string ByteArray.empty, .string ByteArray.empty, .slice none 0 0, .bool false, .slice none 0 0, .int .i64 0] 104) /\ wr.heap[w1.heap.size]? = some (.cells #[.string o.kd, .string o.nm, .string o.tm, .slice a o.vs.length dap, .bool o.en, .slice a' o.hs.length dap', .int .i64 o.vr] 104) /\ Below w.heap.size w wr) (fun i _ => fs.length - (intOf i).toNat)
  case atStart =>
    have hba := (Below.refl w1.heap.size w1).alloc (Nat.le_refl _) (.cells #[.string o.kd, .string o.nm, .string o.tm, .slice a o.vs.length dap, .bool o.en, .slice a' o.hs.length dap', .int .i64 o.vr] 104)
    exact ⟨0, Nat.zero_le _, rfl, by rw [Gate.zf7]; exact HT.out.1.mono hba, HT.out.2.2.2.mono hba, (hba.block _ hz1).trans HR1.out, alloc_at _ _, hB1.alloc hB1.size _⟩
  case round =>
    obtain ⟨k, hk, rfl, ht, ht', hR, hO, hB⟩ := hrel
    have hOc : ∀ j, wr.cell? ⟨w1.heap.size, j, none⟩ = (#[.string o.kd, .string o.nm, .string o.tm, .slice a o.vs.length dap, .bool o.en, .slice a' o.hs.length dap', .int .i64 o.vr] : Array Value)[j]? := fun j => cell_of_block hO
    have hOz : w1.heap.size < wr.heap.size := (Array.getElem?_eq_some_iff.1 hO).1
    by_cases hlt : k < fs.length
    · have hltv : k < o.vs.length := by rw [HC.out]; exact hlt
      obtain ⟨fb, foff, rfl, hfb, hr⟩ := hf.rows (by rintro rfl; simp at hlt)
      obtain ⟨wa, wcap, hf0⟩ := hr k hlt
      have hf1 := hf0.mono hfb hB
      obtain ⟨c0, c1, c2, c3, c4, c5, c6, c7, c8, c9, c10⟩ := hf1.load
      have hltI : (k : Int) < (fs.length : Int) := by omega
      have hltV : (k : Int) < (o.vs.length : Int) := by omega
      have hfbw : fb < wr.heap.size := Nat.lt_of_lt_of_le hfb hB.size
      obtain ⟨g, C, hga, hgl, hgh, hgc⟩ : ∃ g C, a = some ⟨g, 0, none⟩ /\ w.heap.size + 1 + 1 + 1 <= g /\ wr.heap[g]? = some (.cells C 9) /\ ∀ i (h : i < (Gate.qU fs o.vs k).length), C[i]? = some (.string (Gate.qU fs o.vs k)[i]) := by
        rcases ht with ⟨_, h0⟩ | h0
        · have := Gate.zad HC.out k; rw [h0] at this; simp at this; omega
        · exact h0
      have hgm : g < m := HT.out.2.1 _ hga
      have hgw1 : g < w1.heap.size := by have := HT.out.1.lt _ hga; exact this
      have hgw : g < wr.heap.size := by omega
      subst hga
      have hcell : wr.cell? ⟨g, k, none⟩ = some (.string o.vs[k]) := by
        have h1 := Gate.zd2 HC.out k hlt
        have hkl : k < (Gate.qU fs o.vs k).length := by rw [Gate.zad HC.out]; exact hltv
        rw [List.getElem?_eq_getElem hkl, List.getElem?_eq_getElem hltv] at h1
        rw [cell_of_block hgh, hgc k hkl, Option.some.inj h1]
      have hgf : wr.frozen? ⟨g, k, none⟩ = false := zm hgh
      have HX : Hid (zu (w.heap.size + 1 + 1 + 1) wr (some ⟨g, 0, none⟩) (Gate.qU fs o.vs k) /\ zu m wr a' o.hs /\ wr.heap[w.heap.size + 1 + 1]? = some (.cells #[.string ByteArray.empty, .string ByteArray.empty, .string ByteArray.empty, .slice none 0 0, .bool false, .slice none 0 0, .int .i64 0] 104) /\ wr.heap[w1.heap.size]? = some (.cells #[.string o.kd, .string o.nm, .string o.tm, .slice (some ⟨g, 0, none⟩) o.vs.length dap, .bool o.en, .slice a' o.hs.length dap', .int .i64 o.vr] 104) /\ Below w.heap.size w wr) := ⟨ht, ht', hR, hO, hB⟩
      clear ht ht' hR hO hB hf hr hf0 hf1 hgh hgc
      by_cases hv : o.vs[k].toList.isEmpty = true
      · have HV : Hid (Gate.jW fs[k] o.vs[k] = fs[k].df) := by unfold Hid Gate.jW; rw [if_pos hv]
        go_wp2_with fail
        obtain ⟨ht, ht', hR, hO, hB⟩ := HX.out
        have hba := (Below.refl (wr.setCell ⟨g, k, none⟩ (.string fs[k].df)).heap.size (wr.setCell ⟨g, k, none⟩ (.string fs[k].df))).alloc (Nat.le_refl _) (.cells #[.string fs[k].nm, .int .i64 fs[k].kd, .int .i64 fs[k].ls, .int .i64 fs[k].ms, .slice wa fs[k].ws.length wcap, .string fs[k].to, .int .i64 fs[k].rl, .bool fs[k].mu, .bool fs[k].fx, .string fs[k].df, .string fs[k].wg] 115)
        have hs0 : (wr.setCell ⟨g, k, none⟩ (.string fs[k].df)).heap.size = wr.heap.size := by simp [World.setCell]
        exact ⟨⟨k + 1, by omega, by go_num, by rw [Gate.zb9 HC.out k hlt, HV.out]; exact (ht.set k _).mono hba, (ht'.setCell _ hgm _).mono hba, (hba.block _ (by rw [hs0]; omega)).trans ((Below.heap_setCell _ _ _ _ (by show w.heap.size + 1 + 1 ≠ g; omega)).trans hR), (hba.block _ (by rw [hs0]; exact hOz)).trans ((Below.heap_setCell _ _ _ _ (by show w1.heap.size ≠ g; omega)).trans hO), (hB.setCell (p := ⟨g, k, none⟩) (by show w.heap.size <= g; omega) _).alloc (by rw [hs0]; exact hB.size) _⟩, zw hlt⟩
      · have HV : Hid (Gate.jW fs[k] o.vs[k] = o.vs[k]) := by unfold Hid Gate.jW; rw [if_neg hv]
        go_wp2_with fail
        obtain ⟨ht, ht', hR, hO, hB⟩ := HX.out
        have hba := (Below.refl wr.heap.size wr).alloc (Nat.le_refl _) (.cells #[.string fs[k].nm, .int .i64 fs[k].kd, .int .i64 fs[k].ls, .int .i64 fs[k].ms, .slice wa fs[k].ws.length wcap, .string fs[k].to, .int .i64 fs[k].rl, .bool fs[k].mu, .bool fs[k].fx, .string fs[k].df, .string fs[k].wg] 115)
        have hsame : (Gate.qU fs o.vs k).set k o.vs[k] = Gate.qU fs o.vs k := by
          have h1 := Gate.zd2 HC.out k hlt
          have hkl : k < (Gate.qU fs o.vs k).length := by rw [Gate.zad HC.out]; exact hltv
          rw [List.getElem?_eq_getElem hkl, List.getElem?_eq_getElem hltv] at h1
          rw [<- Option.some.inj h1, List.set_getElem_self]
        exact ⟨⟨k + 1, by omega, by go_num, by rw [Gate.zb9 HC.out k hlt, HV.out, hsame]; exact ht.mono hba, ht'.mono hba, (hba.block _ (by omega)).trans hR, (hba.block _ hOz).trans hO, hB.alloc hB.size _⟩, zw hlt⟩
    · have e : k = fs.length := by omega
      subst e
      rw [Gate.zh0 HC.out] at ht
      have hRc : ∀ j, wr.cell? ⟨w.heap.size + 1 + 1, j, none⟩ = (#[.string ByteArray.empty, .string ByteArray.empty, .string ByteArray.empty, .slice none 0 0, .bool false, .slice none 0 0, .int .i64 0] : Array Value)[j]? := fun j => cell_of_block hR
      have hRf : ∀ j, wr.frozen? ⟨w.heap.size + 1 + 1, j, none⟩ = false := fun j => zm hR
      have HX : Hid (zu (w.heap.size + 1 + 1 + 1) wr a (Gate.jJ fs o.vs) /\ zu m wr a' o.hs /\ Below w.heap.size w wr) := ⟨ht, ht', hB⟩
      have HM : Hid (w.heap.size + 1 + 1 + 1 <= m /\ ∀ g, a = some g -> g.block < m) := ⟨HT.out.2.2.1, HT.out.2.1⟩
      clear ht ht' hB hR hO hf
      go_wp2_with fail
      refine bodyPost_ret (v := (.agg #[.string o.kd, .string o.nm, .string o.tm, .slice a o.vs.length dap, .bool o.en, .slice a' o.hs.length dap', .int .i64 o.vr])) (by simp [results, Tryz.results188, go_sem, hRc]) rfl ?_
      obtain ⟨ht, ht', hB⟩ := HX.out
      exact ⟨a, dap, a', dap', m, rfl, (jq ht _ (by omega) _ _ _ _ _ _ _).low (by omega), HM.out.2, by have := HM.out.1; omega, jq ht' _ (by have := HM.out.1; omega) _ _ _ _ _ _ _, zal hB _ (by omega) _ _ _ _ _ _ _⟩
end Go.Proofs.YtnbpglbbjnkhpaaGreat

namespace Go.Proofs.YtnbpglbbjnkhpaaGreat
open Go.RowKit
set_option maxHeartbeats 2000000 in
theorem zft (a a' : Option Addr) (cap cap' : Nat) (fs : List Fld) (w : World) (hw : zP w a fs) (hw' : zP w a' fs) :
    Calls Tryz.prog 131 #[.slice a fs.length cap, .slice a' fs.length cap'] w fun e w' => e = .returned (.bool true) /\ Below w.heap.size w w' := by
  have hl := hw.len
  unfold maxLen at hl
  have hnn : ((fs.length : Int) != fs.length) = false := by simp
  go_enter Tryz.func131, Tryz.ntmps131
  go_wp2_with fail
  go_loopw [5] (fun i wr => ∃ k : Nat, k <= fs.length /\ i = .int .i64 k /\ Below w.heap.size w wr) (fun i _ => fs.length - (intOf i).toNat)
  case atStart => exact ⟨0, Nat.zero_le _, rfl, Below.refl _ _⟩
  case round =>
    obtain ⟨k, hk, rfl, hB⟩ := hrel
    by_cases hlt : k < fs.length
    · obtain ⟨b, off, rfl, hb, hr⟩ := hw.rows (by rintro rfl; simp at hlt)
      obtain ⟨b', off', rfl, hb', hr'⟩ := hw'.rows (by rintro rfl; simp at hlt)
      obtain ⟨wa, wcap, hf0⟩ := hr k hlt
      obtain ⟨wa', wcap', hf0'⟩ := hr' k hlt
      have hf := hf0.mono hb hB
      have hf' := hf0'.mono hb' hB
      obtain ⟨c0, c1, c2, c3, c4, c5, c6, c7, c8, c9, c10⟩ := hf.load
      obtain ⟨d0, d1, d2, d3, d4, d5, d6, d7, d8, d9, d10⟩ := hf'.load
      have hst := hf.strs
      have hst' := hf'.strs
      have hltI : (k : Int) < (fs.length : Int) := by omega
      clear hw hw' hr hr' hf0 hf0' hf hf'
      go_wp2_with fail
      go_region_with (go_at_call 173; refine (zgQ _ _ _ _ _ _ _ _ _ _ _ _ _ _ _ _ (by exact hst.mono ((Below.refl _ _).drew)) (by exact hst'.mono ((Below.refl _ _).drew))).mono ?_; rintro e w1 ⟨rfl, hb1'⟩; have hb1 := (Below.refl wr.heap.size wr).drew.trans hb1'; clear hb1')
      all_goals go_wp2_with fail
      all_goals exact ⟨⟨k + 1, by omega, by go_num, hB.trans (hb1.mono hB.size)⟩, by simp [intOf]; omega⟩
    · clear hw hw'
      go_wp2_with fail
      go_ret
      exact ⟨rfl, hB⟩
set_option maxHeartbeats 1000000 in
theorem zgy (kd : ByteArray) (a a' : Option Addr) (cap cap' : Nat) (fs : List Fld) (w : World) (hw : zP w a fs) (hw' : zP w a' fs) :
    Calls Tryz.prog 77 #[.agg #[.string kd, .slice a fs.length cap], .agg #[.string kd, .slice a' fs.length cap']] w fun e w' => e = .returned (.bool true) /\ Below w.heap.size w w' := by
  go_enter Tryz.func77, Tryz.ntmps77
  go_wp2_with fail
  refine (zft _ _ _ _ _ _ (hw.mono (zB _ _ _)) (hw'.mono (zB _ _ _))).mono ?_
  rintro e w1 ⟨rfl, hb1⟩
  go_wp2_with fail
  go_ret
  exact ⟨rfl, (zB _ _ _).trans (hb1.mono (by simp; omega))⟩
set_option maxHeartbeats 2000000 in
theorem zfP (a a' : Option Addr) (cap cap' : Nat) (ss : List Shp) (w : World) (hw : yG w a ss) (hw' : yG w a' ss) :
    Calls Tryz.prog 33 #[.slice a ss.length cap, .slice a' ss.length cap'] w fun e w' => e = .returned (.bool true) /\ Below w.heap.size w w' := by
  have hl := hw.len
  unfold maxLen at hl
  have hnn : ((ss.length : Int) != ss.length) = false := by simp
  go_enter Tryz.func33, Tryz.ntmps33
  go_wp2_with fail
  go_loopw [5] (fun i wr => ∃ k : Nat, k <= ss.length /\ i = .int .i64 k /\ Below w.heap.size w wr) (fun i _ => ss.length - (intOf i).toNat)
  case atStart => exact ⟨0, Nat.zero_le _, rfl, Below.refl _ _⟩
  case round =>
    obtain ⟨k, hk, rfl, hB⟩ := hrel
    by_cases hlt : k < ss.length
    · obtain ⟨b, off, rfl, hb, hr⟩ := hw.rows (by rintro rfl; simp at hlt)
      obtain ⟨b', off', rfl, hb', hr'⟩ := hw'.rows (by rintro rfl; simp at hlt)
      obtain ⟨wa, wcap, hf0⟩ := hr k hlt
      obtain ⟨wa', wcap', hf0'⟩ := hr' k hlt
      have hf := hf0.mono hb hB
      have hf' := hf0'.mono hb' hB
      have c0 := hf.kind
      have c1 := hf.list
      have d0 := hf'.kind
      have d1 := hf'.list
      have hst := hf.flds
      have hst' := hf'.flds
      have hltI : (k : Int) < (ss.length : Int) := by omega
      clear hw hw' hr hr' hf0 hf0' hf hf'
      go_wp2_with fail
      go_region_with (go_at_call 77; refine (zgy _ _ _ _ _ _ _ (by exact hst.mono ((Below.refl _ _).drew)) (by exact hst'.mono ((Below.refl _ _).drew))).mono ?_; rintro e w1 ⟨rfl, hb1'⟩; have hb1 := (Below.refl wr.heap.size wr).drew.trans hb1'; clear hb1')
      all_goals go_wp2_with fail
      all_goals exact ⟨⟨k + 1, by omega, by go_num, hB.trans (hb1.mono hB.size)⟩, by simp [intOf]; omega⟩
    · clear hw hw'
      go_wp2_with fail
      go_ret
      exact ⟨rfl, hB⟩
end Go.Proofs.YtnbpglbbjnkhpaaGreat

namespace Go.Proofs.YtnbpglbbjnkhpaaGreat
open Go.RowKit
def zcG (o : Ob) : Nat := o.kd.size + o.nm.size + o.tm.size + qI o.vs + qI o.hs
set_option maxHeartbeats 2000000 in
theorem zfI (o : Ob) (a a' : Option Addr) (cap cap' : Nat) (left : Int) (w : World) (ho : ql w o a a') (h0 : 0 <= left) (h1 : left <= 1048576) :
    Calls Tryz.prog 43 #[.agg #[.string o.kd, .string o.nm, .string o.tm, .slice a o.vs.length cap, .bool o.en, .slice a' o.hs.length cap', .int .i64 o.vr], .int .i64 left] w fun e w' => e = .returned (.int .i64 (zL (zcG o) left)) /\ Below w.heap.size w w' := by
  have hkd := ho.small.kd
  have hnm := ho.small.nm
  have htm := ho.small.tm
  have hv := ho.vals
  have hh := ho.holds
  clear ho
  unfold maxLen at hkd hnm htm
  by_cases c1 : (o.kd.size : Int) <= left
  rotate_left
  · have HF : Hid (zL (zcG o) left = -1) := zC (by unfold zcG; omega)
    go_enter Tryz.func43, Tryz.ntmps43
    go_wp2_with fail
    go_ret
    exact ⟨zo HF.out.symm, (Below.refl _ _).alloc (Nat.le_refl _) _⟩
  by_cases c2 : (o.nm.size : Int) <= left - o.kd.size
  rotate_left
  · have HF : Hid (zL (zcG o) left = -1) := zC (by unfold zcG; omega)
    go_enter Tryz.func43, Tryz.ntmps43
    go_wp2_with fail
    go_ret
    exact ⟨zo HF.out.symm, (Below.refl _ _).alloc (Nat.le_refl _) _⟩
  by_cases c3 : (o.tm.size : Int) <= left - o.kd.size - o.nm.size
  rotate_left
  · have HF : Hid (zL (zcG o) left = -1) := zC (by unfold zcG; omega)
    go_enter Tryz.func43, Tryz.ntmps43
    go_wp2_with fail
    go_ret
    exact ⟨zo HF.out.symm, (Below.refl _ _).alloc (Nat.le_refl _) _⟩
  by_cases c4 : (qI o.vs : Int) <= left - o.kd.size - o.nm.size - o.tm.size
  rotate_left
  · have HF : Hid (zL (zcG o) left = -1) := zC (by unfold zcG; omega)
    go_enter Tryz.func43, Tryz.ntmps43
    go_wp2_with fail
    refine (zc5 _ _ _ _ _ (hv.mono ((Below.refl _ _).alloc (Nat.le_refl _) _)) (by omega) (by omega) (by omega)).mono ?_
    rintro e w1 ⟨rfl, rfl⟩
    go_wp2_with fail
    go_ret
    exact ⟨zo HF.out.symm, (Below.refl _ _).alloc (Nat.le_refl _) _⟩
  by_cases c5 : (qI o.hs : Int) <= left - o.kd.size - o.nm.size - o.tm.size - qI o.vs
  rotate_left
  · have HF : Hid (zL (zcG o) left = -1) := zC (by unfold zcG; omega)
    go_enter Tryz.func43, Tryz.ntmps43
    go_wp2_with fail
    refine (jI _ _ _ _ _ (hv.mono ((Below.refl _ _).alloc (Nat.le_refl _) _)) (by omega) (by omega) (by omega)).mono ?_
    rintro e w1 ⟨rfl, rfl⟩
    go_wp2_with fail
    refine (zc5 _ _ _ _ _ (hh.mono ((Below.refl _ _).alloc (Nat.le_refl _) _)) (by omega) (by omega) (by omega)).mono ?_
    rintro e w1 ⟨rfl, rfl⟩
    go_wp2_with fail
    go_ret
    exact ⟨zo HF.out.symm, (Below.refl _ _).alloc (Nat.le_refl _) _⟩
  · have HF : Hid (zL (zcG o) left = left - o.kd.size - o.nm.size - o.tm.size - qI o.vs - qI o.hs) := by
      have e : zL (zcG o) left = left - zcG o := zM (by unfold zcG; omega)
      unfold Hid; rw [e]; unfold zcG; omega
    go_enter Tryz.func43, Tryz.ntmps43
    go_wp2_with fail
    refine (jI _ _ _ _ _ (hv.mono ((Below.refl _ _).alloc (Nat.le_refl _) _)) (by omega) (by omega) (by omega)).mono ?_
    rintro e w1 ⟨rfl, rfl⟩
    go_wp2_with fail
    refine (jI _ _ _ _ _ (hh.mono ((Below.refl _ _).alloc (Nat.le_refl _) _)) (by omega) (by omega) (by omega)).mono ?_
    rintro e w1 ⟨rfl, rfl⟩
    go_wp2_with fail
    go_ret
    exact ⟨zo HF.out.symm, (Below.refl _ _).alloc (Nat.le_refl _) _⟩
set_option maxHeartbeats 1000000 in
theorem zfE (o : Ob) (a a' b b' : Option Addr) (cap cap' dap dap' : Nat) (w : World) (ho : ql w o a a') (ho' : ql w o b b') :
    Calls Tryz.prog 80 #[.agg #[.string o.kd, .string o.nm, .string o.tm, .slice a o.vs.length cap, .bool o.en, .slice a' o.hs.length cap', .int .i64 o.vr], .agg #[.string o.kd, .string o.nm, .string o.tm, .slice b o.vs.length dap, .bool o.en, .slice b' o.hs.length dap', .int .i64 o.vr]] w fun e w' => e = .returned (.bool true) /\ Below w.heap.size w w' := by
  go_enter Tryz.func80, Tryz.ntmps80
  go_wp2_with fail
  refine (zcx _ _ _ _ _ _ (ho.vals.mono (zB _ _ _)) (ho'.vals.mono (zB _ _ _))).mono ?_
  rintro e w1 ⟨rfl, hb1⟩
  have hX1 := za (wk := (w.alloc (.cells #[.string o.kd, .string o.nm, .string o.tm, .slice a o.vs.length cap, .bool o.en, .slice a' o.hs.length cap', .int .i64 o.vr] 104)).alloc (.cells #[.string o.kd, .string o.nm, .string o.tm, .slice b o.vs.length dap, .bool o.en, .slice b' o.hs.length dap', .int .i64 o.vr] 104)) (b := w.heap.size) (X := #[.string o.kd, .string o.nm, .string o.tm, .slice a o.vs.length cap, .bool o.en, .slice a' o.hs.length cap', .int .i64 o.vr]) (fun j => by rw [World.cell?_alloc_lt _ _ ⟨w.heap.size, j, none⟩ (by simp)]; exact zl w _ _ j) (by simp; omega) hb1
  have hY1 := za (wk := (w.alloc (.cells #[.string o.kd, .string o.nm, .string o.tm, .slice a o.vs.length cap, .bool o.en, .slice a' o.hs.length cap', .int .i64 o.vr] 104)).alloc (.cells #[.string o.kd, .string o.nm, .string o.tm, .slice b o.vs.length dap, .bool o.en, .slice b' o.hs.length dap', .int .i64 o.vr] 104)) (b := w.heap.size + 1) (X := #[.string o.kd, .string o.nm, .string o.tm, .slice b o.vs.length dap, .bool o.en, .slice b' o.hs.length dap', .int .i64 o.vr]) (fun j => by rw [World.cell?_alloc_at _ _ _ _ (by simp)]) (by simp) hb1
  have hz1 : w.heap.size + 1 < w1.heap.size := by have := hb1.size; simp at this; omega
  have hB1 : Below w.heap.size w w1 := (zB _ _ _).trans (hb1.mono (by simp; omega))
  clear hb1
  go_wp2_with fail
  refine (zcx _ _ _ _ _ _ (ho.holds.mono hB1) (ho'.holds.mono hB1)).mono ?_
  rintro e w2 ⟨rfl, hb2⟩
  have hX2 := za hX1 (by omega) hb2
  have hY2 := za hY1 (by omega) hb2
  have hB2 := hB1.trans (hb2.mono (by omega))
  clear hb2 hX1 hY1
  go_wp2_with fail
  go_ret
  exact ⟨rfl, hB2⟩
theorem zob (w : World) (o1 o2 o3 o4 o5 : Obj) : (((((w.alloc o1).alloc o2).alloc o3).alloc o4).alloc o5).heap[w.heap.size + 1 + 1 + 1]? = some o4 :=
  (Below.heap_alloc _ _ _ (by simp)).trans (at4 _ _ _ _ _)
theorem zod (w : World) (o1 o2 o3 o4 o5 : Obj) : (((((w.alloc o1).alloc o2).alloc o3).alloc o4).alloc o5).heap[w.heap.size + 1 + 1 + 1 + 1]? = some o5 := by
  have h := (MapKept.heap_alloc ((((w.alloc o1).alloc o2).alloc o3).alloc o4) o5).1
  simpa using h
set_option maxHeartbeats 2000000 in
theorem zfO (o : Ob) (a a' : Option Addr) (cap cap' : Nat) (w : World) (ho : ql w o a a') (hl : o.vs.length <= 1048576) (hl' : o.hs.length <= 1048576) :
    Calls Tryz.prog 65 #[.agg #[.string o.kd, .string o.nm, .string o.tm, .slice a o.vs.length cap, .bool o.en, .slice a' o.hs.length cap', .int .i64 o.vr]] w fun e w' => ∃ bv bh, e = .returned (.agg #[.string o.kd, .string o.nm, .string o.tm, .slice (some ⟨bv, 0, none⟩) o.vs.length o.vs.length, .bool o.en, .slice (some ⟨bh, 0, none⟩) o.hs.length o.hs.length, .int .i64 o.vr]) /\
      w.heap.size <= bv /\ w.heap.size <= bh /\ bv ≠ bh /\ w'.heap[bv]? = some (.cells (jU o.vs) 9) /\ w'.heap[bh]? = some (.cells (jU o.hs) 9) /\ Below w.heap.size w w' := by
  go_enter Tryz.func65, Tryz.ntmps65
  go_wp2_with fail
  refine (zcs _ _ _ _ (ho.vals.mono ((((Below.refl _ _).alloc (Nat.le_refl _) _).alloc (by simp) _).alloc (by simp; omega) _)) hl).mono ?_
  rintro e w1 ⟨rfl, rfl⟩
  go_wp2_with fail
  refine (zcs _ _ _ _ (ho.holds.mono (zlF _ _ _ _ _)) hl').mono ?_
  rintro e w2 ⟨rfl, rfl⟩
  go_wp2_with fail
  refine bodyPost_ret (v := .agg #[.string o.kd, .string o.nm, .string o.tm, .slice (some ⟨w.heap.size + 1 + 1 + 1, 0, none⟩) o.vs.length o.vs.length, .bool o.en, .slice (some ⟨w.heap.size + 1 + 1 + 1 + 1, 0, none⟩) o.hs.length o.hs.length, .int .i64 o.vr]) (by simp [results, Tryz.results65, go_sem]) rfl ⟨w.heap.size + 1 + 1 + 1, w.heap.size + 1 + 1 + 1 + 1, rfl, by omega, by omega, by omega, zob _ _ _ _ _ _, zod _ _ _ _ _ _, (zlF _ _ _ _ _).alloc (by simp; omega) _⟩
end Go.Proofs.YtnbpglbbjnkhpaaGreat
