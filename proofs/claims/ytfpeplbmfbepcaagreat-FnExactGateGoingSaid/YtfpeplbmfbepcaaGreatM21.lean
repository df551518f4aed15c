import Derived.Test.YtfpeplbmfbepcaaGreatM15
import Derived.Test.YtfpeplbmfbepcaaGreatM12
import Derived.Deep.RegionHeld3
import Derived.Test.YtfpeplbmfbepcaaGreatM17
import Derived.Deep.QuietTactic
import Derived.BigQuiet
namespace Go.Proofs.YtfpeplbmfbepcaaGreat
open Go.RowKit
def Ob.row (o : Ob) (a0 a1 : Option Addr) (c0 c1 : Nat) : Array Value := #[.string o.kd, .string o.nm, .string o.tm, .slice a0 o.vs.length c0, .bool o.en, .slice a1 o.hs.length c1, .int .i64 o.vr]
def Ob.sz (o : Ob) : Nat := zcY o
theorem Ob.znI {o : Ob} (h : (o.sz : Int) <= 1048576) : o.vs.length <= 1048576 /\ o.hs.length <= 1048576 := zqm h (Int.le_refl _)
theorem zcX (o : Ob) (a0 a1 : Option Addr) (c0 c1 : Nat) (left : Int) (w : World) (hm : o.Small) (h0' : zA w a0 o.vs) (h1' : zA w a1 o.hs) (h0 : 0 <= left) (h1 : left <= 1048576) :
    Calls Tryz.prog 54 #[.agg (o.row a0 a1 c0 c1), .int .i64 left] w fun e w' => e = .returned (.int .i64 (zF o.sz left)) /\ Below w.heap.size w w' := zgn o a0 a1 c0 c1 left w ⟨hm, h0', h1'⟩ h0 h1
theorem zgB (o : Ob) (a0 a1 : Option Addr) (c0 c1 : Nat) (a0' a1' : Option Addr) (c0' c1' : Nat) (w : World) (hm : o.Small) (h0 : zA w a0 o.vs) (h1 : zA w a1 o.hs) (h0' : zA w a0' o.vs) (h1' : zA w a1' o.hs) :
    Calls Tryz.prog 78 #[.agg (o.row a0 a1 c0 c1), .agg (o.row a0' a1' c0' c1')] w fun e w' => e = .returned (.bool true) /\ Below w.heap.size w w' := zgu o a0 a1 a0' a1' c0 c1 c0' c1' w ⟨hm, h0, h1⟩ ⟨hm, h0', h1'⟩
theorem zgj (o : Ob) (a0 a1 : Option Addr) (c0 c1 : Nat) (w : World) (hm : o.Small) (h0 : zA w a0 o.vs) (h1 : zA w a1 o.hs) (hl : o.vs.length <= 1048576 /\ o.hs.length <= 1048576) :
    Calls Tryz.prog 67 #[.agg (o.row a0 a1 c0 c1)] w fun e w' => ∃ g0 g1, e = .returned (.agg (o.row (some ⟨g0, 0, none⟩) (some ⟨g1, 0, none⟩) o.vs.length o.hs.length)) /\ w.heap.size <= g0 /\ w'.heap[g0]? = some (.cells (jk o.vs) 9) /\ w.heap.size <= g1 /\ w'.heap[g1]? = some (.cells (jk o.hs) 9) /\ Below w.heap.size w w' := by
  refine (zgK o a0 a1 c0 c1 w ⟨hm, h0, h1⟩ hl.1 hl.2).mono ?_
  rintro e w' ⟨bv, bh, he, hv, hh, _, hbv, hbh, hb⟩
  exact ⟨bv, bh, he, hv, hbv, hh, hbh, hb⟩
structure zoN (w : World) (b off : Nat) (x : Ob) (a0 a1 : Option Addr) (c0 c1 : Nat) : Prop where
  small : x.Small
  l0 : zA w a0 x.vs
  l1 : zA w a1 x.hs
  cell : ∀ j, j < 7 -> w.cell? ⟨b, off + j, none⟩ = (Ob.row x a0 a1 c0 c1)[j]?
structure zbn (w : World) (a : Option Addr) (ms : List Ob) : Prop where
  len : ms.length <= maxLen
  rows : ms ≠ [] -> ∃ b off, a = some ⟨b, off, none⟩ /\ b < w.heap.size /\ ∀ i (h : i < ms.length), ∃ a0 a1 c0 c1, zoN w b (off + i * 7) ms[i] a0 a1 c0 c1
theorem zoN.mono {w w' : World} {b off : Nat} {x : Ob} {a0 a1 : Option Addr} {c0 c1 : Nat} (h : zoN w b off x a0 a1 c0 c1) (hb : b < w.heap.size) (hl : Below w.heap.size w w') : zoN w' b off x a0 a1 c0 c1 :=
  ⟨h.small, h.l0.mono hl, h.l1.mono hl, fun j hj => (hl.cell (p := ⟨b, off + j, none⟩) hb).trans (h.cell j hj)⟩
theorem zbn.mono {w w' : World} {a : Option Addr} {ms : List Ob} (h : zbn w a ms) (hl : Below w.heap.size w w') : zbn w' a ms :=
  ⟨h.len, fun hne => by
    obtain ⟨b, off, ha, hb, hr⟩ := h.rows hne
    refine ⟨b, off, ha, Nat.lt_of_lt_of_le hb hl.size, fun i hi => ?_⟩
    obtain ⟨a0, a1, c0, c1, hf⟩ := hr i hi
    exact ⟨a0, a1, c0, c1, hf.mono hb hl⟩⟩
theorem zbn.load {w w' : World} {a : Option Addr} {ms : List Ob} (h : zbn w a ms) (hl : Below w.heap.size w w') (i : Nat) (hi : i < ms.length) : ∃ b off a0 a1 c0 c1, a = some ⟨b, off, none⟩ /\ b < w.heap.size /\ ms[i].Small /\ zA w' a0 ms[i].vs /\ zA w' a1 ms[i].hs /\
    w'.cell? ⟨b, off + i * 7, none⟩ = some (.string ms[i].kd) /\ w'.cell? ⟨b, off + i * 7 + 1, none⟩ = some (.string ms[i].nm) /\ w'.cell? ⟨b, off + i * 7 + 2, none⟩ = some (.string ms[i].tm) /\ w'.cell? ⟨b, off + i * 7 + 3, none⟩ = some (.slice a0 ms[i].vs.length c0) /\ w'.cell? ⟨b, off + i * 7 + 4, none⟩ = some (.bool ms[i].en) /\ w'.cell? ⟨b, off + i * 7 + 5, none⟩ = some (.slice a1 ms[i].hs.length c1) /\ w'.cell? ⟨b, off + i * 7 + 6, none⟩ = some (.int .i64 ms[i].vr) := by
  obtain ⟨b, off, ha, hb, hr⟩ := h.rows (by rintro rfl; simp at hi)
  obtain ⟨a0, a1, c0, c1, hf0⟩ := hr i hi
  have hf := hf0.mono hb hl
  exact ⟨b, off, a0, a1, c0, c1, ha, hb, hf.small, hf.l0, hf.l1, hf.cell 0 (by omega), hf.cell 1 (by omega), hf.cell 2 (by omega), hf.cell 3 (by omega), hf.cell 4 (by omega), hf.cell 5 (by omega), hf.cell 6 (by omega)⟩
def zaI (ms : List Ob) : Nat := (ms.map Ob.sz).sum
def yZ (ms : List Ob) : Nat := ms.length + zaI ms
structure zfv (ms : List Ob) : Prop where
  small : ∀ i (h : i < ms.length), ms[i].Small /\ (ms[i].vs.length <= maxLen /\ ∀ s ∈ ms[i].vs, s.size <= maxLen) /\ (ms[i].hs.length <= maxLen /\ ∀ s ∈ ms[i].hs, s.size <= maxLen)
theorem zbn.smalls {w : World} {a : Option Addr} {ms : List Ob} (h : zbn w a ms) : zfv ms :=
  ⟨fun i hi => by
    obtain ⟨b, off, _, _, hr⟩ := h.rows (by rintro rfl; simp at hi)
    obtain ⟨a0, a1, c0, c1, hf⟩ := hr i hi
    exact ⟨hf.small, ⟨hf.l0.len, hf.l0.small⟩, ⟨hf.l1.len, hf.l1.small⟩⟩⟩
theorem zkZ {ms : List Ob} {left : Int} (h : (yZ ms : Int) <= left) (hl : left <= 1048576) : ms.length <= 1048576 /\ ∀ i (h : i < ms.length), ms[i].vs.length <= 1048576 /\ ms[i].hs.length <= 1048576 := by
  unfold yZ at h
  refine ⟨by omega, fun i hi => ?_⟩
  have h1 : ms[i].sz <= zaI ms := zh0 Ob.sz ms i hi
  exact Ob.znI (by omega)
set_option maxHeartbeats 1000000 in
theorem zfE (a : Option Addr) (cap : Nat) (ms : List Ob) (left : Int) (w : World) (hw : zbn w a ms) (h0 : 0 <= left) (h1 : left <= 1048576) :
    Calls Tryz.prog 20 #[.slice a ms.length cap, .int .i64 left] w fun e w' => e = .returned (.int .i64 (zF (yZ ms) left)) /\ Below w.heap.size w w' := by
  have hl := hw.len
  unfold maxLen at hl
  by_cases hfit : (ms.length : Int) <= left
  · go_enter Tryz.func20, Tryz.ntmps20
    go_wp2_with fail
    go_loopw [1, 5] (fun l i wr => ∃ k : Nat, k <= ms.length /\ i = .int .i64 k /\ 0 <= left - ms.length - zaI (ms.take k) /\ l = .int .i64 (left - ms.length - zaI (ms.take k)) /\ Below w.heap.size w wr) (fun _ i _ => ms.length - (intOf i).toNat)
    case atStart => exact ⟨0, Nat.zero_le _, rfl, by simp [zaI]; omega, by simp [zaI], Below.refl _ _⟩
    case round =>
      obtain ⟨k, hk, rfl, hpos, rfl, hB⟩ := hrel
      by_cases hlt : k < ms.length
      · obtain ⟨b, off, a0, a1, c0, c1, rfl, hb, hsm, hl0, hl1, d0, d1, d2, d3, d4, d5, d6⟩ := hw.load hB k hlt
        have hbr := Nat.lt_of_lt_of_le hb hB.size
        have HS : Hid (zaI (ms.take (k + 1)) = zaI (ms.take k) + ms[k].sz) := zaH Ob.sz ms k hlt
        have hle : zaI (ms.take (k + 1)) <= zaI ms := zce Ob.sz ms (k + 1)
        have HI : Hid (zA wr a0 ms[k].vs /\ zA wr a1 ms[k].hs) := ⟨hl0, hl1⟩
        clear hw hl0 hl1
        by_cases hneg : (ms[k].sz : Int) <= left - ms.length - zaI (ms.take k)
        · have HNG : Hid ((ms[k].sz : Int) <= left - ms.length - zaI (ms.take k)) := hneg
          clear hle
          go_wp2_with fail
          refine (zcX ms[k] a0 a1 c0 c1 _ _ hsm HI.out.1 HI.out.2 hpos (by omega)).mono ?_
          rintro e w1 ⟨rfl, hb1⟩
          rw [zH HNG.out]
          have hB1 := hB.trans (hb1.mono hB.size)
          clear hb1
          go_wp2_with fail
          exact ⟨⟨k + 1, by omega, by go_num, by rw [HS.out]; omega, by rw [HS.out]; congr 1; omega, hB1⟩, by simp [intOf]; omega⟩
        · have HF : Hid (zF (yZ ms) left = -1) := zx (by have := HS.out; unfold yZ; omega)
          have HNG := hid hneg
          clear hneg hle
          go_wp2_with fail
          refine (zcX ms[k] a0 a1 c0 c1 _ _ hsm HI.out.1 HI.out.2 hpos (by omega)).mono ?_
          rintro e w1 ⟨rfl, hb1⟩
          rw [zx (by have := HNG.out; omega)]
          have hB1 := hB.trans (hb1.mono hB.size)
          clear hb1
          go_wp2_with fail
          go_ret
          exact ⟨zl HF.out.symm, hB1⟩
      · have HF : Hid (zF (yZ ms) left = left - ms.length - zaI (ms.take k)) := by
          rw [List.take_of_length_le (by omega)] at hpos ⊢
          have e : zF (yZ ms) left = left - yZ ms := zH (by unfold yZ; omega)
          unfold Hid; rw [e]; unfold yZ; omega
        clear hw
        go_wp2
        go_ret
        exact ⟨zl HF.out.symm, hB⟩
  · have HF : Hid (zF (yZ ms) left = -1) := zx (by unfold yZ; omega)
    clear hw
    go_enter Tryz.func20, Tryz.ntmps20
    go_wp2
    go_ret
    exact ⟨zl HF.out.symm, Below.refl _ _⟩
set_option maxHeartbeats 2000000 in
theorem zfK (a a' : Option Addr) (cap cap' : Nat) (ms : List Ob) (w : World) (hw : zbn w a ms) (hw' : zbn w a' ms) :
    Calls Tryz.prog 40 #[.slice a ms.length cap, .slice a' ms.length cap'] w fun e w' => e = .returned (.bool true) /\ Below w.heap.size w w' := by
  have hl := hw.len
  unfold maxLen at hl
  have hnn : ((ms.length : Int) != ms.length) = false := by simp
  go_enter Tryz.func40, Tryz.ntmps40
  go_wp2_with fail
  go_loopw [5] (fun i wr => ∃ k : Nat, k <= ms.length /\ i = .int .i64 k /\ Below w.heap.size w wr) (fun i _ => ms.length - (intOf i).toNat)
  case atStart => exact ⟨0, Nat.zero_le _, rfl, Below.refl _ _⟩
  case round =>
    obtain ⟨k, hk, rfl, hB⟩ := hrel
    by_cases hlt : k < ms.length
    · obtain ⟨b, off, a0, a1, c0, c1, rfl, hb, hsm, hl0, hl1, d0, d1, d2, d3, d4, d5, d6⟩ := hw.load hB k hlt
      obtain ⟨b', off', a0', a1', c0', c1', rfl, hb', _, hl0', hl1', f0, f1, f2, f3, f4, f5, f6⟩ := hw'.load hB k hlt
      have hltI : (k : Int) < (ms.length : Int) := by omega
      clear hw hw'
      go_wp2_with fail
      go_region_with (go_at_call 78; refine (zgB ms[k] a0 a1 c0 c1 a0' a1' c0' c1' _ hsm (by exact hl0.mono ((Below.refl _ _).drew)) (by exact hl1.mono ((Below.refl _ _).drew)) (by exact hl0'.mono ((Below.refl _ _).drew)) (by exact hl1'.mono ((Below.refl _ _).drew))).mono ?_; rintro e w1 ⟨rfl, hb1'⟩; have hb1 := (Below.refl wr.heap.size wr).drew.trans hb1'; clear hb1')
      all_goals go_wp2_with fail
      all_goals exact ⟨⟨k + 1, by omega, by go_num, hB.trans (hb1.mono hB.size)⟩, by simp [intOf]; omega⟩
    · clear hw hw'
      go_wp2_with fail
      go_ret
      exact ⟨rfl, hB⟩
structure qV (lo : Nat) (w : World) (bo : Nat) (ms : List Ob) (k : Nat) : Prop where
  low : lo <= bo
  rows : ∃ C, w.heap[bo]? = some (.cells C 119) /\ C.size = ms.length * 7 /\
    ∀ i (h : i < ms.length), i < k -> ∃ g0 g1, lo <= g0 /\ g0 ≠ bo /\ w.heap[g0]? = some (.cells (jk ms[i].vs) 9) /\ lo <= g1 /\ g1 ≠ bo /\ w.heap[g1]? = some (.cells (jk ms[i].hs) 9) /\ ∀ j, j < 7 -> C[i * 7 + j]? = (Ob.row ms[i] (some ⟨g0, 0, none⟩) (some ⟨g1, 0, none⟩) ms[i].vs.length ms[i].hs.length)[j]?
theorem qV.at {lo : Nat} {w : World} {bo : Nat} {ms : List Ob} (h : qV lo w bo ms ms.length) (hs : zfv ms) (hl : ms.length <= maxLen) : zbn w (some ⟨bo, 0, none⟩) ms := by
  obtain ⟨C, hC, hsz, hr⟩ := h.rows
  refine ⟨hl, fun _ => ⟨bo, 0, rfl, (Array.getElem?_eq_some_iff.1 hC).1, fun i hi => ?_⟩⟩
  obtain ⟨g0, g1, _, _, hk0, _, _, hk1, hc⟩ := hr i hi hi
  obtain ⟨s0, s1, s2⟩ := hs.small i hi
  refine ⟨some ⟨g0, 0, none⟩, some ⟨g1, 0, none⟩, ms[i].vs.length, ms[i].hs.length, s0, zcU hk0 s1.1 s1.2, zcU hk1 s2.1 s2.2, fun j hj => ?_⟩
  rw [cell_of_block hC, Nat.zero_add]
  exact hc j hj
theorem qV.above {lo : Nat} {w w' : World} {bo : Nat} {ms : List Ob} {k : Nat} (h : qV lo w bo ms k) (ha : yt lo w w') : qV lo w' bo ms k := by
  obtain ⟨C, hC, hsz, hr⟩ := h.rows
  refine ⟨h.low, C, (ha.same _ h.low (Array.getElem?_eq_some_iff.1 hC).1).trans hC, hsz, fun i hi hk => ?_⟩
  obtain ⟨g0, g1, p0, q0, r0, p1, q1, r1, hc⟩ := hr i hi hk
  exact ⟨g0, g1, p0, q0, (ha.same _ p0 (Array.getElem?_eq_some_iff.1 r0).1).trans r0, p1, q1, (ha.same _ p1 (Array.getElem?_eq_some_iff.1 r1).1).trans r1, hc⟩
theorem qV.later {lo : Nat} {w w' : World} {bo : Nat} {ms : List Ob} {k : Nat} (h : qV lo w bo ms k) (hb : Below w.heap.size w w') : qV lo w' bo ms k := h.above (yt.below hb)
theorem qV.weaken {lo lo' : Nat} {w : World} {bo : Nat} {ms : List Ob} {k : Nat} (h : qV lo w bo ms k) (hl : lo' <= lo) : qV lo' w bo ms k := by
  obtain ⟨C, hC, hsz, hr⟩ := h.rows
  refine ⟨Nat.le_trans hl h.low, C, hC, hsz, fun i hi hk => ?_⟩
  obtain ⟨g0, g1, p0, q0, r0, p1, q1, r1, hc⟩ := hr i hi hk
  exact ⟨g0, g1, Nat.le_trans hl p0, q0, r0, Nat.le_trans hl p1, q1, r1, hc⟩
def zmh (w : World) (b o : Nat) (v0 v1 v2 v3 v4 v5 v6 : Value) : World := (((((((w.setCell ⟨b, o, none⟩ v0).setCell ⟨b, o + 1, none⟩ v1).setCell ⟨b, o + 2, none⟩ v2).setCell ⟨b, o + 3, none⟩ v3).setCell ⟨b, o + 4, none⟩ v4).setCell ⟨b, o + 5, none⟩ v5).setCell ⟨b, o + 6, none⟩ v6)
def ziR (C : Array Value) (o : Nat) (v0 v1 v2 v3 v4 v5 v6 : Value) : Array Value := (((((((C.setIfInBounds (o) v0).setIfInBounds (o + 1) v1).setIfInBounds (o + 2) v2).setIfInBounds (o + 3) v3).setIfInBounds (o + 4) v4).setIfInBounds (o + 5) v5).setIfInBounds (o + 6) v6)
theorem zlN {w : World} {b o : Nat} {C : Array Value} {t : TypeId} (h : w.heap[b]? = some (.cells C t)) (v0 v1 v2 v3 v4 v5 v6 : Value) : (zmh w b o v0 v1 v2 v3 v4 v5 v6).heap[b]? = some (.cells (ziR C o v0 v1 v2 v3 v4 v5 v6) t) :=
  zf (zf (zf (zf (zf (zf (zf h v0) v1) v2) v3) v4) v5) v6
theorem zl4 {B : Nat} {a w : World} (h : Below B a w) {b : Nat} (hb : B <= b) (o : Nat) (v0 v1 v2 v3 v4 v5 v6 : Value) : Below B a (zmh w b o v0 v1 v2 v3 v4 v5 v6) :=
  ((((((h.setCell hb v0).setCell hb v1).setCell hb v2).setCell hb v3).setCell hb v4).setCell hb v5).setCell hb v6
theorem zcu (w : World) (b o : Nat) (v0 v1 v2 v3 v4 v5 v6 : Value) {b' : Nat} (h : b' ≠ b) : (zmh w b o v0 v1 v2 v3 v4 v5 v6).heap[b']? = w.heap[b']? := by
  unfold zmh
  iterate 7 rw [zB h]
theorem zn5 (C : Array Value) (o : Nat) (v0 v1 v2 v3 v4 v5 v6 : Value) : (ziR C o v0 v1 v2 v3 v4 v5 v6).size = C.size := by simp [ziR]
theorem zoQ (C : Array Value) (o i : Nat) (v0 v1 v2 v3 v4 v5 v6 : Value) (h : i < o \/ o + 7 <= i) : (ziR C o v0 v1 v2 v3 v4 v5 v6)[i]? = C[i]? := by
  unfold ziR
  iterate 7 rw [Array.getElem?_setIfInBounds, if_neg (by omega)]
theorem zpc (C : Array Value) (o j : Nat) (v0 v1 v2 v3 v4 v5 v6 : Value) (hj : j < 7) (ho : o + 7 <= C.size) : (ziR C o v0 v1 v2 v3 v4 v5 v6)[o + j]? = (#[v0, v1, v2, v3, v4, v5, v6] : Array Value)[j]? := by
  have hc : j = 0 \/ j = 1 \/ j = 2 \/ j = 3 \/ j = 4 \/ j = 5 \/ j = 6 := by omega
  unfold ziR
  rcases hc with h | h | h | h | h | h | h <;> subst h <;> simp [Array.getElem?_setIfInBounds] <;> omega
theorem qV.put {lo : Nat} {w : World} {bo : Nat} {ms : List Ob} {k : Nat} (h : qV lo w bo ms k) (hk : k < ms.length) (g0 g1 : Nat) (p0 : lo <= g0) (q0 : g0 ≠ bo) (r0 : w.heap[g0]? = some (.cells (jk ms[k].vs) 9)) (p1 : lo <= g1) (q1 : g1 ≠ bo) (r1 : w.heap[g1]? = some (.cells (jk ms[k].hs) 9)) :
    qV lo (zmh w bo (k * 7) (.string ms[k].kd) (.string ms[k].nm) (.string ms[k].tm) (.slice (some ⟨g0, 0, none⟩) ms[k].vs.length ms[k].vs.length) (.bool ms[k].en) (.slice (some ⟨g1, 0, none⟩) ms[k].hs.length ms[k].hs.length) (.int .i64 ms[k].vr)) bo ms (k + 1) := by
  obtain ⟨C, hC, hsz, hr⟩ := h.rows
  refine ⟨h.low, _, zlN hC _ _ _ _ _ _ _, by rw [zn5]; exact hsz, fun i hi hik => ?_⟩
  rcases Nat.lt_or_ge i k with hlt | hge
  · obtain ⟨g0', g1', x0, y0, z0, x1, y1, z1, hc⟩ := hr i hi hlt
    refine ⟨g0', g1', x0, y0, (by rw [zcu _ _ _ _ _ _ _ _ _ _ y0]; exact z0), x1, y1, (by rw [zcu _ _ _ _ _ _ _ _ _ _ y1]; exact z1), fun j hj => ?_⟩
    rw [zoQ _ _ _ _ _ _ _ _ _ _ (by omega)]
    exact hc j hj
  · have e : i = k := by omega
    subst e
    refine ⟨g0, g1, p0, q0, (by rw [zcu _ _ _ _ _ _ _ _ _ _ q0]; exact r0), p1, q1, (by rw [zcu _ _ _ _ _ _ _ _ _ _ q1]; exact r1), fun j hj => ?_⟩
    rw [zpc _ _ _ _ _ _ _ _ _ _ hj (by omega)]
    rfl
def zpT : Array Value := #[.string ByteArray.empty, .string ByteArray.empty, .string ByteArray.empty, .slice none 0 0, .bool false, .slice none 0 0, .int .i64 0]
def zoj (n : Nat) : Array Value := madeCells zpT (n * 7)
set_option maxHeartbeats 2000000 in
theorem zf1 (a : Option Addr) (cap : Nat) (ms : List Ob) (w : World) (hw : zbn w a ms) (hl : ms.length <= 1048576) (hls : ∀ i (h : i < ms.length), ms[i].vs.length <= 1048576 /\ ms[i].hs.length <= 1048576) :
    Calls Tryz.prog 31 #[.slice a ms.length cap] w fun e w' => e = .returned (.slice (some ⟨w.heap.size, 0, none⟩) ms.length ms.length) /\ qV w.heap.size w' w.heap.size ms ms.length /\ Below w.heap.size w w' := by
  have hmk : ∀ w : World, (Instr.makeSlice 43 (.int .i64 ms.length) (.int .i64 ms.length)).run Tryz.prog w = .ok (.slice (some ⟨w.heap.size, 0, none⟩) ms.length ms.length) (w.alloc (.cells (zoj ms.length) 119)) :=
    fun w => qP (P := Tryz.prog) 43 119 (.agg zpT) 7 112 Tryz.underlying43 (by kernel_rfl) ms.length (by omega) (by omega) w
  go_enter Tryz.func31, Tryz.ntmps31
  go_wp2_with fail
  clear hmk
  go_loopw [4] (fun i wr => ∃ k : Nat, k <= ms.length /\ i = .int .i64 k /\ Hid (qV w.heap.size wr w.heap.size ms k) /\ Below w.heap.size w wr) (fun i _ => ms.length - (intOf i).toNat)
  case atStart => exact ⟨0, Nat.zero_le _, rfl, ⟨Nat.le_refl _, zoj ms.length, (MapKept.heap_alloc w _).1, size_madeCells _ _, fun i _ h => absurd h (by omega)⟩, (Below.refl _ _).alloc (Nat.le_refl _) _⟩
  case round =>
    obtain ⟨k, hk, rfl, HOW, hB⟩ := hrel
    by_cases hlt : k < ms.length
    · obtain ⟨b, off, a0, a1, c0, c1, rfl, hb, hsm, hl0, hl1, d0, d1, d2, d3, d4, d5, d6⟩ := hw.load hB k hlt
      have HLS := hid (hls k hlt)
      have hltI : (k : Int) < (ms.length : Int) := by omega
      clear hw
      go_wp2_with fail
      refine (zgj ms[k] a0 a1 c0 c1 _ hsm hl0 hl1 HLS.out).mono ?_
      rintro e w1 ⟨g0, g1, rfl, p0, r0, p1, r1, hb1⟩
      have hB1 := hB.trans (hb1.mono hB.size)
      have hbo : w.heap.size < wr.heap.size := by
        obtain ⟨C', hC', _⟩ := HOW.out.rows
        exact (Array.getElem?_eq_some_iff.1 hC').1
      have HP := hid (HOW.out.later hb1)
      obtain ⟨C, hC, hsz, _⟩ := HP.out.rows
      have hfz : ∀ o, w1.frozen? ⟨w.heap.size, o, none⟩ = false := fun o => zh hC
      have hex : ∀ o, o < ms.length * 7 -> ∃ v, w1.cell? ⟨w.heap.size, o, none⟩ = some v := fun o ho => ⟨C[o]'(by omega), by rw [cell_of_block hC]; exact Array.getElem?_eq_getElem (by omega)⟩
      obtain ⟨v0, hv0⟩ := hex (k * 7) (by omega)
      obtain ⟨v1, hv1⟩ := hex (k * 7 + 1) (by omega)
      obtain ⟨v2, hv2⟩ := hex (k * 7 + 2) (by omega)
      obtain ⟨v3, hv3⟩ := hex (k * 7 + 3) (by omega)
      obtain ⟨v4, hv4⟩ := hex (k * 7 + 4) (by omega)
      obtain ⟨v5, hv5⟩ := hex (k * 7 + 5) (by omega)
      obtain ⟨v6, hv6⟩ := hex (k * 7 + 6) (by omega)
      have HR := zia p0 r0 p1 r1
      clear hex hC hsz d0 d1 d2 d3 d4 d5 d6 p0 r0 p1 r1 hl0 hl1
      unfold Ob.row
      go_wp2_with fail
      obtain ⟨p0, r0, p1, r1⟩ := HR.out
      exact ⟨⟨k + 1, by omega, by go_num, HP.out.put hlt g0 g1 (by omega) (by omega) r0 (by omega) (by omega) r1, zl4 hB1 (Nat.le_refl _) _ _ _ _ _ _ _ _⟩, by simp [intOf]; omega⟩
    · have HF : Hid (qV w.heap.size wr w.heap.size ms ms.length) := by
        have e : k = ms.length := by omega
        subst e; exact HOW.out
      clear hw HOW
      go_wp2_with fail
      go_ret
      exact ⟨rfl, HF.out, hB⟩
end Go.Proofs.YtfpeplbmfbepcaaGreat

namespace Go.Proofs.YtfpeplbmfbepcaaGreat
open Go.RowKit
set_option maxHeartbeats 2000000 in
theorem zcZ (a : Option Addr) (cap : Nat) (ss : List Shp) (w : World) (hw : yI w a ss) :
    Calls Tryz.prog 140 #[.slice a ss.length cap] w fun e w' => e = .returned (.bool (Gate.zJ ss)) /\ Below w.heap.size w w' := by
  have hl := hw.len
  unfold maxLen at hl
  by_cases h6 : ss.length <= 6
  rotate_left
  · have HF : Hid (Gate.zJ ss = false) := by simp [Hid, Gate.zJ, h6]
    clear hw
    go_enter Tryz.func140, Tryz.ntmps140
    go_wp2
    go_ret
    exact ⟨ze HF.out.symm, Below.refl _ _⟩
  have HG : Hid (Gate.zJ ss = Gate.up (Gate.yD ss) ss.length) := by simp [Hid, Gate.zJ, h6]
  have h6I : (ss.length : Int) <= 6 := by omega
  go_enter Tryz.func140, Tryz.ntmps140
  go_wp2_with fail
  refine (zb8 _).mono ?_
  rintro e w0 ⟨rfl, hw0⟩
  have hB00 : Below w.heap.size w w0 := by rw [hw0]; exact (Below.refl _ _).alloc (Nat.le_refl _) _
  have hr0 : w0.heap[w.heap.size]? = some (.map qI 4) := by rw [hw0]; exact alloc_at _ _
  have hz0 : w.heap.size < w0.heap.size := by rw [hw0]; simp
  clear hw0
  go_wp2_with fail
  go_loopw [12] (fun i wr => ∃ k : Nat, k <= ss.length /\ i = .int .i64 k /\ Gate.up (Gate.yD ss) k = true /\ Below w0.heap.size w0 wr) (fun i _ => ss.length - (intOf i).toNat)
  case atStart => exact ⟨0, Nat.zero_le _, rfl, rfl, Below.refl _ _⟩
  case round =>
    obtain ⟨k, hk, rfl, hup, hB⟩ := hrel
    have hsz := hB.size
    by_cases hlt : k < ss.length
    · obtain ⟨b, off, rfl, hb, hrw⟩ := hw.rows (by rintro rfl; simp at hlt)
      have hb0 : b < w0.heap.size := by omega
      have hall : yI wr (some ⟨b, off, none⟩) ss := (hw.mono hB00).mono hB
      obtain ⟨fa, fcap, hs⟩ := hrw k hlt
      have hs' := (hs.mono hb hB00).mono hb0 hB
      have hck := hs'.kind
      have hcl := hs'.list
      have hfl := hs'.zcE
      have hsm := hs.small
      have hra : wr.heap[w.heap.size]? = some (.map qI 4) := (hB.block _ hz0).trans hr0
      have HS : Hid (Gate.yD ss k = true -> Gate.up (Gate.yD ss) (k + 1) = true) := fun h => by rw [Gate.jG, hup, h]; rfl
      have HN : Hid (Gate.yD ss k = false -> Gate.zJ ss = false) := fun h => by rw [HG.out]; exact Gate.zbg hlt h
      have hltI : (k : Int) < (ss.length : Int) := by omega
      by_cases hn : Gate.zy ss[k].kd = true
      rotate_left
      · have HNm : Hid (Gate.zy ss[k].kd = false) := by simpa [Hid] using hn
        have HF : Hid (Gate.yD ss k = false) := by
          unfold Hid Gate.yD; rw [Gate.getD_at ss k _ hlt, HNm.out]; rfl
        clear hn hup hw hrw hs hs' hr0 hra
        go_wp2_with fail
        go_quiet ((go_at_call 145; exact Calls.quiet_of_same (zw HNm.out (zR _ _ hsm))))
        go_wp2_with fail
        go_ret
        exact ⟨ze (HN.out HF.out).symm, hB00.trans ((below_drewN (hB.alloc hsz _) _).mono (by omega))⟩
      have HNm : Hid (Gate.zy ss[k].kd = true) := hn
      clear hn
      by_cases hk0 : k = 0
      · have HA : Hid (Gate.yD ss k = Gate.yH ss ss[k].fs) := by subst hk0; unfold Hid; rw [Gate.zeU ss hlt, HNm.out]; rfl
        have hg : decide (0 < k) = false := by simp; omega
        clear hup hw hrw hs hs' hr0 hk0
        by_cases hok : Gate.yH ss ss[k].fs = true
        · have HK : Hid (Gate.yH ss ss[k].fs = true) := hok
          clear hok
          go_wp2_with fail
          go_quiet ((go_at_call 145; exact Calls.quiet_of_same (zw HNm.out (zR _ _ hsm))))
          go_wp2_with fail
          have hbr2 : Below wr.heap.size wr ((wr.alloc (.cells #[.string ss[k].kd, .slice fa ss[k].fs.length fcap] 123)).drewN nq) := below_drewN ((Below.refl _ _).alloc (Nat.le_refl _) _) _
          refine (zw HK.out (zbY _ _ _ _ _ _ _ _ ((hbr2.block _ (by omega)).trans hra) (hall.mono hbr2) (hfl.mono hbr2))).mono ?_
          rintro e w3 ⟨rfl, hb3⟩
          have hB3 : Below w0.heap.size w0 w3 := (hB.trans (hbr2.mono hsz)).trans (hb3.mono (by simp; omega))
          clear hb3 hbr2
          go_wp2_with fail
          exact ⟨⟨k + 1, by omega, by go_num, HS.out (by rw [HA.out, HK.out]), hB3⟩, by simp [intOf]; omega⟩
        · have HK : Hid (Gate.yH ss ss[k].fs = false) := by simpa [Hid] using hok
          clear hok
          go_wp2_with fail
          go_quiet ((go_at_call 145; exact Calls.quiet_of_same (zw HNm.out (zR _ _ hsm))))
          go_wp2_with fail
          have hbr2 : Below wr.heap.size wr ((wr.alloc (.cells #[.string ss[k].kd, .slice fa ss[k].fs.length fcap] 123)).drewN nq) := below_drewN ((Below.refl _ _).alloc (Nat.le_refl _) _) _
          refine (zw HK.out (zbY _ _ _ _ _ _ _ _ ((hbr2.block _ (by omega)).trans hra) (hall.mono hbr2) (hfl.mono hbr2))).mono ?_
          rintro e w3 ⟨rfl, hb3⟩
          have hB3 : Below w0.heap.size w0 w3 := (hB.trans (hbr2.mono hsz)).trans (hb3.mono (by simp; omega))
          clear hb3 hbr2
          go_wp2_with fail
          go_ret
          exact ⟨ze (HN.out (by rw [HA.out, HK.out])).symm, hB00.trans (hB3.mono (by omega))⟩
      · obtain ⟨m, rfl⟩ : ∃ m, k = m + 1 := ⟨k - 1, by omega⟩
        obtain ⟨fam, fcapm, hsm0⟩ := hrw m (by omega)
        have hcm := ((hsm0.mono hb hB00).mono hb0 hB).kind
        have HA : Hid (Gate.yD ss (m + 1) = (Gate.less ss[m].kd ss[m + 1].kd && Gate.yH ss ss[m + 1].fs)) := by unfold Hid; rw [Gate.zfl ss m hlt, HNm.out]; rfl
        have hmI : (m : Int) < 6 := by omega
        have hm0 : (0 : Int) <= (m : Int) := by omega
        have hbr : b < wr.heap.size := by omega
        have hml : (m : Int) < (ss.length : Int) := by omega
        have hmw : IntKind.i64.wrap (m : Int) = m := by rw [IntKind.wrap_i64]; omega
        clear hup hw hrw hs hs' hr0 hk0 hsm0
        by_cases hls : Gate.less ss[m].kd ss[m + 1].kd = true
        rotate_left
        · have hls' : Op.bytesLess ss[m].kd.toList ss[m + 1].kd.toList = false := by simpa [Gate.less] using hls
          have HLS : Hid (Gate.less ss[m].kd ss[m + 1].kd = false) := hls'
          clear hls
          go_wp2_with fail
          go_quiet ((go_at_call 145; exact Calls.quiet_of_same (zw HNm.out (zR _ _ hsm))))
          go_wp2_with fail
          go_ret
          exact ⟨ze (HN.out (by rw [HA.out, HLS.out]; rfl)).symm, hB00.trans ((below_drewN (hB.alloc hsz _) _).mono (by omega))⟩
        have hls' : Op.bytesLess ss[m].kd.toList ss[m + 1].kd.toList = true := hls
        have HLS : Hid (Gate.less ss[m].kd ss[m + 1].kd = true) := hls
        clear hls
        by_cases hok : Gate.yH ss ss[m + 1].fs = true
        · have HK : Hid (Gate.yH ss ss[m + 1].fs = true) := hok
          clear hok
          go_wp2_with fail
          go_quiet ((go_at_call 145; exact Calls.quiet_of_same (zw HNm.out (zR _ _ hsm))))
          go_wp2_with fail
          have hbr2 : Below wr.heap.size wr ((wr.alloc (.cells #[.string ss[m + 1].kd, .slice fa ss[m + 1].fs.length fcap] 123)).drewN nq) := below_drewN ((Below.refl _ _).alloc (Nat.le_refl _) _) _
          refine (zw HK.out (zbY _ _ _ _ _ _ _ _ ((hbr2.block _ (by omega)).trans hra) (hall.mono hbr2) (hfl.mono hbr2))).mono ?_
          rintro e w3 ⟨rfl, hb3⟩
          have hB3 : Below w0.heap.size w0 w3 := (hB.trans (hbr2.mono hsz)).trans (hb3.mono (by simp; omega))
          clear hb3 hbr2
          go_wp2_with fail
          exact ⟨⟨m + 1 + 1, by omega, by go_num, HS.out (by rw [HA.out, HLS.out, HK.out]; rfl), hB3⟩, by simp [intOf]; omega⟩
        · have HK : Hid (Gate.yH ss ss[m + 1].fs = false) := by simpa [Hid] using hok
          clear hok
          go_wp2_with fail
          go_quiet ((go_at_call 145; exact Calls.quiet_of_same (zw HNm.out (zR _ _ hsm))))
          go_wp2_with fail
          have hbr2 : Below wr.heap.size wr ((wr.alloc (.cells #[.string ss[m + 1].kd, .slice fa ss[m + 1].fs.length fcap] 123)).drewN nq) := below_drewN ((Below.refl _ _).alloc (Nat.le_refl _) _) _
          refine (zw HK.out (zbY _ _ _ _ _ _ _ _ ((hbr2.block _ (by omega)).trans hra) (hall.mono hbr2) (hfl.mono hbr2))).mono ?_
          rintro e w3 ⟨rfl, hb3⟩
          have hB3 : Below w0.heap.size w0 w3 := (hB.trans (hbr2.mono hsz)).trans (hb3.mono (by simp; omega))
          clear hb3 hbr2
          go_wp2_with fail
          go_ret
          exact ⟨ze (HN.out (by rw [HA.out, HLS.out, HK.out]; rfl)).symm, hB00.trans (hB3.mono (by omega))⟩
    · have HF : Hid (Gate.zJ ss = true) := by
        have e : k = ss.length := by omega
        subst e; rw [HG.out]; exact hup
      clear hup hw
      go_wp2
      go_ret
      exact ⟨ze HF.out.symm, hB00.trans (hB.mono (by omega))⟩
end Go.Proofs.YtfpeplbmfbepcaaGreat

namespace Go.Proofs.YtfpeplbmfbepcaaGreat
open Go.RowKit
structure Lg where
  tm : ByteArray
  rs : ByteArray
  mo : Int
  fr : Int
def Lg.cells (m : Lg) : Array Value := #[.string m.tm, .string m.rs, .int .i64 m.mo, .int .i64 m.fr]
structure Lg.Small (m : Lg) : Prop where
  tm : m.tm.size <= maxLen
  rs : m.rs.size <= maxLen
structure zck (w : World) (a : Option Addr) (ms : List Lg) : Prop where
  len : ms.length <= maxLen
  small : ∀ i (h : i < ms.length), ms[i].Small
  rows : ms ≠ [] -> ∃ b off, a = some ⟨b, off, none⟩ /\ b < w.heap.size /\ ∀ i (h : i < ms.length), ∀ j, j < 4 -> w.cell? ⟨b, off + i * 4 + j, none⟩ = ms[i].cells[j]?
theorem zck.mono {w w' : World} {a : Option Addr} {ms : List Lg} (h : zck w a ms) (hl : Below w.heap.size w w') : zck w' a ms :=
  ⟨h.len, h.small, fun hne => by
    obtain ⟨b, off, ha, hb, hr⟩ := h.rows hne
    exact ⟨b, off, ha, Nat.lt_of_lt_of_le hb hl.size, fun i hi j hj => (hl.cell (p := ⟨b, off + i * 4 + j, none⟩) hb).trans (hr i hi j hj)⟩⟩
theorem zck.load {w w' : World} {a : Option Addr} {ms : List Lg} (h : zck w a ms) (hl : Below w.heap.size w w') (i : Nat) (hi : i < ms.length) : ∃ b off, a = some ⟨b, off, none⟩ /\ b < w.heap.size /\
    w'.cell? ⟨b, off + i * 4, none⟩ = some (.string ms[i].tm) /\ w'.cell? ⟨b, off + i * 4 + 1, none⟩ = some (.string ms[i].rs) /\ w'.cell? ⟨b, off + i * 4 + 2, none⟩ = some (.int .i64 ms[i].mo) /\ w'.cell? ⟨b, off + i * 4 + 3, none⟩ = some (.int .i64 ms[i].fr) := by
  obtain ⟨b, off, ha, hb, hr⟩ := h.rows (by rintro rfl; simp at hi)
  have hc : ∀ j, j < 4 -> w'.cell? ⟨b, off + i * 4 + j, none⟩ = ms[i].cells[j]? := fun j hj => (hl.cell (p := ⟨b, off + i * 4 + j, none⟩) hb).trans (hr i hi j hj)
  exact ⟨b, off, ha, hb, hc 0 (by omega), hc 1 (by omega), hc 2 (by omega), hc 3 (by omega)⟩
def Lg.sz (m : Lg) : Nat := m.tm.size + m.rs.size
def zdF (ms : List Lg) : Nat := (ms.map Lg.sz).sum
def zch (ms : List Lg) : Nat := ms.length + zdF ms
set_option maxHeartbeats 1000000 in
theorem zcW (m : Lg) (left : Int) (w : World) (hm : m.Small) (h0 : 0 <= left) (h1 : left <= 1048576) :
    Calls Tryz.prog 56 #[.agg m.cells, .int .i64 left] w fun e w' => e = .returned (.int .i64 (zF m.sz left)) /\ Below w.heap.size w w' := by
  have k0 := hm.tm
  have k1 := hm.rs
  unfold maxLen at k0 k1
  unfold Lg.cells
  have hB : ∀ ob, Below w.heap.size w (w.alloc ob) := fun ob => (Below.refl _ _).alloc (Nat.le_refl _) _
  by_cases hf : (m.sz : Int) <= left
  · have HF : Hid (zF m.sz left = left - m.tm.size - m.rs.size) := by
      unfold Hid; rw [zH hf]; unfold Lg.sz; omega
    unfold Lg.sz at hf
    go_enter Tryz.func56, Tryz.ntmps56
    go_wp2_with fail
    go_ret
    exact ⟨zl HF.out.symm, hB _⟩
  · have HF : Hid (zF m.sz left = -1) := zx hf
    have HN : Hid (¬ ((m.tm.size + m.rs.size : Nat) : Int) <= left) := hf
    clear hf
    go_enter Tryz.func56, Tryz.ntmps56
    go_wp2_with fail
    all_goals go_ret
    all_goals first | exact ⟨zl HF.out.symm, hB _⟩ | (exfalso; have := HN.out; simp at *; omega)
theorem zgJ (m : Lg) (left : Int) (w : World) (hm : m.Small) (h0 : 0 <= left) (h1 : left <= 1048576) (h : (m.sz : Int) <= left) :
    Calls Tryz.prog 56 #[.agg m.cells, .int .i64 left] w fun e w' => e = .returned (.int .i64 (left - m.sz)) /\ Below w.heap.size w w' := by
  refine (zcW m left w hm h0 h1).mono ?_
  rintro e w' ⟨rfl, hb⟩
  exact ⟨zl (zH h), hb⟩
theorem zhp (m : Lg) (left : Int) (w : World) (hm : m.Small) (h0 : 0 <= left) (h1 : left <= 1048576) (h : ¬ (m.sz : Int) <= left) :
    Calls Tryz.prog 56 #[.agg m.cells, .int .i64 left] w fun e w' => e = .returned (.int .i64 (-1)) /\ Below w.heap.size w w' := by
  refine (zcW m left w hm h0 h1).mono ?_
  rintro e w' ⟨rfl, hb⟩
  exact ⟨zl (zx h), hb⟩
set_option maxHeartbeats 1000000 in
theorem zfq (a : Option Addr) (cap : Nat) (ms : List Lg) (left : Int) (w : World) (hw : zck w a ms) (h0 : 0 <= left) (h1 : left <= 1048576) :
    Calls Tryz.prog 22 #[.slice a ms.length cap, .int .i64 left] w fun e w' => e = .returned (.int .i64 (zF (zch ms) left)) /\ Below w.heap.size w w' := by
  have hl := hw.len
  unfold maxLen at hl
  by_cases hfit : (ms.length : Int) <= left
  · go_enter Tryz.func22, Tryz.ntmps22
    go_wp2_with fail
    go_loopw [1, 5] (fun l i wr => ∃ k : Nat, k <= ms.length /\ i = .int .i64 k /\ 0 <= left - ms.length - zdF (ms.take k) /\ l = .int .i64 (left - ms.length - zdF (ms.take k)) /\ Below w.heap.size w wr) (fun _ i _ => ms.length - (intOf i).toNat)
    case atStart => exact ⟨0, Nat.zero_le _, rfl, by simp [zdF]; omega, by simp [zdF], Below.refl _ _⟩
    case round =>
      obtain ⟨k, hk, rfl, hpos, rfl, hB⟩ := hrel
      by_cases hlt : k < ms.length
      · obtain ⟨b, off, rfl, hb, c0, c1, c2, c3⟩ := hw.load hB k hlt
        have hsm := hw.small k hlt
        have HS : Hid (zdF (ms.take (k + 1)) = zdF (ms.take k) + ms[k].sz) := zaH Lg.sz ms k hlt
        have hle : zdF (ms.take (k + 1)) <= zdF ms := zce Lg.sz ms (k + 1)
        clear hw
        by_cases hneg : (ms[k].sz : Int) <= left - ms.length - zdF (ms.take k)
        · have HNG : Hid ((ms[k].sz : Int) <= left - ms.length - zdF (ms.take k)) := hneg
          clear hle
          go_wp2_with fail
          refine (zgJ _ _ _ hsm hpos (by omega) HNG.out).mono ?_
          rintro e w1 ⟨rfl, hb1⟩
          have hB1 := hB.trans (hb1.mono hB.size)
          clear hb1
          go_wp2_with fail
          exact ⟨⟨k + 1, by omega, by go_num, by rw [HS.out]; omega, by rw [HS.out]; congr 1; omega, hB1⟩, by simp [intOf]; omega⟩
        · have HF : Hid (zF (zch ms) left = -1) := zx (by have := HS.out; unfold zch; omega)
          have HNG := hid hneg
          clear hneg hle
          go_wp2_with fail
          refine (zhp _ _ _ hsm hpos (by omega) (by have := HNG.out; omega)).mono ?_
          rintro e w1 ⟨rfl, hb1⟩
          have hB1 := hB.trans (hb1.mono hB.size)
          clear hb1
          go_wp2_with fail
          go_ret
          exact ⟨zl HF.out.symm, hB1⟩
      · have HF : Hid (zF (zch ms) left = left - ms.length - zdF (ms.take k)) := by
          rw [List.take_of_length_le (by omega)] at hpos ⊢
          have e : zF (zch ms) left = left - zch ms := zH (by unfold zch; omega)
          unfold Hid; rw [e]; unfold zch; omega
        clear hw
        go_wp2
        go_ret
        exact ⟨zl HF.out.symm, hB⟩
  · have HF : Hid (zF (zch ms) left = -1) := zx (by unfold zch; omega)
    clear hw
    go_enter Tryz.func22, Tryz.ntmps22
    go_wp2
    go_ret
    exact ⟨zl HF.out.symm, Below.refl _ _⟩
theorem zgq (m : Lg) (w : World) : Calls Tryz.prog 80 #[.agg m.cells, .agg m.cells] w fun e w' => e = .returned (.bool true) /\ Below w.heap.size w w' := by
  unfold Lg.cells
  have hn2 : (m.mo != m.mo) = false := by simp
  have hn3 : (m.fr != m.fr) = false := by simp
  go_enter Tryz.func80, Tryz.ntmps80
  go_wp2_with fail
  go_ret
  exact ⟨rfl, zn _ _ _⟩
set_option maxHeartbeats 2000000 in
theorem zfP (a a' : Option Addr) (cap cap' : Nat) (ms : List Lg) (w : World) (hw : zck w a ms) (hw' : zck w a' ms) :
    Calls Tryz.prog 42 #[.slice a ms.length cap, .slice a' ms.length cap'] w fun e w' => e = .returned (.bool true) /\ Below w.heap.size w w' := by
  have hl := hw.len
  unfold maxLen at hl
  have hnn : ((ms.length : Int) != ms.length) = false := by simp
  go_enter Tryz.func42, Tryz.ntmps42
  go_wp2_with fail
  go_loopw [5] (fun i wr => ∃ k : Nat, k <= ms.length /\ i = .int .i64 k /\ Below w.heap.size w wr) (fun i _ => ms.length - (intOf i).toNat)
  case atStart => exact ⟨0, Nat.zero_le _, rfl, Below.refl _ _⟩
  case round =>
    obtain ⟨k, hk, rfl, hB⟩ := hrel
    by_cases hlt : k < ms.length
    · obtain ⟨b, off, rfl, hb, c0, c1, c2, c3⟩ := hw.load hB k hlt
      obtain ⟨b', off', rfl, hb', d0, d1, d2, d3⟩ := hw'.load hB k hlt
      have hltI : (k : Int) < (ms.length : Int) := by omega
      clear hw hw'
      go_wp2_with fail
      go_region_with (go_at_call 80; refine (zgq ms[k] _).mono ?_; rintro e w1 ⟨rfl, hb1'⟩; have hb1 := (Below.refl wr.heap.size wr).drew.trans hb1'; clear hb1')
      all_goals go_wp2_with fail
      all_goals exact ⟨⟨k + 1, by omega, by go_num, hB.trans (hb1.mono hB.size)⟩, by simp [intOf]; omega⟩
    · clear hw hw'
      go_wp2_with fail
      go_ret
      exact ⟨rfl, hB⟩
structure jC (lo : Nat) (w : World) (bo : Nat) (ms : List Lg) (k : Nat) : Prop where
  low : lo <= bo
  rows : ∃ C, w.heap[bo]? = some (.cells C 134) /\ C.size = ms.length * 4 /\ ∀ i (h : i < ms.length), i < k -> ∀ j, j < 4 -> C[i * 4 + j]? = ms[i].cells[j]?
theorem jC.at {lo : Nat} {w : World} {bo : Nat} {ms : List Lg} (h : jC lo w bo ms ms.length) (hs : ∀ i (h : i < ms.length), ms[i].Small) (hl : ms.length <= maxLen) : zck w (some ⟨bo, 0, none⟩) ms := by
  obtain ⟨C, hC, hsz, hr⟩ := h.rows
  refine ⟨hl, hs, fun _ => ⟨bo, 0, rfl, (Array.getElem?_eq_some_iff.1 hC).1, fun i hi j hj => ?_⟩⟩
  rw [cell_of_block hC, Nat.zero_add]
  exact hr i hi hi j hj
theorem jC.later {lo : Nat} {w w' : World} {bo : Nat} {ms : List Lg} {k : Nat} (h : jC lo w bo ms k) (hb : Below w.heap.size w w') : jC lo w' bo ms k := by
  obtain ⟨C, hC, hsz, hr⟩ := h.rows
  exact ⟨h.low, C, (hb.block bo (Array.getElem?_eq_some_iff.1 hC).1).trans hC, hsz, hr⟩
theorem jC.above {lo : Nat} {w w' : World} {bo : Nat} {ms : List Lg} {k : Nat} (h : jC lo w bo ms k) (ha : yt lo w w') : jC lo w' bo ms k := by
  obtain ⟨C, hC, hr⟩ := h.rows
  exact ⟨h.low, C, (ha.same _ h.low (Array.getElem?_eq_some_iff.1 hC).1).trans hC, hr⟩
theorem jC.weaken {lo lo' : Nat} {w : World} {bo : Nat} {ms : List Lg} {k : Nat} (h : jC lo w bo ms k) (hl : lo' <= lo) : jC lo' w bo ms k := ⟨Nat.le_trans hl h.low, h.rows⟩
def zpO (w : World) (b o : Nat) (v0 v1 v2 v3 : Value) : World := ((((w.setCell ⟨b, o, none⟩ v0).setCell ⟨b, o + 1, none⟩ v1).setCell ⟨b, o + 2, none⟩ v2).setCell ⟨b, o + 3, none⟩ v3)
def zh6 (C : Array Value) (o : Nat) (v0 v1 v2 v3 : Value) : Array Value := ((((C.setIfInBounds (o) v0).setIfInBounds (o + 1) v1).setIfInBounds (o + 2) v2).setIfInBounds (o + 3) v3)
theorem zm1 {w : World} {b o : Nat} {C : Array Value} {t : TypeId} (h : w.heap[b]? = some (.cells C t)) (v0 v1 v2 v3 : Value) : (zpO w b o v0 v1 v2 v3).heap[b]? = some (.cells (zh6 C o v0 v1 v2 v3) t) :=
  zf (zf (zf (zf h v0) v1) v2) v3
theorem zm8 {B : Nat} {a w : World} (h : Below B a w) {b : Nat} (hb : B <= b) (o : Nat) (v0 v1 v2 v3 : Value) : Below B a (zpO w b o v0 v1 v2 v3) :=
  (((h.setCell hb v0).setCell hb v1).setCell hb v2).setCell hb v3
theorem znp (C : Array Value) (o : Nat) (v0 v1 v2 v3 : Value) : (zh6 C o v0 v1 v2 v3).size = C.size := by simp [zh6]
theorem zo1 (C : Array Value) (o i : Nat) (v0 v1 v2 v3 : Value) (h : i < o \/ o + 4 <= i) : (zh6 C o v0 v1 v2 v3)[i]? = C[i]? := by
  unfold zh6
  iterate 4 rw [Array.getElem?_setIfInBounds, if_neg (by omega)]
theorem zpA (C : Array Value) (o j : Nat) (v0 v1 v2 v3 : Value) (hj : j < 4) (ho : o + 4 <= C.size) : (zh6 C o v0 v1 v2 v3)[o + j]? = (#[v0, v1, v2, v3] : Array Value)[j]? := by
  have hc : j = 0 \/ j = 1 \/ j = 2 \/ j = 3 := by omega
  unfold zh6
  rcases hc with h | h | h | h <;> subst h <;> simp [Array.getElem?_setIfInBounds] <;> omega
theorem jC.put {lo : Nat} {w : World} {bo : Nat} {ms : List Lg} {k : Nat} (h : jC lo w bo ms k) (hk : k < ms.length) :
    jC lo (zpO w bo (k * 4) (.string ms[k].tm) (.string ms[k].rs) (.int .i64 ms[k].mo) (.int .i64 ms[k].fr)) bo ms (k + 1) := by
  obtain ⟨C, hC, hsz, hr⟩ := h.rows
  refine ⟨h.low, _, zm1 hC _ _ _ _, by rw [znp]; exact hsz, fun i hi hik j hj => ?_⟩
  rcases Nat.lt_or_ge i k with hlt | hge
  · rw [zo1 _ _ _ _ _ _ _ (by omega)]
    exact hr i hi hlt j hj
  · have e : i = k := by omega
    subst e
    rw [zpA _ _ _ _ _ _ _ hj (by omega)]
    rfl
set_option maxHeartbeats 1000000 in
theorem zgk (m : Lg) (w : World) :
    Calls Tryz.prog 69 #[.agg m.cells] w fun e w' => e = .returned (.agg m.cells) /\ Below w.heap.size w w' := by
  unfold Lg.cells
  go_enter Tryz.func69, Tryz.ntmps69
  go_wp2_with fail
  refine bodyPost_ret (v := .agg #[.string m.tm, .string m.rs, .int .i64 m.mo, .int .i64 m.fr]) (by simp [results, Tryz.results69, go_sem]) rfl ⟨rfl, ?_⟩
  exact ((((Below.refl _ _).alloc (Nat.le_refl _) _).alloc (by simp) _).alloc (by simp; omega) _)
def zpV : Array Value := #[.string ByteArray.empty, .string ByteArray.empty, .int .i64 0, .int .i64 0]
def zoq (n : Nat) : Array Value := madeCells zpV (n * 4)
set_option maxHeartbeats 2000000 in
theorem zfR (a : Option Addr) (cap : Nat) (ms : List Lg) (w : World) (hw : zck w a ms) (hl : ms.length <= 1048576) :
    Calls Tryz.prog 33 #[.slice a ms.length cap] w fun e w' => e = .returned (.slice (some ⟨w.heap.size, 0, none⟩) ms.length ms.length) /\ jC w.heap.size w' w.heap.size ms ms.length /\ Below w.heap.size w w' := by
  have hmk : ∀ w : World, (Instr.makeSlice 45 (.int .i64 ms.length) (.int .i64 ms.length)).run Tryz.prog w = .ok (.slice (some ⟨w.heap.size, 0, none⟩) ms.length ms.length) (w.alloc (.cells (zoq ms.length) 134)) :=
    fun w => qP (P := Tryz.prog) 45 134 (.agg zpV) 4 48 Tryz.underlying45 (by kernel_rfl) ms.length (by omega) (by omega) w
  go_enter Tryz.func33, Tryz.ntmps33
  go_wp2_with fail
  clear hmk
  go_loopw [4] (fun i wr => ∃ k : Nat, k <= ms.length /\ i = .int .i64 k /\ jC w.heap.size wr w.heap.size ms k /\ Below w.heap.size w wr) (fun i _ => ms.length - (intOf i).toNat)
  case atStart => exact ⟨0, Nat.zero_le _, rfl, ⟨Nat.le_refl _, zoq ms.length, (MapKept.heap_alloc w _).1, size_madeCells _ _, fun i _ h => absurd h (by omega)⟩, (Below.refl _ _).alloc (Nat.le_refl _) _⟩
  case round =>
    obtain ⟨k, hk, rfl, hown, hB⟩ := hrel
    by_cases hlt : k < ms.length
    · obtain ⟨b, off, rfl, hb, c0, c1, c2, c3⟩ := hw.load hB k hlt
      have hltI : (k : Int) < (ms.length : Int) := by omega
      clear hw
      go_wp2_with fail
      refine (zgk ms[k] _).mono ?_
      rintro e w1 ⟨rfl, hb1⟩
      have hB1 := hB.trans (hb1.mono hB.size)
      have hown1 := hown.later hb1
      have hbo : w.heap.size < wr.heap.size := by
        obtain ⟨C', hC', _⟩ := hown.rows
        exact (Array.getElem?_eq_some_iff.1 hC').1
      obtain ⟨C, hC, hsz, _⟩ := hown1.rows
      have hfz : ∀ o, w1.frozen? ⟨w.heap.size, o, none⟩ = false := fun o => zh hC
      have hex : ∀ o, o < ms.length * 4 -> ∃ v, w1.cell? ⟨w.heap.size, o, none⟩ = some v := fun o ho => ⟨C[o]'(by omega), by rw [cell_of_block hC]; exact Array.getElem?_eq_getElem (by omega)⟩
      obtain ⟨v0, hv0⟩ := hex (k * 4) (by omega)
      obtain ⟨v1, hv1⟩ := hex (k * 4 + 1) (by omega)
      obtain ⟨v2, hv2⟩ := hex (k * 4 + 2) (by omega)
      obtain ⟨v3, hv3⟩ := hex (k * 4 + 3) (by omega)
      have HP := hid hown1
      clear hex hC hsz c0 c1 c2 c3 hown hown1
      unfold Lg.cells
      go_wp2_with fail
      exact ⟨⟨k + 1, by omega, by go_num, HP.out.put hlt, zm8 hB1 (Nat.le_refl _) _ _ _ _ _⟩, by simp [intOf]; omega⟩
    · have HF : Hid (jC w.heap.size wr w.heap.size ms ms.length) := by
        have e : k = ms.length := by omega
        subst e; exact hown
      clear hw hown
      go_wp2_with fail
      go_ret
      exact ⟨rfl, HF.out, hB⟩
end Go.Proofs.YtfpeplbmfbepcaaGreat

namespace Go.Proofs.YtfpeplbmfbepcaaGreat
open Go.RowKit
structure Pu where
  dr : ByteArray
  tm : ByteArray
  rs : ByteArray
  am : Int
  un : Int
def Pu.cells (m : Pu) : Array Value := #[.string m.dr, .string m.tm, .string m.rs, .int .i64 m.am, .int .i64 m.un]
structure Pu.Small (m : Pu) : Prop where
  dr : m.dr.size <= maxLen
  tm : m.tm.size <= maxLen
  rs : m.rs.size <= maxLen
structure zcV (w : World) (a : Option Addr) (ms : List Pu) : Prop where
  len : ms.length <= maxLen
  small : ∀ i (h : i < ms.length), ms[i].Small
  rows : ms ≠ [] -> ∃ b off, a = some ⟨b, off, none⟩ /\ b < w.heap.size /\ ∀ i (h : i < ms.length), ∀ j, j < 5 -> w.cell? ⟨b, off + i * 5 + j, none⟩ = ms[i].cells[j]?
theorem zcV.mono {w w' : World} {a : Option Addr} {ms : List Pu} (h : zcV w a ms) (hl : Below w.heap.size w w') : zcV w' a ms :=
  ⟨h.len, h.small, fun hne => by
    obtain ⟨b, off, ha, hb, hr⟩ := h.rows hne
    exact ⟨b, off, ha, Nat.lt_of_lt_of_le hb hl.size, fun i hi j hj => (hl.cell (p := ⟨b, off + i * 5 + j, none⟩) hb).trans (hr i hi j hj)⟩⟩
theorem zcV.load {w w' : World} {a : Option Addr} {ms : List Pu} (h : zcV w a ms) (hl : Below w.heap.size w w') (i : Nat) (hi : i < ms.length) : ∃ b off, a = some ⟨b, off, none⟩ /\ b < w.heap.size /\
    w'.cell? ⟨b, off + i * 5, none⟩ = some (.string ms[i].dr) /\ w'.cell? ⟨b, off + i * 5 + 1, none⟩ = some (.string ms[i].tm) /\ w'.cell? ⟨b, off + i * 5 + 2, none⟩ = some (.string ms[i].rs) /\ w'.cell? ⟨b, off + i * 5 + 3, none⟩ = some (.int .i64 ms[i].am) /\ w'.cell? ⟨b, off + i * 5 + 4, none⟩ = some (.int .i64 ms[i].un) := by
  obtain ⟨b, off, ha, hb, hr⟩ := h.rows (by rintro rfl; simp at hi)
  have hc : ∀ j, j < 5 -> w'.cell? ⟨b, off + i * 5 + j, none⟩ = ms[i].cells[j]? := fun j hj => (hl.cell (p := ⟨b, off + i * 5 + j, none⟩) hb).trans (hr i hi j hj)
  exact ⟨b, off, ha, hb, hc 0 (by omega), hc 1 (by omega), hc 2 (by omega), hc 3 (by omega), hc 4 (by omega)⟩
def Pu.sz (m : Pu) : Nat := m.dr.size + m.tm.size + m.rs.size
def zdN (ms : List Pu) : Nat := (ms.map Pu.sz).sum
def zcC (ms : List Pu) : Nat := ms.length + zdN ms
set_option maxHeartbeats 1000000 in
theorem zdJ (m : Pu) (left : Int) (w : World) (hm : m.Small) (h0 : 0 <= left) (h1 : left <= 1048576) :
    Calls Tryz.prog 57 #[.agg m.cells, .int .i64 left] w fun e w' => e = .returned (.int .i64 (zF m.sz left)) /\ Below w.heap.size w w' := by
  have k0 := hm.dr
  have k1 := hm.tm
  have k2 := hm.rs
  unfold maxLen at k0 k1 k2
  unfold Pu.cells
  have hB : ∀ ob, Below w.heap.size w (w.alloc ob) := fun ob => (Below.refl _ _).alloc (Nat.le_refl _) _
  by_cases hf : (m.sz : Int) <= left
  · have HF : Hid (zF m.sz left = left - m.dr.size - m.tm.size - m.rs.size) := by
      unfold Hid; rw [zH hf]; unfold Pu.sz; omega
    unfold Pu.sz at hf
    go_enter Tryz.func57, Tryz.ntmps57
    go_wp2_with fail
    go_ret
    exact ⟨zl HF.out.symm, hB _⟩
  · have HF : Hid (zF m.sz left = -1) := zx hf
    have HN : Hid (¬ ((m.dr.size + m.tm.size + m.rs.size : Nat) : Int) <= left) := hf
    clear hf
    go_enter Tryz.func57, Tryz.ntmps57
    go_wp2_with fail
    all_goals go_ret
    all_goals first | exact ⟨zl HF.out.symm, hB _⟩ | (exfalso; have := HN.out; simp at *; omega)
theorem zhM (m : Pu) (left : Int) (w : World) (hm : m.Small) (h0 : 0 <= left) (h1 : left <= 1048576) (h : (m.sz : Int) <= left) :
    Calls Tryz.prog 57 #[.agg m.cells, .int .i64 left] w fun e w' => e = .returned (.int .i64 (left - m.sz)) /\ Below w.heap.size w w' := by
  refine (zdJ m left w hm h0 h1).mono ?_
  rintro e w' ⟨rfl, hb⟩
  exact ⟨zl (zH h), hb⟩
theorem zit (m : Pu) (left : Int) (w : World) (hm : m.Small) (h0 : 0 <= left) (h1 : left <= 1048576) (h : ¬ (m.sz : Int) <= left) :
    Calls Tryz.prog 57 #[.agg m.cells, .int .i64 left] w fun e w' => e = .returned (.int .i64 (-1)) /\ Below w.heap.size w w' := by
  refine (zdJ m left w hm h0 h1).mono ?_
  rintro e w' ⟨rfl, hb⟩
  exact ⟨zl (zx h), hb⟩
set_option maxHeartbeats 1000000 in
theorem zgp (a : Option Addr) (cap : Nat) (ms : List Pu) (left : Int) (w : World) (hw : zcV w a ms) (h0 : 0 <= left) (h1 : left <= 1048576) :
    Calls Tryz.prog 23 #[.slice a ms.length cap, .int .i64 left] w fun e w' => e = .returned (.int .i64 (zF (zcC ms) left)) /\ Below w.heap.size w w' := by
  have hl := hw.len
  unfold maxLen at hl
  by_cases hfit : (ms.length : Int) <= left
  · go_enter Tryz.func23, Tryz.ntmps23
    go_wp2_with fail
    go_loopw [1, 5] (fun l i wr => ∃ k : Nat, k <= ms.length /\ i = .int .i64 k /\ 0 <= left - ms.length - zdN (ms.take k) /\ l = .int .i64 (left - ms.length - zdN (ms.take k)) /\ Below w.heap.size w wr) (fun _ i _ => ms.length - (intOf i).toNat)
    case atStart => exact ⟨0, Nat.zero_le _, rfl, by simp [zdN]; omega, by simp [zdN], Below.refl _ _⟩
    case round =>
      obtain ⟨k, hk, rfl, hpos, rfl, hB⟩ := hrel
      by_cases hlt : k < ms.length
      · obtain ⟨b, off, rfl, hb, c0, c1, c2, c3, c4⟩ := hw.load hB k hlt
        have hsm := hw.small k hlt
        have HS : Hid (zdN (ms.take (k + 1)) = zdN (ms.take k) + ms[k].sz) := zaH Pu.sz ms k hlt
        have hle : zdN (ms.take (k + 1)) <= zdN ms := zce Pu.sz ms (k + 1)
        clear hw
        by_cases hneg : (ms[k].sz : Int) <= left - ms.length - zdN (ms.take k)
        · have HNG : Hid ((ms[k].sz : Int) <= left - ms.length - zdN (ms.take k)) := hneg
          clear hle
          go_wp2_with fail
          refine (zhM _ _ _ hsm hpos (by omega) HNG.out).mono ?_
          rintro e w1 ⟨rfl, hb1⟩
          have hB1 := hB.trans (hb1.mono hB.size)
          clear hb1
          go_wp2_with fail
          exact ⟨⟨k + 1, by omega, by go_num, by rw [HS.out]; omega, by rw [HS.out]; congr 1; omega, hB1⟩, by simp [intOf]; omega⟩
        · have HF : Hid (zF (zcC ms) left = -1) := zx (by have := HS.out; unfold zcC; omega)
          have HNG := hid hneg
          clear hneg hle
          go_wp2_with fail
          refine (zit _ _ _ hsm hpos (by omega) (by have := HNG.out; omega)).mono ?_
          rintro e w1 ⟨rfl, hb1⟩
          have hB1 := hB.trans (hb1.mono hB.size)
          clear hb1
          go_wp2_with fail
          go_ret
          exact ⟨zl HF.out.symm, hB1⟩
      · have HF : Hid (zF (zcC ms) left = left - ms.length - zdN (ms.take k)) := by
          rw [List.take_of_length_le (by omega)] at hpos ⊢
          have e : zF (zcC ms) left = left - zcC ms := zH (by unfold zcC; omega)
          unfold Hid; rw [e]; unfold zcC; omega
        clear hw
        go_wp2
        go_ret
        exact ⟨zl HF.out.symm, hB⟩
  · have HF : Hid (zF (zcC ms) left = -1) := zx (by unfold zcC; omega)
    clear hw
    go_enter Tryz.func23, Tryz.ntmps23
    go_wp2
    go_ret
    exact ⟨zl HF.out.symm, Below.refl _ _⟩
theorem zhK (m : Pu) (w : World) : Calls Tryz.prog 81 #[.agg m.cells, .agg m.cells] w fun e w' => e = .returned (.bool true) /\ Below w.heap.size w w' := by
  unfold Pu.cells
  have hn3 : (m.am != m.am) = false := by simp
  have hn4 : (m.un != m.un) = false := by simp
  go_enter Tryz.func81, Tryz.ntmps81
  go_wp2_with fail
  go_ret
  exact ⟨rfl, zn _ _ _⟩
set_option maxHeartbeats 2000000 in
theorem zgE (a a' : Option Addr) (cap cap' : Nat) (ms : List Pu) (w : World) (hw : zcV w a ms) (hw' : zcV w a' ms) :
    Calls Tryz.prog 43 #[.slice a ms.length cap, .slice a' ms.length cap'] w fun e w' => e = .returned (.bool true) /\ Below w.heap.size w w' := by
  have hl := hw.len
  unfold maxLen at hl
  have hnn : ((ms.length : Int) != ms.length) = false := by simp
  go_enter Tryz.func43, Tryz.ntmps43
  go_wp2_with fail
  go_loopw [5] (fun i wr => ∃ k : Nat, k <= ms.length /\ i = .int .i64 k /\ Below w.heap.size w wr) (fun i _ => ms.length - (intOf i).toNat)
  case atStart => exact ⟨0, Nat.zero_le _, rfl, Below.refl _ _⟩
  case round =>
    obtain ⟨k, hk, rfl, hB⟩ := hrel
    by_cases hlt : k < ms.length
    · obtain ⟨b, off, rfl, hb, c0, c1, c2, c3, c4⟩ := hw.load hB k hlt
      obtain ⟨b', off', rfl, hb', d0, d1, d2, d3, d4⟩ := hw'.load hB k hlt
      have hltI : (k : Int) < (ms.length : Int) := by omega
      clear hw hw'
      go_wp2_with fail
      go_region_with (go_at_call 81; refine (zhK ms[k] _).mono ?_; rintro e w1 ⟨rfl, hb1'⟩; have hb1 := (Below.refl wr.heap.size wr).drew.trans hb1'; clear hb1')
      all_goals go_wp2_with fail
      all_goals exact ⟨⟨k + 1, by omega, by go_num, hB.trans (hb1.mono hB.size)⟩, by simp [intOf]; omega⟩
    · clear hw hw'
      go_wp2_with fail
      go_ret
      exact ⟨rfl, hB⟩
structure jB (lo : Nat) (w : World) (bo : Nat) (ms : List Pu) (k : Nat) : Prop where
  low : lo <= bo
  rows : ∃ C, w.heap[bo]? = some (.cells C 136) /\ C.size = ms.length * 5 /\ ∀ i (h : i < ms.length), i < k -> ∀ j, j < 5 -> C[i * 5 + j]? = ms[i].cells[j]?
theorem jB.at {lo : Nat} {w : World} {bo : Nat} {ms : List Pu} (h : jB lo w bo ms ms.length) (hs : ∀ i (h : i < ms.length), ms[i].Small) (hl : ms.length <= maxLen) : zcV w (some ⟨bo, 0, none⟩) ms := by
  obtain ⟨C, hC, hsz, hr⟩ := h.rows
  refine ⟨hl, hs, fun _ => ⟨bo, 0, rfl, (Array.getElem?_eq_some_iff.1 hC).1, fun i hi j hj => ?_⟩⟩
  rw [cell_of_block hC, Nat.zero_add]
  exact hr i hi hi j hj
theorem jB.later {lo : Nat} {w w' : World} {bo : Nat} {ms : List Pu} {k : Nat} (h : jB lo w bo ms k) (hb : Below w.heap.size w w') : jB lo w' bo ms k := by
  obtain ⟨C, hC, hsz, hr⟩ := h.rows
  exact ⟨h.low, C, (hb.block bo (Array.getElem?_eq_some_iff.1 hC).1).trans hC, hsz, hr⟩
theorem jB.above {lo : Nat} {w w' : World} {bo : Nat} {ms : List Pu} {k : Nat} (h : jB lo w bo ms k) (ha : yt lo w w') : jB lo w' bo ms k := by
  obtain ⟨C, hC, hr⟩ := h.rows
  exact ⟨h.low, C, (ha.same _ h.low (Array.getElem?_eq_some_iff.1 hC).1).trans hC, hr⟩
theorem jB.weaken {lo lo' : Nat} {w : World} {bo : Nat} {ms : List Pu} {k : Nat} (h : jB lo w bo ms k) (hl : lo' <= lo) : jB lo' w bo ms k := ⟨Nat.le_trans hl h.low, h.rows⟩
def zph (w : World) (b o : Nat) (v0 v1 v2 v3 v4 : Value) : World := (((((w.setCell ⟨b, o, none⟩ v0).setCell ⟨b, o + 1, none⟩ v1).setCell ⟨b, o + 2, none⟩ v2).setCell ⟨b, o + 3, none⟩ v3).setCell ⟨b, o + 4, none⟩ v4)
def zie (C : Array Value) (o : Nat) (v0 v1 v2 v3 v4 : Value) : Array Value := (((((C.setIfInBounds (o) v0).setIfInBounds (o + 1) v1).setIfInBounds (o + 2) v2).setIfInBounds (o + 3) v3).setIfInBounds (o + 4) v4)
theorem zmk {w : World} {b o : Nat} {C : Array Value} {t : TypeId} (h : w.heap[b]? = some (.cells C t)) (v0 v1 v2 v3 v4 : Value) : (zph w b o v0 v1 v2 v3 v4).heap[b]? = some (.cells (zie C o v0 v1 v2 v3 v4) t) :=
  zf (zf (zf (zf (zf h v0) v1) v2) v3) v4
theorem zmc {B : Nat} {a w : World} (h : Below B a w) {b : Nat} (hb : B <= b) (o : Nat) (v0 v1 v2 v3 v4 : Value) : Below B a (zph w b o v0 v1 v2 v3 v4) :=
  ((((h.setCell hb v0).setCell hb v1).setCell hb v2).setCell hb v3).setCell hb v4
theorem znB (C : Array Value) (o : Nat) (v0 v1 v2 v3 v4 : Value) : (zie C o v0 v1 v2 v3 v4).size = C.size := by simp [zie]
theorem zoH (C : Array Value) (o i : Nat) (v0 v1 v2 v3 v4 : Value) (h : i < o \/ o + 5 <= i) : (zie C o v0 v1 v2 v3 v4)[i]? = C[i]? := by
  unfold zie
  iterate 5 rw [Array.getElem?_setIfInBounds, if_neg (by omega)]
theorem zpf (C : Array Value) (o j : Nat) (v0 v1 v2 v3 v4 : Value) (hj : j < 5) (ho : o + 5 <= C.size) : (zie C o v0 v1 v2 v3 v4)[o + j]? = (#[v0, v1, v2, v3, v4] : Array Value)[j]? := by
  have hc : j = 0 \/ j = 1 \/ j = 2 \/ j = 3 \/ j = 4 := by omega
  unfold zie
  rcases hc with h | h | h | h | h <;> subst h <;> simp [Array.getElem?_setIfInBounds] <;> omega
theorem jB.put {lo : Nat} {w : World} {bo : Nat} {ms : List Pu} {k : Nat} (h : jB lo w bo ms k) (hk : k < ms.length) :
    jB lo (zph w bo (k * 5) (.string ms[k].dr) (.string ms[k].tm) (.string ms[k].rs) (.int .i64 ms[k].am) (.int .i64 ms[k].un)) bo ms (k + 1) := by
  obtain ⟨C, hC, hsz, hr⟩ := h.rows
  refine ⟨h.low, _, zmk hC _ _ _ _ _, by rw [znB]; exact hsz, fun i hi hik j hj => ?_⟩
  rcases Nat.lt_or_ge i k with hlt | hge
  · rw [zoH _ _ _ _ _ _ _ _ (by omega)]
    exact hr i hi hlt j hj
  · have e : i = k := by omega
    subst e
    rw [zpf _ _ _ _ _ _ _ _ hj (by omega)]
    rfl
set_option maxHeartbeats 1000000 in
theorem zhJ (m : Pu) (w : World) :
    Calls Tryz.prog 70 #[.agg m.cells] w fun e w' => e = .returned (.agg m.cells) /\ Below w.heap.size w w' := by
  unfold Pu.cells
  go_enter Tryz.func70, Tryz.ntmps70
  go_wp2_with fail
  refine bodyPost_ret (v := .agg #[.string m.dr, .string m.tm, .string m.rs, .int .i64 m.am, .int .i64 m.un]) (by simp [results, Tryz.results70, go_sem]) rfl ⟨rfl, ?_⟩
  exact ((((Below.refl _ _).alloc (Nat.le_refl _) _).alloc (by simp) _).alloc (by simp; omega) _)
def zpM : Array Value := #[.string ByteArray.empty, .string ByteArray.empty, .string ByteArray.empty, .int .i64 0, .int .i64 0]
def zoc (n : Nat) : Array Value := madeCells zpM (n * 5)
set_option maxHeartbeats 2000000 in
theorem zgf (a : Option Addr) (cap : Nat) (ms : List Pu) (w : World) (hw : zcV w a ms) (hl : ms.length <= 1048576) :
    Calls Tryz.prog 34 #[.slice a ms.length cap] w fun e w' => e = .returned (.slice (some ⟨w.heap.size, 0, none⟩) ms.length ms.length) /\ jB w.heap.size w' w.heap.size ms ms.length /\ Below w.heap.size w w' := by
  have hmk : ∀ w : World, (Instr.makeSlice 46 (.int .i64 ms.length) (.int .i64 ms.length)).run Tryz.prog w = .ok (.slice (some ⟨w.heap.size, 0, none⟩) ms.length ms.length) (w.alloc (.cells (zoc ms.length) 136)) :=
    fun w => qP (P := Tryz.prog) 46 136 (.agg zpM) 5 64 Tryz.underlying46 (by kernel_rfl) ms.length (by omega) (by omega) w
  go_enter Tryz.func34, Tryz.ntmps34
  go_wp2_with fail
  clear hmk
  go_loopw [4] (fun i wr => ∃ k : Nat, k <= ms.length /\ i = .int .i64 k /\ jB w.heap.size wr w.heap.size ms k /\ Below w.heap.size w wr) (fun i _ => ms.length - (intOf i).toNat)
  case atStart => exact ⟨0, Nat.zero_le _, rfl, ⟨Nat.le_refl _, zoc ms.length, (MapKept.heap_alloc w _).1, size_madeCells _ _, fun i _ h => absurd h (by omega)⟩, (Below.refl _ _).alloc (Nat.le_refl _) _⟩
  case round =>
    obtain ⟨k, hk, rfl, hown, hB⟩ := hrel
    by_cases hlt : k < ms.length
    · obtain ⟨b, off, rfl, hb, c0, c1, c2, c3, c4⟩ := hw.load hB k hlt
      have hltI : (k : Int) < (ms.length : Int) := by omega
      clear hw
      go_wp2_with fail
      refine (zhJ ms[k] _).mono ?_
      rintro e w1 ⟨rfl, hb1⟩
      have hB1 := hB.trans (hb1.mono hB.size)
      have hown1 := hown.later hb1
      have hbo : w.heap.size < wr.heap.size := by
        obtain ⟨C', hC', _⟩ := hown.rows
        exact (Array.getElem?_eq_some_iff.1 hC').1
      obtain ⟨C, hC, hsz, _⟩ := hown1.rows
      have hfz : ∀ o, w1.frozen? ⟨w.heap.size, o, none⟩ = false := fun o => zh hC
      have hex : ∀ o, o < ms.length * 5 -> ∃ v, w1.cell? ⟨w.heap.size, o, none⟩ = some v := fun o ho => ⟨C[o]'(by omega), by rw [cell_of_block hC]; exact Array.getElem?_eq_getElem (by omega)⟩
      obtain ⟨v0, hv0⟩ := hex (k * 5) (by omega)
      obtain ⟨v1, hv1⟩ := hex (k * 5 + 1) (by omega)
      obtain ⟨v2, hv2⟩ := hex (k * 5 + 2) (by omega)
      obtain ⟨v3, hv3⟩ := hex (k * 5 + 3) (by omega)
      obtain ⟨v4, hv4⟩ := hex (k * 5 + 4) (by omega)
      have HP := hid hown1
      clear hex hC hsz c0 c1 c2 c3 c4 hown hown1
      unfold Pu.cells
      go_wp2_with fail
      exact ⟨⟨k + 1, by omega, by go_num, HP.out.put hlt, zmc hB1 (Nat.le_refl _) _ _ _ _ _ _⟩, by simp [intOf]; omega⟩
    · have HF : Hid (jB w.heap.size wr w.heap.size ms ms.length) := by
        have e : k = ms.length := by omega
        subst e; exact hown
      clear hw hown
      go_wp2_with fail
      go_ret
      exact ⟨rfl, HF.out, hB⟩
end Go.Proofs.YtfpeplbmfbepcaaGreat
