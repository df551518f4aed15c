import Derived.Test.YtfapkhgallmkdaaGreatM14
import Derived.Test.YtfapkhgallmkdaaGreatM12
import Derived.Deep.RegionHeld3
import Derived.Test.YtfapkhgallmkdaaGreatM13
namespace Go.Proofs.YtfapkhgallmkdaaGreat
open Go.RowKit
def Ob.row (o : Ob) (a0 a1 : Option Addr) (c0 c1 : Nat) : Array Value := #[.string o.kd, .string o.nm, .string o.tm, .slice a0 o.vs.length c0, .bool o.en, .slice a1 o.hs.length c1, .int .i64 o.vr]
def Ob.sz (o : Ob) : Nat := zcA o
theorem Ob.zms {o : Ob} (h : (o.sz : Int) <= 1048576) : o.vs.length <= 1048576 /\ o.hs.length <= 1048576 := zo5 h (Int.le_refl _)
theorem zcz (o : Ob) (a0 a1 : Option Addr) (c0 c1 : Nat) (left : Int) (w : World) (hm : o.Small) (h0' : zC w a0 o.vs) (h1' : zC w a1 o.hs) (h0 : 0 <= left) (h1 : left <= 1048576) :
    Calls Tryz.prog 42 #[.agg (o.row a0 a1 c0 c1), .int .i64 left] w fun e w' => e = .returned (.int .i64 (zH o.sz left)) /\ Below w.heap.size w w' := zfG o a0 a1 c0 c1 left w ⟨hm, h0', h1'⟩ h0 h1
theorem zfT (o : Ob) (a0 a1 : Option Addr) (c0 c1 : Nat) (a0' a1' : Option Addr) (c0' c1' : Nat) (w : World) (hm : o.Small) (h0 : zC w a0 o.vs) (h1 : zC w a1 o.hs) (h0' : zC w a0' o.vs) (h1' : zC w a1' o.hs) :
    Calls Tryz.prog 70 #[.agg (o.row a0 a1 c0 c1), .agg (o.row a0' a1' c0' c1')] w fun e w' => e = .returned (.bool true) /\ Below w.heap.size w w' := zfM o a0 a1 a0' a1' c0 c1 c0' c1' w ⟨hm, h0, h1⟩ ⟨hm, h0', h1'⟩
theorem zfB (o : Ob) (a0 a1 : Option Addr) (c0 c1 : Nat) (w : World) (hm : o.Small) (h0 : zC w a0 o.vs) (h1 : zC w a1 o.hs) (hl : o.vs.length <= 1048576 /\ o.hs.length <= 1048576) :
    Calls Tryz.prog 56 #[.agg (o.row a0 a1 c0 c1)] w fun e w' => ∃ g0 g1, e = .returned (.agg (o.row (some ⟨g0, 0, none⟩) (some ⟨g1, 0, none⟩) o.vs.length o.hs.length)) /\ w.heap.size <= g0 /\ w'.heap[g0]? = some (.cells (zam o.vs) 9) /\ w.heap.size <= g1 /\ w'.heap[g1]? = some (.cells (zam o.hs) 9) /\ Below w.heap.size w w' := by
  refine (zf1 o a0 a1 c0 c1 w ⟨hm, h0, h1⟩ hl.1 hl.2).mono ?_
  rintro e w' ⟨bv, bh, he, hv, hh, _, hbv, hbh, hb⟩
  exact ⟨bv, bh, he, hv, hbv, hh, hbh, hb⟩
structure znw (w : World) (b off : Nat) (x : Ob) (a0 a1 : Option Addr) (c0 c1 : Nat) : Prop where
  small : x.Small
  l0 : zC w a0 x.vs
  l1 : zC w a1 x.hs
  cell : ∀ j, j < 7 -> w.cell? ⟨b, off + j, none⟩ = (Ob.row x a0 a1 c0 c1)[j]?
structure za8 (w : World) (a : Option Addr) (ms : List Ob) : Prop where
  len : ms.length <= maxLen
  rows : ms ≠ [] -> ∃ b off, a = some ⟨b, off, none⟩ /\ b < w.heap.size /\ ∀ i (h : i < ms.length), ∃ a0 a1 c0 c1, znw w b (off + i * 7) ms[i] a0 a1 c0 c1
theorem znw.mono {w w' : World} {b off : Nat} {x : Ob} {a0 a1 : Option Addr} {c0 c1 : Nat} (h : znw w b off x a0 a1 c0 c1) (hb : b < w.heap.size) (hl : Below w.heap.size w w') : znw w' b off x a0 a1 c0 c1 :=
  ⟨h.small, h.l0.mono hl, h.l1.mono hl, fun j hj => (hl.cell (p := ⟨b, off + j, none⟩) hb).trans (h.cell j hj)⟩
theorem za8.mono {w w' : World} {a : Option Addr} {ms : List Ob} (h : za8 w a ms) (hl : Below w.heap.size w w') : za8 w' a ms :=
  ⟨h.len, fun hne => by
    obtain ⟨b, off, ha, hb, hr⟩ := h.rows hne
    refine ⟨b, off, ha, Nat.lt_of_lt_of_le hb hl.size, fun i hi => ?_⟩
    obtain ⟨a0, a1, c0, c1, hf⟩ := hr i hi
    exact ⟨a0, a1, c0, c1, hf.mono hb hl⟩⟩
theorem za8.load {w w' : World} {a : Option Addr} {ms : List Ob} (h : za8 w a ms) (hl : Below w.heap.size w w') (i : Nat) (hi : i < ms.length) : ∃ b off a0 a1 c0 c1, a = some ⟨b, off, none⟩ /\ b < w.heap.size /\ ms[i].Small /\ zC w' a0 ms[i].vs /\ zC w' a1 ms[i].hs /\
    w'.cell? ⟨b, off + i * 7, none⟩ = some (.string ms[i].kd) /\ w'.cell? ⟨b, off + i * 7 + 1, none⟩ = some (.string ms[i].nm) /\ w'.cell? ⟨b, off + i * 7 + 2, none⟩ = some (.string ms[i].tm) /\ w'.cell? ⟨b, off + i * 7 + 3, none⟩ = some (.slice a0 ms[i].vs.length c0) /\ w'.cell? ⟨b, off + i * 7 + 4, none⟩ = some (.bool ms[i].en) /\ w'.cell? ⟨b, off + i * 7 + 5, none⟩ = some (.slice a1 ms[i].hs.length c1) /\ w'.cell? ⟨b, off + i * 7 + 6, none⟩ = some (.int .i64 ms[i].vr) := by
  obtain ⟨b, off, ha, hb, hr⟩ := h.rows (by rintro rfl; simp at hi)
  obtain ⟨a0, a1, c0, c1, hf0⟩ := hr i hi
  have hf := hf0.mono hb hl
  exact ⟨b, off, a0, a1, c0, c1, ha, hb, hf.small, hf.l0, hf.l1, hf.cell 0 (by omega), hf.cell 1 (by omega), hf.cell 2 (by omega), hf.cell 3 (by omega), hf.cell 4 (by omega), hf.cell 5 (by omega), hf.cell 6 (by omega)⟩
def zat (ms : List Ob) : Nat := (ms.map Ob.sz).sum
def yV (ms : List Ob) : Nat := ms.length + zat ms
structure zeN (ms : List Ob) : Prop where
  small : ∀ i (h : i < ms.length), ms[i].Small /\ (ms[i].vs.length <= maxLen /\ ∀ s ∈ ms[i].vs, s.size <= maxLen) /\ (ms[i].hs.length <= maxLen /\ ∀ s ∈ ms[i].hs, s.size <= maxLen)
theorem za8.smalls {w : World} {a : Option Addr} {ms : List Ob} (h : za8 w a ms) : zeN ms :=
  ⟨fun i hi => by
    obtain ⟨b, off, _, _, hr⟩ := h.rows (by rintro rfl; simp at hi)
    obtain ⟨a0, a1, c0, c1, hf⟩ := hr i hi
    exact ⟨hf.small, ⟨hf.l0.len, hf.l0.small⟩, ⟨hf.l1.len, hf.l1.small⟩⟩⟩
theorem zjU {ms : List Ob} {left : Int} (h : (yV ms : Int) <= left) (hl : left <= 1048576) : ms.length <= 1048576 /\ ∀ i (h : i < ms.length), ms[i].vs.length <= 1048576 /\ ms[i].hs.length <= 1048576 := by
  unfold yV at h
  refine ⟨by omega, fun i hi => ?_⟩
  have h1 : ms[i].sz <= zat ms := zg8 Ob.sz ms i hi
  exact Ob.zms (by omega)
set_option maxHeartbeats 1000000 in
theorem zeX (a : Option Addr) (cap : Nat) (ms : List Ob) (left : Int) (w : World) (hw : za8 w a ms) (h0 : 0 <= left) (h1 : left <= 1048576) :
    Calls Tryz.prog 17 #[.slice a ms.length cap, .int .i64 left] w fun e w' => e = .returned (.int .i64 (zH (yV ms) left)) /\ Below w.heap.size w w' := by
  have hl := hw.len
  unfold maxLen at hl
  by_cases hfit : (ms.length : Int) <= left
  · go_enter Tryz.func17, Tryz.ntmps17
    go_wp2_with fail
    go_loopw [1, 5] (fun l i wr => ∃ k : Nat, k <= ms.length /\ i = .int .i64 k /\ 0 <= left - ms.length - zat (ms.take k) /\ l = .int .i64 (left - ms.length - zat (ms.take k)) /\ Below w.heap.size w wr) (fun _ i _ => ms.length - (intOf i).toNat)
    case atStart => exact ⟨0, Nat.zero_le _, rfl, by simp [zat]; omega, by simp [zat], Below.refl _ _⟩
    case round =>
      obtain ⟨k, hk, rfl, hpos, rfl, hB⟩ := hrel
      by_cases hlt : k < ms.length
      · obtain ⟨b, off, a0, a1, c0, c1, rfl, hb, hsm, hl0, hl1, d0, d1, d2, d3, d4, d5, d6⟩ := hw.load hB k hlt
        have hbr := Nat.lt_of_lt_of_le hb hB.size
        have HS : Hid (zat (ms.take (k + 1)) = zat (ms.take k) + ms[k].sz) := zar Ob.sz ms k hlt
        have hle : zat (ms.take (k + 1)) <= zat ms := zbW Ob.sz ms (k + 1)
        have HI : Hid (zC wr a0 ms[k].vs /\ zC wr a1 ms[k].hs) := ⟨hl0, hl1⟩
        clear hw hl0 hl1
        by_cases hneg : (ms[k].sz : Int) <= left - ms.length - zat (ms.take k)
        · have HNG : Hid ((ms[k].sz : Int) <= left - ms.length - zat (ms.take k)) := hneg
          clear hle
          go_wp2_with fail
          refine (zcz ms[k] a0 a1 c0 c1 _ _ hsm HI.out.1 HI.out.2 hpos (by omega)).mono ?_
          rintro e w1 ⟨rfl, hb1⟩
          rw [zI HNG.out]
          have hB1 := hB.trans (hb1.mono hB.size)
          clear hb1
          go_wp2_with fail
          exact ⟨⟨k + 1, by omega, by go_num, by rw [HS.out]; omega, by rw [HS.out]; congr 1; omega, hB1⟩, by simp [intOf]; omega⟩
        · have HF : Hid (zH (yV ms) left = -1) := zw (by have := HS.out; unfold yV; omega)
          have HNG := hid hneg
          clear hneg hle
          go_wp2_with fail
          refine (zcz ms[k] a0 a1 c0 c1 _ _ hsm HI.out.1 HI.out.2 hpos (by omega)).mono ?_
          rintro e w1 ⟨rfl, hb1⟩
          rw [zw (by have := HNG.out; omega)]
          have hB1 := hB.trans (hb1.mono hB.size)
          clear hb1
          go_wp2_with fail
          go_ret
          exact ⟨zh HF.out.symm, hB1⟩
      · have HF : Hid (zH (yV ms) left = left - ms.length - zat (ms.take k)) := by
          rw [List.take_of_length_le (by omega)] at hpos ⊢
          have e : zH (yV ms) left = left - yV ms := zI (by unfold yV; omega)
          unfold Hid; rw [e]; unfold yV; omega
        clear hw
        go_wp2
        go_ret
        exact ⟨zh HF.out.symm, hB⟩
  · have HF : Hid (zH (yV ms) left = -1) := zw (by unfold yV; omega)
    clear hw
    go_enter Tryz.func17, Tryz.ntmps17
    go_wp2
    go_ret
    exact ⟨zh HF.out.symm, Below.refl _ _⟩
set_option maxHeartbeats 2000000 in
theorem ze2 (a a' : Option Addr) (cap cap' : Nat) (ms : List Ob) (w : World) (hw : za8 w a ms) (hw' : za8 w a' ms) :
    Calls Tryz.prog 35 #[.slice a ms.length cap, .slice a' ms.length cap'] w fun e w' => e = .returned (.bool true) /\ Below w.heap.size w w' := by
  have hl := hw.len
  unfold maxLen at hl
  have hnn : ((ms.length : Int) != ms.length) = false := by simp
  go_enter Tryz.func35, Tryz.ntmps35
  go_wp2_with fail
  go_loopw [5] (fun i wr => ∃ k : Nat, k <= ms.length /\ i = .int .i64 k /\ Below w.heap.size w wr) (fun i _ => ms.length - (intOf i).toNat)
  case atStart => exact ⟨0, Nat.zero_le _, rfl, Below.refl _ _⟩
  case round =>
    obtain ⟨k, hk, rfl, hB⟩ := hrel
    by_cases hlt : k < ms.length
    · obtain ⟨b, off, a0, a1, c0, c1, rfl, hb, hsm, hl0, hl1, d0, d1, d2, d3, d4, d5, d6⟩ := hw.load hB k hlt
      obtain ⟨b', off', a0', a1', c0', c1', rfl, hb', _, hl0', hl1', f0, f1, f2, f3, f4, f5, f6⟩ := hw'.load hB k hlt
      have hltI : (k : Int) < (ms.length : Int) := by omega
      clear hw hw'
      go_wp2_with fail
      go_region_with (go_at_call 70; refine (zfT ms[k] a0 a1 c0 c1 a0' a1' c0' c1' _ hsm (by exact hl0.mono ((Below.refl _ _).drew)) (by exact hl1.mono ((Below.refl _ _).drew)) (by exact hl0'.mono ((Below.refl _ _).drew)) (by exact hl1'.mono ((Below.refl _ _).drew))).mono ?_; rintro e w1 ⟨rfl, hb1'⟩; have hb1 := (Below.refl wr.heap.size wr).drew.trans hb1'; clear hb1')
      all_goals go_wp2_with fail
      all_goals exact ⟨⟨k + 1, by omega, by go_num, hB.trans (hb1.mono hB.size)⟩, by simp [intOf]; omega⟩
    · clear hw hw'
      go_wp2_with fail
      go_ret
      exact ⟨rfl, hB⟩
structure jq (lo : Nat) (w : World) (bo : Nat) (ms : List Ob) (k : Nat) : Prop where
  low : lo <= bo
  rows : ∃ C, w.heap[bo]? = some (.cells C 121) /\ C.size = ms.length * 7 /\
    ∀ i (h : i < ms.length), i < k -> ∃ g0 g1, lo <= g0 /\ g0 ≠ bo /\ w.heap[g0]? = some (.cells (zam ms[i].vs) 9) /\ lo <= g1 /\ g1 ≠ bo /\ w.heap[g1]? = some (.cells (zam ms[i].hs) 9) /\ ∀ j, j < 7 -> C[i * 7 + j]? = (Ob.row ms[i] (some ⟨g0, 0, none⟩) (some ⟨g1, 0, none⟩) ms[i].vs.length ms[i].hs.length)[j]?
theorem jq.at {lo : Nat} {w : World} {bo : Nat} {ms : List Ob} (h : jq lo w bo ms ms.length) (hs : zeN ms) (hl : ms.length <= maxLen) : za8 w (some ⟨bo, 0, none⟩) ms := by
  obtain ⟨C, hC, hsz, hr⟩ := h.rows
  refine ⟨hl, fun _ => ⟨bo, 0, rfl, (Array.getElem?_eq_some_iff.1 hC).1, fun i hi => ?_⟩⟩
  obtain ⟨g0, g1, _, _, hk0, _, _, hk1, hc⟩ := hr i hi hi
  obtain ⟨s0, s1, s2⟩ := hs.small i hi
  refine ⟨some ⟨g0, 0, none⟩, some ⟨g1, 0, none⟩, ms[i].vs.length, ms[i].hs.length, s0, zcw hk0 s1.1 s1.2, zcw hk1 s2.1 s2.2, fun j hj => ?_⟩
  rw [cell_of_block hC, Nat.zero_add]
  exact hc j hj
theorem jq.above {lo : Nat} {w w' : World} {bo : Nat} {ms : List Ob} {k : Nat} (h : jq lo w bo ms k) (ha : yx lo w w') : jq lo w' bo ms k := by
  obtain ⟨C, hC, hsz, hr⟩ := h.rows
  refine ⟨h.low, C, (ha.same _ h.low (Array.getElem?_eq_some_iff.1 hC).1).trans hC, hsz, fun i hi hk => ?_⟩
  obtain ⟨g0, g1, p0, q0, r0, p1, q1, r1, hc⟩ := hr i hi hk
  exact ⟨g0, g1, p0, q0, (ha.same _ p0 (Array.getElem?_eq_some_iff.1 r0).1).trans r0, p1, q1, (ha.same _ p1 (Array.getElem?_eq_some_iff.1 r1).1).trans r1, hc⟩
theorem jq.later {lo : Nat} {w w' : World} {bo : Nat} {ms : List Ob} {k : Nat} (h : jq lo w bo ms k) (hb : Below w.heap.size w w') : jq lo w' bo ms k := h.above (yx.below hb)
theorem jq.weaken {lo lo' : Nat} {w : World} {bo : Nat} {ms : List Ob} {k : Nat} (h : jq lo w bo ms k) (hl : lo' <= lo) : jq lo' w bo ms k := by
  obtain ⟨C, hC, hsz, hr⟩ := h.rows
  refine ⟨Nat.le_trans hl h.low, C, hC, hsz, fun i hi hk => ?_⟩
  obtain ⟨g0, g1, p0, q0, r0, p1, q1, r1, hc⟩ := hr i hi hk
  exact ⟨g0, g1, Nat.le_trans hl p0, q0, r0, Nat.le_trans hl p1, q1, r1, hc⟩
def zk7 (w : World) (b o : Nat) (v0 v1 v2 v3 v4 v5 v6 : Value) : World := (((((((w.setCell ⟨b, o, none⟩ v0).setCell ⟨b, o + 1, none⟩ v1).setCell ⟨b, o + 2, none⟩ v2).setCell ⟨b, o + 3, none⟩ v3).setCell ⟨b, o + 4, none⟩ v4).setCell ⟨b, o + 5, none⟩ v5).setCell ⟨b, o + 6, none⟩ v6)
def zhT (C : Array Value) (o : Nat) (v0 v1 v2 v3 v4 v5 v6 : Value) : Array Value := (((((((C.setIfInBounds (o) v0).setIfInBounds (o + 1) v1).setIfInBounds (o + 2) v2).setIfInBounds (o + 3) v3).setIfInBounds (o + 4) v4).setIfInBounds (o + 5) v5).setIfInBounds (o + 6) v6)
theorem zkx {w : World} {b o : Nat} {C : Array Value} {t : TypeId} (h : w.heap[b]? = some (.cells C t)) (v0 v1 v2 v3 v4 v5 v6 : Value) : (zk7 w b o v0 v1 v2 v3 v4 v5 v6).heap[b]? = some (.cells (zhT C o v0 v1 v2 v3 v4 v5 v6) t) :=
  zf (zf (zf (zf (zf (zf (zf h v0) v1) v2) v3) v4) v5) v6
theorem zkS {B : Nat} {a w : World} (h : Below B a w) {b : Nat} (hb : B <= b) (o : Nat) (v0 v1 v2 v3 v4 v5 v6 : Value) : Below B a (zk7 w b o v0 v1 v2 v3 v4 v5 v6) :=
  ((((((h.setCell hb v0).setCell hb v1).setCell hb v2).setCell hb v3).setCell hb v4).setCell hb v5).setCell hb v6
theorem zcc (w : World) (b o : Nat) (v0 v1 v2 v3 v4 v5 v6 : Value) {b' : Nat} (h : b' ≠ b) : (zk7 w b o v0 v1 v2 v3 v4 v5 v6).heap[b']? = w.heap[b']? := by
  unfold zk7
  iterate 7 rw [zB h]
theorem zmR (C : Array Value) (o : Nat) (v0 v1 v2 v3 v4 v5 v6 : Value) : (zhT C o v0 v1 v2 v3 v4 v5 v6).size = C.size := by simp [zhT]
theorem znz (C : Array Value) (o i : Nat) (v0 v1 v2 v3 v4 v5 v6 : Value) (h : i < o \/ o + 7 <= i) : (zhT C o v0 v1 v2 v3 v4 v5 v6)[i]? = C[i]? := by
  unfold zhT
  iterate 7 rw [Array.getElem?_setIfInBounds, if_neg (by omega)]
theorem znU (C : Array Value) (o j : Nat) (v0 v1 v2 v3 v4 v5 v6 : Value) (hj : j < 7) (ho : o + 7 <= C.size) : (zhT C o v0 v1 v2 v3 v4 v5 v6)[o + j]? = (#[v0, v1, v2, v3, v4, v5, v6] : Array Value)[j]? := by
  have hc : j = 0 \/ j = 1 \/ j = 2 \/ j = 3 \/ j = 4 \/ j = 5 \/ j = 6 := by omega
  unfold zhT
  rcases hc with h | h | h | h | h | h | h <;> subst h <;> simp [Array.getElem?_setIfInBounds] <;> omega
theorem jq.put {lo : Nat} {w : World} {bo : Nat} {ms : List Ob} {k : Nat} (h : jq lo w bo ms k) (hk : k < ms.length) (g0 g1 : Nat) (p0 : lo <= g0) (q0 : g0 ≠ bo) (r0 : w.heap[g0]? = some (.cells (zam ms[k].vs) 9)) (p1 : lo <= g1) (q1 : g1 ≠ bo) (r1 : w.heap[g1]? = some (.cells (zam ms[k].hs) 9)) :
    jq lo (zk7 w bo (k * 7) (.string ms[k].kd) (.string ms[k].nm) (.string ms[k].tm) (.slice (some ⟨g0, 0, none⟩) ms[k].vs.length ms[k].vs.length) (.bool ms[k].en) (.slice (some ⟨g1, 0, none⟩) ms[k].hs.length ms[k].hs.length) (.int .i64 ms[k].vr)) bo ms (k + 1) := by
  obtain ⟨C, hC, hsz, hr⟩ := h.rows
  refine ⟨h.low, _, zkx hC _ _ _ _ _ _ _, by rw [zmR]; exact hsz, fun i hi hik => ?_⟩
  rcases Nat.lt_or_ge i k with hlt | hge
  · obtain ⟨g0', g1', x0, y0, z0, x1, y1, z1, hc⟩ := hr i hi hlt
    refine ⟨g0', g1', x0, y0, (by rw [zcc _ _ _ _ _ _ _ _ _ _ y0]; exact z0), x1, y1, (by rw [zcc _ _ _ _ _ _ _ _ _ _ y1]; exact z1), fun j hj => ?_⟩
    rw [znz _ _ _ _ _ _ _ _ _ _ (by omega)]
    exact hc j hj
  · have e : i = k := by omega
    subst e
    refine ⟨g0, g1, p0, q0, (by rw [zcc _ _ _ _ _ _ _ _ _ _ q0]; exact r0), p1, q1, (by rw [zcc _ _ _ _ _ _ _ _ _ _ q1]; exact r1), fun j hj => ?_⟩
    rw [znU _ _ _ _ _ _ _ _ _ _ hj (by omega)]
    rfl
def zov : Array Value := #[.string ByteArray.empty, .string ByteArray.empty, .string ByteArray.empty, .slice none 0 0, .bool false, .slice none 0 0, .int .i64 0]
def zm5 (n : Nat) : Array Value := madeCells zov (n * 7)
set_option maxHeartbeats 2000000 in
theorem zfj (a : Option Addr) (cap : Nat) (ms : List Ob) (w : World) (hw : za8 w a ms) (hl : ms.length <= 1048576) (hls : ∀ i (h : i < ms.length), ms[i].vs.length <= 1048576 /\ ms[i].hs.length <= 1048576) :
    Calls Tryz.prog 26 #[.slice a ms.length cap] w fun e w' => e = .returned (.slice (some ⟨w.heap.size, 0, none⟩) ms.length ms.length) /\ jq w.heap.size w' w.heap.size ms ms.length /\ Below w.heap.size w w' := by
  have hmk : ∀ w : World, (Instr.makeSlice 45 (.int .i64 ms.length) (.int .i64 ms.length)).run Tryz.prog w = .ok (.slice (some ⟨w.heap.size, 0, none⟩) ms.length ms.length) (w.alloc (.cells (zm5 ms.length) 121)) :=
    fun w => qR (P := Tryz.prog) 45 121 (.agg zov) 7 112 Tryz.underlying45 (by kernel_rfl) ms.length (by omega) (by omega) w
  go_enter Tryz.func26, Tryz.ntmps26
  go_wp2_with fail
  clear hmk
  go_loopw [4] (fun i wr => ∃ k : Nat, k <= ms.length /\ i = .int .i64 k /\ Hid (jq w.heap.size wr w.heap.size ms k) /\ Below w.heap.size w wr) (fun i _ => ms.length - (intOf i).toNat)
  case atStart => exact ⟨0, Nat.zero_le _, rfl, ⟨Nat.le_refl _, zm5 ms.length, (MapKept.heap_alloc w _).1, size_madeCells _ _, fun i _ h => absurd h (by omega)⟩, (Below.refl _ _).alloc (Nat.le_refl _) _⟩
  case round =>
    obtain ⟨k, hk, rfl, HOW, hB⟩ := hrel
    by_cases hlt : k < ms.length
    · obtain ⟨b, off, a0, a1, c0, c1, rfl, hb, hsm, hl0, hl1, d0, d1, d2, d3, d4, d5, d6⟩ := hw.load hB k hlt
      have HLS := hid (hls k hlt)
      have hltI : (k : Int) < (ms.length : Int) := by omega
      clear hw
      go_wp2_with fail
      refine (zfB ms[k] a0 a1 c0 c1 _ hsm hl0 hl1 HLS.out).mono ?_
      rintro e w1 ⟨g0, g1, rfl, p0, r0, p1, r1, hb1⟩
      have hB1 := hB.trans (hb1.mono hB.size)
      have hbo : w.heap.size < wr.heap.size := by
        obtain ⟨C', hC', _⟩ := HOW.out.rows
        exact (Array.getElem?_eq_some_iff.1 hC').1
      have HP := hid (HOW.out.later hb1)
      obtain ⟨C, hC, hsz, _⟩ := HP.out.rows
      have hfz : ∀ o, w1.frozen? ⟨w.heap.size, o, none⟩ = false := fun o => zl hC
      have hex : ∀ o, o < ms.length * 7 -> ∃ v, w1.cell? ⟨w.heap.size, o, none⟩ = some v := fun o ho => ⟨C[o]'(by omega), by rw [cell_of_block hC]; exact Array.getElem?_eq_getElem (by omega)⟩
      obtain ⟨v0, hv0⟩ := hex (k * 7) (by omega)
      obtain ⟨v1, hv1⟩ := hex (k * 7 + 1) (by omega)
      obtain ⟨v2, hv2⟩ := hex (k * 7 + 2) (by omega)
      obtain ⟨v3, hv3⟩ := hex (k * 7 + 3) (by omega)
      obtain ⟨v4, hv4⟩ := hex (k * 7 + 4) (by omega)
      obtain ⟨v5, hv5⟩ := hex (k * 7 + 5) (by omega)
      obtain ⟨v6, hv6⟩ := hex (k * 7 + 6) (by omega)
      have HR := zkI p0 r0 p1 r1
      clear hex hC hsz d0 d1 d2 d3 d4 d5 d6 p0 r0 p1 r1 hl0 hl1
      unfold Ob.row
      go_wp2_with fail
      obtain ⟨p0, r0, p1, r1⟩ := HR.out
      exact ⟨⟨k + 1, by omega, by go_num, HP.out.put hlt g0 g1 (by omega) (by omega) r0 (by omega) (by omega) r1, zkS hB1 (Nat.le_refl _) _ _ _ _ _ _ _ _⟩, by simp [intOf]; omega⟩
    · have HF : Hid (jq w.heap.size wr w.heap.size ms ms.length) := by
        have e : k = ms.length := by omega
        subst e; exact HOW.out
      clear hw HOW
      go_wp2_with fail
      go_ret
      exact ⟨rfl, HF.out, hB⟩
end Go.Proofs.YtfapkhgallmkdaaGreat

namespace Go.Proofs.YtfapkhgallmkdaaGreat
open Go.RowKit
theorem Gate.zn4 (ts : List Tm) : (!(ts.any fun t => !Gate.zc6 ts t)) = Gate.up (Gate.zep ts) ts.length := by
  rw [Bool.eq_iff_iff, Gate.zb3]
  simp only [Bool.not_eq_true', List.any_eq_false]
  constructor
  · intro h i hi
    have := h ts[i] (List.getElem_mem hi)
    unfold Gate.zep
    rw [Gate.getD_at ts i _ hi]
    simpa using this
  · intro h x hx
    obtain ⟨k, hk, rfl⟩ := List.mem_iff_getElem.1 hx
    have := h k hk
    unfold Gate.zep at this
    rw [Gate.getD_at ts k _ hk] at this
    simp [this]
theorem Gate.zbJ (ts : List Tm) (k : Nat) (h : k < ts.length) (b : Bool) (hb : (decide (k = 0) || Gate.less (ts.getD (k - 1) Gate.zaH).nm ts[k].nm) = b) :
    Gate.yT ts k = (Gate.zy ts[k].nm && b && (ts[k].ov.toList.isEmpty || Gate.yj ts ts[k].ov)) := by
  unfold Gate.yT; rw [Gate.getD_at ts k _ h, hb]
set_option maxHeartbeats 4000000 in
theorem zgR (a : Option Addr) (cap : Nat) (ts : List Tm) (w : World) (hw : qF w a ts) :
    Calls Tryz.prog 99 #[.slice a ts.length cap] w fun e w' => e = .returned (.bool (Gate.za0 ts)) /\ Below w.heap.size w w' := by
  have hl := hw.len
  unfold maxLen at hl
  by_cases h12 : ts.length <= 12
  rotate_left
  · have HF : Hid (Gate.za0 ts = false) := by simp [Hid, Gate.za0, h12]
    clear hw
    go_enter Tryz.func99, Tryz.ntmps99
    go_wp2_with fail
    go_ret
    exact ⟨ze HF.out.symm, (Below.refl _ _).alloc (Nat.le_refl _) _⟩
  have HG : Hid (Gate.za0 ts = (Gate.up (Gate.yT ts) ts.length && Gate.up (Gate.zep ts) ts.length)) := by simp [Hid, Gate.za0, h12]
  have h12I : (ts.length : Int) <= 12 := by omega
  go_enter Tryz.func99, Tryz.ntmps99
  go_wp2_with fail
  have hB00 : Below w.heap.size w (w.alloc (.cells #[.slice a ts.length cap] 41)) := (Below.refl _ _).alloc (Nat.le_refl _) _
  have hX00 := zG w #[.slice a ts.length cap] 41
  have hz00 : w.heap.size < (w.alloc (.cells #[.slice a ts.length cap] 41)).heap.size := by simp
  obtain ⟨w0, hw0⟩ : ∃ w0, w0 = w.alloc (.cells #[.slice a ts.length cap] 41) := ⟨_, rfl⟩
  rw [<- hw0] at hB00 hX00 hz00 ⊢
  have HW0 : Hid (qF w0 a ts) := hw.mono hB00
  have HB00 : Hid (Below w.heap.size w w0) := hB00
  clear hw0 hw hB00
  go_loopw [10] (fun i wr => ∃ k : Nat, k <= ts.length /\ i = .int .i64 k /\ Gate.up (Gate.yT ts) k = true /\ Below w0.heap.size w0 wr) (fun i _ => ts.length - (intOf i).toNat)
  case atStart => exact ⟨0, Nat.zero_le _, rfl, rfl, Below.refl _ _⟩
  case round =>
    obtain ⟨k, hk, rfl, hup, hB⟩ := hrel
    have hsz := hB.size
    have hX := za hX00 hz00 hB
    have hX0 : wr.cell? ⟨w.heap.size, 0, none⟩ = some (.slice a ts.length cap) := hX 0
    have hzr : w.heap.size < wr.heap.size := by omega
    have HBr : Hid (Below w.heap.size w wr) := HB00.out.trans (hB.mono (by omega))
    clear hX hX00
    by_cases hlt : k < ts.length
    · obtain ⟨b, off, rfl, hb, c0, c1⟩ := HW0.out.load hB k hlt
      have hbr : b < wr.heap.size := by omega
      have hsm := HW0.out.small k hlt
      have hsn := hsm.nm
      have HS : Hid (Gate.yT ts k = true -> Gate.up (Gate.yT ts) (k + 1) = true) := fun h => by rw [Gate.jA, hup, h]; rfl
      have HN : Hid (Gate.yT ts k = false -> Gate.za0 ts = false) := fun h => by rw [HG.out, Gate.zaV hlt h]; rfl
      have hltI : (k : Int) < (ts.length : Int) := by omega
      have HB : Hid (Below w0.heap.size w0 wr) := hB
      clear hup hsm hB
      by_cases hn : Gate.zy ts[k].nm = true
      rotate_left
      · have HNm : Hid (Gate.zy ts[k].nm = false) := by simpa [Hid] using hn
        have HF : Hid (Gate.yT ts k = false) := by unfold Hid; rw [Gate.zbJ ts k hlt _ rfl, HNm.out]; rfl
        clear hn
        go_wp2_with fail
        go_quiet ((go_at_call 134; exact Calls.quiet_of_same (zk HNm.out (zN _ _ hsn))))
        go_wp2_with fail
        go_ret
        exact ⟨ze (HN.out HF.out).symm, below_drewN (HBr.out.alloc (by omega) _) _⟩
      have HNm : Hid (Gate.zy ts[k].nm = true) := hn
      clear hn
      by_cases hbad : 0 < k /\ Gate.less (ts.getD (k - 1) Gate.zaH).nm ts[k].nm = false
      · obtain ⟨hkpos, hls⟩ := hbad
        have HF : Hid (Gate.yT ts k = false) := by
          unfold Hid; rw [Gate.zbJ ts k hlt false (by rw [hls, decide_eq_false (show ¬ k = 0 by omega)]; rfl)]; simp
        obtain ⟨m, rfl⟩ : ∃ m, k = m + 1 := ⟨k - 1, by omega⟩
        rw [Nat.add_sub_cancel, Gate.getD_at ts m _ (by omega)] at hls
        obtain ⟨b', off', e', hb', d0, d1⟩ := HW0.out.load HB.out m (by omega)
        simp only [Option.some.injEq, Addr.mk.injEq] at e'
        obtain ⟨rfl, rfl, _⟩ := e'
        have hls' : Op.bytesLess ts[m].nm.toList ts[m + 1].nm.toList = false := hls
        have hmI : (m : Int) < 12 := by omega
        have hm0 : (0 : Int) <= (m : Int) := by omega
        have hml : (m : Int) < (ts.length : Int) := by omega
        have hmw : IntKind.i64.wrap (m : Int) = m := by rw [IntKind.wrap_i64]; omega
        clear hls
        go_wp2_with fail
        go_quiet ((go_at_call 134; exact Calls.quiet_of_same (zk HNm.out (zN _ _ hsn))))
        go_wp2_with fail
        go_ret
        exact ⟨ze (HN.out HF.out).symm, below_drewN (HBr.out.alloc (by omega) _) _⟩
      have hgd : (decide (k = 0) || Gate.less (ts.getD (k - 1) Gate.zaH).nm ts[k].nm) = true := by
        by_cases hk0 : k = 0
        · simp [hk0]
        · cases hq : Gate.less (ts.getD (k - 1) Gate.zaH).nm ts[k].nm
          · exact absurd ⟨by omega, hq⟩ hbad
          · simp
      have HA : Hid (Gate.yT ts k = (ts[k].ov.toList.isEmpty || Gate.yj ts ts[k].ov)) := by
        unfold Hid; rw [Gate.zbJ ts k hlt true hgd, HNm.out]; rfl
      have hgood : (decide (0 < k) = false) \/ (decide (0 < k) = true /\ ∃ m, k = m + 1 /\ ∃ h : m < ts.length, Op.bytesLess ts[m].nm.toList ts[k].nm.toList = true /\ wr.cell? ⟨b, off + m * 2, none⟩ = some (.string ts[m].nm)) := by
        by_cases hk0 : k = 0
        · exact Or.inl (by simp; omega)
        · refine Or.inr ⟨by simp; omega, k - 1, by omega, by omega, ?_, ?_⟩
          · rw [decide_eq_false hk0, Gate.getD_at ts (k - 1) _ (by omega)] at hgd
            exact hgd
          · obtain ⟨b', off', e', hb', d0, d1⟩ := HW0.out.load HB.out (k - 1) (by omega)
            simp only [Option.some.injEq, Addr.mk.injEq] at e'
            obtain ⟨rfl, rfl, _⟩ := e'
            exact d0
      clear hbad hgd
      have HBx : Hid (∀ (ob : Obj) (n : Nat), Below wr.heap.size wr ((wr.alloc ob).drewN n)) := fun ob n => below_drewN ((Below.refl _ _).alloc (Nat.le_refl _) _) _
      by_cases hov : ts[k].ov.toList.isEmpty = true
      · have HT : Hid (Gate.yT ts k = true) := by unfold Hid; rw [HA.out, hov]; rfl
        rcases hgood with hg | ⟨hg, m, rfl, hm, hls', d0⟩
        · go_wp2_with fail
          go_quiet ((go_at_call 134; exact Calls.quiet_of_same (zk HNm.out (zN _ _ hsn))))
          go_wp2_with fail
          exact ⟨⟨k + 1, by omega, by go_num, HS.out HT.out, HB.out.trans ((HBx.out _ _).mono hsz)⟩, by simp [intOf]; omega⟩
        · have hmI : (m : Int) < 12 := by omega
          have hm0 : (0 : Int) <= (m : Int) := by omega
          have hml : (m : Int) < (ts.length : Int) := by omega
          have hmw : IntKind.i64.wrap (m : Int) = m := by rw [IntKind.wrap_i64]; omega
          go_wp2_with fail
          go_quiet ((go_at_call 134; exact Calls.quiet_of_same (zk HNm.out (zN _ _ hsn))))
          go_wp2_with fail
          exact ⟨⟨m + 1 + 1, by omega, by go_num, HS.out HT.out, HB.out.trans ((HBx.out _ _).mono hsz)⟩, by simp [intOf]; omega⟩
      · have hov' : ts[k].ov.toList.isEmpty = false := by simpa using hov
        clear hov
        by_cases hit : Gate.yj ts ts[k].ov = true
        · have HI : Hid (Gate.yj ts ts[k].ov = true) := hit
          have HT : Hid (Gate.yT ts k = true) := by unfold Hid; rw [HA.out, hit]; simp
          clear hit
          rcases hgood with hg | ⟨hg, m, rfl, hm, hls', d0⟩
          · go_wp2_with fail
            go_quiet ((go_at_call 134; exact Calls.quiet_of_same (zk HNm.out (zN _ _ hsn))))
            go_wp2_with fail
            refine (zk HI.out (zbV _ _ ts _ _ ((HW0.out.mono HB.out).mono (HBx.out _ _)))).mono ?_
            rintro e w3 ⟨rfl, hb3⟩
            have hB3 : Below w0.heap.size w0 w3 := (HB.out.trans ((HBx.out _ _).mono hsz)).trans (hb3.mono (by simp; omega))
            clear hb3
            go_wp2_with fail
            exact ⟨⟨k + 1, by omega, by go_num, HS.out HT.out, hB3⟩, by simp [intOf]; omega⟩
          · have hmI : (m : Int) < 12 := by omega
            have hm0 : (0 : Int) <= (m : Int) := by omega
            have hml : (m : Int) < (ts.length : Int) := by omega
            have hmw : IntKind.i64.wrap (m : Int) = m := by rw [IntKind.wrap_i64]; omega
            go_wp2_with fail
            go_quiet ((go_at_call 134; exact Calls.quiet_of_same (zk HNm.out (zN _ _ hsn))))
            go_wp2_with fail
            refine (zk HI.out (zbV _ _ ts _ _ ((HW0.out.mono HB.out).mono (HBx.out _ _)))).mono ?_
            rintro e w3 ⟨rfl, hb3⟩
            have hB3 : Below w0.heap.size w0 w3 := (HB.out.trans ((HBx.out _ _).mono hsz)).trans (hb3.mono (by simp; omega))
            clear hb3
            go_wp2_with fail
            exact ⟨⟨m + 1 + 1, by omega, by go_num, HS.out HT.out, hB3⟩, by simp [intOf]; omega⟩
        · have HI : Hid (Gate.yj ts ts[k].ov = false) := by simpa [Hid] using hit
          have HF : Hid (Gate.yT ts k = false) := by unfold Hid; rw [HA.out, HI.out, hov']; rfl
          clear hit
          rcases hgood with hg | ⟨hg, m, rfl, hm, hls', d0⟩
          focus
            go_wp2_with fail
          rotate_left
          focus
            have hmI : (m : Int) < 12 := by omega
            have hm0 : (0 : Int) <= (m : Int) := by omega
            have hml : (m : Int) < (ts.length : Int) := by omega
            have hmw : IntKind.i64.wrap (m : Int) = m := by rw [IntKind.wrap_i64]; omega
            go_wp2_with fail
          all_goals
            go_quiet ((go_at_call 134; exact Calls.quiet_of_same (zk HNm.out (zN _ _ hsn))))
            go_wp2_with fail
            refine (zk HI.out (zbV _ _ ts _ _ ((HW0.out.mono HB.out).mono (HBx.out _ _)))).mono ?_
            rintro e w3 ⟨rfl, hb3⟩
            have hB3 : Below w.heap.size w w3 := (HBr.out.trans ((HBx.out _ _).mono (by omega))).trans (hb3.mono (by simp; omega))
            clear hb3
            go_wp2_with fail
            go_ret
            exact ⟨ze (HN.out HF.out).symm, hB3⟩
    · have HF : Hid (Gate.za0 ts = !(ts.any fun t => !Gate.zc6 ts t)) := by
        have e : k = ts.length := by omega
        subst e; rw [Hid, HG.out, hup, Gate.zn4]; rfl
      have HWr : Hid (qF wr a ts) := HW0.out.mono hB
      clear hup hB
      go_wp2_with fail
      refine (zfg _ _ ts _ _ _ HWr.out (zni _ _ ts _ _ HWr.out hzr hX0)).mono ?_
      rintro e w3 ⟨rfl, hb3⟩
      have hB3 : Below w.heap.size w w3 := HBr.out.trans (hb3.mono (by omega))
      clear hb3
      go_wp2_with fail
      go_ret
      exact ⟨ze HF.out.symm, hB3⟩
end Go.Proofs.YtfapkhgallmkdaaGreat
