import Derived.Test.YtfpeplbmfbepcaaGreatM15
import Derived.Test.YtfpeplbmfbepcaaGreatM16
import Derived.Deep.RegionHeld3
namespace Go.Proofs.YtfpeplbmfbepcaaGreat
open Go.RowKit
structure Gr where
  no : Int
  to : ByteArray
  gb : ByteArray
  r : Rl
def Gr.cells (g : Gr) (a0 : Option Addr) (c0 : Nat) : Array Value := #[.int .i64 g.no, .string g.to, .string g.gb, .slice a0 g.r.vs.length c0, .string g.r.kd, .string g.r.tm, .string g.r.px]
structure Gr.Small (g : Gr) : Prop where
  to : g.to.size <= maxLen
  gb : g.gb.size <= maxLen
  r : g.r.Small
def Gr.sz (g : Gr) : Nat := g.to.size + g.gb.size + g.r.sz
theorem Gr.znI {g : Gr} (h : (g.sz : Int) <= 1048576) : g.r.vs.length <= 1048576 := by unfold Gr.sz Rl.sz at h; omega
set_option maxHeartbeats 1000000 in
theorem zdH (g : Gr) (a0 : Option Addr) (c0 : Nat) (left : Int) (w : World) (hm : g.Small) (hi : yM w a0 g.r.vs) (h0 : 0 <= left) (h1 : left <= 1048576) :
    Calls Tryz.prog 55 #[.agg (g.cells a0 c0), .int .i64 left] w fun e w' => e = .returned (.int .i64 (zF g.sz left)) /\ Below w.heap.size w w' := by
  have k1 := hm.to
  have k2 := hm.gb
  have HM := qJ hm.r hi.len
  unfold maxLen at k1 k2
  clear hm hi
  unfold Gr.cells
  have hB : ∀ ob, Below w.heap.size w (w.alloc ob) := fun ob => (Below.refl _ _).alloc (Nat.le_refl _) _
  by_cases c1 : (g.to.size : Int) <= left
  rotate_left
  · have HF : Hid (zF g.sz left = -1) := zx (by unfold Gr.sz; omega)
    go_enter Tryz.func55, Tryz.ntmps55
    go_wp2_with fail
    go_ret
    exact ⟨zl HF.out.symm, hB _⟩
  by_cases c2 : (g.gb.size : Int) <= left - g.to.size
  rotate_left
  · have HF : Hid (zF g.sz left = -1) := zx (by unfold Gr.sz; omega)
    go_enter Tryz.func55, Tryz.ntmps55
    go_wp2_with fail
    go_ret
    exact ⟨zl HF.out.symm, hB _⟩
  by_cases c3 : (g.r.sz : Int) <= left - g.to.size - g.gb.size
  · have HF : Hid (zF g.sz left = left - g.to.size - g.gb.size - g.r.sz) := by
      unfold Hid; rw [zH (by unfold Gr.sz; omega)]; unfold Gr.sz; omega
    go_enter Tryz.func55, Tryz.ntmps55
    go_wp2_with fail
    refine (zdU g.r a0 c0 _ _ HM.out.1 HM.out.2 (by omega) (by omega)).mono ?_
    rintro e w1 ⟨rfl, hb⟩
    rw [zH c3]
    have hB1 := (hB _).trans (hb.mono (by simp))
    clear hb
    go_wp2_with fail
    go_ret
    exact ⟨zl HF.out.symm, hB1⟩
  · have HF : Hid (zF g.sz left = -1) := zx (by unfold Gr.sz; omega)
    have HC := hid c3
    clear c3
    go_enter Tryz.func55, Tryz.ntmps55
    go_wp2_with fail
    refine (zdU g.r a0 c0 _ _ HM.out.1 HM.out.2 (by omega) (by omega)).mono ?_
    rintro e w1 ⟨rfl, hb⟩
    rw [zx (by have := HC.out; omega)]
    have hB1 := (hB _).trans (hb.mono (by simp))
    clear hb
    go_wp2_with fail
    go_ret
    exact ⟨zl HF.out.symm, hB1⟩
set_option maxHeartbeats 1000000 in
theorem zhx (g : Gr) (a0 : Option Addr) (c0 : Nat) (a0' : Option Addr) (c0' : Nat) (w : World) (_hm : g.Small) (hi : yM w a0 g.r.vs) (hi' : yM w a0' g.r.vs) :
    Calls Tryz.prog 79 #[.agg (g.cells a0 c0), .agg (g.cells a0' c0')] w fun e w' => e = .returned (.bool true) /\ Below w.heap.size w w' := by
  have hn : (g.no != g.no) = false := by simp
  unfold Gr.cells
  go_enter Tryz.func79, Tryz.ntmps79
  go_wp2_with fail
  refine (zii g.r _ _ _ _ _ (hi.mono (zn _ _ _)) (hi'.mono (zn _ _ _))).mono ?_
  rintro e w1 ⟨rfl, hb⟩
  have hB1 := (zn w _ _).trans (hb.mono (by simp; omega))
  clear hb
  go_wp2_with fail
  go_ret
  exact ⟨rfl, hB1⟩
set_option maxHeartbeats 2000000 in
theorem zhi (g : Gr) (a0 : Option Addr) (c0 : Nat) (w : World) (_hm : g.Small) (hi : yM w a0 g.r.vs) (hl : g.r.vs.length <= 1048576) :
    Calls Tryz.prog 68 #[.agg (g.cells a0 c0)] w fun e w' => ∃ g0, e = .returned (.agg (g.cells (some ⟨g0, 0, none⟩) g.r.vs.length)) /\ w.heap.size <= g0 /\ w'.heap[g0]? = some (.cells (zaY g.r.vs) 3) /\ Below w.heap.size w w' := by
  unfold Gr.cells
  go_enter Tryz.func68, Tryz.ntmps68
  go_wp2_with fail
  have k0 := zo7 w (.cells #[.int .i64 g.no, .string g.to, .string g.gb, .slice a0 g.r.vs.length c0, .string g.r.kd, .string g.r.tm, .string g.r.px] 109) (.cells #[.int .i64 0, .string ByteArray.empty, .string ByteArray.empty, .slice none 0 0, .string ByteArray.empty, .string ByteArray.empty, .string ByteArray.empty] 132) (.cells #[.int .i64 g.no, .string g.to, .string g.gb, .slice none 0 0, .string ByteArray.empty, .string ByteArray.empty, .string ByteArray.empty] 132)
  have hB0 := below3' w (.cells #[.int .i64 g.no, .string g.to, .string g.gb, .slice a0 g.r.vs.length c0, .string g.r.kd, .string g.r.tm, .string g.r.px] 109) (.cells #[.int .i64 0, .string ByteArray.empty, .string ByteArray.empty, .slice none 0 0, .string ByteArray.empty, .string ByteArray.empty, .string ByteArray.empty] 132) (.cells #[.int .i64 g.no, .string g.to, .string g.gb, .slice none 0 0, .string ByteArray.empty, .string ByteArray.empty, .string ByteArray.empty] 132)
  refine (zid g.r a0 c0 _ (hi.mono (below3' _ _ _ _)) hl).mono ?_
  rintro e w1 ⟨bk, rfl, hlo, hhi, hbk, hb⟩
  have hlo' : w.heap.size + 1 + 1 + 1 <= bk := by simpa using hlo
  have hR1 := (hb.block _ (by simp)).trans k0.2.1
  have hO1 := (hb.block _ (by simp)).trans k0.2.2
  have hB1 := hB0.trans (hb.mono (by simp; omega))
  have HK := hid hbk
  have cR := fun j => cell_of_block (o := j) hR1
  have fR := fun j => zh (o := j) hR1
  have cO := fun j => cell_of_block (o := j) hO1
  have fO := fun j => zh (o := j) hO1
  have hz1 := (Array.getElem?_eq_some_iff.1 hO1).1
  clear hb hbk k0 hB0 hlo hR1 hO1
  unfold Rl.cells
  go_wp2_with fail
  refine bodyPost_ret (v := .agg #[.int .i64 g.no, .string g.to, .string g.gb, .slice (some ⟨bk, 0, none⟩) g.r.vs.length g.r.vs.length, .string g.r.kd, .string g.r.tm, .string g.r.px]) (by simp [results, Tryz.results68, go_sem, cR]) rfl ⟨bk, rfl, by omega, ?_, ?_⟩
  · have h1 : bk ≠ w.heap.size + 1 := by omega
    have h2 : bk ≠ w.heap.size + 1 + 1 := by omega
    exact (zB h1).trans ((zB h1).trans ((zB h1).trans ((zB h1).trans ((zB h1).trans ((zB h1).trans ((zB h1).trans ((zB h2).trans ((zB h2).trans ((zB h2).trans ((zB h2).trans HK.out))))))))))
  · have h3 : w.heap.size <= w.heap.size + 1 := by omega
    have h4 : w.heap.size <= w.heap.size + 1 + 1 := by omega
    exact ((((((((((hB1.setCell h4 _).setCell h4 _).setCell h4 _).setCell h4 _).setCell h3 _).setCell h3 _).setCell h3 _).setCell h3 _).setCell h3 _).setCell h3 _).setCell h3 _
structure zpv (w : World) (b off : Nat) (x : Gr) (a0 : Option Addr) (c0 : Nat) : Prop where
  small : x.Small
  l0 : yM w a0 x.r.vs
  cell : ∀ j, j < 7 -> w.cell? ⟨b, off + j, none⟩ = (Gr.cells x a0 c0)[j]?
structure zcd (w : World) (a : Option Addr) (ms : List Gr) : Prop where
  len : ms.length <= maxLen
  rows : ms ≠ [] -> ∃ b off, a = some ⟨b, off, none⟩ /\ b < w.heap.size /\ ∀ i (h : i < ms.length), ∃ a0 c0, zpv w b (off + i * 7) ms[i] a0 c0
theorem zpv.mono {w w' : World} {b off : Nat} {x : Gr} {a0 : Option Addr} {c0 : Nat} (h : zpv w b off x a0 c0) (hb : b < w.heap.size) (hl : Below w.heap.size w w') : zpv w' b off x a0 c0 :=
  ⟨h.small, h.l0.mono hl, fun j hj => (hl.cell (p := ⟨b, off + j, none⟩) hb).trans (h.cell j hj)⟩
theorem zcd.mono {w w' : World} {a : Option Addr} {ms : List Gr} (h : zcd w a ms) (hl : Below w.heap.size w w') : zcd w' a ms :=
  ⟨h.len, fun hne => by
    obtain ⟨b, off, ha, hb, hr⟩ := h.rows hne
    refine ⟨b, off, ha, Nat.lt_of_lt_of_le hb hl.size, fun i hi => ?_⟩
    obtain ⟨a0, c0, hf⟩ := hr i hi
    exact ⟨a0, c0, hf.mono hb hl⟩⟩
theorem zcd.load {w w' : World} {a : Option Addr} {ms : List Gr} (h : zcd w a ms) (hl : Below w.heap.size w w') (i : Nat) (hi : i < ms.length) : ∃ b off a0 c0, a = some ⟨b, off, none⟩ /\ b < w.heap.size /\ ms[i].Small /\ yM w' a0 ms[i].r.vs /\
    w'.cell? ⟨b, off + i * 7, none⟩ = some (.int .i64 ms[i].no) /\ w'.cell? ⟨b, off + i * 7 + 1, none⟩ = some (.string ms[i].to) /\ w'.cell? ⟨b, off + i * 7 + 2, none⟩ = some (.string ms[i].gb) /\ w'.cell? ⟨b, off + i * 7 + 3, none⟩ = some (.slice a0 ms[i].r.vs.length c0) /\ w'.cell? ⟨b, off + i * 7 + 4, none⟩ = some (.string ms[i].r.kd) /\ w'.cell? ⟨b, off + i * 7 + 5, none⟩ = some (.string ms[i].r.tm) /\ w'.cell? ⟨b, off + i * 7 + 6, none⟩ = some (.string ms[i].r.px) := by
  obtain ⟨b, off, ha, hb, hr⟩ := h.rows (by rintro rfl; simp at hi)
  obtain ⟨a0, c0, hf0⟩ := hr i hi
  have hf := hf0.mono hb hl
  exact ⟨b, off, a0, c0, ha, hb, hf.small, hf.l0, hf.cell 0 (by omega), hf.cell 1 (by omega), hf.cell 2 (by omega), hf.cell 3 (by omega), hf.cell 4 (by omega), hf.cell 5 (by omega), hf.cell 6 (by omega)⟩
def zcS (ms : List Gr) : Nat := (ms.map Gr.sz).sum
def zbJ (ms : List Gr) : Nat := ms.length + zcS ms
structure zi7 (ms : List Gr) : Prop where
  small : ∀ i (h : i < ms.length), ms[i].Small /\ ms[i].r.vs.length <= maxLen
theorem zcd.smalls {w : World} {a : Option Addr} {ms : List Gr} (h : zcd w a ms) : zi7 ms :=
  ⟨fun i hi => by
    obtain ⟨b, off, _, _, hr⟩ := h.rows (by rintro rfl; simp at hi)
    obtain ⟨a0, c0, hf⟩ := hr i hi
    exact ⟨hf.small, hf.l0.len⟩⟩
theorem zqb {ms : List Gr} {left : Int} (h : (zbJ ms : Int) <= left) (hl : left <= 1048576) : ms.length <= 1048576 /\ ∀ i (h : i < ms.length), ms[i].r.vs.length <= 1048576 := by
  unfold zbJ at h
  refine ⟨by omega, fun i hi => ?_⟩
  have h1 : ms[i].sz <= zcS ms := zh0 Gr.sz ms i hi
  exact Gr.znI (by omega)
set_option maxHeartbeats 1000000 in
theorem zge (a : Option Addr) (cap : Nat) (ms : List Gr) (left : Int) (w : World) (hw : zcd w a ms) (h0 : 0 <= left) (h1 : left <= 1048576) :
    Calls Tryz.prog 21 #[.slice a ms.length cap, .int .i64 left] w fun e w' => e = .returned (.int .i64 (zF (zbJ ms) left)) /\ Below w.heap.size w w' := by
  have hl := hw.len
  unfold maxLen at hl
  by_cases hfit : (ms.length : Int) <= left
  · go_enter Tryz.func21, Tryz.ntmps21
    go_wp2_with fail
    go_loopw [1, 5] (fun l i wr => ∃ k : Nat, k <= ms.length /\ i = .int .i64 k /\ 0 <= left - ms.length - zcS (ms.take k) /\ l = .int .i64 (left - ms.length - zcS (ms.take k)) /\ Below w.heap.size w wr) (fun _ i _ => ms.length - (intOf i).toNat)
    case atStart => exact ⟨0, Nat.zero_le _, rfl, by simp [zcS]; omega, by simp [zcS], Below.refl _ _⟩
    case round =>
      obtain ⟨k, hk, rfl, hpos, rfl, hB⟩ := hrel
      by_cases hlt : k < ms.length
      · obtain ⟨b, off, a0, c0, rfl, hb, hsm, hl0, d0, d1, d2, d3, d4, d5, d6⟩ := hw.load hB k hlt
        have hbr := Nat.lt_of_lt_of_le hb hB.size
        have HS : Hid (zcS (ms.take (k + 1)) = zcS (ms.take k) + ms[k].sz) := zaH Gr.sz ms k hlt
        have hle : zcS (ms.take (k + 1)) <= zcS ms := zce Gr.sz ms (k + 1)
        have HI : Hid (yM wr a0 ms[k].r.vs) := hl0
        clear hw hl0
        by_cases hneg : (ms[k].sz : Int) <= left - ms.length - zcS (ms.take k)
        · have HNG : Hid ((ms[k].sz : Int) <= left - ms.length - zcS (ms.take k)) := hneg
          clear hle
          go_wp2_with fail
          refine (zdH ms[k] a0 c0 _ _ hsm HI.out hpos (by omega)).mono ?_
          rintro e w1 ⟨rfl, hb1⟩
          rw [zH HNG.out]
          have hB1 := hB.trans (hb1.mono hB.size)
          clear hb1
          go_wp2_with fail
          exact ⟨⟨k + 1, by omega, by go_num, by rw [HS.out]; omega, by rw [HS.out]; congr 1; omega, hB1⟩, by simp [intOf]; omega⟩
        · have HF : Hid (zF (zbJ ms) left = -1) := zx (by have := HS.out; unfold zbJ; omega)
          have HNG := hid hneg
          clear hneg hle
          go_wp2_with fail
          refine (zdH ms[k] a0 c0 _ _ hsm HI.out hpos (by omega)).mono ?_
          rintro e w1 ⟨rfl, hb1⟩
          rw [zx (by have := HNG.out; omega)]
          have hB1 := hB.trans (hb1.mono hB.size)
          clear hb1
          go_wp2_with fail
          go_ret
          exact ⟨zl HF.out.symm, hB1⟩
      · have HF : Hid (zF (zbJ ms) left = left - ms.length - zcS (ms.take k)) := by
          rw [List.take_of_length_le (by omega)] at hpos ⊢
          have e : zF (zbJ ms) left = left - zbJ ms := zH (by unfold zbJ; omega)
          unfold Hid; rw [e]; unfold zbJ; omega
        clear hw
        go_wp2
        go_ret
        exact ⟨zl HF.out.symm, hB⟩
  · have HF : Hid (zF (zbJ ms) left = -1) := zx (by unfold zbJ; omega)
    clear hw
    go_enter Tryz.func21, Tryz.ntmps21
    go_wp2
    go_ret
    exact ⟨zl HF.out.symm, Below.refl _ _⟩
set_option maxHeartbeats 2000000 in
theorem zgl (a a' : Option Addr) (cap cap' : Nat) (ms : List Gr) (w : World) (hw : zcd w a ms) (hw' : zcd w a' ms) :
    Calls Tryz.prog 41 #[.slice a ms.length cap, .slice a' ms.length cap'] w fun e w' => e = .returned (.bool true) /\ Below w.heap.size w w' := by
  have hl := hw.len
  unfold maxLen at hl
  have hnn : ((ms.length : Int) != ms.length) = false := by simp
  go_enter Tryz.func41, Tryz.ntmps41
  go_wp2_with fail
  go_loopw [5] (fun i wr => ∃ k : Nat, k <= ms.length /\ i = .int .i64 k /\ Below w.heap.size w wr) (fun i _ => ms.length - (intOf i).toNat)
  case atStart => exact ⟨0, Nat.zero_le _, rfl, Below.refl _ _⟩
  case round =>
    obtain ⟨k, hk, rfl, hB⟩ := hrel
    by_cases hlt : k < ms.length
    · obtain ⟨b, off, a0, c0, rfl, hb, hsm, hl0, d0, d1, d2, d3, d4, d5, d6⟩ := hw.load hB k hlt
      obtain ⟨b', off', a0', c0', rfl, hb', _, hl0', f0, f1, f2, f3, f4, f5, f6⟩ := hw'.load hB k hlt
      have hltI : (k : Int) < (ms.length : Int) := by omega
      clear hw hw'
      go_wp2_with fail
      go_region_with (go_at_call 79; refine (zhx ms[k] a0 c0 a0' c0' _ hsm (by exact hl0.mono ((Below.refl _ _).drew)) (by exact hl0'.mono ((Below.refl _ _).drew))).mono ?_; rintro e w1 ⟨rfl, hb1'⟩; have hb1 := (Below.refl wr.heap.size wr).drew.trans hb1'; clear hb1')
      all_goals go_wp2_with fail
      all_goals exact ⟨⟨k + 1, by omega, by go_num, hB.trans (hb1.mono hB.size)⟩, by simp [intOf]; omega⟩
    · clear hw hw'
      go_wp2_with fail
      go_ret
      exact ⟨rfl, hB⟩
structure jE (lo : Nat) (w : World) (bo : Nat) (ms : List Gr) (k : Nat) : Prop where
  low : lo <= bo
  rows : ∃ C, w.heap[bo]? = some (.cells C 132) /\ C.size = ms.length * 7 /\
    ∀ i (h : i < ms.length), i < k -> ∃ g0, lo <= g0 /\ g0 ≠ bo /\ w.heap[g0]? = some (.cells (zaY ms[i].r.vs) 3) /\ ∀ j, j < 7 -> C[i * 7 + j]? = (Gr.cells ms[i] (some ⟨g0, 0, none⟩) ms[i].r.vs.length)[j]?
theorem jE.at {lo : Nat} {w : World} {bo : Nat} {ms : List Gr} (h : jE lo w bo ms ms.length) (hs : zi7 ms) (hl : ms.length <= maxLen) : zcd w (some ⟨bo, 0, none⟩) ms := by
  obtain ⟨C, hC, hsz, hr⟩ := h.rows
  refine ⟨hl, fun _ => ⟨bo, 0, rfl, (Array.getElem?_eq_some_iff.1 hC).1, fun i hi => ?_⟩⟩
  obtain ⟨g0, _, _, hk0, hc⟩ := hr i hi hi
  obtain ⟨s0, s1⟩ := hs.small i hi
  refine ⟨some ⟨g0, 0, none⟩, ms[i].r.vs.length, s0, zey hk0 s1, fun j hj => ?_⟩
  rw [cell_of_block hC, Nat.zero_add]
  exact hc j hj
theorem jE.above {lo : Nat} {w w' : World} {bo : Nat} {ms : List Gr} {k : Nat} (h : jE lo w bo ms k) (ha : yt lo w w') : jE lo w' bo ms k := by
  obtain ⟨C, hC, hsz, hr⟩ := h.rows
  refine ⟨h.low, C, (ha.same _ h.low (Array.getElem?_eq_some_iff.1 hC).1).trans hC, hsz, fun i hi hk => ?_⟩
  obtain ⟨g0, p0, q0, r0, hc⟩ := hr i hi hk
  exact ⟨g0, p0, q0, (ha.same _ p0 (Array.getElem?_eq_some_iff.1 r0).1).trans r0, hc⟩
theorem jE.later {lo : Nat} {w w' : World} {bo : Nat} {ms : List Gr} {k : Nat} (h : jE lo w bo ms k) (hb : Below w.heap.size w w') : jE lo w' bo ms k := h.above (yt.below hb)
theorem jE.weaken {lo lo' : Nat} {w : World} {bo : Nat} {ms : List Gr} {k : Nat} (h : jE lo w bo ms k) (hl : lo' <= lo) : jE lo' w bo ms k := by
  obtain ⟨C, hC, hsz, hr⟩ := h.rows
  refine ⟨Nat.le_trans hl h.low, C, hC, hsz, fun i hi hk => ?_⟩
  obtain ⟨g0, p0, q0, r0, hc⟩ := hr i hi hk
  exact ⟨g0, Nat.le_trans hl p0, q0, r0, hc⟩
def zml (w : World) (b o : Nat) (v0 v1 v2 v3 v4 v5 v6 : Value) : World := (((((((w.setCell ⟨b, o, none⟩ v0).setCell ⟨b, o + 1, none⟩ v1).setCell ⟨b, o + 2, none⟩ v2).setCell ⟨b, o + 3, none⟩ v3).setCell ⟨b, o + 4, none⟩ v4).setCell ⟨b, o + 5, none⟩ v5).setCell ⟨b, o + 6, none⟩ v6)
def zjd (C : Array Value) (o : Nat) (v0 v1 v2 v3 v4 v5 v6 : Value) : Array Value := (((((((C.setIfInBounds (o) v0).setIfInBounds (o + 1) v1).setIfInBounds (o + 2) v2).setIfInBounds (o + 3) v3).setIfInBounds (o + 4) v4).setIfInBounds (o + 5) v5).setIfInBounds (o + 6) v6)
theorem zl2 {w : World} {b o : Nat} {C : Array Value} {t : TypeId} (h : w.heap[b]? = some (.cells C t)) (v0 v1 v2 v3 v4 v5 v6 : Value) : (zml w b o v0 v1 v2 v3 v4 v5 v6).heap[b]? = some (.cells (zjd C o v0 v1 v2 v3 v4 v5 v6) t) :=
  zf (zf (zf (zf (zf (zf (zf h v0) v1) v2) v3) v4) v5) v6
theorem zmf {B : Nat} {a w : World} (h : Below B a w) {b : Nat} (hb : B <= b) (o : Nat) (v0 v1 v2 v3 v4 v5 v6 : Value) : Below B a (zml w b o v0 v1 v2 v3 v4 v5 v6) :=
  ((((((h.setCell hb v0).setCell hb v1).setCell hb v2).setCell hb v3).setCell hb v4).setCell hb v5).setCell hb v6
theorem zgV (w : World) (b o : Nat) (v0 v1 v2 v3 v4 v5 v6 : Value) {b' : Nat} (h : b' ≠ b) : (zml w b o v0 v1 v2 v3 v4 v5 v6).heap[b']? = w.heap[b']? := by
  unfold zml
  iterate 7 rw [zB h]
theorem znR (C : Array Value) (o : Nat) (v0 v1 v2 v3 v4 v5 v6 : Value) : (zjd C o v0 v1 v2 v3 v4 v5 v6).size = C.size := by simp [zjd]
theorem zox (C : Array Value) (o i : Nat) (v0 v1 v2 v3 v4 v5 v6 : Value) (h : i < o \/ o + 7 <= i) : (zjd C o v0 v1 v2 v3 v4 v5 v6)[i]? = C[i]? := by
  unfold zjd
  iterate 7 rw [Array.getElem?_setIfInBounds, if_neg (by omega)]
theorem zpN (C : Array Value) (o j : Nat) (v0 v1 v2 v3 v4 v5 v6 : Value) (hj : j < 7) (ho : o + 7 <= C.size) : (zjd C o v0 v1 v2 v3 v4 v5 v6)[o + j]? = (#[v0, v1, v2, v3, v4, v5, v6] : Array Value)[j]? := by
  have hc : j = 0 \/ j = 1 \/ j = 2 \/ j = 3 \/ j = 4 \/ j = 5 \/ j = 6 := by omega
  unfold zjd
  rcases hc with h | h | h | h | h | h | h <;> subst h <;> simp [Array.getElem?_setIfInBounds] <;> omega
theorem jE.put {lo : Nat} {w : World} {bo : Nat} {ms : List Gr} {k : Nat} (h : jE lo w bo ms k) (hk : k < ms.length) (g0 : Nat) (p0 : lo <= g0) (q0 : g0 ≠ bo) (r0 : w.heap[g0]? = some (.cells (zaY ms[k].r.vs) 3)) :
    jE lo (zml w bo (k * 7) (.int .i64 ms[k].no) (.string ms[k].to) (.string ms[k].gb) (.slice (some ⟨g0, 0, none⟩) ms[k].r.vs.length ms[k].r.vs.length) (.string ms[k].r.kd) (.string ms[k].r.tm) (.string ms[k].r.px)) bo ms (k + 1) := by
  obtain ⟨C, hC, hsz, hr⟩ := h.rows
  refine ⟨h.low, _, zl2 hC _ _ _ _ _ _ _, by rw [znR]; exact hsz, fun i hi hik => ?_⟩
  rcases Nat.lt_or_ge i k with hlt | hge
  · obtain ⟨g0', x0, y0, z0, hc⟩ := hr i hi hlt
    refine ⟨g0', x0, y0, (by rw [zgV _ _ _ _ _ _ _ _ _ _ y0]; exact z0), fun j hj => ?_⟩
    rw [zox _ _ _ _ _ _ _ _ _ _ (by omega)]
    exact hc j hj
  · have e : i = k := by omega
    subst e
    refine ⟨g0, p0, q0, (by rw [zgV _ _ _ _ _ _ _ _ _ _ q0]; exact r0), fun j hj => ?_⟩
    rw [zpN _ _ _ _ _ _ _ _ _ _ hj (by omega)]
    rfl
def zpy : Array Value := #[.int .i64 0, .string ByteArray.empty, .string ByteArray.empty, .slice none 0 0, .string ByteArray.empty, .string ByteArray.empty, .string ByteArray.empty]
def zoe (n : Nat) : Array Value := madeCells zpy (n * 7)
set_option maxHeartbeats 2000000 in
theorem zf3 (a : Option Addr) (cap : Nat) (ms : List Gr) (w : World) (hw : zcd w a ms) (hl : ms.length <= 1048576) (hls : ∀ i (h : i < ms.length), ms[i].r.vs.length <= 1048576) :
    Calls Tryz.prog 32 #[.slice a ms.length cap] w fun e w' => e = .returned (.slice (some ⟨w.heap.size, 0, none⟩) ms.length ms.length) /\ jE w.heap.size w' w.heap.size ms ms.length /\ Below w.heap.size w w' := by
  have hmk : ∀ w : World, (Instr.makeSlice 44 (.int .i64 ms.length) (.int .i64 ms.length)).run Tryz.prog w = .ok (.slice (some ⟨w.heap.size, 0, none⟩) ms.length ms.length) (w.alloc (.cells (zoe ms.length) 132)) :=
    fun w => qP (P := Tryz.prog) 44 132 (.agg zpy) 7 112 Tryz.underlying44 (by kernel_rfl) ms.length (by omega) (by omega) w
  go_enter Tryz.func32, Tryz.ntmps32
  go_wp2_with fail
  clear hmk
  go_loopw [4] (fun i wr => ∃ k : Nat, k <= ms.length /\ i = .int .i64 k /\ Hid (jE w.heap.size wr w.heap.size ms k) /\ Below w.heap.size w wr) (fun i _ => ms.length - (intOf i).toNat)
  case atStart => exact ⟨0, Nat.zero_le _, rfl, ⟨Nat.le_refl _, zoe ms.length, (MapKept.heap_alloc w _).1, size_madeCells _ _, fun i _ h => absurd h (by omega)⟩, (Below.refl _ _).alloc (Nat.le_refl _) _⟩
  case round =>
    obtain ⟨k, hk, rfl, HOW, hB⟩ := hrel
    by_cases hlt : k < ms.length
    · obtain ⟨b, off, a0, c0, rfl, hb, hsm, hl0, d0, d1, d2, d3, d4, d5, d6⟩ := hw.load hB k hlt
      have HLS := hid (hls k hlt)
      have hltI : (k : Int) < (ms.length : Int) := by omega
      clear hw
      go_wp2_with fail
      refine (zhi ms[k] a0 c0 _ hsm hl0 HLS.out).mono ?_
      rintro e w1 ⟨g0, rfl, p0, r0, hb1⟩
      have hB1 := hB.trans (hb1.mono hB.size)
      have hbo : w.heap.size < wr.heap.size := by
        obtain ⟨C', hC', _⟩ := HOW.out.rows
        exact (Array.getElem?_eq_some_iff.1 hC').1
      have HP := hid (HOW.out.later hb1)
      obtain ⟨C, hC, hsz, _⟩ := HP.out.rows
      have hfz : ∀ o, w1.frozen? ⟨w.heap.size, o, none⟩ = false := fun o => zh hC
      have hex : ∀ o, o < ms.length * 7 -> ∃ v, w1.cell? ⟨w.heap.size, o, none⟩ = some v := fun o ho => ⟨C[o]'(by omega), by rw [cell_of_block hC]; exact Array.getElem?_eq_getElem (by omega)⟩
      obtain ⟨v0, hv0⟩ := hex (k * 7) (by omega)
      obtain ⟨v1, hv1⟩ := hex (k * 7 + 1) (by omega)
      obtain ⟨v2, hv2⟩ := hex (k * 7 + 2) (by omega)
      obtain ⟨v3, hv3⟩ := hex (k * 7 + 3) (by omega)
      obtain ⟨v4, hv4⟩ := hex (k * 7 + 4) (by omega)
      obtain ⟨v5, hv5⟩ := hex (k * 7 + 5) (by omega)
      obtain ⟨v6, hv6⟩ := hex (k * 7 + 6) (by omega)
      have HR := qJ p0 r0
      clear hex hC hsz d0 d1 d2 d3 d4 d5 d6 p0 r0 hl0
      unfold Gr.cells
      go_wp2_with fail
      obtain ⟨p0, r0⟩ := HR.out
      exact ⟨⟨k + 1, by omega, by go_num, HP.out.put hlt g0 (by omega) (by omega) r0, zmf hB1 (Nat.le_refl _) _ _ _ _ _ _ _ _⟩, by simp [intOf]; omega⟩
    · have HF : Hid (jE w.heap.size wr w.heap.size ms ms.length) := by
        have e : k = ms.length := by omega
        subst e; exact HOW.out
      clear hw HOW
      go_wp2_with fail
      go_ret
      exact ⟨rfl, HF.out, hB⟩
end Go.Proofs.YtfpeplbmfbepcaaGreat

namespace Go.Proofs.YtfpeplbmfbepcaaGreat
open Go.RowKit
theorem zi1 {p : Prop} (h : p) : Hid p := h
theorem yP (w : World) (X Y : Array Value) (s t : TypeId) : (∀ j, ((w.alloc (.cells X s)).alloc (.cells Y t)).cell? ⟨w.heap.size, j, none⟩ = X[j]?) /\ ∀ j, ((w.alloc (.cells X s)).alloc (.cells Y t)).cell? ⟨w.heap.size + 1, j, none⟩ = Y[j]? := by
  refine ⟨za (zG w X s) (by simp) ((Below.refl _ _).alloc (Nat.le_refl _) _), fun j => ?_⟩
  have h := zG (w.alloc (.cells X s)) Y t j
  rw [World.size_alloc] at h
  exact h
set_option maxHeartbeats 2000000 in
theorem zj5 (l : Lw) (la lb lc : Option Addr) (lca lcb lcc : Nat) (o : Ob) (oa oa' : Option Addr) (ocap ocap' : Nat) (res : ByteArray) (w : World) (hl : qB w l la lb lc) (_ho : qR w o oa oa') (hc : ¬ (Gate.zo l.ss o = true /\ res.toList.isEmpty = false)) :
    Calls Tryz.prog 219 #[.agg (l.cells la lb lc lca lcb lcc), .agg (oC o oa oa' ocap ocap'), .string res] w fun e w' => e = .returned (.int .i64 (Gate.qp l.ss o res)) /\ Below w.heap.size w w' := by
  have HL := hid hl
  have HW : Hid (Gate.qp l.ss o res = 0) := by unfold Hid Gate.qp; rw [if_neg hc]
  have HC := hid hc
  clear hl hc
  unfold Lw.cells
  go_enter Tryz.func219, Tryz.ntmps219
  go_wp2_with fail
  refine (qC _ _ l.ss o.kd _ (HL.out.ss.mono (zn _ _ _))).mono ?_
  rintro e w1 ⟨fa, fcap, rfl, hfl, hb⟩
  obtain ⟨hX0, hY0⟩ := yP w (lC l la lb lc lca lcb lcc) (oC o oa oa' ocap ocap') 41 119
  have hX1 := za hX0 (by simp; omega) hb
  have hY1 := za hY0 (by simp) hb
  have hz1 : w.heap.size + 1 < w1.heap.size := by have := hb.size; simp at this; omega
  have HB1 : Hid (Below w.heap.size w w1) := (zn w _ _).trans (hb.mono (by simp; omega))
  clear hfl hb hX0 hY0
  by_cases hk : Gate.zC l.ss o.kd = true
  rotate_left
  · have hk' : Gate.zC l.ss o.kd = false := by simpa using hk
    rw [hk']
    clear hk hk'
    go_wp2_with fail
    go_ret
    exact ⟨zl HW.out.symm, HB1.out.alloc HB1.out.size _⟩
  by_cases he : res.toList.isEmpty = true
  · have HK := hid hk
    rw [HK.out]
    clear hk
    go_wp2_with fail
    go_ret
    exact ⟨zl HW.out.symm, HB1.out.alloc HB1.out.size _⟩
  · have he' : res.toList.isEmpty = false := by simpa using he
    have hne : ((o.vs.length : Int) != ((Gate.shapeOf l.ss o.kd).fs.length : Int)) = true := by
      have h := HC.out
      unfold Gate.zo at h
      rw [hk] at h
      simp only [Bool.true_and, decide_eq_true_eq] at h
      have h2 : ¬ o.vs.length = (Gate.shapeOf l.ss o.kd).fs.length := fun e => h ⟨e, he'⟩
      simp; omega
    have HK := hid hk
    rw [HK.out]
    clear he hk
    go_wp2_with fail
    go_ret
    exact ⟨zl HW.out.symm, HB1.out.alloc HB1.out.size _⟩
set_option maxHeartbeats 4000000 in
theorem ziC (l : Lw) (la lb lc : Option Addr) (lca lcb lcc : Nat) (o : Ob) (oa oa' : Option Addr) (ocap ocap' : Nat) (res : ByteArray) (w : World) (hl : qB w l la lb lc) (ho : qR w o oa oa') (hc : Gate.zo l.ss o = true) (he : res.toList.isEmpty = false) (hlen : o.vs.length <= 1048576) :
    Calls Tryz.prog 219 #[.agg (l.cells la lb lc lca lcb lcc), .agg (oC o oa oa' ocap ocap'), .string res] w fun e w' => e = .returned (.int .i64 (Gate.qp l.ss o res)) /\ Below w.heap.size w w' := by
  have HL := hid hl
  have HO := hid ho
  have HW : Hid (Gate.qp l.ss o res = (if res = o.kd then 1 else 0) + Gate.zdi (Gate.shapeOf l.ss o.kd).fs o.vs res (Gate.shapeOf l.ss o.kd).fs.length) := by unfold Hid Gate.qp; rw [if_pos ⟨hc, he⟩]
  have HK : Hid (Gate.zC l.ss o.kd = true /\ o.vs.length = (Gate.shapeOf l.ss o.kd).fs.length) := by unfold Gate.zo at hc; unfold Hid; simpa using hc
  have HN := hid hlen
  clear hl ho hc hlen
  unfold Lw.cells
  go_enter Tryz.func219, Tryz.ntmps219
  go_wp2_with fail
  refine (qC _ _ l.ss o.kd _ (HL.out.ss.mono (zn _ _ _))).mono ?_
  rintro e w1 ⟨fa, fcap, rfl, hfl, hb⟩
  obtain ⟨hX0, hY0⟩ := yP w (lC l la lb lc lca lcb lcc) (oC o oa oa' ocap ocap') 41 119
  have hY1 := za hY0 (by simp) hb
  have hz1 : w.heap.size + 1 < w1.heap.size := by have := hb.size; simp at this; omega
  have HB1 : Hid (Below w.heap.size w w1) := (zn w _ _).trans (hb.mono (by simp; omega))
  have HFl := hid (hfl.mono hb)
  clear hfl hb hX0 hY0
  rw [HK.out.1]
  obtain ⟨S, HS⟩ : ∃ S, Hid (S = Gate.shapeOf l.ss o.kd) := ⟨_, rfl⟩
  rw [<- HS.out] at HFl HK HW ⊢
  have hne : ((o.vs.length : Int) != (S.fs.length : Int)) = false := by have := HK.out.2; simp [this]
  obtain ⟨n0, hn0⟩ : ∃ n0 : Int, n0 = if res = o.kd then 1 else 0 := ⟨_, rfl⟩
  have hb0 : 0 <= n0 /\ n0 <= 1 := by rw [hn0]; split <;> omega
  rw [<- hn0] at HW
  have HN0 := hid hn0
  clear hn0
  by_cases hk : res = o.kd
  all_goals (
    first
    | (have hq : (res.toList == o.kd.toList) = true := by rw [Gate.beq_toList]; simpa using hk)
    | (have hq : (res.toList == o.kd.toList) = false := by rw [Gate.beq_toList]; simpa using hk)
    have HKE := zi1 hk
    clear hk
    go_wp2_with fail
    go_loopw [9, 44] (fun nv iv wr => ∃ (k : Nat) (s : Int), k <= S.fs.length /\ iv = .int .i64 k /\ nv = .int .i64 s /\ Hid (s = n0 + Gate.zdi S.fs o.vs res k /\ Below w1.heap.size w1 wr)) (fun _ iv _ => S.fs.length - (intOf iv).toNat)
    case atStart => exact ⟨0, n0, Nat.zero_le _, rfl, by have := HN0.out; first | (rw [if_pos HKE.out] at this; rw [this]) | (rw [if_neg HKE.out] at this; rw [this]), by simp [Gate.zdi], (Below.refl _ _).alloc (Nat.le_refl _) _⟩
    case round =>
      obtain ⟨k, s, hk, rfl, rfl, HQ⟩ := hrel
      have hsb : 0 <= s /\ s <= 1 + k * 10000000 := by have h1 := HQ.out.1; have h2 := Gate.zcn S.fs o.vs res k; omega
      have hkn : k <= 1048576 := by have := HN.out; have := HK.out.2; omega
      by_cases hlt : k < S.fs.length
      · obtain ⟨b, off, rfl, hb, hr⟩ := HFl.out.rows (by intro e; rw [e] at hlt; simp at hlt)
        obtain ⟨wa, wcap, hf⟩ := hr k hlt
        obtain ⟨c0, c1, c2, c3, c4, c5, c6, c7, c8, c9, c10⟩ := (hf.mono hb HQ.out.2).load
        have hlv : k < o.vs.length := by have := HK.out.2; omega
        have hltI : (k : Int) < (S.fs.length : Int) := by omega
        have hlvI : (k : Int) < (o.vs.length : Int) := by omega
        obtain ⟨vb, voff, rfl, hvb, hvc0⟩ := HO.out.vals.cells (by intro e; rw [e] at hlv; simp at hlv)
        have hvc := ((HB1.out.trans (HQ.out.2.mono HB1.out.size)).cell (p := ⟨vb, voff + k, none⟩) hvb).trans (hvc0 k hlv)
        have hvb' := Nat.lt_of_lt_of_le hvb (HB1.out.trans (HQ.out.2.mono HB1.out.size)).size
        have hb' := Nat.lt_of_lt_of_le hb HQ.out.2.size
        have hY := za hY1 hz1 HQ.out.2
        have hz := Nat.lt_of_lt_of_le hz1 HQ.out.2.size
        have HSt := Gate.zof S.fs o.vs res k hlt hlv
        have HSt : Hid (Gate.zdi S.fs o.vs res (k + 1) = Gate.zdi S.fs o.vs res k + Gate.yx S.fs[k] o.vs[k] res) := HSt
        have HVs : Hid (o.vs[k].size <= maxLen) := HO.out.vals.small _ (List.getElem_mem _)
        have HBo : Hid (∀ ob, Below w1.heap.size w1 (wr.alloc ob)) := fun ob => HQ.out.2.alloc HQ.out.2.size _
        clear hf hr hvc0
        by_cases h1 : S.fs[k].kd = 1
        · have e1 : (S.fs[k].kd == 1) = true := by simpa using h1
          by_cases h2 : S.fs[k].wg = res
          · have e2 : (S.fs[k].wg.toList == res.toList) = true := by rw [Gate.beq_toList]; simpa using h2
            have HFw : Hid (Gate.yx S.fs[k] o.vs[k] res = zad o.vs[k]) := by unfold Hid Gate.yx; rw [if_pos ⟨h1, h2⟩]
            have hdb := Gate.zdg o.vs[k]
            clear h1 h2
            go_wp2_with fail
            refine (zcJ o.vs[k] _ HVs.out).mono ?_
            rintro e w2 ⟨rfl, rfl⟩
            go_wp2_with fail
            exact ⟨⟨k + 1, s + zad o.vs[k], by omega, by go_num, by go_num, by rw [HSt.out, HFw.out, HQ.out.1]; omega, HBo.out _⟩, zi hlt⟩
          · have e2 : (S.fs[k].wg.toList == res.toList) = false := by rw [Gate.beq_toList]; simpa using h2
            have HFw : Hid (Gate.yx S.fs[k] o.vs[k] res = 0) := by unfold Hid Gate.yx; rw [if_neg (fun h => h2 h.2)]
            clear h1 h2
            go_wp2_with fail
            exact ⟨⟨k + 1, s, by omega, by go_num, rfl, by rw [HSt.out, HFw.out, HQ.out.1]; omega, HBo.out _⟩, zi hlt⟩
        · have e1 : (S.fs[k].kd == 1) = false := by simpa using h1
          have HFw : Hid (Gate.yx S.fs[k] o.vs[k] res = 0) := by unfold Hid Gate.yx; rw [if_neg (fun h => h1 h.1)]
          clear h1
          go_wp2_with fail
          exact ⟨⟨k + 1, s, by omega, by go_num, rfl, by rw [HSt.out, HFw.out, HQ.out.1]; omega, HBo.out _⟩, zi hlt⟩
      · have e : k = S.fs.length := by omega
        subst e
        have HE : Hid (Gate.qp l.ss o res = s) := by unfold Hid; rw [HW.out, HQ.out.1]
        clear hlt hk
        go_wp2_with fail
        go_ret
        exact ⟨zl HE.out.symm, HB1.out.trans (HQ.out.2.mono HB1.out.size)⟩)
end Go.Proofs.YtfpeplbmfbepcaaGreat
