import Derived.Test.YtfapkhgallmkdaaGreatM14
import Derived.Test.YtfapkhgallmkdaaGreatM11
import Derived.Deep.RegionHeld3
namespace Go.Proofs.YtfapkhgallmkdaaGreat
open Go.RowKit
structure Gr where
  no : Int
  to : ByteArray
  gb : ByteArray
  r : Rl
def Gr.cells (g : Gr) (a0 : Option Addr) (c0 : Nat) : Array Value := #[.int .i64 g.no, .string g.to, .string g.gb, .slice a0 g.r.vs.length c0, .string g.r.kd, .string g.r.tm, .string g.r.px]
structure Gr.Small (g : Gr) : Prop where
  to : g.to.size <= maxLen
  gb : g.gb.size <= maxLen
  r : g.r.Small
def Gr.sz (g : Gr) : Nat := g.to.size + g.gb.size + g.r.sz
theorem Gr.zms {g : Gr} (h : (g.sz : Int) <= 1048576) : g.r.vs.length <= 1048576 := by unfold Gr.sz Rl.sz at h; omega
set_option maxHeartbeats 1000000 in
theorem zde (g : Gr) (a0 : Option Addr) (c0 : Nat) (left : Int) (w : World) (hm : g.Small) (hi : yw w a0 g.r.vs) (h0 : 0 <= left) (h1 : left <= 1048576) :
    Calls Tryz.prog 43 #[.agg (g.cells a0 c0), .int .i64 left] w fun e w' => e = .returned (.int .i64 (zH g.sz left)) /\ Below w.heap.size w w' := by
  have k1 := hm.to
  have k2 := hm.gb
  have HM := j4 hm.r hi.len
  unfold maxLen at k1 k2
  clear hm hi
  unfold Gr.cells
  have hB : ∀ ob, Below w.heap.size w (w.alloc ob) := fun ob => (Below.refl _ _).alloc (Nat.le_refl _) _
  by_cases c1 : (g.to.size : Int) <= left
  rotate_left
  · have HF : Hid (zH g.sz left = -1) := zw (by unfold Gr.sz; omega)
    go_enter Tryz.func43, Tryz.ntmps43
    go_wp2_with fail
    go_ret
    exact ⟨zh HF.out.symm, hB _⟩
  by_cases c2 : (g.gb.size : Int) <= left - g.to.size
  rotate_left
  · have HF : Hid (zH g.sz left = -1) := zw (by unfold Gr.sz; omega)
    go_enter Tryz.func43, Tryz.ntmps43
    go_wp2_with fail
    go_ret
    exact ⟨zh HF.out.symm, hB _⟩
  by_cases c3 : (g.r.sz : Int) <= left - g.to.size - g.gb.size
  · have HF : Hid (zH g.sz left = left - g.to.size - g.gb.size - g.r.sz) := by
      unfold Hid; rw [zI (by unfold Gr.sz; omega)]; unfold Gr.sz; omega
    go_enter Tryz.func43, Tryz.ntmps43
    go_wp2_with fail
    refine (zdq g.r a0 c0 _ _ HM.out.1 HM.out.2 (by omega) (by omega)).mono ?_
    rintro e w1 ⟨rfl, hb⟩
    rw [zI c3]
    have hB1 := (hB _).trans (hb.mono (by simp))
    clear hb
    go_wp2_with fail
    go_ret
    exact ⟨zh HF.out.symm, hB1⟩
  · have HF : Hid (zH g.sz left = -1) := zw (by unfold Gr.sz; omega)
    have HC := hid c3
    clear c3
    go_enter Tryz.func43, Tryz.ntmps43
    go_wp2_with fail
    refine (zdq g.r a0 c0 _ _ HM.out.1 HM.out.2 (by omega) (by omega)).mono ?_
    rintro e w1 ⟨rfl, hb⟩
    rw [zw (by have := HC.out; omega)]
    have hB1 := (hB _).trans (hb.mono (by simp))
    clear hb
    go_wp2_with fail
    go_ret
    exact ⟨zh HF.out.symm, hB1⟩
set_option maxHeartbeats 1000000 in
theorem zgH (g : Gr) (a0 : Option Addr) (c0 : Nat) (a0' : Option Addr) (c0' : Nat) (w : World) (_hm : g.Small) (hi : yw w a0 g.r.vs) (hi' : yw w a0' g.r.vs) :
    Calls Tryz.prog 71 #[.agg (g.cells a0 c0), .agg (g.cells a0' c0')] w fun e w' => e = .returned (.bool true) /\ Below w.heap.size w w' := by
  have hn : (g.no != g.no) = false := by simp
  unfold Gr.cells
  go_enter Tryz.func71, Tryz.ntmps71
  go_wp2_with fail
  refine (zhm g.r _ _ _ _ _ (hi.mono (zu _ _ _)) (hi'.mono (zu _ _ _))).mono ?_
  rintro e w1 ⟨rfl, hb⟩
  have hB1 := (zu w _ _).trans (hb.mono (by simp; omega))
  clear hb
  go_wp2_with fail
  go_ret
  exact ⟨rfl, hB1⟩
set_option maxHeartbeats 2000000 in
theorem zgq (g : Gr) (a0 : Option Addr) (c0 : Nat) (w : World) (_hm : g.Small) (hi : yw w a0 g.r.vs) (hl : g.r.vs.length <= 1048576) :
    Calls Tryz.prog 57 #[.agg (g.cells a0 c0)] w fun e w' => ∃ g0, e = .returned (.agg (g.cells (some ⟨g0, 0, none⟩) g.r.vs.length)) /\ w.heap.size <= g0 /\ w'.heap[g0]? = some (.cells (zbu g.r.vs) 3) /\ Below w.heap.size w w' := by
  unfold Gr.cells
  go_enter Tryz.func57, Tryz.ntmps57
  go_wp2_with fail
  have k0 := zoQ w (.cells #[.int .i64 g.no, .string g.to, .string g.gb, .slice a0 g.r.vs.length c0, .string g.r.kd, .string g.r.tm, .string g.r.px] 99) (.cells #[.int .i64 0, .string ByteArray.empty, .string ByteArray.empty, .slice none 0 0, .string ByteArray.empty, .string ByteArray.empty, .string ByteArray.empty] 124) (.cells #[.int .i64 g.no, .string g.to, .string g.gb, .slice none 0 0, .string ByteArray.empty, .string ByteArray.empty, .string ByteArray.empty] 124)
  have hB0 := below3' w (.cells #[.int .i64 g.no, .string g.to, .string g.gb, .slice a0 g.r.vs.length c0, .string g.r.kd, .string g.r.tm, .string g.r.px] 99) (.cells #[.int .i64 0, .string ByteArray.empty, .string ByteArray.empty, .slice none 0 0, .string ByteArray.empty, .string ByteArray.empty, .string ByteArray.empty] 124) (.cells #[.int .i64 g.no, .string g.to, .string g.gb, .slice none 0 0, .string ByteArray.empty, .string ByteArray.empty, .string ByteArray.empty] 124)
  refine (zhj g.r a0 c0 _ (hi.mono (below3' _ _ _ _)) hl).mono ?_
  rintro e w1 ⟨bk, rfl, hlo, hhi, hbk, hb⟩
  have hlo' : w.heap.size + 1 + 1 + 1 <= bk := by simpa using hlo
  have hR1 := (hb.block _ (by simp)).trans k0.2.1
  have hO1 := (hb.block _ (by simp)).trans k0.2.2
  have hB1 := hB0.trans (hb.mono (by simp; omega))
  have HK := hid hbk
  have cR := fun j => cell_of_block (o := j) hR1
  have fR := fun j => zl (o := j) hR1
  have cO := fun j => cell_of_block (o := j) hO1
  have fO := fun j => zl (o := j) hO1
  have hz1 := (Array.getElem?_eq_some_iff.1 hO1).1
  clear hb hbk k0 hB0 hlo hR1 hO1
  unfold Rl.cells
  go_wp2_with fail
  refine bodyPost_ret (v := .agg #[.int .i64 g.no, .string g.to, .string g.gb, .slice (some ⟨bk, 0, none⟩) g.r.vs.length g.r.vs.length, .string g.r.kd, .string g.r.tm, .string g.r.px]) (by simp [results, Tryz.results57, go_sem, cR]) rfl ⟨bk, rfl, by omega, ?_, ?_⟩
  · have h1 : bk ≠ w.heap.size + 1 := by omega
    have h2 : bk ≠ w.heap.size + 1 + 1 := by omega
    exact (zB h1).trans ((zB h1).trans ((zB h1).trans ((zB h1).trans ((zB h1).trans ((zB h1).trans ((zB h1).trans ((zB h2).trans ((zB h2).trans ((zB h2).trans ((zB h2).trans HK.out))))))))))
  · have h3 : w.heap.size <= w.heap.size + 1 := by omega
    have h4 : w.heap.size <= w.heap.size + 1 + 1 := by omega
    exact ((((((((((hB1.setCell h4 _).setCell h4 _).setCell h4 _).setCell h4 _).setCell h3 _).setCell h3 _).setCell h3 _).setCell h3 _).setCell h3 _).setCell h3 _).setCell h3 _
structure zn9 (w : World) (b off : Nat) (x : Gr) (a0 : Option Addr) (c0 : Nat) : Prop where
  small : x.Small
  l0 : yw w a0 x.r.vs
  cell : ∀ j, j < 7 -> w.cell? ⟨b, off + j, none⟩ = (Gr.cells x a0 c0)[j]?
structure zaY (w : World) (a : Option Addr) (ms : List Gr) : Prop where
  len : ms.length <= maxLen
  rows : ms ≠ [] -> ∃ b off, a = some ⟨b, off, none⟩ /\ b < w.heap.size /\ ∀ i (h : i < ms.length), ∃ a0 c0, zn9 w b (off + i * 7) ms[i] a0 c0
theorem zn9.mono {w w' : World} {b off : Nat} {x : Gr} {a0 : Option Addr} {c0 : Nat} (h : zn9 w b off x a0 c0) (hb : b < w.heap.size) (hl : Below w.heap.size w w') : zn9 w' b off x a0 c0 :=
  ⟨h.small, h.l0.mono hl, fun j hj => (hl.cell (p := ⟨b, off + j, none⟩) hb).trans (h.cell j hj)⟩
theorem zaY.mono {w w' : World} {a : Option Addr} {ms : List Gr} (h : zaY w a ms) (hl : Below w.heap.size w w') : zaY w' a ms :=
  ⟨h.len, fun hne => by
    obtain ⟨b, off, ha, hb, hr⟩ := h.rows hne
    refine ⟨b, off, ha, Nat.lt_of_lt_of_le hb hl.size, fun i hi => ?_⟩
    obtain ⟨a0, c0, hf⟩ := hr i hi
    exact ⟨a0, c0, hf.mono hb hl⟩⟩
theorem zaY.load {w w' : World} {a : Option Addr} {ms : List Gr} (h : zaY w a ms) (hl : Below w.heap.size w w') (i : Nat) (hi : i < ms.length) : ∃ b off a0 c0, a = some ⟨b, off, none⟩ /\ b < w.heap.size /\ ms[i].Small /\ yw w' a0 ms[i].r.vs /\
    w'.cell? ⟨b, off + i * 7, none⟩ = some (.int .i64 ms[i].no) /\ w'.cell? ⟨b, off + i * 7 + 1, none⟩ = some (.string ms[i].to) /\ w'.cell? ⟨b, off + i * 7 + 2, none⟩ = some (.string ms[i].gb) /\ w'.cell? ⟨b, off + i * 7 + 3, none⟩ = some (.slice a0 ms[i].r.vs.length c0) /\ w'.cell? ⟨b, off + i * 7 + 4, none⟩ = some (.string ms[i].r.kd) /\ w'.cell? ⟨b, off + i * 7 + 5, none⟩ = some (.string ms[i].r.tm) /\ w'.cell? ⟨b, off + i * 7 + 6, none⟩ = some (.string ms[i].r.px) := by
  obtain ⟨b, off, ha, hb, hr⟩ := h.rows (by rintro rfl; simp at hi)
  obtain ⟨a0, c0, hf0⟩ := hr i hi
  have hf := hf0.mono hb hl
  exact ⟨b, off, a0, c0, ha, hb, hf.small, hf.l0, hf.cell 0 (by omega), hf.cell 1 (by omega), hf.cell 2 (by omega), hf.cell 3 (by omega), hf.cell 4 (by omega), hf.cell 5 (by omega), hf.cell 6 (by omega)⟩
def zcu (ms : List Gr) : Nat := (ms.map Gr.sz).sum
def zbl (ms : List Gr) : Nat := ms.length + zcu ms
structure zia (ms : List Gr) : Prop where
  small : ∀ i (h : i < ms.length), ms[i].Small /\ ms[i].r.vs.length <= maxLen
theorem zaY.smalls {w : World} {a : Option Addr} {ms : List Gr} (h : zaY w a ms) : zia ms :=
  ⟨fun i hi => by
    obtain ⟨b, off, _, _, hr⟩ := h.rows (by rintro rfl; simp at hi)
    obtain ⟨a0, c0, hf⟩ := hr i hi
    exact ⟨hf.small, hf.l0.len⟩⟩
theorem zoT {ms : List Gr} {left : Int} (h : (zbl ms : Int) <= left) (hl : left <= 1048576) : ms.length <= 1048576 /\ ∀ i (h : i < ms.length), ms[i].r.vs.length <= 1048576 := by
  unfold zbl at h
  refine ⟨by omega, fun i hi => ?_⟩
  have h1 : ms[i].sz <= zcu ms := zg8 Gr.sz ms i hi
  exact Gr.zms (by omega)
set_option maxHeartbeats 1000000 in
theorem zfw (a : Option Addr) (cap : Nat) (ms : List Gr) (left : Int) (w : World) (hw : zaY w a ms) (h0 : 0 <= left) (h1 : left <= 1048576) :
    Calls Tryz.prog 18 #[.slice a ms.length cap, .int .i64 left] w fun e w' => e = .returned (.int .i64 (zH (zbl ms) left)) /\ Below w.heap.size w w' := by
  have hl := hw.len
  unfold maxLen at hl
  by_cases hfit : (ms.length : Int) <= left
  · go_enter Tryz.func18, Tryz.ntmps18
    go_wp2_with fail
    go_loopw [1, 5] (fun l i wr => ∃ k : Nat, k <= ms.length /\ i = .int .i64 k /\ 0 <= left - ms.length - zcu (ms.take k) /\ l = .int .i64 (left - ms.length - zcu (ms.take k)) /\ Below w.heap.size w wr) (fun _ i _ => ms.length - (intOf i).toNat)
    case atStart => exact ⟨0, Nat.zero_le _, rfl, by simp [zcu]; omega, by simp [zcu], Below.refl _ _⟩
    case round =>
      obtain ⟨k, hk, rfl, hpos, rfl, hB⟩ := hrel
      by_cases hlt : k < ms.length
      · obtain ⟨b, off, a0, c0, rfl, hb, hsm, hl0, d0, d1, d2, d3, d4, d5, d6⟩ := hw.load hB k hlt
        have hbr := Nat.lt_of_lt_of_le hb hB.size
        have HS : Hid (zcu (ms.take (k + 1)) = zcu (ms.take k) + ms[k].sz) := zar Gr.sz ms k hlt
        have hle : zcu (ms.take (k + 1)) <= zcu ms := zbW Gr.sz ms (k + 1)
        have HI : Hid (yw wr a0 ms[k].r.vs) := hl0
        clear hw hl0
        by_cases hneg : (ms[k].sz : Int) <= left - ms.length - zcu (ms.take k)
        · have HNG : Hid ((ms[k].sz : Int) <= left - ms.length - zcu (ms.take k)) := hneg
          clear hle
          go_wp2_with fail
          refine (zde ms[k] a0 c0 _ _ hsm HI.out hpos (by omega)).mono ?_
          rintro e w1 ⟨rfl, hb1⟩
          rw [zI HNG.out]
          have hB1 := hB.trans (hb1.mono hB.size)
          clear hb1
          go_wp2_with fail
          exact ⟨⟨k + 1, by omega, by go_num, by rw [HS.out]; omega, by rw [HS.out]; congr 1; omega, hB1⟩, by simp [intOf]; omega⟩
        · have HF : Hid (zH (zbl ms) left = -1) := zw (by have := HS.out; unfold zbl; omega)
          have HNG := hid hneg
          clear hneg hle
          go_wp2_with fail
          refine (zde ms[k] a0 c0 _ _ hsm HI.out hpos (by omega)).mono ?_
          rintro e w1 ⟨rfl, hb1⟩
          rw [zw (by have := HNG.out; omega)]
          have hB1 := hB.trans (hb1.mono hB.size)
          clear hb1
          go_wp2_with fail
          go_ret
          exact ⟨zh HF.out.symm, hB1⟩
      · have HF : Hid (zH (zbl ms) left = left - ms.length - zcu (ms.take k)) := by
          rw [List.take_of_length_le (by omega)] at hpos ⊢
          have e : zH (zbl ms) left = left - zbl ms := zI (by unfold zbl; omega)
          unfold Hid; rw [e]; unfold zbl; omega
        clear hw
        go_wp2
        go_ret
        exact ⟨zh HF.out.symm, hB⟩
  · have HF : Hid (zH (zbl ms) left = -1) := zw (by unfold zbl; omega)
    clear hw
    go_enter Tryz.func18, Tryz.ntmps18
    go_wp2
    go_ret
    exact ⟨zh HF.out.symm, Below.refl _ _⟩
set_option maxHeartbeats 2000000 in
theorem zfE (a a' : Option Addr) (cap cap' : Nat) (ms : List Gr) (w : World) (hw : zaY w a ms) (hw' : zaY w a' ms) :
    Calls Tryz.prog 36 #[.slice a ms.length cap, .slice a' ms.length cap'] w fun e w' => e = .returned (.bool true) /\ Below w.heap.size w w' := by
  have hl := hw.len
  unfold maxLen at hl
  have hnn : ((ms.length : Int) != ms.length) = false := by simp
  go_enter Tryz.func36, Tryz.ntmps36
  go_wp2_with fail
  go_loopw [5] (fun i wr => ∃ k : Nat, k <= ms.length /\ i = .int .i64 k /\ Below w.heap.size w wr) (fun i _ => ms.length - (intOf i).toNat)
  case atStart => exact ⟨0, Nat.zero_le _, rfl, Below.refl _ _⟩
  case round =>
    obtain ⟨k, hk, rfl, hB⟩ := hrel
    by_cases hlt : k < ms.length
    · obtain ⟨b, off, a0, c0, rfl, hb, hsm, hl0, d0, d1, d2, d3, d4, d5, d6⟩ := hw.load hB k hlt
      obtain ⟨b', off', a0', c0', rfl, hb', _, hl0', f0, f1, f2, f3, f4, f5, f6⟩ := hw'.load hB k hlt
      have hltI : (k : Int) < (ms.length : Int) := by omega
      clear hw hw'
      go_wp2_with fail
      go_region_with (go_at_call 71; refine (zgH ms[k] a0 c0 a0' c0' _ hsm (by exact hl0.mono ((Below.refl _ _).drew)) (by exact hl0'.mono ((Below.refl _ _).drew))).mono ?_; rintro e w1 ⟨rfl, hb1'⟩; have hb1 := (Below.refl wr.heap.size wr).drew.trans hb1'; clear hb1')
      all_goals go_wp2_with fail
      all_goals exact ⟨⟨k + 1, by omega, by go_num, hB.trans (hb1.mono hB.size)⟩, by simp [intOf]; omega⟩
    · clear hw hw'
      go_wp2_with fail
      go_ret
      exact ⟨rfl, hB⟩
structure jO (lo : Nat) (w : World) (bo : Nat) (ms : List Gr) (k : Nat) : Prop where
  low : lo <= bo
  rows : ∃ C, w.heap[bo]? = some (.cells C 124) /\ C.size = ms.length * 7 /\
    ∀ i (h : i < ms.length), i < k -> ∃ g0, lo <= g0 /\ g0 ≠ bo /\ w.heap[g0]? = some (.cells (zbu ms[i].r.vs) 3) /\ ∀ j, j < 7 -> C[i * 7 + j]? = (Gr.cells ms[i] (some ⟨g0, 0, none⟩) ms[i].r.vs.length)[j]?
theorem jO.at {lo : Nat} {w : World} {bo : Nat} {ms : List Gr} (h : jO lo w bo ms ms.length) (hs : zia ms) (hl : ms.length <= maxLen) : zaY w (some ⟨bo, 0, none⟩) ms := by
  obtain ⟨C, hC, hsz, hr⟩ := h.rows
  refine ⟨hl, fun _ => ⟨bo, 0, rfl, (Array.getElem?_eq_some_iff.1 hC).1, fun i hi => ?_⟩⟩
  obtain ⟨g0, _, _, hk0, hc⟩ := hr i hi hi
  obtain ⟨s0, s1⟩ := hs.small i hi
  refine ⟨some ⟨g0, 0, none⟩, ms[i].r.vs.length, s0, zd3 hk0 s1, fun j hj => ?_⟩
  rw [cell_of_block hC, Nat.zero_add]
  exact hc j hj
theorem jO.above {lo : Nat} {w w' : World} {bo : Nat} {ms : List Gr} {k : Nat} (h : jO lo w bo ms k) (ha : yx lo w w') : jO lo w' bo ms k := by
  obtain ⟨C, hC, hsz, hr⟩ := h.rows
  refine ⟨h.low, C, (ha.same _ h.low (Array.getElem?_eq_some_iff.1 hC).1).trans hC, hsz, fun i hi hk => ?_⟩
  obtain ⟨g0, p0, q0, r0, hc⟩ := hr i hi hk
  exact ⟨g0, p0, q0, (ha.same _ p0 (Array.getElem?_eq_some_iff.1 r0).1).trans r0, hc⟩
theorem jO.later {lo : Nat} {w w' : World} {bo : Nat} {ms : List Gr} {k : Nat} (h : jO lo w bo ms k) (hb : Below w.heap.size w w') : jO lo w' bo ms k := h.above (yx.below hb)
theorem jO.weaken {lo lo' : Nat} {w : World} {bo : Nat} {ms : List Gr} {k : Nat} (h : jO lo w bo ms k) (hl : lo' <= lo) : jO lo' w bo ms k := by
  obtain ⟨C, hC, hsz, hr⟩ := h.rows
  refine ⟨Nat.le_trans hl h.low, C, hC, hsz, fun i hi hk => ?_⟩
  obtain ⟨g0, p0, q0, r0, hc⟩ := hr i hi hk
  exact ⟨g0, Nat.le_trans hl p0, q0, r0, hc⟩
def zla (w : World) (b o : Nat) (v0 v1 v2 v3 v4 v5 v6 : Value) : World := (((((((w.setCell ⟨b, o, none⟩ v0).setCell ⟨b, o + 1, none⟩ v1).setCell ⟨b, o + 2, none⟩ v2).setCell ⟨b, o + 3, none⟩ v3).setCell ⟨b, o + 4, none⟩ v4).setCell ⟨b, o + 5, none⟩ v5).setCell ⟨b, o + 6, none⟩ v6)
def zih (C : Array Value) (o : Nat) (v0 v1 v2 v3 v4 v5 v6 : Value) : Array Value := (((((((C.setIfInBounds (o) v0).setIfInBounds (o + 1) v1).setIfInBounds (o + 2) v2).setIfInBounds (o + 3) v3).setIfInBounds (o + 4) v4).setIfInBounds (o + 5) v5).setIfInBounds (o + 6) v6)
theorem zkQ {w : World} {b o : Nat} {C : Array Value} {t : TypeId} (h : w.heap[b]? = some (.cells C t)) (v0 v1 v2 v3 v4 v5 v6 : Value) : (zla w b o v0 v1 v2 v3 v4 v5 v6).heap[b]? = some (.cells (zih C o v0 v1 v2 v3 v4 v5 v6) t) :=
  zf (zf (zf (zf (zf (zf (zf h v0) v1) v2) v3) v4) v5) v6
theorem zk5 {B : Nat} {a w : World} (h : Below B a w) {b : Nat} (hb : B <= b) (o : Nat) (v0 v1 v2 v3 v4 v5 v6 : Value) : Below B a (zla w b o v0 v1 v2 v3 v4 v5 v6) :=
  ((((((h.setCell hb v0).setCell hb v1).setCell hb v2).setCell hb v3).setCell hb v4).setCell hb v5).setCell hb v6
theorem zga (w : World) (b o : Nat) (v0 v1 v2 v3 v4 v5 v6 : Value) {b' : Nat} (h : b' ≠ b) : (zla w b o v0 v1 v2 v3 v4 v5 v6).heap[b']? = w.heap[b']? := by
  unfold zla
  iterate 7 rw [zB h]
theorem zmB (C : Array Value) (o : Nat) (v0 v1 v2 v3 v4 v5 v6 : Value) : (zih C o v0 v1 v2 v3 v4 v5 v6).size = C.size := by simp [zih]
theorem znh (C : Array Value) (o i : Nat) (v0 v1 v2 v3 v4 v5 v6 : Value) (h : i < o \/ o + 7 <= i) : (zih C o v0 v1 v2 v3 v4 v5 v6)[i]? = C[i]? := by
  unfold zih
  iterate 7 rw [Array.getElem?_setIfInBounds, if_neg (by omega)]
theorem zop (C : Array Value) (o j : Nat) (v0 v1 v2 v3 v4 v5 v6 : Value) (hj : j < 7) (ho : o + 7 <= C.size) : (zih C o v0 v1 v2 v3 v4 v5 v6)[o + j]? = (#[v0, v1, v2, v3, v4, v5, v6] : Array Value)[j]? := by
  have hc : j = 0 \/ j = 1 \/ j = 2 \/ j = 3 \/ j = 4 \/ j = 5 \/ j = 6 := by omega
  unfold zih
  rcases hc with h | h | h | h | h | h | h <;> subst h <;> simp [Array.getElem?_setIfInBounds] <;> omega
theorem jO.put {lo : Nat} {w : World} {bo : Nat} {ms : List Gr} {k : Nat} (h : jO lo w bo ms k) (hk : k < ms.length) (g0 : Nat) (p0 : lo <= g0) (q0 : g0 ≠ bo) (r0 : w.heap[g0]? = some (.cells (zbu ms[k].r.vs) 3)) :
    jO lo (zla w bo (k * 7) (.int .i64 ms[k].no) (.string ms[k].to) (.string ms[k].gb) (.slice (some ⟨g0, 0, none⟩) ms[k].r.vs.length ms[k].r.vs.length) (.string ms[k].r.kd) (.string ms[k].r.tm) (.string ms[k].r.px)) bo ms (k + 1) := by
  obtain ⟨C, hC, hsz, hr⟩ := h.rows
  refine ⟨h.low, _, zkQ hC _ _ _ _ _ _ _, by rw [zmB]; exact hsz, fun i hi hik => ?_⟩
  rcases Nat.lt_or_ge i k with hlt | hge
  · obtain ⟨g0', x0, y0, z0, hc⟩ := hr i hi hlt
    refine ⟨g0', x0, y0, (by rw [zga _ _ _ _ _ _ _ _ _ _ y0]; exact z0), fun j hj => ?_⟩
    rw [znh _ _ _ _ _ _ _ _ _ _ (by omega)]
    exact hc j hj
  · have e : i = k := by omega
    subst e
    refine ⟨g0, p0, q0, (by rw [zga _ _ _ _ _ _ _ _ _ _ q0]; exact r0), fun j hj => ?_⟩
    rw [zop _ _ _ _ _ _ _ _ _ _ hj (by omega)]
    rfl
def zob : Array Value := #[.int .i64 0, .string ByteArray.empty, .string ByteArray.empty, .slice none 0 0, .string ByteArray.empty, .string ByteArray.empty, .string ByteArray.empty]
def zm0 (n : Nat) : Array Value := madeCells zob (n * 7)
set_option maxHeartbeats 2000000 in
theorem zfl (a : Option Addr) (cap : Nat) (ms : List Gr) (w : World) (hw : zaY w a ms) (hl : ms.length <= 1048576) (hls : ∀ i (h : i < ms.length), ms[i].r.vs.length <= 1048576) :
    Calls Tryz.prog 27 #[.slice a ms.length cap] w fun e w' => e = .returned (.slice (some ⟨w.heap.size, 0, none⟩) ms.length ms.length) /\ jO w.heap.size w' w.heap.size ms ms.length /\ Below w.heap.size w w' := by
  have hmk : ∀ w : World, (Instr.makeSlice 46 (.int .i64 ms.length) (.int .i64 ms.length)).run Tryz.prog w = .ok (.slice (some ⟨w.heap.size, 0, none⟩) ms.length ms.length) (w.alloc (.cells (zm0 ms.length) 124)) :=
    fun w => qR (P := Tryz.prog) 46 124 (.agg zob) 7 112 Tryz.underlying46 (by kernel_rfl) ms.length (by omega) (by omega) w
  go_enter Tryz.func27, Tryz.ntmps27
  go_wp2_with fail
  clear hmk
  go_loopw [4] (fun i wr => ∃ k : Nat, k <= ms.length /\ i = .int .i64 k /\ Hid (jO w.heap.size wr w.heap.size ms k) /\ Below w.heap.size w wr) (fun i _ => ms.length - (intOf i).toNat)
  case atStart => exact ⟨0, Nat.zero_le _, rfl, ⟨Nat.le_refl _, zm0 ms.length, (MapKept.heap_alloc w _).1, size_madeCells _ _, fun i _ h => absurd h (by omega)⟩, (Below.refl _ _).alloc (Nat.le_refl _) _⟩
  case round =>
    obtain ⟨k, hk, rfl, HOW, hB⟩ := hrel
    by_cases hlt : k < ms.length
    · obtain ⟨b, off, a0, c0, rfl, hb, hsm, hl0, d0, d1, d2, d3, d4, d5, d6⟩ := hw.load hB k hlt
      have HLS := hid (hls k hlt)
      have hltI : (k : Int) < (ms.length : Int) := by omega
      clear hw
      go_wp2_with fail
      refine (zgq ms[k] a0 c0 _ hsm hl0 HLS.out).mono ?_
      rintro e w1 ⟨g0, rfl, p0, r0, hb1⟩
      have hB1 := hB.trans (hb1.mono hB.size)
      have hbo : w.heap.size < wr.heap.size := by
        obtain ⟨C', hC', _⟩ := HOW.out.rows
        exact (Array.getElem?_eq_some_iff.1 hC').1
      have HP := hid (HOW.out.later hb1)
      obtain ⟨C, hC, hsz, _⟩ := HP.out.rows
      have hfz : ∀ o, w1.frozen? ⟨w.heap.size, o, none⟩ = false := fun o => zl hC
      have hex : ∀ o, o < ms.length * 7 -> ∃ v, w1.cell? ⟨w.heap.size, o, none⟩ = some v := fun o ho => ⟨C[o]'(by omega), by rw [cell_of_block hC]; exact Array.getElem?_eq_getElem (by omega)⟩
      obtain ⟨v0, hv0⟩ := hex (k * 7) (by omega)
      obtain ⟨v1, hv1⟩ := hex (k * 7 + 1) (by omega)
      obtain ⟨v2, hv2⟩ := hex (k * 7 + 2) (by omega)
      obtain ⟨v3, hv3⟩ := hex (k * 7 + 3) (by omega)
      obtain ⟨v4, hv4⟩ := hex (k * 7 + 4) (by omega)
      obtain ⟨v5, hv5⟩ := hex (k * 7 + 5) (by omega)
      obtain ⟨v6, hv6⟩ := hex (k * 7 + 6) (by omega)
      have HR := j4 p0 r0
      clear hex hC hsz d0 d1 d2 d3 d4 d5 d6 p0 r0 hl0
      unfold Gr.cells
      go_wp2_with fail
      obtain ⟨p0, r0⟩ := HR.out
      exact ⟨⟨k + 1, by omega, by go_num, HP.out.put hlt g0 (by omega) (by omega) r0, zk5 hB1 (Nat.le_refl _) _ _ _ _ _ _ _ _⟩, by simp [intOf]; omega⟩
    · have HF : Hid (jO w.heap.size wr w.heap.size ms ms.length) := by
        have e : k = ms.length := by omega
        subst e; exact HOW.out
      clear hw HOW
      go_wp2_with fail
      go_ret
      exact ⟨rfl, HF.out, hB⟩
end Go.Proofs.YtfapkhgallmkdaaGreat
