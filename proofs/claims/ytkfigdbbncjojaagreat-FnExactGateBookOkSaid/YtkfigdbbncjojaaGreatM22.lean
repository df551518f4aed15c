import Derived.Test.YtkfigdbbncjojaaGreatM18
import Derived.Test.YtkfigdbbncjojaaGreatM16
import Derived.Deep.RegionHeld3
import Derived.Test.YtkfigdbbncjojaaGreatM14
import Derived.Test.YtkfigdbbncjojaaGreatM17
import Derived.Test.YtkfigdbbncjojaaGreatM08
import Derived.Test.YtkfigdbbncjojaaGreatM09
import Derived.Test.YtkfigdbbncjojaaGreatM11
import Derived.Test.YtkfigdbbncjojaaGreatM01
import Derived.Deep.QuietTactic
import Derived.BigQuiet
import Derived.Test.YtkfigdbbncjojaaGreatM19
namespace Go.Proofs.YtkfigdbbncjojaaGreat
open Go.RowKit
structure Gr where
  no : Int
  to : ByteArray
  gb : ByteArray
  r : Rl
def Gr.cells (g : Gr) (a0 : Option Addr) (c0 : Nat) : Array Value := #[.int .i64 g.no, .string g.to, .string g.gb, .slice a0 g.r.vs.length c0, .string g.r.kd, .string g.r.tm, .string g.r.px]
structure Gr.Small (g : Gr) : Prop where
  to : g.to.size <= maxLen
  gb : g.gb.size <= maxLen
  r : g.r.Small
def Gr.sz (g : Gr) : Nat := g.to.size + g.gb.size + g.r.sz
theorem Gr.zlf {g : Gr} (h : (g.sz : Int) <= 1048576) : g.r.vs.length <= 1048576 := by unfold Gr.sz Rl.sz at h; omega
set_option maxHeartbeats 1000000 in
theorem zcU (g : Gr) (a0 : Option Addr) (c0 : Nat) (left : Int) (w : World) (hm : g.Small) (hi : yQ w a0 g.r.vs) (h0 : 0 <= left) (h1 : left <= 1048576) :
    Calls Tryz.prog 44 #[.agg (g.cells a0 c0), .int .i64 left] w fun e w' => e = .returned (.int .i64 (zF g.sz left)) /\ Below w.heap.size w w' := by
  have k1 := hm.to
  have k2 := hm.gb
  have HM := jO hm.r hi.len
  unfold maxLen at k1 k2
  clear hm hi
  unfold Gr.cells
  have hB : ∀ ob, Below w.heap.size w (w.alloc ob) := fun ob => (Below.refl _ _).alloc (Nat.le_refl _) _
  by_cases c1 : (g.to.size : Int) <= left
  rotate_left
  · have HF : Hid (zF g.sz left = -1) := zx (by unfold Gr.sz; omega)
    go_enter Tryz.func44, Tryz.ntmps44
    go_wp2_with fail
    go_ret
    exact ⟨zk HF.out.symm, hB _⟩
  by_cases c2 : (g.gb.size : Int) <= left - g.to.size
  rotate_left
  · have HF : Hid (zF g.sz left = -1) := zx (by unfold Gr.sz; omega)
    go_enter Tryz.func44, Tryz.ntmps44
    go_wp2_with fail
    go_ret
    exact ⟨zk HF.out.symm, hB _⟩
  by_cases c3 : (g.r.sz : Int) <= left - g.to.size - g.gb.size
  · have HF : Hid (zF g.sz left = left - g.to.size - g.gb.size - g.r.sz) := by
      unfold Hid; rw [zG (by unfold Gr.sz; omega)]; unfold Gr.sz; omega
    go_enter Tryz.func44, Tryz.ntmps44
    go_wp2_with fail
    refine (zc9 g.r a0 c0 _ _ HM.out.1 HM.out.2 (by omega) (by omega)).mono ?_
    rintro e w1 ⟨rfl, hb⟩
    rw [zG c3]
    have hB1 := (hB _).trans (hb.mono (by simp))
    clear hb
    go_wp2_with fail
    go_ret
    exact ⟨zk HF.out.symm, hB1⟩
  · have HF : Hid (zF g.sz left = -1) := zx (by unfold Gr.sz; omega)
    have HC := hid c3
    clear c3
    go_enter Tryz.func44, Tryz.ntmps44
    go_wp2_with fail
    refine (zc9 g.r a0 c0 _ _ HM.out.1 HM.out.2 (by omega) (by omega)).mono ?_
    rintro e w1 ⟨rfl, hb⟩
    rw [zx (by have := HC.out; omega)]
    have hB1 := (hB _).trans (hb.mono (by simp))
    clear hb
    go_wp2_with fail
    go_ret
    exact ⟨zk HF.out.symm, hB1⟩
set_option maxHeartbeats 1000000 in
theorem zgp (g : Gr) (a0 : Option Addr) (c0 : Nat) (a0' : Option Addr) (c0' : Nat) (w : World) (_hm : g.Small) (hi : yQ w a0 g.r.vs) (hi' : yQ w a0' g.r.vs) :
    Calls Tryz.prog 81 #[.agg (g.cells a0 c0), .agg (g.cells a0' c0')] w fun e w' => e = .returned (.bool true) /\ Below w.heap.size w w' := by
  have hn : (g.no != g.no) = false := by simp
  unfold Gr.cells
  go_enter Tryz.func81, Tryz.ntmps81
  go_wp2_with fail
  refine (zhA g.r _ _ _ _ _ (hi.mono (zq _ _ _)) (hi'.mono (zq _ _ _))).mono ?_
  rintro e w1 ⟨rfl, hb⟩
  have hB1 := (zq w _ _).trans (hb.mono (by simp; omega))
  clear hb
  go_wp2_with fail
  go_ret
  exact ⟨rfl, hB1⟩
set_option maxHeartbeats 2000000 in
theorem zf9 (g : Gr) (a0 : Option Addr) (c0 : Nat) (w : World) (_hm : g.Small) (hi : yQ w a0 g.r.vs) (hl : g.r.vs.length <= 1048576) :
    Calls Tryz.prog 66 #[.agg (g.cells a0 c0)] w fun e w' => ∃ g0, e = .returned (.agg (g.cells (some ⟨g0, 0, none⟩) g.r.vs.length)) /\ w.heap.size <= g0 /\ w'.heap[g0]? = some (.cells (zbb g.r.vs) 3) /\ Below w.heap.size w w' := by
  unfold Gr.cells
  go_enter Tryz.func66, Tryz.ntmps66
  go_wp2_with fail
  have k0 := zn0 w (.cells #[.int .i64 g.no, .string g.to, .string g.gb, .slice a0 g.r.vs.length c0, .string g.r.kd, .string g.r.tm, .string g.r.px] 95) (.cells #[.int .i64 0, .string ByteArray.empty, .string ByteArray.empty, .slice none 0 0, .string ByteArray.empty, .string ByteArray.empty, .string ByteArray.empty] 119) (.cells #[.int .i64 g.no, .string g.to, .string g.gb, .slice none 0 0, .string ByteArray.empty, .string ByteArray.empty, .string ByteArray.empty] 119)
  have hB0 := below3' w (.cells #[.int .i64 g.no, .string g.to, .string g.gb, .slice a0 g.r.vs.length c0, .string g.r.kd, .string g.r.tm, .string g.r.px] 95) (.cells #[.int .i64 0, .string ByteArray.empty, .string ByteArray.empty, .slice none 0 0, .string ByteArray.empty, .string ByteArray.empty, .string ByteArray.empty] 119) (.cells #[.int .i64 g.no, .string g.to, .string g.gb, .slice none 0 0, .string ByteArray.empty, .string ByteArray.empty, .string ByteArray.empty] 119)
  refine (zhf g.r a0 c0 _ (hi.mono (below3' _ _ _ _)) hl).mono ?_
  rintro e w1 ⟨bk, rfl, hlo, hhi, hbk, hb⟩
  have hlo' : w.heap.size + 1 + 1 + 1 <= bk := by simpa using hlo
  have hR1 := (hb.block _ (by simp)).trans k0.2.1
  have hO1 := (hb.block _ (by simp)).trans k0.2.2
  have hB1 := hB0.trans (hb.mono (by simp; omega))
  have HK := hid hbk
  have cR := fun j => cell_of_block (o := j) hR1
  have fR := fun j => zi (o := j) hR1
  have cO := fun j => cell_of_block (o := j) hO1
  have fO := fun j => zi (o := j) hO1
  have hz1 := (Array.getElem?_eq_some_iff.1 hO1).1
  clear hb hbk k0 hB0 hlo hR1 hO1
  unfold Rl.cells
  go_wp2_with fail
  refine bodyPost_ret (v := .agg #[.int .i64 g.no, .string g.to, .string g.gb, .slice (some ⟨bk, 0, none⟩) g.r.vs.length g.r.vs.length, .string g.r.kd, .string g.r.tm, .string g.r.px]) (by simp [results, Tryz.results66, go_sem, cR]) rfl ⟨bk, rfl, by omega, ?_, ?_⟩
  · have h1 : bk ≠ w.heap.size + 1 := by omega
    have h2 : bk ≠ w.heap.size + 1 + 1 := by omega
    exact (zA h1).trans ((zA h1).trans ((zA h1).trans ((zA h1).trans ((zA h1).trans ((zA h1).trans ((zA h1).trans ((zA h2).trans ((zA h2).trans ((zA h2).trans ((zA h2).trans HK.out))))))))))
  · have h3 : w.heap.size <= w.heap.size + 1 := by omega
    have h4 : w.heap.size <= w.heap.size + 1 + 1 := by omega
    exact ((((((((((hB1.setCell h4 _).setCell h4 _).setCell h4 _).setCell h4 _).setCell h3 _).setCell h3 _).setCell h3 _).setCell h3 _).setCell h3 _).setCell h3 _).setCell h3 _
structure zm1 (w : World) (b off : Nat) (x : Gr) (a0 : Option Addr) (c0 : Nat) : Prop where
  small : x.Small
  l0 : yQ w a0 x.r.vs
  cell : ∀ j, j < 7 -> w.cell? ⟨b, off + j, none⟩ = (Gr.cells x a0 c0)[j]?
structure zbD (w : World) (a : Option Addr) (ms : List Gr) : Prop where
  len : ms.length <= maxLen
  rows : ms ≠ [] -> ∃ b off, a = some ⟨b, off, none⟩ /\ b < w.heap.size /\ ∀ i (h : i < ms.length), ∃ a0 c0, zm1 w b (off + i * 7) ms[i] a0 c0
theorem zm1.mono {w w' : World} {b off : Nat} {x : Gr} {a0 : Option Addr} {c0 : Nat} (h : zm1 w b off x a0 c0) (hb : b < w.heap.size) (hl : Below w.heap.size w w') : zm1 w' b off x a0 c0 :=
  ⟨h.small, h.l0.mono hl, fun j hj => (hl.cell (p := ⟨b, off + j, none⟩) hb).trans (h.cell j hj)⟩
theorem zbD.mono {w w' : World} {a : Option Addr} {ms : List Gr} (h : zbD w a ms) (hl : Below w.heap.size w w') : zbD w' a ms :=
  ⟨h.len, fun hne => by
    obtain ⟨b, off, ha, hb, hr⟩ := h.rows hne
    refine ⟨b, off, ha, Nat.lt_of_lt_of_le hb hl.size, fun i hi => ?_⟩
    obtain ⟨a0, c0, hf⟩ := hr i hi
    exact ⟨a0, c0, hf.mono hb hl⟩⟩
theorem zbD.load {w w' : World} {a : Option Addr} {ms : List Gr} (h : zbD w a ms) (hl : Below w.heap.size w w') (i : Nat) (hi : i < ms.length) : ∃ b off a0 c0, a = some ⟨b, off, none⟩ /\ b < w.heap.size /\ ms[i].Small /\ yQ w' a0 ms[i].r.vs /\
    w'.cell? ⟨b, off + i * 7, none⟩ = some (.int .i64 ms[i].no) /\ w'.cell? ⟨b, off + i * 7 + 1, none⟩ = some (.string ms[i].to) /\ w'.cell? ⟨b, off + i * 7 + 2, none⟩ = some (.string ms[i].gb) /\ w'.cell? ⟨b, off + i * 7 + 3, none⟩ = some (.slice a0 ms[i].r.vs.length c0) /\ w'.cell? ⟨b, off + i * 7 + 4, none⟩ = some (.string ms[i].r.kd) /\ w'.cell? ⟨b, off + i * 7 + 5, none⟩ = some (.string ms[i].r.tm) /\ w'.cell? ⟨b, off + i * 7 + 6, none⟩ = some (.string ms[i].r.px) := by
  obtain ⟨b, off, ha, hb, hr⟩ := h.rows (by rintro rfl; simp at hi)
  obtain ⟨a0, c0, hf0⟩ := hr i hi
  have hf := hf0.mono hb hl
  exact ⟨b, off, a0, c0, ha, hb, hf.small, hf.l0, hf.cell 0 (by omega), hf.cell 1 (by omega), hf.cell 2 (by omega), hf.cell 3 (by omega), hf.cell 4 (by omega), hf.cell 5 (by omega), hf.cell 6 (by omega)⟩
def zcj (ms : List Gr) : Nat := (ms.map Gr.sz).sum
def za7 (ms : List Gr) : Nat := ms.length + zcj ms
structure zgR (ms : List Gr) : Prop where
  small : ∀ i (h : i < ms.length), ms[i].Small /\ ms[i].r.vs.length <= maxLen
theorem zbD.smalls {w : World} {a : Option Addr} {ms : List Gr} (h : zbD w a ms) : zgR ms :=
  ⟨fun i hi => by
    obtain ⟨b, off, _, _, hr⟩ := h.rows (by rintro rfl; simp at hi)
    obtain ⟨a0, c0, hf⟩ := hr i hi
    exact ⟨hf.small, hf.l0.len⟩⟩
theorem znO {ms : List Gr} {left : Int} (h : (za7 ms : Int) <= left) (hl : left <= 1048576) : ms.length <= 1048576 /\ ∀ i (h : i < ms.length), ms[i].r.vs.length <= 1048576 := by
  unfold za7 at h
  refine ⟨by omega, fun i hi => ?_⟩
  have h1 : ms[i].sz <= zcj ms := zgy Gr.sz ms i hi
  exact Gr.zlf (by omega)
set_option maxHeartbeats 1000000 in
theorem zeX (a : Option Addr) (cap : Nat) (ms : List Gr) (left : Int) (w : World) (hw : zbD w a ms) (h0 : 0 <= left) (h1 : left <= 1048576) :
    Calls Tryz.prog 16 #[.slice a ms.length cap, .int .i64 left] w fun e w' => e = .returned (.int .i64 (zF (za7 ms) left)) /\ Below w.heap.size w w' := by
  have hl := hw.len
  unfold maxLen at hl
  by_cases hfit : (ms.length : Int) <= left
  · go_enter Tryz.func16, Tryz.ntmps16
    go_wp2_with fail
    go_loopw [1, 5] (fun l i wr => ∃ k : Nat, k <= ms.length /\ i = .int .i64 k /\ 0 <= left - ms.length - zcj (ms.take k) /\ l = .int .i64 (left - ms.length - zcj (ms.take k)) /\ Below w.heap.size w wr) (fun _ i _ => ms.length - (intOf i).toNat)
    case atStart => exact ⟨0, Nat.zero_le _, rfl, by simp [zcj]; omega, by simp [zcj], Below.refl _ _⟩
    case round =>
      obtain ⟨k, hk, rfl, hpos, rfl, hB⟩ := hrel
      by_cases hlt : k < ms.length
      · obtain ⟨b, off, a0, c0, rfl, hb, hsm, hl0, d0, d1, d2, d3, d4, d5, d6⟩ := hw.load hB k hlt
        have hbr := Nat.lt_of_lt_of_le hb hB.size
        have HS : Hid (zcj (ms.take (k + 1)) = zcj (ms.take k) + ms[k].sz) := zad Gr.sz ms k hlt
        have hle : zcj (ms.take (k + 1)) <= zcj ms := zbE Gr.sz ms (k + 1)
        have HI : Hid (yQ wr a0 ms[k].r.vs) := hl0
        clear hw hl0
        by_cases hneg : (ms[k].sz : Int) <= left - ms.length - zcj (ms.take k)
        · have HNG : Hid ((ms[k].sz : Int) <= left - ms.length - zcj (ms.take k)) := hneg
          clear hle
          go_wp2_with fail
          refine (zcU ms[k] a0 c0 _ _ hsm HI.out hpos (by omega)).mono ?_
          rintro e w1 ⟨rfl, hb1⟩
          rw [zG HNG.out]
          have hB1 := hB.trans (hb1.mono hB.size)
          clear hb1
          go_wp2_with fail
          exact ⟨⟨k + 1, by omega, by go_num, by rw [HS.out]; omega, by rw [HS.out]; congr 1; omega, hB1⟩, by simp [intOf]; omega⟩
        · have HF : Hid (zF (za7 ms) left = -1) := zx (by have := HS.out; unfold za7; omega)
          have HNG := hid hneg
          clear hneg hle
          go_wp2_with fail
          refine (zcU ms[k] a0 c0 _ _ hsm HI.out hpos (by omega)).mono ?_
          rintro e w1 ⟨rfl, hb1⟩
          rw [zx (by have := HNG.out; omega)]
          have hB1 := hB.trans (hb1.mono hB.size)
          clear hb1
          go_wp2_with fail
          go_ret
          exact ⟨zk HF.out.symm, hB1⟩
      · have HF : Hid (zF (za7 ms) left = left - ms.length - zcj (ms.take k)) := by
          rw [List.take_of_length_le (by omega)] at hpos ⊢
          have e : zF (za7 ms) left = left - za7 ms := zG (by unfold za7; omega)
          unfold Hid; rw [e]; unfold za7; omega
        clear hw
        go_wp2
        go_ret
        exact ⟨zk HF.out.symm, hB⟩
  · have HF : Hid (zF (za7 ms) left = -1) := zx (by unfold za7; omega)
    clear hw
    go_enter Tryz.func16, Tryz.ntmps16
    go_wp2
    go_ret
    exact ⟨zk HF.out.symm, Below.refl _ _⟩
set_option maxHeartbeats 2000000 in
theorem zfj (a a' : Option Addr) (cap cap' : Nat) (ms : List Gr) (w : World) (hw : zbD w a ms) (hw' : zbD w a' ms) :
    Calls Tryz.prog 37 #[.slice a ms.length cap, .slice a' ms.length cap'] w fun e w' => e = .returned (.bool true) /\ Below w.heap.size w w' := by
  have hl := hw.len
  unfold maxLen at hl
  have hnn : ((ms.length : Int) != ms.length) = false := by simp
  go_enter Tryz.func37, Tryz.ntmps37
  go_wp2_with fail
  go_loopw [5] (fun i wr => ∃ k : Nat, k <= ms.length /\ i = .int .i64 k /\ Below w.heap.size w wr) (fun i _ => ms.length - (intOf i).toNat)
  case atStart => exact ⟨0, Nat.zero_le _, rfl, Below.refl _ _⟩
  case round =>
    obtain ⟨k, hk, rfl, hB⟩ := hrel
    by_cases hlt : k < ms.length
    · obtain ⟨b, off, a0, c0, rfl, hb, hsm, hl0, d0, d1, d2, d3, d4, d5, d6⟩ := hw.load hB k hlt
      obtain ⟨b', off', a0', c0', rfl, hb', _, hl0', f0, f1, f2, f3, f4, f5, f6⟩ := hw'.load hB k hlt
      have hltI : (k : Int) < (ms.length : Int) := by omega
      clear hw hw'
      go_wp2_with fail
      go_region_with (go_at_call 81; refine (zgp ms[k] a0 c0 a0' c0' _ hsm (by exact hl0.mono ((Below.refl _ _).drew)) (by exact hl0'.mono ((Below.refl _ _).drew))).mono ?_; rintro e w1 ⟨rfl, hb1'⟩; have hb1 := (Below.refl wr.heap.size wr).drew.trans hb1'; clear hb1')
      all_goals go_wp2_with fail
      all_goals exact ⟨⟨k + 1, by omega, by go_num, hB.trans (hb1.mono hB.size)⟩, by simp [intOf]; omega⟩
    · clear hw hw'
      go_wp2_with fail
      go_ret
      exact ⟨rfl, hB⟩
structure jB (lo : Nat) (w : World) (bo : Nat) (ms : List Gr) (k : Nat) : Prop where
  low : lo <= bo
  rows : ∃ C, w.heap[bo]? = some (.cells C 119) /\ C.size = ms.length * 7 /\
    ∀ i (h : i < ms.length), i < k -> ∃ g0, lo <= g0 /\ g0 ≠ bo /\ w.heap[g0]? = some (.cells (zbb ms[i].r.vs) 3) /\ ∀ j, j < 7 -> C[i * 7 + j]? = (Gr.cells ms[i] (some ⟨g0, 0, none⟩) ms[i].r.vs.length)[j]?
theorem jB.at {lo : Nat} {w : World} {bo : Nat} {ms : List Gr} (h : jB lo w bo ms ms.length) (hs : zgR ms) (hl : ms.length <= maxLen) : zbD w (some ⟨bo, 0, none⟩) ms := by
  obtain ⟨C, hC, hsz, hr⟩ := h.rows
  refine ⟨hl, fun _ => ⟨bo, 0, rfl, (Array.getElem?_eq_some_iff.1 hC).1, fun i hi => ?_⟩⟩
  obtain ⟨g0, _, _, hk0, hc⟩ := hr i hi hi
  obtain ⟨s0, s1⟩ := hs.small i hi
  refine ⟨some ⟨g0, 0, none⟩, ms[i].r.vs.length, s0, zdw hk0 s1, fun j hj => ?_⟩
  rw [cell_of_block hC, Nat.zero_add]
  exact hc j hj
theorem jB.above {lo : Nat} {w w' : World} {bo : Nat} {ms : List Gr} {k : Nat} (h : jB lo w bo ms k) (ha : yh lo w w') : jB lo w' bo ms k := by
  obtain ⟨C, hC, hsz, hr⟩ := h.rows
  refine ⟨h.low, C, (ha.same _ h.low (Array.getElem?_eq_some_iff.1 hC).1).trans hC, hsz, fun i hi hk => ?_⟩
  obtain ⟨g0, p0, q0, r0, hc⟩ := hr i hi hk
  exact ⟨g0, p0, q0, (ha.same _ p0 (Array.getElem?_eq_some_iff.1 r0).1).trans r0, hc⟩
theorem jB.later {lo : Nat} {w w' : World} {bo : Nat} {ms : List Gr} {k : Nat} (h : jB lo w bo ms k) (hb : Below w.heap.size w w') : jB lo w' bo ms k := h.above (yh.below hb)
theorem jB.weaken {lo lo' : Nat} {w : World} {bo : Nat} {ms : List Gr} {k : Nat} (h : jB lo w bo ms k) (hl : lo' <= lo) : jB lo' w bo ms k := by
  obtain ⟨C, hC, hsz, hr⟩ := h.rows
  refine ⟨Nat.le_trans hl h.low, C, hC, hsz, fun i hi hk => ?_⟩
  obtain ⟨g0, p0, q0, r0, hc⟩ := hr i hi hk
  exact ⟨g0, Nat.le_trans hl p0, q0, r0, hc⟩
def zkX (w : World) (b o : Nat) (v0 v1 v2 v3 v4 v5 v6 : Value) : World := (((((((w.setCell ⟨b, o, none⟩ v0).setCell ⟨b, o + 1, none⟩ v1).setCell ⟨b, o + 2, none⟩ v2).setCell ⟨b, o + 3, none⟩ v3).setCell ⟨b, o + 4, none⟩ v4).setCell ⟨b, o + 5, none⟩ v5).setCell ⟨b, o + 6, none⟩ v6)
def zg8 (C : Array Value) (o : Nat) (v0 v1 v2 v3 v4 v5 v6 : Value) : Array Value := (((((((C.setIfInBounds (o) v0).setIfInBounds (o + 1) v1).setIfInBounds (o + 2) v2).setIfInBounds (o + 3) v3).setIfInBounds (o + 4) v4).setIfInBounds (o + 5) v5).setIfInBounds (o + 6) v6)
theorem zk2 {w : World} {b o : Nat} {C : Array Value} {t : TypeId} (h : w.heap[b]? = some (.cells C t)) (v0 v1 v2 v3 v4 v5 v6 : Value) : (zkX w b o v0 v1 v2 v3 v4 v5 v6).heap[b]? = some (.cells (zg8 C o v0 v1 v2 v3 v4 v5 v6) t) :=
  zf (zf (zf (zf (zf (zf (zf h v0) v1) v2) v3) v4) v5) v6
theorem zkF {B : Nat} {a w : World} (h : Below B a w) {b : Nat} (hb : B <= b) (o : Nat) (v0 v1 v2 v3 v4 v5 v6 : Value) : Below B a (zkX w b o v0 v1 v2 v3 v4 v5 v6) :=
  ((((((h.setCell hb v0).setCell hb v1).setCell hb v2).setCell hb v3).setCell hb v4).setCell hb v5).setCell hb v6
theorem zfx (w : World) (b o : Nat) (v0 v1 v2 v3 v4 v5 v6 : Value) {b' : Nat} (h : b' ≠ b) : (zkX w b o v0 v1 v2 v3 v4 v5 v6).heap[b']? = w.heap[b']? := by
  unfold zkX
  iterate 7 rw [zA h]
theorem zly (C : Array Value) (o : Nat) (v0 v1 v2 v3 v4 v5 v6 : Value) : (zg8 C o v0 v1 v2 v3 v4 v5 v6).size = C.size := by simp [zg8]
theorem zmC (C : Array Value) (o i : Nat) (v0 v1 v2 v3 v4 v5 v6 : Value) (h : i < o \/ o + 7 <= i) : (zg8 C o v0 v1 v2 v3 v4 v5 v6)[i]? = C[i]? := by
  unfold zg8
  iterate 7 rw [Array.getElem?_setIfInBounds, if_neg (by omega)]
theorem znd (C : Array Value) (o j : Nat) (v0 v1 v2 v3 v4 v5 v6 : Value) (hj : j < 7) (ho : o + 7 <= C.size) : (zg8 C o v0 v1 v2 v3 v4 v5 v6)[o + j]? = (#[v0, v1, v2, v3, v4, v5, v6] : Array Value)[j]? := by
  have hc : j = 0 \/ j = 1 \/ j = 2 \/ j = 3 \/ j = 4 \/ j = 5 \/ j = 6 := by omega
  unfold zg8
  rcases hc with h | h | h | h | h | h | h <;> subst h <;> simp [Array.getElem?_setIfInBounds] <;> omega
theorem jB.put {lo : Nat} {w : World} {bo : Nat} {ms : List Gr} {k : Nat} (h : jB lo w bo ms k) (hk : k < ms.length) (g0 : Nat) (p0 : lo <= g0) (q0 : g0 ≠ bo) (r0 : w.heap[g0]? = some (.cells (zbb ms[k].r.vs) 3)) :
    jB lo (zkX w bo (k * 7) (.int .i64 ms[k].no) (.string ms[k].to) (.string ms[k].gb) (.slice (some ⟨g0, 0, none⟩) ms[k].r.vs.length ms[k].r.vs.length) (.string ms[k].r.kd) (.string ms[k].r.tm) (.string ms[k].r.px)) bo ms (k + 1) := by
  obtain ⟨C, hC, hsz, hr⟩ := h.rows
  refine ⟨h.low, _, zk2 hC _ _ _ _ _ _ _, by rw [zly]; exact hsz, fun i hi hik => ?_⟩
  rcases Nat.lt_or_ge i k with hlt | hge
  · obtain ⟨g0', x0, y0, z0, hc⟩ := hr i hi hlt
    refine ⟨g0', x0, y0, (by rw [zfx _ _ _ _ _ _ _ _ _ _ y0]; exact z0), fun j hj => ?_⟩
    rw [zmC _ _ _ _ _ _ _ _ _ _ (by omega)]
    exact hc j hj
  · have e : i = k := by omega
    subst e
    refine ⟨g0, p0, q0, (by rw [zfx _ _ _ _ _ _ _ _ _ _ q0]; exact r0), fun j hj => ?_⟩
    rw [znd _ _ _ _ _ _ _ _ _ _ hj (by omega)]
    rfl
def zm8 : Array Value := #[.int .i64 0, .string ByteArray.empty, .string ByteArray.empty, .slice none 0 0, .string ByteArray.empty, .string ByteArray.empty, .string ByteArray.empty]
def zmd (n : Nat) : Array Value := madeCells zm8 (n * 7)
set_option maxHeartbeats 2000000 in
theorem zeP (a : Option Addr) (cap : Nat) (ms : List Gr) (w : World) (hw : zbD w a ms) (hl : ms.length <= 1048576) (hls : ∀ i (h : i < ms.length), ms[i].r.vs.length <= 1048576) :
    Calls Tryz.prog 28 #[.slice a ms.length cap] w fun e w' => e = .returned (.slice (some ⟨w.heap.size, 0, none⟩) ms.length ms.length) /\ jB w.heap.size w' w.heap.size ms ms.length /\ Below w.heap.size w w' := by
  have hmk : ∀ w : World, (Instr.makeSlice 43 (.int .i64 ms.length) (.int .i64 ms.length)).run Tryz.prog w = .ok (.slice (some ⟨w.heap.size, 0, none⟩) ms.length ms.length) (w.alloc (.cells (zmd ms.length) 119)) :=
    fun w => qG (P := Tryz.prog) 43 119 (.agg zm8) 7 112 Tryz.underlying43 (by kernel_rfl) ms.length (by omega) (by omega) w
  go_enter Tryz.func28, Tryz.ntmps28
  go_wp2_with fail
  clear hmk
  go_loopw [4] (fun i wr => ∃ k : Nat, k <= ms.length /\ i = .int .i64 k /\ Hid (jB w.heap.size wr w.heap.size ms k) /\ Below w.heap.size w wr) (fun i _ => ms.length - (intOf i).toNat)
  case atStart => exact ⟨0, Nat.zero_le _, rfl, ⟨Nat.le_refl _, zmd ms.length, (MapKept.heap_alloc w _).1, size_madeCells _ _, fun i _ h => absurd h (by omega)⟩, (Below.refl _ _).alloc (Nat.le_refl _) _⟩
  case round =>
    obtain ⟨k, hk, rfl, HOW, hB⟩ := hrel
    by_cases hlt : k < ms.length
    · obtain ⟨b, off, a0, c0, rfl, hb, hsm, hl0, d0, d1, d2, d3, d4, d5, d6⟩ := hw.load hB k hlt
      have HLS := hid (hls k hlt)
      have hltI : (k : Int) < (ms.length : Int) := by omega
      clear hw
      go_wp2_with fail
      refine (zf9 ms[k] a0 c0 _ hsm hl0 HLS.out).mono ?_
      rintro e w1 ⟨g0, rfl, p0, r0, hb1⟩
      have hB1 := hB.trans (hb1.mono hB.size)
      have hbo : w.heap.size < wr.heap.size := by
        obtain ⟨C', hC', _⟩ := HOW.out.rows
        exact (Array.getElem?_eq_some_iff.1 hC').1
      have HP := hid (HOW.out.later hb1)
      obtain ⟨C, hC, hsz, _⟩ := HP.out.rows
      have hfz : ∀ o, w1.frozen? ⟨w.heap.size, o, none⟩ = false := fun o => zi hC
      have hex : ∀ o, o < ms.length * 7 -> ∃ v, w1.cell? ⟨w.heap.size, o, none⟩ = some v := fun o ho => ⟨C[o]'(by omega), by rw [cell_of_block hC]; exact Array.getElem?_eq_getElem (by omega)⟩
      obtain ⟨v0, hv0⟩ := hex (k * 7) (by omega)
      obtain ⟨v1, hv1⟩ := hex (k * 7 + 1) (by omega)
      obtain ⟨v2, hv2⟩ := hex (k * 7 + 2) (by omega)
      obtain ⟨v3, hv3⟩ := hex (k * 7 + 3) (by omega)
      obtain ⟨v4, hv4⟩ := hex (k * 7 + 4) (by omega)
      obtain ⟨v5, hv5⟩ := hex (k * 7 + 5) (by omega)
      obtain ⟨v6, hv6⟩ := hex (k * 7 + 6) (by omega)
      have HR := jO p0 r0
      clear hex hC hsz d0 d1 d2 d3 d4 d5 d6 p0 r0 hl0
      unfold Gr.cells
      go_wp2_with fail
      obtain ⟨p0, r0⟩ := HR.out
      exact ⟨⟨k + 1, by omega, by go_num, HP.out.put hlt g0 (by omega) (by omega) r0, zkF hB1 (Nat.le_refl _) _ _ _ _ _ _ _ _⟩, by simp [intOf]; omega⟩
    · have HF : Hid (jB w.heap.size wr w.heap.size ms ms.length) := by
        have e : k = ms.length := by omega
        subst e; exact HOW.out
      clear hw HOW
      go_wp2_with fail
      go_ret
      exact ⟨rfl, HF.out, hB⟩
end Go.Proofs.YtkfigdbbncjojaaGreat

namespace Go.Proofs.YtkfigdbbncjojaaGreat
open Go.RowKit
def Ob.row (o : Ob) (a0 a1 : Option Addr) (c0 c1 : Nat) : Array Value := #[.string o.kd, .string o.nm, .string o.tm, .slice a0 o.vs.length c0, .bool o.en, .slice a1 o.hs.length c1, .int .i64 o.vr]
def Ob.sz (o : Ob) : Nat := zce o
theorem Ob.zlf {o : Ob} (h : (o.sz : Int) <= 1048576) : o.vs.length <= 1048576 /\ o.hs.length <= 1048576 := zn1 h (Int.le_refl _)
theorem zcc (o : Ob) (a0 a1 : Option Addr) (c0 c1 : Nat) (left : Int) (w : World) (hm : o.Small) (h0' : zB w a0 o.vs) (h1' : zB w a1 o.hs) (h0 : 0 <= left) (h1 : left <= 1048576) :
    Calls Tryz.prog 43 #[.agg (o.row a0 a1 c0 c1), .int .i64 left] w fun e w' => e = .returned (.int .i64 (zF o.sz left)) /\ Below w.heap.size w w' := zeS o a0 a1 c0 c1 left w ⟨hm, h0', h1'⟩ h0 h1
theorem zeO (o : Ob) (a0 a1 : Option Addr) (c0 c1 : Nat) (a0' a1' : Option Addr) (c0' c1' : Nat) (w : World) (hm : o.Small) (h0 : zB w a0 o.vs) (h1 : zB w a1 o.hs) (h0' : zB w a0' o.vs) (h1' : zB w a1' o.hs) :
    Calls Tryz.prog 80 #[.agg (o.row a0 a1 c0 c1), .agg (o.row a0' a1' c0' c1')] w fun e w' => e = .returned (.bool true) /\ Below w.heap.size w w' := ze4 o a0 a1 a0' a1' c0 c1 c0' c1' w ⟨hm, h0, h1⟩ ⟨hm, h0', h1'⟩
theorem zfd (o : Ob) (a0 a1 : Option Addr) (c0 c1 : Nat) (w : World) (hm : o.Small) (h0 : zB w a0 o.vs) (h1 : zB w a1 o.hs) (hl : o.vs.length <= 1048576 /\ o.hs.length <= 1048576) :
    Calls Tryz.prog 65 #[.agg (o.row a0 a1 c0 c1)] w fun e w' => ∃ g0 g1, e = .returned (.agg (o.row (some ⟨g0, 0, none⟩) (some ⟨g1, 0, none⟩) o.vs.length o.hs.length)) /\ w.heap.size <= g0 /\ w'.heap[g0]? = some (.cells (j5 o.vs) 9) /\ w.heap.size <= g1 /\ w'.heap[g1]? = some (.cells (j5 o.hs) 9) /\ Below w.heap.size w w' := by
  refine (zfr o a0 a1 c0 c1 w ⟨hm, h0, h1⟩ hl.1 hl.2).mono ?_
  rintro e w' ⟨bv, bh, he, hv, hh, _, hbv, hbh, hb⟩
  exact ⟨bv, bh, he, hv, hbv, hh, hbh, hb⟩
structure zmE (w : World) (b off : Nat) (x : Ob) (a0 a1 : Option Addr) (c0 c1 : Nat) : Prop where
  small : x.Small
  l0 : zB w a0 x.vs
  l1 : zB w a1 x.hs
  cell : ∀ j, j < 7 -> w.cell? ⟨b, off + j, none⟩ = (Ob.row x a0 a1 c0 c1)[j]?
structure zaQ (w : World) (a : Option Addr) (ms : List Ob) : Prop where
  len : ms.length <= maxLen
  rows : ms ≠ [] -> ∃ b off, a = some ⟨b, off, none⟩ /\ b < w.heap.size /\ ∀ i (h : i < ms.length), ∃ a0 a1 c0 c1, zmE w b (off + i * 7) ms[i] a0 a1 c0 c1
theorem zmE.mono {w w' : World} {b off : Nat} {x : Ob} {a0 a1 : Option Addr} {c0 c1 : Nat} (h : zmE w b off x a0 a1 c0 c1) (hb : b < w.heap.size) (hl : Below w.heap.size w w') : zmE w' b off x a0 a1 c0 c1 :=
  ⟨h.small, h.l0.mono hl, h.l1.mono hl, fun j hj => (hl.cell (p := ⟨b, off + j, none⟩) hb).trans (h.cell j hj)⟩
theorem zaQ.mono {w w' : World} {a : Option Addr} {ms : List Ob} (h : zaQ w a ms) (hl : Below w.heap.size w w') : zaQ w' a ms :=
  ⟨h.len, fun hne => by
    obtain ⟨b, off, ha, hb, hr⟩ := h.rows hne
    refine ⟨b, off, ha, Nat.lt_of_lt_of_le hb hl.size, fun i hi => ?_⟩
    obtain ⟨a0, a1, c0, c1, hf⟩ := hr i hi
    exact ⟨a0, a1, c0, c1, hf.mono hb hl⟩⟩
theorem zaQ.load {w w' : World} {a : Option Addr} {ms : List Ob} (h : zaQ w a ms) (hl : Below w.heap.size w w') (i : Nat) (hi : i < ms.length) : ∃ b off a0 a1 c0 c1, a = some ⟨b, off, none⟩ /\ b < w.heap.size /\ ms[i].Small /\ zB w' a0 ms[i].vs /\ zB w' a1 ms[i].hs /\
    w'.cell? ⟨b, off + i * 7, none⟩ = some (.string ms[i].kd) /\ w'.cell? ⟨b, off + i * 7 + 1, none⟩ = some (.string ms[i].nm) /\ w'.cell? ⟨b, off + i * 7 + 2, none⟩ = some (.string ms[i].tm) /\ w'.cell? ⟨b, off + i * 7 + 3, none⟩ = some (.slice a0 ms[i].vs.length c0) /\ w'.cell? ⟨b, off + i * 7 + 4, none⟩ = some (.bool ms[i].en) /\ w'.cell? ⟨b, off + i * 7 + 5, none⟩ = some (.slice a1 ms[i].hs.length c1) /\ w'.cell? ⟨b, off + i * 7 + 6, none⟩ = some (.int .i64 ms[i].vr) := by
  obtain ⟨b, off, ha, hb, hr⟩ := h.rows (by rintro rfl; simp at hi)
  obtain ⟨a0, a1, c0, c1, hf0⟩ := hr i hi
  have hf := hf0.mono hb hl
  exact ⟨b, off, a0, a1, c0, c1, ha, hb, hf.small, hf.l0, hf.l1, hf.cell 0 (by omega), hf.cell 1 (by omega), hf.cell 2 (by omega), hf.cell 3 (by omega), hf.cell 4 (by omega), hf.cell 5 (by omega), hf.cell 6 (by omega)⟩
def zaa (ms : List Ob) : Nat := (ms.map Ob.sz).sum
def ql (ms : List Ob) : Nat := ms.length + zaa ms
structure zek (ms : List Ob) : Prop where
  small : ∀ i (h : i < ms.length), ms[i].Small /\ (ms[i].vs.length <= maxLen /\ ∀ s ∈ ms[i].vs, s.size <= maxLen) /\ (ms[i].hs.length <= maxLen /\ ∀ s ∈ ms[i].hs, s.size <= maxLen)
theorem zaQ.smalls {w : World} {a : Option Addr} {ms : List Ob} (h : zaQ w a ms) : zek ms :=
  ⟨fun i hi => by
    obtain ⟨b, off, _, _, hr⟩ := h.rows (by rintro rfl; simp at hi)
    obtain ⟨a0, a1, c0, c1, hf⟩ := hr i hi
    exact ⟨hf.small, ⟨hf.l0.len, hf.l0.small⟩, ⟨hf.l1.len, hf.l1.small⟩⟩⟩
theorem zjh {ms : List Ob} {left : Int} (h : (ql ms : Int) <= left) (hl : left <= 1048576) : ms.length <= 1048576 /\ ∀ i (h : i < ms.length), ms[i].vs.length <= 1048576 /\ ms[i].hs.length <= 1048576 := by
  unfold ql at h
  refine ⟨by omega, fun i hi => ?_⟩
  have h1 : ms[i].sz <= zaa ms := zgy Ob.sz ms i hi
  exact Ob.zlf (by omega)
set_option maxHeartbeats 1000000 in
theorem zeK (a : Option Addr) (cap : Nat) (ms : List Ob) (left : Int) (w : World) (hw : zaQ w a ms) (h0 : 0 <= left) (h1 : left <= 1048576) :
    Calls Tryz.prog 15 #[.slice a ms.length cap, .int .i64 left] w fun e w' => e = .returned (.int .i64 (zF (ql ms) left)) /\ Below w.heap.size w w' := by
  have hl := hw.len
  unfold maxLen at hl
  by_cases hfit : (ms.length : Int) <= left
  · go_enter Tryz.func15, Tryz.ntmps15
    go_wp2_with fail
    go_loopw [1, 5] (fun l i wr => ∃ k : Nat, k <= ms.length /\ i = .int .i64 k /\ 0 <= left - ms.length - zaa (ms.take k) /\ l = .int .i64 (left - ms.length - zaa (ms.take k)) /\ Below w.heap.size w wr) (fun _ i _ => ms.length - (intOf i).toNat)
    case atStart => exact ⟨0, Nat.zero_le _, rfl, by simp [zaa]; omega, by simp [zaa], Below.refl _ _⟩
    case round =>
      obtain ⟨k, hk, rfl, hpos, rfl, hB⟩ := hrel
      by_cases hlt : k < ms.length
      · obtain ⟨b, off, a0, a1, c0, c1, rfl, hb, hsm, hl0, hl1, d0, d1, d2, d3, d4, d5, d6⟩ := hw.load hB k hlt
        have hbr := Nat.lt_of_lt_of_le hb hB.size
        have HS : Hid (zaa (ms.take (k + 1)) = zaa (ms.take k) + ms[k].sz) := zad Ob.sz ms k hlt
        have hle : zaa (ms.take (k + 1)) <= zaa ms := zbE Ob.sz ms (k + 1)
        have HI : Hid (zB wr a0 ms[k].vs /\ zB wr a1 ms[k].hs) := ⟨hl0, hl1⟩
        clear hw hl0 hl1
        by_cases hneg : (ms[k].sz : Int) <= left - ms.length - zaa (ms.take k)
        · have HNG : Hid ((ms[k].sz : Int) <= left - ms.length - zaa (ms.take k)) := hneg
          clear hle
          go_wp2_with fail
          refine (zcc ms[k] a0 a1 c0 c1 _ _ hsm HI.out.1 HI.out.2 hpos (by omega)).mono ?_
          rintro e w1 ⟨rfl, hb1⟩
          rw [zG HNG.out]
          have hB1 := hB.trans (hb1.mono hB.size)
          clear hb1
          go_wp2_with fail
          exact ⟨⟨k + 1, by omega, by go_num, by rw [HS.out]; omega, by rw [HS.out]; congr 1; omega, hB1⟩, by simp [intOf]; omega⟩
        · have HF : Hid (zF (ql ms) left = -1) := zx (by have := HS.out; unfold ql; omega)
          have HNG := hid hneg
          clear hneg hle
          go_wp2_with fail
          refine (zcc ms[k] a0 a1 c0 c1 _ _ hsm HI.out.1 HI.out.2 hpos (by omega)).mono ?_
          rintro e w1 ⟨rfl, hb1⟩
          rw [zx (by have := HNG.out; omega)]
          have hB1 := hB.trans (hb1.mono hB.size)
          clear hb1
          go_wp2_with fail
          go_ret
          exact ⟨zk HF.out.symm, hB1⟩
      · have HF : Hid (zF (ql ms) left = left - ms.length - zaa (ms.take k)) := by
          rw [List.take_of_length_le (by omega)] at hpos ⊢
          have e : zF (ql ms) left = left - ql ms := zG (by unfold ql; omega)
          unfold Hid; rw [e]; unfold ql; omega
        clear hw
        go_wp2
        go_ret
        exact ⟨zk HF.out.symm, hB⟩
  · have HF : Hid (zF (ql ms) left = -1) := zx (by unfold ql; omega)
    clear hw
    go_enter Tryz.func15, Tryz.ntmps15
    go_wp2
    go_ret
    exact ⟨zk HF.out.symm, Below.refl _ _⟩
set_option maxHeartbeats 2000000 in
theorem zeg (a a' : Option Addr) (cap cap' : Nat) (ms : List Ob) (w : World) (hw : zaQ w a ms) (hw' : zaQ w a' ms) :
    Calls Tryz.prog 36 #[.slice a ms.length cap, .slice a' ms.length cap'] w fun e w' => e = .returned (.bool true) /\ Below w.heap.size w w' := by
  have hl := hw.len
  unfold maxLen at hl
  have hnn : ((ms.length : Int) != ms.length) = false := by simp
  go_enter Tryz.func36, Tryz.ntmps36
  go_wp2_with fail
  go_loopw [5] (fun i wr => ∃ k : Nat, k <= ms.length /\ i = .int .i64 k /\ Below w.heap.size w wr) (fun i _ => ms.length - (intOf i).toNat)
  case atStart => exact ⟨0, Nat.zero_le _, rfl, Below.refl _ _⟩
  case round =>
    obtain ⟨k, hk, rfl, hB⟩ := hrel
    by_cases hlt : k < ms.length
    · obtain ⟨b, off, a0, a1, c0, c1, rfl, hb, hsm, hl0, hl1, d0, d1, d2, d3, d4, d5, d6⟩ := hw.load hB k hlt
      obtain ⟨b', off', a0', a1', c0', c1', rfl, hb', _, hl0', hl1', f0, f1, f2, f3, f4, f5, f6⟩ := hw'.load hB k hlt
      have hltI : (k : Int) < (ms.length : Int) := by omega
      clear hw hw'
      go_wp2_with fail
      go_region_with (go_at_call 80; refine (zeO ms[k] a0 a1 c0 c1 a0' a1' c0' c1' _ hsm (by exact hl0.mono ((Below.refl _ _).drew)) (by exact hl1.mono ((Below.refl _ _).drew)) (by exact hl0'.mono ((Below.refl _ _).drew)) (by exact hl1'.mono ((Below.refl _ _).drew))).mono ?_; rintro e w1 ⟨rfl, hb1'⟩; have hb1 := (Below.refl wr.heap.size wr).drew.trans hb1'; clear hb1')
      all_goals go_wp2_with fail
      all_goals exact ⟨⟨k + 1, by omega, by go_num, hB.trans (hb1.mono hB.size)⟩, by simp [intOf]; omega⟩
    · clear hw hw'
      go_wp2_with fail
      go_ret
      exact ⟨rfl, hB⟩
structure q8 (lo : Nat) (w : World) (bo : Nat) (ms : List Ob) (k : Nat) : Prop where
  low : lo <= bo
  rows : ∃ C, w.heap[bo]? = some (.cells C 104) /\ C.size = ms.length * 7 /\
    ∀ i (h : i < ms.length), i < k -> ∃ g0 g1, lo <= g0 /\ g0 ≠ bo /\ w.heap[g0]? = some (.cells (j5 ms[i].vs) 9) /\ lo <= g1 /\ g1 ≠ bo /\ w.heap[g1]? = some (.cells (j5 ms[i].hs) 9) /\ ∀ j, j < 7 -> C[i * 7 + j]? = (Ob.row ms[i] (some ⟨g0, 0, none⟩) (some ⟨g1, 0, none⟩) ms[i].vs.length ms[i].hs.length)[j]?
theorem q8.at {lo : Nat} {w : World} {bo : Nat} {ms : List Ob} (h : q8 lo w bo ms ms.length) (hs : zek ms) (hl : ms.length <= maxLen) : zaQ w (some ⟨bo, 0, none⟩) ms := by
  obtain ⟨C, hC, hsz, hr⟩ := h.rows
  refine ⟨hl, fun _ => ⟨bo, 0, rfl, (Array.getElem?_eq_some_iff.1 hC).1, fun i hi => ?_⟩⟩
  obtain ⟨g0, g1, _, _, hk0, _, _, hk1, hc⟩ := hr i hi hi
  obtain ⟨s0, s1, s2⟩ := hs.small i hi
  refine ⟨some ⟨g0, 0, none⟩, some ⟨g1, 0, none⟩, ms[i].vs.length, ms[i].hs.length, s0, zb7 hk0 s1.1 s1.2, zb7 hk1 s2.1 s2.2, fun j hj => ?_⟩
  rw [cell_of_block hC, Nat.zero_add]
  exact hc j hj
theorem q8.above {lo : Nat} {w w' : World} {bo : Nat} {ms : List Ob} {k : Nat} (h : q8 lo w bo ms k) (ha : yh lo w w') : q8 lo w' bo ms k := by
  obtain ⟨C, hC, hsz, hr⟩ := h.rows
  refine ⟨h.low, C, (ha.same _ h.low (Array.getElem?_eq_some_iff.1 hC).1).trans hC, hsz, fun i hi hk => ?_⟩
  obtain ⟨g0, g1, p0, q0, r0, p1, q1, r1, hc⟩ := hr i hi hk
  exact ⟨g0, g1, p0, q0, (ha.same _ p0 (Array.getElem?_eq_some_iff.1 r0).1).trans r0, p1, q1, (ha.same _ p1 (Array.getElem?_eq_some_iff.1 r1).1).trans r1, hc⟩
theorem q8.later {lo : Nat} {w w' : World} {bo : Nat} {ms : List Ob} {k : Nat} (h : q8 lo w bo ms k) (hb : Below w.heap.size w w') : q8 lo w' bo ms k := h.above (yh.below hb)
theorem q8.weaken {lo lo' : Nat} {w : World} {bo : Nat} {ms : List Ob} {k : Nat} (h : q8 lo w bo ms k) (hl : lo' <= lo) : q8 lo' w bo ms k := by
  obtain ⟨C, hC, hsz, hr⟩ := h.rows
  refine ⟨Nat.le_trans hl h.low, C, hC, hsz, fun i hi hk => ?_⟩
  obtain ⟨g0, g1, p0, q0, r0, p1, q1, r1, hc⟩ := hr i hi hk
  exact ⟨g0, g1, Nat.le_trans hl p0, q0, r0, Nat.le_trans hl p1, q1, r1, hc⟩
def zkK (w : World) (b o : Nat) (v0 v1 v2 v3 v4 v5 v6 : Value) : World := (((((((w.setCell ⟨b, o, none⟩ v0).setCell ⟨b, o + 1, none⟩ v1).setCell ⟨b, o + 2, none⟩ v2).setCell ⟨b, o + 3, none⟩ v3).setCell ⟨b, o + 4, none⟩ v4).setCell ⟨b, o + 5, none⟩ v5).setCell ⟨b, o + 6, none⟩ v6)
def zhm (C : Array Value) (o : Nat) (v0 v1 v2 v3 v4 v5 v6 : Value) : Array Value := (((((((C.setIfInBounds (o) v0).setIfInBounds (o + 1) v1).setIfInBounds (o + 2) v2).setIfInBounds (o + 3) v3).setIfInBounds (o + 4) v4).setIfInBounds (o + 5) v5).setIfInBounds (o + 6) v6)
theorem zjU {w : World} {b o : Nat} {C : Array Value} {t : TypeId} (h : w.heap[b]? = some (.cells C t)) (v0 v1 v2 v3 v4 v5 v6 : Value) : (zkK w b o v0 v1 v2 v3 v4 v5 v6).heap[b]? = some (.cells (zhm C o v0 v1 v2 v3 v4 v5 v6) t) :=
  zf (zf (zf (zf (zf (zf (zf h v0) v1) v2) v3) v4) v5) v6
theorem zjV {B : Nat} {a w : World} (h : Below B a w) {b : Nat} (hb : B <= b) (o : Nat) (v0 v1 v2 v3 v4 v5 v6 : Value) : Below B a (zkK w b o v0 v1 v2 v3 v4 v5 v6) :=
  ((((((h.setCell hb v0).setCell hb v1).setCell hb v2).setCell hb v3).setCell hb v4).setCell hb v5).setCell hb v6
theorem zbO (w : World) (b o : Nat) (v0 v1 v2 v3 v4 v5 v6 : Value) {b' : Nat} (h : b' ≠ b) : (zkK w b o v0 v1 v2 v3 v4 v5 v6).heap[b']? = w.heap[b']? := by
  unfold zkK
  iterate 7 rw [zA h]
theorem zlw (C : Array Value) (o : Nat) (v0 v1 v2 v3 v4 v5 v6 : Value) : (zhm C o v0 v1 v2 v3 v4 v5 v6).size = C.size := by simp [zhm]
theorem zmS (C : Array Value) (o i : Nat) (v0 v1 v2 v3 v4 v5 v6 : Value) (h : i < o \/ o + 7 <= i) : (zhm C o v0 v1 v2 v3 v4 v5 v6)[i]? = C[i]? := by
  unfold zhm
  iterate 7 rw [Array.getElem?_setIfInBounds, if_neg (by omega)]
theorem zm3 (C : Array Value) (o j : Nat) (v0 v1 v2 v3 v4 v5 v6 : Value) (hj : j < 7) (ho : o + 7 <= C.size) : (zhm C o v0 v1 v2 v3 v4 v5 v6)[o + j]? = (#[v0, v1, v2, v3, v4, v5, v6] : Array Value)[j]? := by
  have hc : j = 0 \/ j = 1 \/ j = 2 \/ j = 3 \/ j = 4 \/ j = 5 \/ j = 6 := by omega
  unfold zhm
  rcases hc with h | h | h | h | h | h | h <;> subst h <;> simp [Array.getElem?_setIfInBounds] <;> omega
theorem q8.put {lo : Nat} {w : World} {bo : Nat} {ms : List Ob} {k : Nat} (h : q8 lo w bo ms k) (hk : k < ms.length) (g0 g1 : Nat) (p0 : lo <= g0) (q0 : g0 ≠ bo) (r0 : w.heap[g0]? = some (.cells (j5 ms[k].vs) 9)) (p1 : lo <= g1) (q1 : g1 ≠ bo) (r1 : w.heap[g1]? = some (.cells (j5 ms[k].hs) 9)) :
    q8 lo (zkK w bo (k * 7) (.string ms[k].kd) (.string ms[k].nm) (.string ms[k].tm) (.slice (some ⟨g0, 0, none⟩) ms[k].vs.length ms[k].vs.length) (.bool ms[k].en) (.slice (some ⟨g1, 0, none⟩) ms[k].hs.length ms[k].hs.length) (.int .i64 ms[k].vr)) bo ms (k + 1) := by
  obtain ⟨C, hC, hsz, hr⟩ := h.rows
  refine ⟨h.low, _, zjU hC _ _ _ _ _ _ _, by rw [zlw]; exact hsz, fun i hi hik => ?_⟩
  rcases Nat.lt_or_ge i k with hlt | hge
  · obtain ⟨g0', g1', x0, y0, z0, x1, y1, z1, hc⟩ := hr i hi hlt
    refine ⟨g0', g1', x0, y0, (by rw [zbO _ _ _ _ _ _ _ _ _ _ y0]; exact z0), x1, y1, (by rw [zbO _ _ _ _ _ _ _ _ _ _ y1]; exact z1), fun j hj => ?_⟩
    rw [zmS _ _ _ _ _ _ _ _ _ _ (by omega)]
    exact hc j hj
  · have e : i = k := by omega
    subst e
    refine ⟨g0, g1, p0, q0, (by rw [zbO _ _ _ _ _ _ _ _ _ _ q0]; exact r0), p1, q1, (by rw [zbO _ _ _ _ _ _ _ _ _ _ q1]; exact r1), fun j hj => ?_⟩
    rw [zm3 _ _ _ _ _ _ _ _ _ _ hj (by omega)]
    rfl
def znt : Array Value := #[.string ByteArray.empty, .string ByteArray.empty, .string ByteArray.empty, .slice none 0 0, .bool false, .slice none 0 0, .int .i64 0]
def zme (n : Nat) : Array Value := madeCells znt (n * 7)
set_option maxHeartbeats 2000000 in
theorem zeD (a : Option Addr) (cap : Nat) (ms : List Ob) (w : World) (hw : zaQ w a ms) (hl : ms.length <= 1048576) (hls : ∀ i (h : i < ms.length), ms[i].vs.length <= 1048576 /\ ms[i].hs.length <= 1048576) :
    Calls Tryz.prog 27 #[.slice a ms.length cap] w fun e w' => e = .returned (.slice (some ⟨w.heap.size, 0, none⟩) ms.length ms.length) /\ q8 w.heap.size w' w.heap.size ms ms.length /\ Below w.heap.size w w' := by
  have hmk : ∀ w : World, (Instr.makeSlice 42 (.int .i64 ms.length) (.int .i64 ms.length)).run Tryz.prog w = .ok (.slice (some ⟨w.heap.size, 0, none⟩) ms.length ms.length) (w.alloc (.cells (zme ms.length) 104)) :=
    fun w => qG (P := Tryz.prog) 42 104 (.agg znt) 7 112 Tryz.underlying42 (by kernel_rfl) ms.length (by omega) (by omega) w
  go_enter Tryz.func27, Tryz.ntmps27
  go_wp2_with fail
  clear hmk
  go_loopw [4] (fun i wr => ∃ k : Nat, k <= ms.length /\ i = .int .i64 k /\ Hid (q8 w.heap.size wr w.heap.size ms k) /\ Below w.heap.size w wr) (fun i _ => ms.length - (intOf i).toNat)
  case atStart => exact ⟨0, Nat.zero_le _, rfl, ⟨Nat.le_refl _, zme ms.length, (MapKept.heap_alloc w _).1, size_madeCells _ _, fun i _ h => absurd h (by omega)⟩, (Below.refl _ _).alloc (Nat.le_refl _) _⟩
  case round =>
    obtain ⟨k, hk, rfl, HOW, hB⟩ := hrel
    by_cases hlt : k < ms.length
    · obtain ⟨b, off, a0, a1, c0, c1, rfl, hb, hsm, hl0, hl1, d0, d1, d2, d3, d4, d5, d6⟩ := hw.load hB k hlt
      have HLS := hid (hls k hlt)
      have hltI : (k : Int) < (ms.length : Int) := by omega
      clear hw
      go_wp2_with fail
      refine (zfd ms[k] a0 a1 c0 c1 _ hsm hl0 hl1 HLS.out).mono ?_
      rintro e w1 ⟨g0, g1, rfl, p0, r0, p1, r1, hb1⟩
      have hB1 := hB.trans (hb1.mono hB.size)
      have hbo : w.heap.size < wr.heap.size := by
        obtain ⟨C', hC', _⟩ := HOW.out.rows
        exact (Array.getElem?_eq_some_iff.1 hC').1
      have HP := hid (HOW.out.later hb1)
      obtain ⟨C, hC, hsz, _⟩ := HP.out.rows
      have hfz : ∀ o, w1.frozen? ⟨w.heap.size, o, none⟩ = false := fun o => zi hC
      have hex : ∀ o, o < ms.length * 7 -> ∃ v, w1.cell? ⟨w.heap.size, o, none⟩ = some v := fun o ho => ⟨C[o]'(by omega), by rw [cell_of_block hC]; exact Array.getElem?_eq_getElem (by omega)⟩
      obtain ⟨v0, hv0⟩ := hex (k * 7) (by omega)
      obtain ⟨v1, hv1⟩ := hex (k * 7 + 1) (by omega)
      obtain ⟨v2, hv2⟩ := hex (k * 7 + 2) (by omega)
      obtain ⟨v3, hv3⟩ := hex (k * 7 + 3) (by omega)
      obtain ⟨v4, hv4⟩ := hex (k * 7 + 4) (by omega)
      obtain ⟨v5, hv5⟩ := hex (k * 7 + 5) (by omega)
      obtain ⟨v6, hv6⟩ := hex (k * 7 + 6) (by omega)
      have HR := zkz p0 r0 p1 r1
      clear hex hC hsz d0 d1 d2 d3 d4 d5 d6 p0 r0 p1 r1 hl0 hl1
      unfold Ob.row
      go_wp2_with fail
      obtain ⟨p0, r0, p1, r1⟩ := HR.out
      exact ⟨⟨k + 1, by omega, by go_num, HP.out.put hlt g0 g1 (by omega) (by omega) r0 (by omega) (by omega) r1, zjV hB1 (Nat.le_refl _) _ _ _ _ _ _ _ _⟩, by simp [intOf]; omega⟩
    · have HF : Hid (q8 w.heap.size wr w.heap.size ms ms.length) := by
        have e : k = ms.length := by omega
        subst e; exact HOW.out
      clear hw HOW
      go_wp2_with fail
      go_ret
      exact ⟨rfl, HF.out, hB⟩
end Go.Proofs.YtkfigdbbncjojaaGreat

namespace Go.Proofs.YtkfigdbbncjojaaGreat
open Go.RowKit
theorem lt_of_some {w : World} {b : Nat} {o : Obj} (h : w.heap[b]? = some o) : b < w.heap.size := (Array.getElem?_eq_some_iff.1 h).1
theorem zjw {lo lo' : Nat} {w : World} {bo : Nat} {ms : List Mnd} {k : Nat} (h : qF lo w bo ms k) (hl : lo' <= lo) : qF lo' w bo ms k := ⟨Nat.le_trans hl h.low, h.rows⟩
theorem zji {ty : TypeId} {lo lo' : Nat} {w : World} {bo : Nat} {ts : List Tm} {k : Nat} (h : jI ty lo w bo ts k) (hl : lo' <= lo) : jI ty lo' w bo ts k := ⟨Nat.le_trans hl h.low, h.rows⟩
set_option maxHeartbeats 2000000 in
theorem zh5 (l : Lw) (a b c : Option Addr) (ca cb cc : Nat) (w : World) (hl : qO w l a b c) (hf : l.Few) :
    Calls Tryz.prog 7 #[.agg (l.cells a b c ca cb cc)] w fun e w' => ∃ lo a' b' c', e = .returned (.agg (l.cells (some ⟨a', 0, none⟩) (some ⟨b', 0, none⟩) (some ⟨c', 0, none⟩) l.ss.length l.ms.length l.ts.length)) /\ w.heap.size <= lo /\ ziD lo w' l a' b' c' /\ Below w.heap.size w w' := by
  have HL : Hid (qO w l a b c) := hl
  have HF : Hid l.Few := hf
  clear hl hf
  unfold Lw.cells
  go_enter Tryz.func7, Tryz.ntmps7
  go_wp2_with fail
  have k0 := zn0 w (.cells (lC l a b c ca cb cc) 26) (.cells #[.slice none 0 0, .slice none 0 0, .slice none 0 0] 40) (.cells #[.slice none 0 0, .slice none 0 0, .slice none 0 0] 40)
  have hB0 := below3' w (.cells (lC l a b c ca cb cc) 26) (.cells #[.slice none 0 0, .slice none 0 0, .slice none 0 0] 40) (.cells #[.slice none 0 0, .slice none 0 0, .slice none 0 0] 40)
  obtain ⟨W0, hW0⟩ : ∃ W0, W0 = ((w.alloc (.cells (lC l a b c ca cb cc) 26)).alloc (.cells #[.slice none 0 0, .slice none 0 0, .slice none 0 0] 40)).alloc (.cells #[.slice none 0 0, .slice none 0 0, .slice none 0 0] 40) := ⟨_, rfl⟩
  have hz0 : w.heap.size + 1 + 1 < W0.heap.size := by rw [hW0]; simp
  rw [<- hW0] at k0 hB0 ⊢
  clear hW0
  have HLO : Hid (w.heap.size + 1 + 1 < W0.heap.size) := hz0
  refine (ze7 _ _ l.ss _ (HL.out.ss.mono hB0) HF.out.ss.1 HF.out.ss.2).mono ?_
  rintro e w1 ⟨rfl, hown, hb⟩
  obtain ⟨a', ha'⟩ : ∃ a', a' = W0.heap.size := ⟨_, rfl⟩
  have HO1 : Hid (jd W0.heap.size w1 a' l.ss l.ss.length) := by rw [ha']; exact hown
  have hX1 := (hb.block _ (by omega)).trans k0.1
  have hR1 := (hb.block _ (by omega)).trans k0.2.1
  have hO1 := (hb.block _ hz0).trans k0.2.2
  have HZ1 : Hid (W0.heap.size <= w1.heap.size) := hb.size
  have HB1 : Hid (Below w.heap.size w w1) := hB0.trans (hb.mono hB0.size)
  rw [<- ha']
  clear hown hb k0 hB0 hz0 ha'
  have cO1 := fun j => cell_of_block (o := j) hO1
  have fO1 := fun j => zi (o := j) hO1
  have HX1' : Hid ((w1.setCell ⟨w.heap.size + 1 + 1, 0, none⟩ (.slice (some ⟨a', 0, none⟩) l.ss.length l.ss.length)).heap[w.heap.size]? = some (.cells (lC l a b c ca cb cc) 26)) := (zA (by omega)).trans hX1
  have HR1' : Hid ((w1.setCell ⟨w.heap.size + 1 + 1, 0, none⟩ (.slice (some ⟨a', 0, none⟩) l.ss.length l.ss.length)).heap[w.heap.size + 1]? = some (.cells #[.slice none 0 0, .slice none 0 0, .slice none 0 0] 40)) := (zA (by omega)).trans hR1
  have HO1' : Hid ((w1.setCell ⟨w.heap.size + 1 + 1, 0, none⟩ (.slice (some ⟨a', 0, none⟩) l.ss.length l.ss.length)).heap[w.heap.size + 1 + 1]? = some (.cells #[.slice (some ⟨a', 0, none⟩) l.ss.length l.ss.length, .slice none 0 0, .slice none 0 0] 40)) := zf hO1 _
  have HAB1 : Hid (yh W0.heap.size w1 (w1.setCell ⟨w.heap.size + 1 + 1, 0, none⟩ (.slice (some ⟨a', 0, none⟩) l.ss.length l.ss.length))) := yh.setCell HLO.out _
  have HBB1 : Hid (Below w.heap.size w (w1.setCell ⟨w.heap.size + 1 + 1, 0, none⟩ (.slice (some ⟨a', 0, none⟩) l.ss.length l.ss.length))) := HB1.out.setCell (by show w.heap.size <= w.heap.size + 1 + 1; omega) _
  have HZZ1 : Hid (W0.heap.size <= (w1.setCell ⟨w.heap.size + 1 + 1, 0, none⟩ (.slice (some ⟨a', 0, none⟩) l.ss.length l.ss.length)).heap.size) := by unfold Hid; rw [World.size_setCell]; exact HZ1.out
  clear hX1 hR1 hO1
  have cX1 := fun j => cell_of_block (o := j) HX1'.out
  have cR1 := fun j => cell_of_block (o := j) HR1'.out
  have fR1 := fun j => zi (o := j) HR1'.out
  have cOO1 := fun j => cell_of_block (o := j) HO1'.out
  go_wp2_with fail
  refine (zfX _ _ l.ms _ (HL.out.ms.mono HBB1.out) HF.out.ms).mono ?_
  rintro e w2 ⟨rfl, hown, hb⟩
  obtain ⟨b', hp'⟩ : ∃ b', b' = (w1.setCell ⟨w.heap.size + 1 + 1, 0, none⟩ (.slice (some ⟨a', 0, none⟩) l.ss.length l.ss.length)).heap.size := ⟨_, rfl⟩
  have HN2 : Hid (qF W0.heap.size w2 b' l.ms l.ms.length) := by rw [hp']; exact zjw hown HZZ1.out
  have HAA2 : Hid (yh W0.heap.size w1 w2) := HAB1.out.trans (yh.below hb)
  have hX2 := (hb.block _ (lt_of_some HX1'.out)).trans HX1'.out
  have hR2 := (hb.block _ (lt_of_some HR1'.out)).trans HR1'.out
  have hO2 := (hb.block _ (lt_of_some HO1'.out)).trans HO1'.out
  have HZ2 : Hid (W0.heap.size <= w2.heap.size) := Nat.le_trans HZZ1.out hb.size
  have HB2 : Hid (Below w.heap.size w w2) := HBB1.out.trans (hb.mono HBB1.out.size)
  rw [<- hp']
  clear hown hb hp' cX1 cR1 fR1 cOO1
  have cO2 := fun j => cell_of_block (o := j) hO2
  have fO2 := fun j => zi (o := j) hO2
  have HX2' : Hid ((w2.setCell ⟨w.heap.size + 1 + 1, 1, none⟩ (.slice (some ⟨b', 0, none⟩) l.ms.length l.ms.length)).heap[w.heap.size]? = some (.cells (lC l a b c ca cb cc) 26)) := (zA (by omega)).trans hX2
  have HR2' : Hid ((w2.setCell ⟨w.heap.size + 1 + 1, 1, none⟩ (.slice (some ⟨b', 0, none⟩) l.ms.length l.ms.length)).heap[w.heap.size + 1]? = some (.cells #[.slice none 0 0, .slice none 0 0, .slice none 0 0] 40)) := (zA (by omega)).trans hR2
  have HO2' : Hid ((w2.setCell ⟨w.heap.size + 1 + 1, 1, none⟩ (.slice (some ⟨b', 0, none⟩) l.ms.length l.ms.length)).heap[w.heap.size + 1 + 1]? = some (.cells #[.slice (some ⟨a', 0, none⟩) l.ss.length l.ss.length, .slice (some ⟨b', 0, none⟩) l.ms.length l.ms.length, .slice none 0 0] 40)) := zf hO2 _
  have HAB2 : Hid (yh W0.heap.size w2 (w2.setCell ⟨w.heap.size + 1 + 1, 1, none⟩ (.slice (some ⟨b', 0, none⟩) l.ms.length l.ms.length))) := yh.setCell HLO.out _
  have HBB2 : Hid (Below w.heap.size w (w2.setCell ⟨w.heap.size + 1 + 1, 1, none⟩ (.slice (some ⟨b', 0, none⟩) l.ms.length l.ms.length))) := HB2.out.setCell (by show w.heap.size <= w.heap.size + 1 + 1; omega) _
  have HZZ2 : Hid (W0.heap.size <= (w2.setCell ⟨w.heap.size + 1 + 1, 1, none⟩ (.slice (some ⟨b', 0, none⟩) l.ms.length l.ms.length)).heap.size) := by unfold Hid; rw [World.size_setCell]; exact HZ2.out
  clear hX2 hR2 hO2
  have cX2 := fun j => cell_of_block (o := j) HX2'.out
  have cR2 := fun j => cell_of_block (o := j) HR2'.out
  have fR2 := fun j => zi (o := j) HR2'.out
  have cOO2 := fun j => cell_of_block (o := j) HO2'.out
  go_wp2_with fail
  refine (zfT _ _ l.ts _ (HL.out.ts.mono HBB2.out) HF.out.ts).mono ?_
  rintro e w3 ⟨rfl, hown, hb⟩
  obtain ⟨c', hp'⟩ : ∃ c', c' = (w2.setCell ⟨w.heap.size + 1 + 1, 1, none⟩ (.slice (some ⟨b', 0, none⟩) l.ms.length l.ms.length)).heap.size := ⟨_, rfl⟩
  have HN3 : Hid (jI 131 W0.heap.size w3 c' l.ts l.ts.length) := by rw [hp']; exact zji hown HZZ2.out
  have HAA3 : Hid (yh W0.heap.size w2 w3) := HAB2.out.trans (yh.below hb)
  have hX3 := (hb.block _ (lt_of_some HX2'.out)).trans HX2'.out
  have hR3 := (hb.block _ (lt_of_some HR2'.out)).trans HR2'.out
  have hO3 := (hb.block _ (lt_of_some HO2'.out)).trans HO2'.out
  have HZ3 : Hid (W0.heap.size <= w3.heap.size) := Nat.le_trans HZZ2.out hb.size
  have HB3 : Hid (Below w.heap.size w w3) := HBB2.out.trans (hb.mono HBB2.out.size)
  rw [<- hp']
  clear hown hb hp' cX2 cR2 fR2 cOO2
  have cO3 := fun j => cell_of_block (o := j) hO3
  have fO3 := fun j => zi (o := j) hO3
  have HX3' : Hid ((w3.setCell ⟨w.heap.size + 1 + 1, 2, none⟩ (.slice (some ⟨c', 0, none⟩) l.ts.length l.ts.length)).heap[w.heap.size]? = some (.cells (lC l a b c ca cb cc) 26)) := (zA (by omega)).trans hX3
  have HR3' : Hid ((w3.setCell ⟨w.heap.size + 1 + 1, 2, none⟩ (.slice (some ⟨c', 0, none⟩) l.ts.length l.ts.length)).heap[w.heap.size + 1]? = some (.cells #[.slice none 0 0, .slice none 0 0, .slice none 0 0] 40)) := (zA (by omega)).trans hR3
  have HO3' : Hid ((w3.setCell ⟨w.heap.size + 1 + 1, 2, none⟩ (.slice (some ⟨c', 0, none⟩) l.ts.length l.ts.length)).heap[w.heap.size + 1 + 1]? = some (.cells #[.slice (some ⟨a', 0, none⟩) l.ss.length l.ss.length, .slice (some ⟨b', 0, none⟩) l.ms.length l.ms.length, .slice (some ⟨c', 0, none⟩) l.ts.length l.ts.length] 40)) := zf hO3 _
  have HAB3 : Hid (yh W0.heap.size w3 (w3.setCell ⟨w.heap.size + 1 + 1, 2, none⟩ (.slice (some ⟨c', 0, none⟩) l.ts.length l.ts.length))) := yh.setCell HLO.out _
  have HBB3 : Hid (Below w.heap.size w (w3.setCell ⟨w.heap.size + 1 + 1, 2, none⟩ (.slice (some ⟨c', 0, none⟩) l.ts.length l.ts.length))) := HB3.out.setCell (by show w.heap.size <= w.heap.size + 1 + 1; omega) _
  have HZZ3 : Hid (W0.heap.size <= (w3.setCell ⟨w.heap.size + 1 + 1, 2, none⟩ (.slice (some ⟨c', 0, none⟩) l.ts.length l.ts.length)).heap.size) := by unfold Hid; rw [World.size_setCell]; exact HZ3.out
  clear hX3 hR3 hO3
  have cX3 := fun j => cell_of_block (o := j) HX3'.out
  have cR3 := fun j => cell_of_block (o := j) HR3'.out
  have fR3 := fun j => zi (o := j) HR3'.out
  have cOO3 := fun j => cell_of_block (o := j) HO3'.out
  go_wp2_with fail
  refine bodyPost_ret (v := .agg #[.slice (some ⟨a', 0, none⟩) l.ss.length l.ss.length, .slice (some ⟨b', 0, none⟩) l.ms.length l.ms.length, .slice (some ⟨c', 0, none⟩) l.ts.length l.ts.length]) (by simp [results, Tryz.results7, go_sem, cR3]) rfl ⟨W0.heap.size, a', b', c', rfl, by have := HLO.out; omega, ?_, ?_⟩
  · have hlt1 : w.heap.size + 1 < W0.heap.size := by have := HLO.out; omega
    have hA3 : ∀ v0 v1 v2, yh W0.heap.size w3 ((((w3.setCell ⟨w.heap.size + 1 + 1, 2, none⟩ (.slice (some ⟨c', 0, none⟩) l.ts.length l.ts.length)).setCell ⟨w.heap.size + 1, 0, none⟩ v0).setCell ⟨w.heap.size + 1, 1, none⟩ v1).setCell ⟨w.heap.size + 1, 2, none⟩ v2) := fun v0 v1 v2 => HAB3.out.trans (((yh.setCell (p := ⟨w.heap.size + 1, 0, none⟩) hlt1 v0).trans (yh.setCell (p := ⟨w.heap.size + 1, 1, none⟩) hlt1 v1)).trans (yh.setCell (p := ⟨w.heap.size + 1, 2, none⟩) hlt1 v2))
    exact ⟨HO1.out.above ((HAA2.out.trans HAA3.out).trans (hA3 _ _ _)), HN2.out.above (HAA3.out.trans (hA3 _ _ _)), HN3.out.above (hA3 _ _ _)⟩
  · exact ((HBB3.out.setCell (Nat.le_succ _) _).setCell (Nat.le_succ _) _).setCell (Nat.le_succ _) _
theorem zbX (l : Lw) (a b c : Option Addr) (ca cb cc : Nat) (w : World) (hl : qO w l a b c) (hf : l.Few) :
    Calls Tryz.prog 7 #[.agg (l.cells a b c ca cb cc)] w fun e w' => ∃ a' b' c', e = .returned (.agg (l.cells a' b' c' l.ss.length l.ms.length l.ts.length)) /\ qO w' l a' b' c' /\ Below w.heap.size w w' := by
  refine (zh5 l a b c ca cb cc w hl hf).mono ?_
  rintro e w' ⟨lo, a', b', c', he, _, ho, hb⟩
  exact ⟨_, _, _, he, ho.at hl.small, hb⟩
end Go.Proofs.YtkfigdbbncjojaaGreat

namespace Go.Proofs.YtkfigdbbncjojaaGreat
open Go.RowKit
namespace Gate
def yt (f : Fld) (v res : ByteArray) : Int := if f.kd = 1 /\ f.wg = res then jH v else 0
def zcE (fs : List Fld) (vs : List ByteArray) (res : ByteArray) : Nat -> Int
  | 0 => 0
  | k + 1 => zcE fs vs res k + yt (fs.getD k zaA) (vs.getD k ByteArray.empty) res
def yY (ss : List Shp) (o : Ob) (res : ByteArray) : Int :=
  if zw ss o = true /\ res.toList.isEmpty = false then (if res = o.kd then 1 else 0) + zcE (shapeOf ss o.kd).fs o.vs res (shapeOf ss o.kd).fs.length else 0
theorem zcx (s : ByteArray) : 0 <= jH s /\ jH s <= 10000000 := by
  unfold jH
  split
  · rename_i h
    refine ⟨zbL s h, ?_⟩
    unfold jD at h
    simp only [Bool.and_eq_true, decide_eq_true_eq] at h
    have := (zdC s.data.toList h.2 7 (by have := h.1.1.2; simpa using this)).2
    unfold zeA
    omega
  · omega
theorem zeG (f : Fld) (v res : ByteArray) : 0 <= yt f v res /\ yt f v res <= 10000000 := by
  unfold yt
  split
  · exact zcx v
  · omega
theorem zbC (fs : List Fld) (vs : List ByteArray) (res : ByteArray) : ∀ k, 0 <= zcE fs vs res k /\ zcE fs vs res k <= k * 10000000
  | 0 => by simp [zcE]
  | k + 1 => by
    have h1 := zbC fs vs res k
    have h2 := zeG (fs.getD k zaA) (vs.getD k ByteArray.empty) res
    simp only [zcE]
    omega
theorem zd4 (ss : List Shp) (o : Ob) (res : ByteArray) (h : o.vs.length <= 1048576) : 0 <= yY ss o res /\ yY ss o res <= 20000000000000 := by
  unfold yY
  split
  · rename_i hc
    have hc1 := hc.1
    unfold zw at hc1
    simp only [Bool.and_eq_true, decide_eq_true_eq] at hc1
    have := zbC (shapeOf ss o.kd).fs o.vs res (shapeOf ss o.kd).fs.length
    have h3 := hc1.2
    split <;> omega
  · omega
theorem zmh (fs : List Fld) (vs : List ByteArray) (res : ByteArray) (k : Nat) (h : k < fs.length) (h' : k < vs.length) : zcE fs vs res (k + 1) = zcE fs vs res k + yt fs[k] vs[k] res := by
  have e1 : fs.getD k zaA = fs[k] := by simp [List.getD, h]
  have e2 : vs.getD k ByteArray.empty = vs[k] := by simp [List.getD, h']
  simp only [zcE]
  rw [e1, e2]
end Gate
end Go.Proofs.YtkfigdbbncjojaaGreat

namespace Go.Proofs.YtkfigdbbncjojaaGreat
open Go.RowKit
set_option maxHeartbeats 400000 in
theorem zcF (a : Option Addr) (cap : Nat) (ts : List Tm) (v : ByteArray) (w : World) (hw : qP w a ts) :
    Calls Tryz.prog 50 #[.slice a ts.length cap, .string v] w fun e w' => e = .returned (.bool (Gate.z8 ts v)) /\ w' = w := by
  have hl := hw.len
  unfold maxLen at hl
  go_enter Tryz.func50, Tryz.ntmps50
  go_wp2_with fail
  go_loop [5] (fun i => ∃ k : Nat, k <= ts.length /\ i = .int .i64 k /\ Gate.z8 (ts.take k) v = false) (fun i => ts.length - (intOf i).toNat)
  case atStart => exact ⟨0, Nat.zero_le _, rfl, rfl⟩
  case round =>
    obtain ⟨k, hk, rfl, hall⟩ := hrel
    by_cases hlt : k < ts.length
    · obtain ⟨b, off, rfl, hb, c0, c1⟩ := hw.load (Below.refl _ _) k hlt
      clear hw
      have HS : Hid (Gate.z8 (ts.take (k + 1)) v = (false || decide (ts[k].nm = v))) := by rw [Gate.zcH ts v k hlt, hall]; rfl
      have hltI : (k : Int) < (ts.length : Int) := by omega
      by_cases he : ts[k].nm = v
      · have hbe : (ts[k].nm.toList == v.toList) = true := by rw [Gate.beq_toList]; simpa using he
        have HR := hid (Gate.zlQ ts v k hlt he)
        clear he hall
        go_wp2_with fail
        go_ret
        exact ⟨ze HR.out.symm, rfl⟩
      · have hbe : (ts[k].nm.toList == v.toList) = false := by rw [Gate.beq_toList]; simpa using he
        have HE := hid he
        clear he hall
        go_wp2_with fail
        go_round
        case rel => exact ⟨k + 1, by omega, by go_num, by rw [HS.out, decide_eq_false HE.out]; rfl⟩
        case measure => simp [intOf]; omega
    · have HR : Hid (Gate.z8 ts v = false) := by rw [<- Gate.zdv ts v k (by omega)]; exact hall
      clear hall hw
      go_wp2_with fail
      go_ret
      exact ⟨ze HR.out.symm, rfl⟩
theorem Gate.zej (ts : List Tm) (m : Nat) (z : ByteArray) (h : z.size = 0) : Gate.qR ts m z = z := by
  cases m with
  | zero => rfl
  | succ m => unfold Gate.qR; rw [if_pos h]
theorem Gate.zfu (ts : List Tm) (m : Nat) (z : ByteArray) (h : ¬ z.size = 0) : Gate.qR ts (m + 1) z = Gate.qR ts m (Gate.over ts z) := by
  rw [Gate.qR, if_neg h]
set_option maxHeartbeats 1000000 in
theorem zfR (a : Option Addr) (cap : Nat) (ts : List Tm) (w : World) (hw : qP w a ts) :
    Calls Tryz.prog 48 #[.slice a ts.length cap] w fun e w' => e = .returned (.bool (Gate.jQ ts)) /\ Below w.heap.size w w' := by
  have hl := hw.len
  unfold maxLen at hl
  by_cases h12 : ts.length <= 12
  rotate_left
  · have HF : Hid (Gate.jQ ts = false) := by simp [Hid, Gate.jQ, h12]
    clear hw
    go_enter Tryz.func48, Tryz.ntmps48
    go_wp2_with fail
    go_ret
    exact ⟨ze HF.out.symm, Below.refl _ _⟩
  have HG : Hid (Gate.jQ ts = Gate.up (Gate.zaZ ts) ts.length) := by simp [Hid, Gate.jQ, h12]
  have h12I : (ts.length : Int) <= 12 := by omega
  have HW0 := hid hw
  clear hw
  go_enter Tryz.func48, Tryz.ntmps48
  go_wp2_with fail
  go_loopw [3] (fun i wr => ∃ k : Nat, k <= ts.length /\ i = .int .i64 k /\ Gate.up (Gate.zaZ ts) k = true /\ Below w.heap.size w wr) (fun i _ => ts.length - (intOf i).toNat)
  case atStart => exact ⟨0, Nat.zero_le _, rfl, rfl, Below.refl _ _⟩
  case round =>
    obtain ⟨k, hk, rfl, hup, hB⟩ := hrel
    obtain ⟨W0, rfl⟩ : ∃ W0, W0 = wr := ⟨wr, rfl⟩
    have hsz := hB.size
    by_cases hlt : k < ts.length
    · obtain ⟨b, off, rfl, hb, c0, c1⟩ := HW0.out.load hB k hlt
      have hbr : b < W0.heap.size := by omega
      have hsm := HW0.out.small k hlt
      have hsn := hsm.nm
      have HS : Hid (Gate.yN ts k = true -> Gate.zcg ts k = true -> Gate.up (Gate.zaZ ts) (k + 1) = true) := fun h h' => by rw [Gate.je, hup, Gate.zaZ, h, h']; rfl
      have HN : Hid (Gate.yN ts k = false -> Gate.jQ ts = false) := fun h => by rw [HG.out]; exact Gate.zaF hlt (by rw [Gate.zaZ, h]; rfl)
      have HD : Hid (Gate.zcg ts k = false -> Gate.jQ ts = false) := fun h => by rw [HG.out]; exact Gate.zaF hlt (by rw [Gate.zaZ, h, Bool.and_false])
      have HDS : Hid (Gate.zcg ts k = decide ((Gate.qR ts 5 ts[k].nm).size = 0)) := by unfold Hid Gate.zcg; rw [Gate.getD_at ts k _ hlt]
      have hltI : (k : Int) < (ts.length : Int) := by omega
      have HB := hid hB
      have HBx : Hid (∀ (ob : Obj) (n : Nat), Below W0.heap.size W0 ((W0.alloc ob).drewN n)) := fun ob n => below_drewN ((Below.refl _ _).alloc (Nat.le_refl _) _) _
      have HWr : Hid (∀ (ob : Obj) (n : Nat), qP ((W0.alloc ob).drewN n) (some ⟨b, off, none⟩) ts) := fun ob n => (HW0.out.mono hB).mono (below_drewN ((Below.refl _ _).alloc (Nat.le_refl _) _) _)
      clear hup hsm hB
      by_cases hn : Gate.zy ts[k].nm = true
      rotate_left
      · have HNm : Hid (Gate.zy ts[k].nm = false) := by simpa [Hid] using hn
        have HF : Hid (Gate.yN ts k = false) := by unfold Hid; rw [Gate.zbn ts k hlt _ rfl, HNm.out]; rfl
        clear hn
        go_wp2_with fail
        go_quiet ((go_at_call 56; exact Calls.quiet_of_same (zu HNm.out (zN _ _ hsn))))
        go_wp2_with fail
        go_ret
        exact ⟨ze (HN.out HF.out).symm, HB.out.trans ((HBx.out _ _).mono hsz)⟩
      have HNm : Hid (Gate.zy ts[k].nm = true) := hn
      clear hn
      by_cases hbad : 0 < k /\ Gate.less (ts.getD (k - 1) Gate.zal).nm ts[k].nm = false
      · obtain ⟨hkpos, hls⟩ := hbad
        have HF : Hid (Gate.yN ts k = false) := by
          unfold Hid; rw [Gate.zbn ts k hlt false (by rw [hls, decide_eq_false (show ¬ k = 0 by omega)]; rfl)]; simp
        obtain ⟨m, rfl⟩ : ∃ m, k = m + 1 := ⟨k - 1, by omega⟩
        rw [Nat.add_sub_cancel, Gate.getD_at ts m _ (by omega)] at hls
        obtain ⟨b', off', e', hb', d0, d1⟩ := HW0.out.load HB.out m (by omega)
        simp only [Option.some.injEq, Addr.mk.injEq] at e'
        obtain ⟨rfl, rfl, _⟩ := e'
        have hls' : Op.bytesLess ts[m].nm.toList ts[m + 1].nm.toList = false := hls
        have hmI : (m : Int) < 12 := by omega
        have hm0 : (0 : Int) <= (m : Int) := by omega
        have hml : (m : Int) < (ts.length : Int) := by omega
        have hmw : IntKind.i64.wrap (m : Int) = m := by rw [IntKind.wrap_i64]; omega
        clear hls
        go_wp2_with fail
        go_quiet ((go_at_call 56; exact Calls.quiet_of_same (zu HNm.out (zN _ _ hsn))))
        go_wp2_with fail
        go_ret
        exact ⟨ze (HN.out HF.out).symm, HB.out.trans ((HBx.out _ _).mono hsz)⟩
      have hgd : (decide (k = 0) || Gate.less (ts.getD (k - 1) Gate.zal).nm ts[k].nm) = true := by
        by_cases hk0 : k = 0
        · simp [hk0]
        · cases hq : Gate.less (ts.getD (k - 1) Gate.zal).nm ts[k].nm
          · exact absurd ⟨by omega, hq⟩ hbad
          · simp
      have HA : Hid (Gate.yN ts k = (ts[k].ov.toList.isEmpty || Gate.z8 ts ts[k].ov)) := by
        unfold Hid; rw [Gate.zbn ts k hlt true hgd, HNm.out]; rfl
      have hgood : (decide (0 < k) = false) \/ (decide (0 < k) = true /\ (0 : Int) <= (k : Int) - 1 /\ (k : Int) - 1 < (ts.length : Int) /\ ∃ h : k - 1 < ts.length, Op.bytesLess ts[k - 1].nm.toList ts[k].nm.toList = true /\ W0.cell? ⟨b, off + (k - 1) * 2, none⟩ = some (.string ts[k - 1].nm)) := by
        by_cases hk0 : k = 0
        · exact Or.inl (by simp; omega)
        · refine Or.inr ⟨by simp; omega, by omega, by omega, by omega, ?_, ?_⟩
          · rw [decide_eq_false hk0, Gate.getD_at ts (k - 1) _ (by omega)] at hgd
            exact hgd
          · obtain ⟨b', off', e', hb', d0, d1⟩ := HW0.out.load HB.out (k - 1) (by omega)
            simp only [Option.some.injEq, Addr.mk.injEq] at e'
            obtain ⟨rfl, rfl, _⟩ := e'
            exact d0
      clear hbad hgd
      by_cases hov : ts[k].ov.toList.isEmpty = true
      · have HT : Hid (Gate.yN ts k = true) := by unfold Hid; rw [HA.out, hov]; rfl
        rcases hgood with hg | ⟨hg, hk1, hk2, hkm, hls', d0⟩
        focus
          go_wp2_with fail
        rotate_left
        focus
          go_wp2_with fail
        all_goals
          go_quiet ((go_at_call 56; exact Calls.quiet_of_same (zu HNm.out (zN _ _ hsn))))
          go_wp2_with fail
          obtain ⟨W1, hW1⟩ : ∃ W1, W1 = (W0.alloc (.cells #[.string ts[k].nm, .string ts[k].ov] 131)).drewN nq := ⟨_, rfl⟩
          have HB1 : Hid (Below w.heap.size w W1) := by unfold Hid; rw [hW1]; exact HB.out.trans ((HBx.out _ _).mono hsz)
          have HW1 := hid (HW0.out.mono HB1.out)
          rw [<- hW1]
          clear hW1
          go_loopw [5, 6] (fun p i wi => ∃ (n : Nat) (z : ByteArray), n <= 5 /\ p = .string z /\ i = .int .i64 n /\ Gate.qR ts 5 ts[k].nm = Gate.qR ts (5 - n) z /\ wi = W1) (fun _ i _ => 5 - (intOf i).toNat)
          case atStart => exact ⟨0, ts[k].nm, Nat.zero_le _, rfl, rfl, rfl, rfl⟩
          case round =>
            obtain ⟨n, z, hn5, rfl, rfl, hz, rfl⟩ := hrel
            by_cases hn : n < 5
            · have hnI : (n : Int) <= 4 := by omega
              by_cases hz0 : z.size = 0
              · have hze : z.toList.isEmpty = true := by rw [Gate.zo]; simpa using hz0
                have HDT : Hid (Gate.zcg ts (k) = true) := by unfold Hid; rw [HDS.out, hz, Gate.zej ts _ z hz0]; simpa using hz0
                clear hz hz0
                go_wp2_with fail
                exact ⟨⟨k + 1, by omega, by go_num, HS.out HT.out HDT.out, HB1.out⟩, by simp [intOf]; omega⟩
              · have hze : z.toList.isEmpty = false := by rw [Gate.zo]; simpa using hz0
                have HZ : Hid (Gate.qR ts 5 ts[k].nm = Gate.qR ts (5 - (n + 1)) (Gate.over ts z)) := by
                  obtain ⟨q, hq⟩ : ∃ q, 5 - n = q + 1 := ⟨4 - n, by omega⟩
                  rw [Hid, hz, hq, Gate.zfu ts q z hz0, show 5 - (n + 1) = q by omega]
                clear hz hz0
                go_wp2_with (go_at_call 90; refine (zby _ _ ts _ _ HW1.out).mono ?_; rintro e w' ⟨rfl, rfl⟩)
                exact ⟨⟨n + 1, Gate.over ts z, by omega, rfl, by go_num, HZ.out, trivial⟩, by simp [intOf]; omega⟩
            · have e5 : 5 - n = 0 := by omega
              rw [e5] at hz
              have hnI : ¬ (n : Int) <= 4 := by omega
              by_cases hz0 : z.size = 0
              · have hze : z.toList.isEmpty = true := by rw [Gate.zo]; simpa using hz0
                have HDT : Hid (Gate.zcg ts (k) = true) := by unfold Hid; rw [HDS.out, hz]; simpa [Gate.qR] using hz0
                clear hz hz0
                go_wp2_with fail
                exact ⟨⟨k + 1, by omega, by go_num, HS.out HT.out HDT.out, HB1.out⟩, by simp [intOf]; omega⟩
              · have hze : z.toList.isEmpty = false := by rw [Gate.zo]; simpa using hz0
                have HDT : Hid (Gate.zcg ts (k) = false) := by unfold Hid; rw [HDS.out, hz]; simpa [Gate.qR] using hz0
                clear hz hz0
                go_wp2_with fail
                go_ret
                exact ⟨ze (HD.out HDT.out).symm, HB1.out⟩
      · have hov' : ts[k].ov.toList.isEmpty = false := by simpa using hov
        clear hov
        by_cases hit : Gate.z8 ts ts[k].ov = true
        · have HI := hid hit
          have HT : Hid (Gate.yN ts k = true) := by unfold Hid; rw [HA.out, hit]; simp
          clear hit
          rcases hgood with hg | ⟨hg, hk1, hk2, hkm, hls', d0⟩
          focus
            go_wp2_with fail
          rotate_left
          focus
            go_wp2_with fail
          all_goals
            go_quiet (first | (go_at_call 56; exact Calls.quiet_of_same (zu HNm.out (zN _ _ hsn))) | (go_at_call 50; exact Calls.quiet_of_same (zu HI.out (zcF _ _ ts _ _ (by exact HWr.out _ _)))))
            go_wp2_with fail
            obtain ⟨W1, hW1⟩ : ∃ W1, W1 = (W0.alloc (.cells #[.string ts[k].nm, .string ts[k].ov] 131)).drewN nq := ⟨_, rfl⟩
            have HB1 : Hid (Below w.heap.size w W1) := by unfold Hid; rw [hW1]; exact HB.out.trans ((HBx.out _ _).mono hsz)
            have HW1 := hid (HW0.out.mono HB1.out)
            rw [<- hW1]
            clear hW1
            go_loopw [5, 6] (fun p i wi => ∃ (n : Nat) (z : ByteArray), n <= 5 /\ p = .string z /\ i = .int .i64 n /\ Gate.qR ts 5 ts[k].nm = Gate.qR ts (5 - n) z /\ wi = W1) (fun _ i _ => 5 - (intOf i).toNat)
            case atStart => exact ⟨0, ts[k].nm, Nat.zero_le _, rfl, rfl, rfl, rfl⟩
            case round =>
              obtain ⟨n, z, hn5, rfl, rfl, hz, rfl⟩ := hrel
              by_cases hn : n < 5
              · have hnI : (n : Int) <= 4 := by omega
                by_cases hz0 : z.size = 0
                · have hze : z.toList.isEmpty = true := by rw [Gate.zo]; simpa using hz0
                  have HDT : Hid (Gate.zcg ts (k) = true) := by unfold Hid; rw [HDS.out, hz, Gate.zej ts _ z hz0]; simpa using hz0
                  clear hz hz0
                  go_wp2_with fail
                  exact ⟨⟨k + 1, by omega, by go_num, HS.out HT.out HDT.out, HB1.out⟩, by simp [intOf]; omega⟩
                · have hze : z.toList.isEmpty = false := by rw [Gate.zo]; simpa using hz0
                  have HZ : Hid (Gate.qR ts 5 ts[k].nm = Gate.qR ts (5 - (n + 1)) (Gate.over ts z)) := by
                    obtain ⟨q, hq⟩ : ∃ q, 5 - n = q + 1 := ⟨4 - n, by omega⟩
                    rw [Hid, hz, hq, Gate.zfu ts q z hz0, show 5 - (n + 1) = q by omega]
                  clear hz hz0
                  go_wp2_with (go_at_call 90; refine (zby _ _ ts _ _ HW1.out).mono ?_; rintro e w' ⟨rfl, rfl⟩)
                  exact ⟨⟨n + 1, Gate.over ts z, by omega, rfl, by go_num, HZ.out, trivial⟩, by simp [intOf]; omega⟩
              · have e5 : 5 - n = 0 := by omega
                rw [e5] at hz
                have hnI : ¬ (n : Int) <= 4 := by omega
                by_cases hz0 : z.size = 0
                · have hze : z.toList.isEmpty = true := by rw [Gate.zo]; simpa using hz0
                  have HDT : Hid (Gate.zcg ts (k) = true) := by unfold Hid; rw [HDS.out, hz]; simpa [Gate.qR] using hz0
                  clear hz hz0
                  go_wp2_with fail
                  exact ⟨⟨k + 1, by omega, by go_num, HS.out HT.out HDT.out, HB1.out⟩, by simp [intOf]; omega⟩
                · have hze : z.toList.isEmpty = false := by rw [Gate.zo]; simpa using hz0
                  have HDT : Hid (Gate.zcg ts (k) = false) := by unfold Hid; rw [HDS.out, hz]; simpa [Gate.qR] using hz0
                  clear hz hz0
                  go_wp2_with fail
                  go_ret
                  exact ⟨ze (HD.out HDT.out).symm, HB1.out⟩
        · have HI : Hid (Gate.z8 ts ts[k].ov = false) := by simpa [Hid] using hit
          have HF : Hid (Gate.yN ts k = false) := by unfold Hid; rw [HA.out, HI.out, hov']; rfl
          clear hit
          rcases hgood with hg | ⟨hg, hk1, hk2, hkm, hls', d0⟩
          focus
            go_wp2_with fail
          rotate_left
          focus
            go_wp2_with fail
          all_goals
            go_quiet (first | (go_at_call 56; exact Calls.quiet_of_same (zu HNm.out (zN _ _ hsn))) | (go_at_call 50; exact Calls.quiet_of_same (zu HI.out (zcF _ _ ts _ _ (by exact HWr.out _ _)))))
            go_wp2_with fail
            go_ret
            exact ⟨ze (HN.out HF.out).symm, HB.out.trans ((HBx.out _ _).mono hsz)⟩
    · have HF : Hid (Gate.jQ ts = true) := by
        have e : k = ts.length := by omega
        subst e; rw [Hid, HG.out, hup]
      clear hup
      go_wp2_with fail
      go_ret
      exact ⟨ze HF.out.symm, hB⟩
end Go.Proofs.YtkfigdbbncjojaaGreat
