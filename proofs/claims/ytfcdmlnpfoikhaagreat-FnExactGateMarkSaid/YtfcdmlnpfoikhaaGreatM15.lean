import Derived.Test.YtfcdmlnpfoikhaaGreatM12
import Derived.Deep.RegionHeld3
import Derived.Test.YtfcdmlnpfoikhaaGreatM08
namespace Go.Proofs.YtfcdmlnpfoikhaaGreat
open Go.RowKit
structure Lg where
  tm : ByteArray
  rs : ByteArray
  mo : Int
  fr : Int
def Lg.cells (m : Lg) : Array Value := #[.string m.tm, .string m.rs, .int .i64 m.mo, .int .i64 m.fr]
structure Lg.Small (m : Lg) : Prop where
  tm : m.tm.size <= maxLen
  rs : m.rs.size <= maxLen
structure zb7 (w : World) (a : Option Addr) (ms : List Lg) : Prop where
  len : ms.length <= maxLen
  small : ∀ i (h : i < ms.length), ms[i].Small
  rows : ms ≠ [] -> ∃ b off, a = some ⟨b, off, none⟩ /\ b < w.heap.size /\ ∀ i (h : i < ms.length), ∀ j, j < 4 -> w.cell? ⟨b, off + i * 4 + j, none⟩ = ms[i].cells[j]?
theorem zb7.mono {w w' : World} {a : Option Addr} {ms : List Lg} (h : zb7 w a ms) (hl : Below w.heap.size w w') : zb7 w' a ms :=
  ⟨h.len, h.small, fun hne => by
    obtain ⟨b, off, ha, hb, hr⟩ := h.rows hne
    exact ⟨b, off, ha, Nat.lt_of_lt_of_le hb hl.size, fun i hi j hj => (hl.cell (p := ⟨b, off + i * 4 + j, none⟩) hb).trans (hr i hi j hj)⟩⟩
theorem zb7.load {w w' : World} {a : Option Addr} {ms : List Lg} (h : zb7 w a ms) (hl : Below w.heap.size w w') (i : Nat) (hi : i < ms.length) : ∃ b off, a = some ⟨b, off, none⟩ /\ b < w.heap.size /\
    w'.cell? ⟨b, off + i * 4, none⟩ = some (.string ms[i].tm) /\ w'.cell? ⟨b, off + i * 4 + 1, none⟩ = some (.string ms[i].rs) /\ w'.cell? ⟨b, off + i * 4 + 2, none⟩ = some (.int .i64 ms[i].mo) /\ w'.cell? ⟨b, off + i * 4 + 3, none⟩ = some (.int .i64 ms[i].fr) := by
  obtain ⟨b, off, ha, hb, hr⟩ := h.rows (by rintro rfl; simp at hi)
  have hc : ∀ j, j < 4 -> w'.cell? ⟨b, off + i * 4 + j, none⟩ = ms[i].cells[j]? := fun j hj => (hl.cell (p := ⟨b, off + i * 4 + j, none⟩) hb).trans (hr i hi j hj)
  exact ⟨b, off, ha, hb, hc 0 (by omega), hc 1 (by omega), hc 2 (by omega), hc 3 (by omega)⟩
def Lg.sz (m : Lg) : Nat := m.tm.size + m.rs.size
def zdn (ms : List Lg) : Nat := (ms.map Lg.sz).sum
def zb3 (ms : List Lg) : Nat := ms.length + zdn ms
set_option maxHeartbeats 1000000 in
theorem zcF (m : Lg) (left : Int) (w : World) (hm : m.Small) (h0 : 0 <= left) (h1 : left <= 1048576) :
    Calls Tryz.prog 54 #[.agg m.cells, .int .i64 left] w fun e w' => e = .returned (.int .i64 (zF m.sz left)) /\ Below w.heap.size w w' := by
  have k0 := hm.tm
  have k1 := hm.rs
  unfold maxLen at k0 k1
  unfold Lg.cells
  have hB : ∀ ob, Below w.heap.size w (w.alloc ob) := fun ob => (Below.refl _ _).alloc (Nat.le_refl _) _
  by_cases hf : (m.sz : Int) <= left
  · have HF : Hid (zF m.sz left = left - m.tm.size - m.rs.size) := by
      unfold Hid; rw [zG hf]; unfold Lg.sz; omega
    unfold Lg.sz at hf
    go_enter Tryz.func54, Tryz.ntmps54
    go_wp2_with fail
    go_ret
    exact ⟨zl HF.out.symm, hB _⟩
  · have HF : Hid (zF m.sz left = -1) := zx hf
    have HN : Hid (¬ ((m.tm.size + m.rs.size : Nat) : Int) <= left) := hf
    clear hf
    go_enter Tryz.func54, Tryz.ntmps54
    go_wp2_with fail
    all_goals go_ret
    all_goals first | exact ⟨zl HF.out.symm, hB _⟩ | (exfalso; have := HN.out; simp at *; omega)
theorem zgi (m : Lg) (left : Int) (w : World) (hm : m.Small) (h0 : 0 <= left) (h1 : left <= 1048576) (h : (m.sz : Int) <= left) :
    Calls Tryz.prog 54 #[.agg m.cells, .int .i64 left] w fun e w' => e = .returned (.int .i64 (left - m.sz)) /\ Below w.heap.size w w' := by
  refine (zcF m left w hm h0 h1).mono ?_
  rintro e w' ⟨rfl, hb⟩
  exact ⟨zl (zG h), hb⟩
theorem zgU (m : Lg) (left : Int) (w : World) (hm : m.Small) (h0 : 0 <= left) (h1 : left <= 1048576) (h : ¬ (m.sz : Int) <= left) :
    Calls Tryz.prog 54 #[.agg m.cells, .int .i64 left] w fun e w' => e = .returned (.int .i64 (-1)) /\ Below w.heap.size w w' := by
  refine (zcF m left w hm h0 h1).mono ?_
  rintro e w' ⟨rfl, hb⟩
  exact ⟨zl (zx h), hb⟩
set_option maxHeartbeats 1000000 in
theorem ze0 (a : Option Addr) (cap : Nat) (ms : List Lg) (left : Int) (w : World) (hw : zb7 w a ms) (h0 : 0 <= left) (h1 : left <= 1048576) :
    Calls Tryz.prog 22 #[.slice a ms.length cap, .int .i64 left] w fun e w' => e = .returned (.int .i64 (zF (zb3 ms) left)) /\ Below w.heap.size w w' := by
  have hl := hw.len
  unfold maxLen at hl
  by_cases hfit : (ms.length : Int) <= left
  · go_enter Tryz.func22, Tryz.ntmps22
    go_wp2_with fail
    go_loopw [1, 5] (fun l i wr => ∃ k : Nat, k <= ms.length /\ i = .int .i64 k /\ 0 <= left - ms.length - zdn (ms.take k) /\ l = .int .i64 (left - ms.length - zdn (ms.take k)) /\ Below w.heap.size w wr) (fun _ i _ => ms.length - (intOf i).toNat)
    case atStart => exact ⟨0, Nat.zero_le _, rfl, by simp [zdn]; omega, by simp [zdn], Below.refl _ _⟩
    case round =>
      obtain ⟨k, hk, rfl, hpos, rfl, hB⟩ := hrel
      by_cases hlt : k < ms.length
      · obtain ⟨b, off, rfl, hb, c0, c1, c2, c3⟩ := hw.load hB k hlt
        have hsm := hw.small k hlt
        have HS : Hid (zdn (ms.take (k + 1)) = zdn (ms.take k) + ms[k].sz) := zaA Lg.sz ms k hlt
        have hle : zdn (ms.take (k + 1)) <= zdn ms := zb0 Lg.sz ms (k + 1)
        clear hw
        by_cases hneg : (ms[k].sz : Int) <= left - ms.length - zdn (ms.take k)
        · have HNG : Hid ((ms[k].sz : Int) <= left - ms.length - zdn (ms.take k)) := hneg
          clear hle
          go_wp2_with fail
          refine (zgi _ _ _ hsm hpos (by omega) HNG.out).mono ?_
          rintro e w1 ⟨rfl, hb1⟩
          have hB1 := hB.trans (hb1.mono hB.size)
          clear hb1
          go_wp2_with fail
          exact ⟨⟨k + 1, by omega, by go_num, by rw [HS.out]; omega, by rw [HS.out]; congr 1; omega, hB1⟩, by simp [intOf]; omega⟩
        · have HF : Hid (zF (zb3 ms) left = -1) := zx (by have := HS.out; unfold zb3; omega)
          have HNG := hid hneg
          clear hneg hle
          go_wp2_with fail
          refine (zgU _ _ _ hsm hpos (by omega) (by have := HNG.out; omega)).mono ?_
          rintro e w1 ⟨rfl, hb1⟩
          have hB1 := hB.trans (hb1.mono hB.size)
          clear hb1
          go_wp2_with fail
          go_ret
          exact ⟨zl HF.out.symm, hB1⟩
      · have HF : Hid (zF (zb3 ms) left = left - ms.length - zdn (ms.take k)) := by
          rw [List.take_of_length_le (by omega)] at hpos ⊢
          have e : zF (zb3 ms) left = left - zb3 ms := zG (by unfold zb3; omega)
          unfold Hid; rw [e]; unfold zb3; omega
        clear hw
        go_wp2
        go_ret
        exact ⟨zl HF.out.symm, hB⟩
  · have HF : Hid (zF (zb3 ms) left = -1) := zx (by unfold zb3; omega)
    clear hw
    go_enter Tryz.func22, Tryz.ntmps22
    go_wp2
    go_ret
    exact ⟨zl HF.out.symm, Below.refl _ _⟩
theorem zf0 (m : Lg) (w : World) : Calls Tryz.prog 78 #[.agg m.cells, .agg m.cells] w fun e w' => e = .returned (.bool true) /\ Below w.heap.size w w' := by
  unfold Lg.cells
  have hn2 : (m.mo != m.mo) = false := by simp
  have hn3 : (m.fr != m.fr) = false := by simp
  go_enter Tryz.func78, Tryz.ntmps78
  go_wp2_with fail
  go_ret
  exact ⟨rfl, zq _ _ _⟩
set_option maxHeartbeats 2000000 in
theorem zfn (a a' : Option Addr) (cap cap' : Nat) (ms : List Lg) (w : World) (hw : zb7 w a ms) (hw' : zb7 w a' ms) :
    Calls Tryz.prog 40 #[.slice a ms.length cap, .slice a' ms.length cap'] w fun e w' => e = .returned (.bool true) /\ Below w.heap.size w w' := by
  have hl := hw.len
  unfold maxLen at hl
  have hnn : ((ms.length : Int) != ms.length) = false := by simp
  go_enter Tryz.func40, Tryz.ntmps40
  go_wp2_with fail
  go_loopw [5] (fun i wr => ∃ k : Nat, k <= ms.length /\ i = .int .i64 k /\ Below w.heap.size w wr) (fun i _ => ms.length - (intOf i).toNat)
  case atStart => exact ⟨0, Nat.zero_le _, rfl, Below.refl _ _⟩
  case round =>
    obtain ⟨k, hk, rfl, hB⟩ := hrel
    by_cases hlt : k < ms.length
    · obtain ⟨b, off, rfl, hb, c0, c1, c2, c3⟩ := hw.load hB k hlt
      obtain ⟨b', off', rfl, hb', d0, d1, d2, d3⟩ := hw'.load hB k hlt
      have hltI : (k : Int) < (ms.length : Int) := by omega
      clear hw hw'
      go_wp2_with fail
      go_region_with (go_at_call 78; refine (zf0 ms[k] _).mono ?_; rintro e w1 ⟨rfl, hb1'⟩; have hb1 := (Below.refl wr.heap.size wr).drew.trans hb1'; clear hb1')
      all_goals go_wp2_with fail
      all_goals exact ⟨⟨k + 1, by omega, by go_num, hB.trans (hb1.mono hB.size)⟩, by simp [intOf]; omega⟩
    · clear hw hw'
      go_wp2_with fail
      go_ret
      exact ⟨rfl, hB⟩
structure jA (lo : Nat) (w : World) (bo : Nat) (ms : List Lg) (k : Nat) : Prop where
  low : lo <= bo
  rows : ∃ C, w.heap[bo]? = some (.cells C 130) /\ C.size = ms.length * 4 /\ ∀ i (h : i < ms.length), i < k -> ∀ j, j < 4 -> C[i * 4 + j]? = ms[i].cells[j]?
theorem jA.at {lo : Nat} {w : World} {bo : Nat} {ms : List Lg} (h : jA lo w bo ms ms.length) (hs : ∀ i (h : i < ms.length), ms[i].Small) (hl : ms.length <= maxLen) : zb7 w (some ⟨bo, 0, none⟩) ms := by
  obtain ⟨C, hC, hsz, hr⟩ := h.rows
  refine ⟨hl, hs, fun _ => ⟨bo, 0, rfl, (Array.getElem?_eq_some_iff.1 hC).1, fun i hi j hj => ?_⟩⟩
  rw [cell_of_block hC, Nat.zero_add]
  exact hr i hi hi j hj
theorem jA.later {lo : Nat} {w w' : World} {bo : Nat} {ms : List Lg} {k : Nat} (h : jA lo w bo ms k) (hb : Below w.heap.size w w') : jA lo w' bo ms k := by
  obtain ⟨C, hC, hsz, hr⟩ := h.rows
  exact ⟨h.low, C, (hb.block bo (Array.getElem?_eq_some_iff.1 hC).1).trans hC, hsz, hr⟩
theorem jA.above {lo : Nat} {w w' : World} {bo : Nat} {ms : List Lg} {k : Nat} (h : jA lo w bo ms k) (ha : yt lo w w') : jA lo w' bo ms k := by
  obtain ⟨C, hC, hr⟩ := h.rows
  exact ⟨h.low, C, (ha.same _ h.low (Array.getElem?_eq_some_iff.1 hC).1).trans hC, hr⟩
theorem jA.weaken {lo lo' : Nat} {w : World} {bo : Nat} {ms : List Lg} {k : Nat} (h : jA lo w bo ms k) (hl : lo' <= lo) : jA lo' w bo ms k := ⟨Nat.le_trans hl h.low, h.rows⟩
def zoO (w : World) (b o : Nat) (v0 v1 v2 v3 : Value) : World := ((((w.setCell ⟨b, o, none⟩ v0).setCell ⟨b, o + 1, none⟩ v1).setCell ⟨b, o + 2, none⟩ v2).setCell ⟨b, o + 3, none⟩ v3)
def zhB (C : Array Value) (o : Nat) (v0 v1 v2 v3 : Value) : Array Value := ((((C.setIfInBounds (o) v0).setIfInBounds (o + 1) v1).setIfInBounds (o + 2) v2).setIfInBounds (o + 3) v3)
theorem zl6 {w : World} {b o : Nat} {C : Array Value} {t : TypeId} (h : w.heap[b]? = some (.cells C t)) (v0 v1 v2 v3 : Value) : (zoO w b o v0 v1 v2 v3).heap[b]? = some (.cells (zhB C o v0 v1 v2 v3) t) :=
  zf (zf (zf (zf h v0) v1) v2) v3
theorem zmb {B : Nat} {a w : World} (h : Below B a w) {b : Nat} (hb : B <= b) (o : Nat) (v0 v1 v2 v3 : Value) : Below B a (zoO w b o v0 v1 v2 v3) :=
  (((h.setCell hb v0).setCell hb v1).setCell hb v2).setCell hb v3
theorem zmq (C : Array Value) (o : Nat) (v0 v1 v2 v3 : Value) : (zhB C o v0 v1 v2 v3).size = C.size := by simp [zhB]
theorem zn5 (C : Array Value) (o i : Nat) (v0 v1 v2 v3 : Value) (h : i < o \/ o + 4 <= i) : (zhB C o v0 v1 v2 v3)[i]? = C[i]? := by
  unfold zhB
  iterate 4 rw [Array.getElem?_setIfInBounds, if_neg (by omega)]
theorem zoz (C : Array Value) (o j : Nat) (v0 v1 v2 v3 : Value) (hj : j < 4) (ho : o + 4 <= C.size) : (zhB C o v0 v1 v2 v3)[o + j]? = (#[v0, v1, v2, v3] : Array Value)[j]? := by
  have hc : j = 0 \/ j = 1 \/ j = 2 \/ j = 3 := by omega
  unfold zhB
  rcases hc with h | h | h | h <;> subst h <;> simp [Array.getElem?_setIfInBounds] <;> omega
theorem jA.put {lo : Nat} {w : World} {bo : Nat} {ms : List Lg} {k : Nat} (h : jA lo w bo ms k) (hk : k < ms.length) :
    jA lo (zoO w bo (k * 4) (.string ms[k].tm) (.string ms[k].rs) (.int .i64 ms[k].mo) (.int .i64 ms[k].fr)) bo ms (k + 1) := by
  obtain ⟨C, hC, hsz, hr⟩ := h.rows
  refine ⟨h.low, _, zl6 hC _ _ _ _, by rw [zmq]; exact hsz, fun i hi hik j hj => ?_⟩
  rcases Nat.lt_or_ge i k with hlt | hge
  · rw [zn5 _ _ _ _ _ _ _ (by omega)]
    exact hr i hi hlt j hj
  · have e : i = k := by omega
    subst e
    rw [zoz _ _ _ _ _ _ _ hj (by omega)]
    rfl
set_option maxHeartbeats 1000000 in
theorem zfT (m : Lg) (w : World) :
    Calls Tryz.prog 67 #[.agg m.cells] w fun e w' => e = .returned (.agg m.cells) /\ Below w.heap.size w w' := by
  unfold Lg.cells
  go_enter Tryz.func67, Tryz.ntmps67
  go_wp2_with fail
  refine bodyPost_ret (v := .agg #[.string m.tm, .string m.rs, .int .i64 m.mo, .int .i64 m.fr]) (by simp [results, Tryz.results67, go_sem]) rfl ⟨rfl, ?_⟩
  exact ((((Below.refl _ _).alloc (Nat.le_refl _) _).alloc (by simp) _).alloc (by simp; omega) _)
def zoV : Array Value := #[.string ByteArray.empty, .string ByteArray.empty, .int .i64 0, .int .i64 0]
def znw (n : Nat) : Array Value := madeCells zoV (n * 4)
set_option maxHeartbeats 2000000 in
theorem zfp (a : Option Addr) (cap : Nat) (ms : List Lg) (w : World) (hw : zb7 w a ms) (hl : ms.length <= 1048576) :
    Calls Tryz.prog 31 #[.slice a ms.length cap] w fun e w' => e = .returned (.slice (some ⟨w.heap.size, 0, none⟩) ms.length ms.length) /\ jA w.heap.size w' w.heap.size ms ms.length /\ Below w.heap.size w w' := by
  have hmk : ∀ w : World, (Instr.makeSlice 45 (.int .i64 ms.length) (.int .i64 ms.length)).run Tryz.prog w = .ok (.slice (some ⟨w.heap.size, 0, none⟩) ms.length ms.length) (w.alloc (.cells (znw ms.length) 130)) :=
    fun w => qQ (P := Tryz.prog) 45 130 (.agg zoV) 4 48 Tryz.underlying45 (by kernel_rfl) ms.length (by omega) (by omega) w
  go_enter Tryz.func31, Tryz.ntmps31
  go_wp2_with fail
  clear hmk
  go_loopw [4] (fun i wr => ∃ k : Nat, k <= ms.length /\ i = .int .i64 k /\ jA w.heap.size wr w.heap.size ms k /\ Below w.heap.size w wr) (fun i _ => ms.length - (intOf i).toNat)
  case atStart => exact ⟨0, Nat.zero_le _, rfl, ⟨Nat.le_refl _, znw ms.length, (MapKept.heap_alloc w _).1, size_madeCells _ _, fun i _ h => absurd h (by omega)⟩, (Below.refl _ _).alloc (Nat.le_refl _) _⟩
  case round =>
    obtain ⟨k, hk, rfl, hown, hB⟩ := hrel
    by_cases hlt : k < ms.length
    · obtain ⟨b, off, rfl, hb, c0, c1, c2, c3⟩ := hw.load hB k hlt
      have hltI : (k : Int) < (ms.length : Int) := by omega
      clear hw
      go_wp2_with fail
      refine (zfT ms[k] _).mono ?_
      rintro e w1 ⟨rfl, hb1⟩
      have hB1 := hB.trans (hb1.mono hB.size)
      have hown1 := hown.later hb1
      have hbo : w.heap.size < wr.heap.size := by
        obtain ⟨C', hC', _⟩ := hown.rows
        exact (Array.getElem?_eq_some_iff.1 hC').1
      obtain ⟨C, hC, hsz, _⟩ := hown1.rows
      have hfz : ∀ o, w1.frozen? ⟨w.heap.size, o, none⟩ = false := fun o => zh hC
      have hex : ∀ o, o < ms.length * 4 -> ∃ v, w1.cell? ⟨w.heap.size, o, none⟩ = some v := fun o ho => ⟨C[o]'(by omega), by rw [cell_of_block hC]; exact Array.getElem?_eq_getElem (by omega)⟩
      obtain ⟨v0, hv0⟩ := hex (k * 4) (by omega)
      obtain ⟨v1, hv1⟩ := hex (k * 4 + 1) (by omega)
      obtain ⟨v2, hv2⟩ := hex (k * 4 + 2) (by omega)
      obtain ⟨v3, hv3⟩ := hex (k * 4 + 3) (by omega)
      have HP := hid hown1
      clear hex hC hsz c0 c1 c2 c3 hown hown1
      unfold Lg.cells
      go_wp2_with fail
      exact ⟨⟨k + 1, by omega, by go_num, HP.out.put hlt, zmb hB1 (Nat.le_refl _) _ _ _ _ _⟩, by simp [intOf]; omega⟩
    · have HF : Hid (jA w.heap.size wr w.heap.size ms ms.length) := by
        have e : k = ms.length := by omega
        subst e; exact hown
      clear hw hown
      go_wp2_with fail
      go_ret
      exact ⟨rfl, HF.out, hB⟩
end Go.Proofs.YtfcdmlnpfoikhaaGreat

namespace Go.Proofs.YtfcdmlnpfoikhaaGreat
open Go.RowKit
def Ob.row (o : Ob) (a0 a1 : Option Addr) (c0 c1 : Nat) : Array Value := #[.string o.kd, .string o.nm, .string o.tm, .slice a0 o.vs.length c0, .bool o.en, .slice a1 o.hs.length c1, .int .i64 o.vr]
def Ob.sz (o : Ob) : Nat := zcH o
theorem Ob.zmL {o : Ob} (h : (o.sz : Int) <= 1048576) : o.vs.length <= 1048576 /\ o.hs.length <= 1048576 := zpl h (Int.le_refl _)
theorem zcG (o : Ob) (a0 a1 : Option Addr) (c0 c1 : Nat) (left : Int) (w : World) (hm : o.Small) (h0' : zB w a0 o.vs) (h1' : zB w a1 o.hs) (h0 : 0 <= left) (h1 : left <= 1048576) :
    Calls Tryz.prog 52 #[.agg (o.row a0 a1 c0 c1), .int .i64 left] w fun e w' => e = .returned (.int .i64 (zF o.sz left)) /\ Below w.heap.size w w' := zfX o a0 a1 c0 c1 left w ⟨hm, h0', h1'⟩ h0 h1
theorem zgb (o : Ob) (a0 a1 : Option Addr) (c0 c1 : Nat) (a0' a1' : Option Addr) (c0' c1' : Nat) (w : World) (hm : o.Small) (h0 : zB w a0 o.vs) (h1 : zB w a1 o.hs) (h0' : zB w a0' o.vs) (h1' : zB w a1' o.hs) :
    Calls Tryz.prog 76 #[.agg (o.row a0 a1 c0 c1), .agg (o.row a0' a1' c0' c1')] w fun e w' => e = .returned (.bool true) /\ Below w.heap.size w w' := zf4 o a0 a1 a0' a1' c0 c1 c0' c1' w ⟨hm, h0, h1⟩ ⟨hm, h0', h1'⟩
theorem zfS (o : Ob) (a0 a1 : Option Addr) (c0 c1 : Nat) (w : World) (hm : o.Small) (h0 : zB w a0 o.vs) (h1 : zB w a1 o.hs) (hl : o.vs.length <= 1048576 /\ o.hs.length <= 1048576) :
    Calls Tryz.prog 65 #[.agg (o.row a0 a1 c0 c1)] w fun e w' => ∃ g0 g1, e = .returned (.agg (o.row (some ⟨g0, 0, none⟩) (some ⟨g1, 0, none⟩) o.vs.length o.hs.length)) /\ w.heap.size <= g0 /\ w'.heap[g0]? = some (.cells (ji o.vs) 9) /\ w.heap.size <= g1 /\ w'.heap[g1]? = some (.cells (ji o.hs) 9) /\ Below w.heap.size w w' := by
  refine (zgj o a0 a1 c0 c1 w ⟨hm, h0, h1⟩ hl.1 hl.2).mono ?_
  rintro e w' ⟨bv, bh, he, hv, hh, _, hbv, hbh, hb⟩
  exact ⟨bv, bh, he, hv, hbv, hh, hbh, hb⟩
structure znR (w : World) (b off : Nat) (x : Ob) (a0 a1 : Option Addr) (c0 c1 : Nat) : Prop where
  small : x.Small
  l0 : zB w a0 x.vs
  l1 : zB w a1 x.hs
  cell : ∀ j, j < 7 -> w.cell? ⟨b, off + j, none⟩ = (Ob.row x a0 a1 c0 c1)[j]?
structure zbf (w : World) (a : Option Addr) (ms : List Ob) : Prop where
  len : ms.length <= maxLen
  rows : ms ≠ [] -> ∃ b off, a = some ⟨b, off, none⟩ /\ b < w.heap.size /\ ∀ i (h : i < ms.length), ∃ a0 a1 c0 c1, znR w b (off + i * 7) ms[i] a0 a1 c0 c1
theorem znR.mono {w w' : World} {b off : Nat} {x : Ob} {a0 a1 : Option Addr} {c0 c1 : Nat} (h : znR w b off x a0 a1 c0 c1) (hb : b < w.heap.size) (hl : Below w.heap.size w w') : znR w' b off x a0 a1 c0 c1 :=
  ⟨h.small, h.l0.mono hl, h.l1.mono hl, fun j hj => (hl.cell (p := ⟨b, off + j, none⟩) hb).trans (h.cell j hj)⟩
theorem zbf.mono {w w' : World} {a : Option Addr} {ms : List Ob} (h : zbf w a ms) (hl : Below w.heap.size w w') : zbf w' a ms :=
  ⟨h.len, fun hne => by
    obtain ⟨b, off, ha, hb, hr⟩ := h.rows hne
    refine ⟨b, off, ha, Nat.lt_of_lt_of_le hb hl.size, fun i hi => ?_⟩
    obtain ⟨a0, a1, c0, c1, hf⟩ := hr i hi
    exact ⟨a0, a1, c0, c1, hf.mono hb hl⟩⟩
theorem zbf.load {w w' : World} {a : Option Addr} {ms : List Ob} (h : zbf w a ms) (hl : Below w.heap.size w w') (i : Nat) (hi : i < ms.length) : ∃ b off a0 a1 c0 c1, a = some ⟨b, off, none⟩ /\ b < w.heap.size /\ ms[i].Small /\ zB w' a0 ms[i].vs /\ zB w' a1 ms[i].hs /\
    w'.cell? ⟨b, off + i * 7, none⟩ = some (.string ms[i].kd) /\ w'.cell? ⟨b, off + i * 7 + 1, none⟩ = some (.string ms[i].nm) /\ w'.cell? ⟨b, off + i * 7 + 2, none⟩ = some (.string ms[i].tm) /\ w'.cell? ⟨b, off + i * 7 + 3, none⟩ = some (.slice a0 ms[i].vs.length c0) /\ w'.cell? ⟨b, off + i * 7 + 4, none⟩ = some (.bool ms[i].en) /\ w'.cell? ⟨b, off + i * 7 + 5, none⟩ = some (.slice a1 ms[i].hs.length c1) /\ w'.cell? ⟨b, off + i * 7 + 6, none⟩ = some (.int .i64 ms[i].vr) := by
  obtain ⟨b, off, ha, hb, hr⟩ := h.rows (by rintro rfl; simp at hi)
  obtain ⟨a0, a1, c0, c1, hf0⟩ := hr i hi
  have hf := hf0.mono hb hl
  exact ⟨b, off, a0, a1, c0, c1, ha, hb, hf.small, hf.l0, hf.l1, hf.cell 0 (by omega), hf.cell 1 (by omega), hf.cell 2 (by omega), hf.cell 3 (by omega), hf.cell 4 (by omega), hf.cell 5 (by omega), hf.cell 6 (by omega)⟩
def zaB (ms : List Ob) : Nat := (ms.map Ob.sz).sum
def yX (ms : List Ob) : Nat := ms.length + zaB ms
structure ze5 (ms : List Ob) : Prop where
  small : ∀ i (h : i < ms.length), ms[i].Small /\ (ms[i].vs.length <= maxLen /\ ∀ s ∈ ms[i].vs, s.size <= maxLen) /\ (ms[i].hs.length <= maxLen /\ ∀ s ∈ ms[i].hs, s.size <= maxLen)
theorem zbf.smalls {w : World} {a : Option Addr} {ms : List Ob} (h : zbf w a ms) : ze5 ms :=
  ⟨fun i hi => by
    obtain ⟨b, off, _, _, hr⟩ := h.rows (by rintro rfl; simp at hi)
    obtain ⟨a0, a1, c0, c1, hf⟩ := hr i hi
    exact ⟨hf.small, ⟨hf.l0.len, hf.l0.small⟩, ⟨hf.l1.len, hf.l1.small⟩⟩⟩
theorem zkh {ms : List Ob} {left : Int} (h : (yX ms : Int) <= left) (hl : left <= 1048576) : ms.length <= 1048576 /\ ∀ i (h : i < ms.length), ms[i].vs.length <= 1048576 /\ ms[i].hs.length <= 1048576 := by
  unfold yX at h
  refine ⟨by omega, fun i hi => ?_⟩
  have h1 : ms[i].sz <= zaB ms := zhv Ob.sz ms i hi
  exact Ob.zmL (by omega)
set_option maxHeartbeats 1000000 in
theorem zfd (a : Option Addr) (cap : Nat) (ms : List Ob) (left : Int) (w : World) (hw : zbf w a ms) (h0 : 0 <= left) (h1 : left <= 1048576) :
    Calls Tryz.prog 20 #[.slice a ms.length cap, .int .i64 left] w fun e w' => e = .returned (.int .i64 (zF (yX ms) left)) /\ Below w.heap.size w w' := by
  have hl := hw.len
  unfold maxLen at hl
  by_cases hfit : (ms.length : Int) <= left
  · go_enter Tryz.func20, Tryz.ntmps20
    go_wp2_with fail
    go_loopw [1, 5] (fun l i wr => ∃ k : Nat, k <= ms.length /\ i = .int .i64 k /\ 0 <= left - ms.length - zaB (ms.take k) /\ l = .int .i64 (left - ms.length - zaB (ms.take k)) /\ Below w.heap.size w wr) (fun _ i _ => ms.length - (intOf i).toNat)
    case atStart => exact ⟨0, Nat.zero_le _, rfl, by simp [zaB]; omega, by simp [zaB], Below.refl _ _⟩
    case round =>
      obtain ⟨k, hk, rfl, hpos, rfl, hB⟩ := hrel
      by_cases hlt : k < ms.length
      · obtain ⟨b, off, a0, a1, c0, c1, rfl, hb, hsm, hl0, hl1, d0, d1, d2, d3, d4, d5, d6⟩ := hw.load hB k hlt
        have hbr := Nat.lt_of_lt_of_le hb hB.size
        have HS : Hid (zaB (ms.take (k + 1)) = zaB (ms.take k) + ms[k].sz) := zaA Ob.sz ms k hlt
        have hle : zaB (ms.take (k + 1)) <= zaB ms := zb0 Ob.sz ms (k + 1)
        have HI : Hid (zB wr a0 ms[k].vs /\ zB wr a1 ms[k].hs) := ⟨hl0, hl1⟩
        clear hw hl0 hl1
        by_cases hneg : (ms[k].sz : Int) <= left - ms.length - zaB (ms.take k)
        · have HNG : Hid ((ms[k].sz : Int) <= left - ms.length - zaB (ms.take k)) := hneg
          clear hle
          go_wp2_with fail
          refine (zcG ms[k] a0 a1 c0 c1 _ _ hsm HI.out.1 HI.out.2 hpos (by omega)).mono ?_
          rintro e w1 ⟨rfl, hb1⟩
          rw [zG HNG.out]
          have hB1 := hB.trans (hb1.mono hB.size)
          clear hb1
          go_wp2_with fail
          exact ⟨⟨k + 1, by omega, by go_num, by rw [HS.out]; omega, by rw [HS.out]; congr 1; omega, hB1⟩, by simp [intOf]; omega⟩
        · have HF : Hid (zF (yX ms) left = -1) := zx (by have := HS.out; unfold yX; omega)
          have HNG := hid hneg
          clear hneg hle
          go_wp2_with fail
          refine (zcG ms[k] a0 a1 c0 c1 _ _ hsm HI.out.1 HI.out.2 hpos (by omega)).mono ?_
          rintro e w1 ⟨rfl, hb1⟩
          rw [zx (by have := HNG.out; omega)]
          have hB1 := hB.trans (hb1.mono hB.size)
          clear hb1
          go_wp2_with fail
          go_ret
          exact ⟨zl HF.out.symm, hB1⟩
      · have HF : Hid (zF (yX ms) left = left - ms.length - zaB (ms.take k)) := by
          rw [List.take_of_length_le (by omega)] at hpos ⊢
          have e : zF (yX ms) left = left - yX ms := zG (by unfold yX; omega)
          unfold Hid; rw [e]; unfold yX; omega
        clear hw
        go_wp2
        go_ret
        exact ⟨zl HF.out.symm, hB⟩
  · have HF : Hid (zF (yX ms) left = -1) := zx (by unfold yX; omega)
    clear hw
    go_enter Tryz.func20, Tryz.ntmps20
    go_wp2
    go_ret
    exact ⟨zl HF.out.symm, Below.refl _ _⟩
set_option maxHeartbeats 2000000 in
theorem zfj (a a' : Option Addr) (cap cap' : Nat) (ms : List Ob) (w : World) (hw : zbf w a ms) (hw' : zbf w a' ms) :
    Calls Tryz.prog 38 #[.slice a ms.length cap, .slice a' ms.length cap'] w fun e w' => e = .returned (.bool true) /\ Below w.heap.size w w' := by
  have hl := hw.len
  unfold maxLen at hl
  have hnn : ((ms.length : Int) != ms.length) = false := by simp
  go_enter Tryz.func38, Tryz.ntmps38
  go_wp2_with fail
  go_loopw [5] (fun i wr => ∃ k : Nat, k <= ms.length /\ i = .int .i64 k /\ Below w.heap.size w wr) (fun i _ => ms.length - (intOf i).toNat)
  case atStart => exact ⟨0, Nat.zero_le _, rfl, Below.refl _ _⟩
  case round =>
    obtain ⟨k, hk, rfl, hB⟩ := hrel
    by_cases hlt : k < ms.length
    · obtain ⟨b, off, a0, a1, c0, c1, rfl, hb, hsm, hl0, hl1, d0, d1, d2, d3, d4, d5, d6⟩ := hw.load hB k hlt
      obtain ⟨b', off', a0', a1', c0', c1', rfl, hb', _, hl0', hl1', f0, f1, f2, f3, f4, f5, f6⟩ := hw'.load hB k hlt
      have hltI : (k : Int) < (ms.length : Int) := by omega
      clear hw hw'
      go_wp2_with fail
      go_region_with (go_at_call 76; refine (zgb ms[k] a0 a1 c0 c1 a0' a1' c0' c1' _ hsm (by exact hl0.mono ((Below.refl _ _).drew)) (by exact hl1.mono ((Below.refl _ _).drew)) (by exact hl0'.mono ((Below.refl _ _).drew)) (by exact hl1'.mono ((Below.refl _ _).drew))).mono ?_; rintro e w1 ⟨rfl, hb1'⟩; have hb1 := (Below.refl wr.heap.size wr).drew.trans hb1'; clear hb1')
      all_goals go_wp2_with fail
      all_goals exact ⟨⟨k + 1, by omega, by go_num, hB.trans (hb1.mono hB.size)⟩, by simp [intOf]; omega⟩
    · clear hw hw'
      go_wp2_with fail
      go_ret
      exact ⟨rfl, hB⟩
structure qV (lo : Nat) (w : World) (bo : Nat) (ms : List Ob) (k : Nat) : Prop where
  low : lo <= bo
  rows : ∃ C, w.heap[bo]? = some (.cells C 115) /\ C.size = ms.length * 7 /\
    ∀ i (h : i < ms.length), i < k -> ∃ g0 g1, lo <= g0 /\ g0 ≠ bo /\ w.heap[g0]? = some (.cells (ji ms[i].vs) 9) /\ lo <= g1 /\ g1 ≠ bo /\ w.heap[g1]? = some (.cells (ji ms[i].hs) 9) /\ ∀ j, j < 7 -> C[i * 7 + j]? = (Ob.row ms[i] (some ⟨g0, 0, none⟩) (some ⟨g1, 0, none⟩) ms[i].vs.length ms[i].hs.length)[j]?
theorem qV.at {lo : Nat} {w : World} {bo : Nat} {ms : List Ob} (h : qV lo w bo ms ms.length) (hs : ze5 ms) (hl : ms.length <= maxLen) : zbf w (some ⟨bo, 0, none⟩) ms := by
  obtain ⟨C, hC, hsz, hr⟩ := h.rows
  refine ⟨hl, fun _ => ⟨bo, 0, rfl, (Array.getElem?_eq_some_iff.1 hC).1, fun i hi => ?_⟩⟩
  obtain ⟨g0, g1, _, _, hk0, _, _, hk1, hc⟩ := hr i hi hi
  obtain ⟨s0, s1, s2⟩ := hs.small i hi
  refine ⟨some ⟨g0, 0, none⟩, some ⟨g1, 0, none⟩, ms[i].vs.length, ms[i].hs.length, s0, zcD hk0 s1.1 s1.2, zcD hk1 s2.1 s2.2, fun j hj => ?_⟩
  rw [cell_of_block hC, Nat.zero_add]
  exact hc j hj
theorem qV.above {lo : Nat} {w w' : World} {bo : Nat} {ms : List Ob} {k : Nat} (h : qV lo w bo ms k) (ha : yt lo w w') : qV lo w' bo ms k := by
  obtain ⟨C, hC, hsz, hr⟩ := h.rows
  refine ⟨h.low, C, (ha.same _ h.low (Array.getElem?_eq_some_iff.1 hC).1).trans hC, hsz, fun i hi hk => ?_⟩
  obtain ⟨g0, g1, p0, q0, r0, p1, q1, r1, hc⟩ := hr i hi hk
  exact ⟨g0, g1, p0, q0, (ha.same _ p0 (Array.getElem?_eq_some_iff.1 r0).1).trans r0, p1, q1, (ha.same _ p1 (Array.getElem?_eq_some_iff.1 r1).1).trans r1, hc⟩
theorem qV.later {lo : Nat} {w w' : World} {bo : Nat} {ms : List Ob} {k : Nat} (h : qV lo w bo ms k) (hb : Below w.heap.size w w') : qV lo w' bo ms k := h.above (yt.below hb)
theorem qV.weaken {lo lo' : Nat} {w : World} {bo : Nat} {ms : List Ob} {k : Nat} (h : qV lo w bo ms k) (hl : lo' <= lo) : qV lo' w bo ms k := by
  obtain ⟨C, hC, hsz, hr⟩ := h.rows
  refine ⟨Nat.le_trans hl h.low, C, hC, hsz, fun i hi hk => ?_⟩
  obtain ⟨g0, g1, p0, q0, r0, p1, q1, r1, hc⟩ := hr i hi hk
  exact ⟨g0, g1, Nat.le_trans hl p0, q0, r0, Nat.le_trans hl p1, q1, r1, hc⟩
def zlq (w : World) (b o : Nat) (v0 v1 v2 v3 v4 v5 v6 : Value) : World := (((((((w.setCell ⟨b, o, none⟩ v0).setCell ⟨b, o + 1, none⟩ v1).setCell ⟨b, o + 2, none⟩ v2).setCell ⟨b, o + 3, none⟩ v3).setCell ⟨b, o + 4, none⟩ v4).setCell ⟨b, o + 5, none⟩ v5).setCell ⟨b, o + 6, none⟩ v6)
def zih (C : Array Value) (o : Nat) (v0 v1 v2 v3 v4 v5 v6 : Value) : Array Value := (((((((C.setIfInBounds (o) v0).setIfInBounds (o + 1) v1).setIfInBounds (o + 2) v2).setIfInBounds (o + 3) v3).setIfInBounds (o + 4) v4).setIfInBounds (o + 5) v5).setIfInBounds (o + 6) v6)
theorem zkW {w : World} {b o : Nat} {C : Array Value} {t : TypeId} (h : w.heap[b]? = some (.cells C t)) (v0 v1 v2 v3 v4 v5 v6 : Value) : (zlq w b o v0 v1 v2 v3 v4 v5 v6).heap[b]? = some (.cells (zih C o v0 v1 v2 v3 v4 v5 v6) t) :=
  zf (zf (zf (zf (zf (zf (zf h v0) v1) v2) v3) v4) v5) v6
theorem zle {B : Nat} {a w : World} (h : Below B a w) {b : Nat} (hb : B <= b) (o : Nat) (v0 v1 v2 v3 v4 v5 v6 : Value) : Below B a (zlq w b o v0 v1 v2 v3 v4 v5 v6) :=
  ((((((h.setCell hb v0).setCell hb v1).setCell hb v2).setCell hb v3).setCell hb v4).setCell hb v5).setCell hb v6
theorem zcf (w : World) (b o : Nat) (v0 v1 v2 v3 v4 v5 v6 : Value) {b' : Nat} (h : b' ≠ b) : (zlq w b o v0 v1 v2 v3 v4 v5 v6).heap[b']? = w.heap[b']? := by
  unfold zlq
  iterate 7 rw [zA h]
theorem znb (C : Array Value) (o : Nat) (v0 v1 v2 v3 v4 v5 v6 : Value) : (zih C o v0 v1 v2 v3 v4 v5 v6).size = C.size := by simp [zih]
theorem znU (C : Array Value) (o i : Nat) (v0 v1 v2 v3 v4 v5 v6 : Value) (h : i < o \/ o + 7 <= i) : (zih C o v0 v1 v2 v3 v4 v5 v6)[i]? = C[i]? := by
  unfold zih
  iterate 7 rw [Array.getElem?_setIfInBounds, if_neg (by omega)]
theorem zoe (C : Array Value) (o j : Nat) (v0 v1 v2 v3 v4 v5 v6 : Value) (hj : j < 7) (ho : o + 7 <= C.size) : (zih C o v0 v1 v2 v3 v4 v5 v6)[o + j]? = (#[v0, v1, v2, v3, v4, v5, v6] : Array Value)[j]? := by
  have hc : j = 0 \/ j = 1 \/ j = 2 \/ j = 3 \/ j = 4 \/ j = 5 \/ j = 6 := by omega
  unfold zih
  rcases hc with h | h | h | h | h | h | h <;> subst h <;> simp [Array.getElem?_setIfInBounds] <;> omega
theorem qV.put {lo : Nat} {w : World} {bo : Nat} {ms : List Ob} {k : Nat} (h : qV lo w bo ms k) (hk : k < ms.length) (g0 g1 : Nat) (p0 : lo <= g0) (q0 : g0 ≠ bo) (r0 : w.heap[g0]? = some (.cells (ji ms[k].vs) 9)) (p1 : lo <= g1) (q1 : g1 ≠ bo) (r1 : w.heap[g1]? = some (.cells (ji ms[k].hs) 9)) :
    qV lo (zlq w bo (k * 7) (.string ms[k].kd) (.string ms[k].nm) (.string ms[k].tm) (.slice (some ⟨g0, 0, none⟩) ms[k].vs.length ms[k].vs.length) (.bool ms[k].en) (.slice (some ⟨g1, 0, none⟩) ms[k].hs.length ms[k].hs.length) (.int .i64 ms[k].vr)) bo ms (k + 1) := by
  obtain ⟨C, hC, hsz, hr⟩ := h.rows
  refine ⟨h.low, _, zkW hC _ _ _ _ _ _ _, by rw [znb]; exact hsz, fun i hi hik => ?_⟩
  rcases Nat.lt_or_ge i k with hlt | hge
  · obtain ⟨g0', g1', x0, y0, z0, x1, y1, z1, hc⟩ := hr i hi hlt
    refine ⟨g0', g1', x0, y0, (by rw [zcf _ _ _ _ _ _ _ _ _ _ y0]; exact z0), x1, y1, (by rw [zcf _ _ _ _ _ _ _ _ _ _ y1]; exact z1), fun j hj => ?_⟩
    rw [znU _ _ _ _ _ _ _ _ _ _ (by omega)]
    exact hc j hj
  · have e : i = k := by omega
    subst e
    refine ⟨g0, g1, p0, q0, (by rw [zcf _ _ _ _ _ _ _ _ _ _ q0]; exact r0), p1, q1, (by rw [zcf _ _ _ _ _ _ _ _ _ _ q1]; exact r1), fun j hj => ?_⟩
    rw [zoe _ _ _ _ _ _ _ _ _ _ hj (by omega)]
    rfl
def zoT : Array Value := #[.string ByteArray.empty, .string ByteArray.empty, .string ByteArray.empty, .slice none 0 0, .bool false, .slice none 0 0, .int .i64 0]
def znq (n : Nat) : Array Value := madeCells zoT (n * 7)
set_option maxHeartbeats 2000000 in
theorem zfB (a : Option Addr) (cap : Nat) (ms : List Ob) (w : World) (hw : zbf w a ms) (hl : ms.length <= 1048576) (hls : ∀ i (h : i < ms.length), ms[i].vs.length <= 1048576 /\ ms[i].hs.length <= 1048576) :
    Calls Tryz.prog 29 #[.slice a ms.length cap] w fun e w' => e = .returned (.slice (some ⟨w.heap.size, 0, none⟩) ms.length ms.length) /\ qV w.heap.size w' w.heap.size ms ms.length /\ Below w.heap.size w w' := by
  have hmk : ∀ w : World, (Instr.makeSlice 43 (.int .i64 ms.length) (.int .i64 ms.length)).run Tryz.prog w = .ok (.slice (some ⟨w.heap.size, 0, none⟩) ms.length ms.length) (w.alloc (.cells (znq ms.length) 115)) :=
    fun w => qQ (P := Tryz.prog) 43 115 (.agg zoT) 7 112 Tryz.underlying43 (by kernel_rfl) ms.length (by omega) (by omega) w
  go_enter Tryz.func29, Tryz.ntmps29
  go_wp2_with fail
  clear hmk
  go_loopw [4] (fun i wr => ∃ k : Nat, k <= ms.length /\ i = .int .i64 k /\ Hid (qV w.heap.size wr w.heap.size ms k) /\ Below w.heap.size w wr) (fun i _ => ms.length - (intOf i).toNat)
  case atStart => exact ⟨0, Nat.zero_le _, rfl, ⟨Nat.le_refl _, znq ms.length, (MapKept.heap_alloc w _).1, size_madeCells _ _, fun i _ h => absurd h (by omega)⟩, (Below.refl _ _).alloc (Nat.le_refl _) _⟩
  case round =>
    obtain ⟨k, hk, rfl, HOW, hB⟩ := hrel
    by_cases hlt : k < ms.length
    · obtain ⟨b, off, a0, a1, c0, c1, rfl, hb, hsm, hl0, hl1, d0, d1, d2, d3, d4, d5, d6⟩ := hw.load hB k hlt
      have HLS := hid (hls k hlt)
      have hltI : (k : Int) < (ms.length : Int) := by omega
      clear hw
      go_wp2_with fail
      refine (zfS ms[k] a0 a1 c0 c1 _ hsm hl0 hl1 HLS.out).mono ?_
      rintro e w1 ⟨g0, g1, rfl, p0, r0, p1, r1, hb1⟩
      have hB1 := hB.trans (hb1.mono hB.size)
      have hbo : w.heap.size < wr.heap.size := by
        obtain ⟨C', hC', _⟩ := HOW.out.rows
        exact (Array.getElem?_eq_some_iff.1 hC').1
      have HP := hid (HOW.out.later hb1)
      obtain ⟨C, hC, hsz, _⟩ := HP.out.rows
      have hfz : ∀ o, w1.frozen? ⟨w.heap.size, o, none⟩ = false := fun o => zh hC
      have hex : ∀ o, o < ms.length * 7 -> ∃ v, w1.cell? ⟨w.heap.size, o, none⟩ = some v := fun o ho => ⟨C[o]'(by omega), by rw [cell_of_block hC]; exact Array.getElem?_eq_getElem (by omega)⟩
      obtain ⟨v0, hv0⟩ := hex (k * 7) (by omega)
      obtain ⟨v1, hv1⟩ := hex (k * 7 + 1) (by omega)
      obtain ⟨v2, hv2⟩ := hex (k * 7 + 2) (by omega)
      obtain ⟨v3, hv3⟩ := hex (k * 7 + 3) (by omega)
      obtain ⟨v4, hv4⟩ := hex (k * 7 + 4) (by omega)
      obtain ⟨v5, hv5⟩ := hex (k * 7 + 5) (by omega)
      obtain ⟨v6, hv6⟩ := hex (k * 7 + 6) (by omega)
      have HR := ziV p0 r0 p1 r1
      clear hex hC hsz d0 d1 d2 d3 d4 d5 d6 p0 r0 p1 r1 hl0 hl1
      unfold Ob.row
      go_wp2_with fail
      obtain ⟨p0, r0, p1, r1⟩ := HR.out
      exact ⟨⟨k + 1, by omega, by go_num, HP.out.put hlt g0 g1 (by omega) (by omega) r0 (by omega) (by omega) r1, zle hB1 (Nat.le_refl _) _ _ _ _ _ _ _ _⟩, by simp [intOf]; omega⟩
    · have HF : Hid (qV w.heap.size wr w.heap.size ms ms.length) := by
        have e : k = ms.length := by omega
        subst e; exact HOW.out
      clear hw HOW
      go_wp2_with fail
      go_ret
      exact ⟨rfl, HF.out, hB⟩
end Go.Proofs.YtfcdmlnpfoikhaaGreat
