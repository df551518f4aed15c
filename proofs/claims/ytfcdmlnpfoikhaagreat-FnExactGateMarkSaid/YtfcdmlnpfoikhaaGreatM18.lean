import Derived.Test.YtfcdmlnpfoikhaaGreatM12
import Derived.Deep.RegionHeld3
namespace Go.Proofs.YtfcdmlnpfoikhaaGreat
open Go.RowKit
structure Pu where
  dr : ByteArray
  tm : ByteArray
  rs : ByteArray
  am : Int
  un : Int
def Pu.cells (m : Pu) : Array Value := #[.string m.dr, .string m.tm, .string m.rs, .int .i64 m.am, .int .i64 m.un]
structure Pu.Small (m : Pu) : Prop where
  dr : m.dr.size <= maxLen
  tm : m.tm.size <= maxLen
  rs : m.rs.size <= maxLen
structure zcE (w : World) (a : Option Addr) (ms : List Pu) : Prop where
  len : ms.length <= maxLen
  small : ∀ i (h : i < ms.length), ms[i].Small
  rows : ms ≠ [] -> ∃ b off, a = some ⟨b, off, none⟩ /\ b < w.heap.size /\ ∀ i (h : i < ms.length), ∀ j, j < 5 -> w.cell? ⟨b, off + i * 5 + j, none⟩ = ms[i].cells[j]?
theorem zcE.mono {w w' : World} {a : Option Addr} {ms : List Pu} (h : zcE w a ms) (hl : Below w.heap.size w w') : zcE w' a ms :=
  ⟨h.len, h.small, fun hne => by
    obtain ⟨b, off, ha, hb, hr⟩ := h.rows hne
    exact ⟨b, off, ha, Nat.lt_of_lt_of_le hb hl.size, fun i hi j hj => (hl.cell (p := ⟨b, off + i * 5 + j, none⟩) hb).trans (hr i hi j hj)⟩⟩
theorem zcE.load {w w' : World} {a : Option Addr} {ms : List Pu} (h : zcE w a ms) (hl : Below w.heap.size w w') (i : Nat) (hi : i < ms.length) : ∃ b off, a = some ⟨b, off, none⟩ /\ b < w.heap.size /\
    w'.cell? ⟨b, off + i * 5, none⟩ = some (.string ms[i].dr) /\ w'.cell? ⟨b, off + i * 5 + 1, none⟩ = some (.string ms[i].tm) /\ w'.cell? ⟨b, off + i * 5 + 2, none⟩ = some (.string ms[i].rs) /\ w'.cell? ⟨b, off + i * 5 + 3, none⟩ = some (.int .i64 ms[i].am) /\ w'.cell? ⟨b, off + i * 5 + 4, none⟩ = some (.int .i64 ms[i].un) := by
  obtain ⟨b, off, ha, hb, hr⟩ := h.rows (by rintro rfl; simp at hi)
  have hc : ∀ j, j < 5 -> w'.cell? ⟨b, off + i * 5 + j, none⟩ = ms[i].cells[j]? := fun j hj => (hl.cell (p := ⟨b, off + i * 5 + j, none⟩) hb).trans (hr i hi j hj)
  exact ⟨b, off, ha, hb, hc 0 (by omega), hc 1 (by omega), hc 2 (by omega), hc 3 (by omega), hc 4 (by omega)⟩
def Pu.sz (m : Pu) : Nat := m.dr.size + m.tm.size + m.rs.size
def zdv (ms : List Pu) : Nat := (ms.map Pu.sz).sum
def zcl (ms : List Pu) : Nat := ms.length + zdv ms
set_option maxHeartbeats 1000000 in
theorem zdr (m : Pu) (left : Int) (w : World) (hm : m.Small) (h0 : 0 <= left) (h1 : left <= 1048576) :
    Calls Tryz.prog 55 #[.agg m.cells, .int .i64 left] w fun e w' => e = .returned (.int .i64 (zF m.sz left)) /\ Below w.heap.size w w' := by
  have k0 := hm.dr
  have k1 := hm.tm
  have k2 := hm.rs
  unfold maxLen at k0 k1 k2
  unfold Pu.cells
  have hB : ∀ ob, Below w.heap.size w (w.alloc ob) := fun ob => (Below.refl _ _).alloc (Nat.le_refl _) _
  by_cases hf : (m.sz : Int) <= left
  · have HF : Hid (zF m.sz left = left - m.dr.size - m.tm.size - m.rs.size) := by
      unfold Hid; rw [zG hf]; unfold Pu.sz; omega
    unfold Pu.sz at hf
    go_enter Tryz.func55, Tryz.ntmps55
    go_wp2_with fail
    go_ret
    exact ⟨zl HF.out.symm, hB _⟩
  · have HF : Hid (zF m.sz left = -1) := zx hf
    have HN : Hid (¬ ((m.dr.size + m.tm.size + m.rs.size : Nat) : Int) <= left) := hf
    clear hf
    go_enter Tryz.func55, Tryz.ntmps55
    go_wp2_with fail
    all_goals go_ret
    all_goals first | exact ⟨zl HF.out.symm, hB _⟩ | (exfalso; have := HN.out; simp at *; omega)
theorem zhi (m : Pu) (left : Int) (w : World) (hm : m.Small) (h0 : 0 <= left) (h1 : left <= 1048576) (h : (m.sz : Int) <= left) :
    Calls Tryz.prog 55 #[.agg m.cells, .int .i64 left] w fun e w' => e = .returned (.int .i64 (left - m.sz)) /\ Below w.heap.size w w' := by
  refine (zdr m left w hm h0 h1).mono ?_
  rintro e w' ⟨rfl, hb⟩
  exact ⟨zl (zG h), hb⟩
theorem zhT (m : Pu) (left : Int) (w : World) (hm : m.Small) (h0 : 0 <= left) (h1 : left <= 1048576) (h : ¬ (m.sz : Int) <= left) :
    Calls Tryz.prog 55 #[.agg m.cells, .int .i64 left] w fun e w' => e = .returned (.int .i64 (-1)) /\ Below w.heap.size w w' := by
  refine (zdr m left w hm h0 h1).mono ?_
  rintro e w' ⟨rfl, hb⟩
  exact ⟨zl (zx h), hb⟩
set_option maxHeartbeats 1000000 in
theorem zfZ (a : Option Addr) (cap : Nat) (ms : List Pu) (left : Int) (w : World) (hw : zcE w a ms) (h0 : 0 <= left) (h1 : left <= 1048576) :
    Calls Tryz.prog 23 #[.slice a ms.length cap, .int .i64 left] w fun e w' => e = .returned (.int .i64 (zF (zcl ms) left)) /\ Below w.heap.size w w' := by
  have hl := hw.len
  unfold maxLen at hl
  by_cases hfit : (ms.length : Int) <= left
  · go_enter Tryz.func23, Tryz.ntmps23
    go_wp2_with fail
    go_loopw [1, 5] (fun l i wr => ∃ k : Nat, k <= ms.length /\ i = .int .i64 k /\ 0 <= left - ms.length - zdv (ms.take k) /\ l = .int .i64 (left - ms.length - zdv (ms.take k)) /\ Below w.heap.size w wr) (fun _ i _ => ms.length - (intOf i).toNat)
    case atStart => exact ⟨0, Nat.zero_le _, rfl, by simp [zdv]; omega, by simp [zdv], Below.refl _ _⟩
    case round =>
      obtain ⟨k, hk, rfl, hpos, rfl, hB⟩ := hrel
      by_cases hlt : k < ms.length
      · obtain ⟨b, off, rfl, hb, c0, c1, c2, c3, c4⟩ := hw.load hB k hlt
        have hsm := hw.small k hlt
        have HS : Hid (zdv (ms.take (k + 1)) = zdv (ms.take k) + ms[k].sz) := zaA Pu.sz ms k hlt
        have hle : zdv (ms.take (k + 1)) <= zdv ms := zb0 Pu.sz ms (k + 1)
        clear hw
        by_cases hneg : (ms[k].sz : Int) <= left - ms.length - zdv (ms.take k)
        · have HNG : Hid ((ms[k].sz : Int) <= left - ms.length - zdv (ms.take k)) := hneg
          clear hle
          go_wp2_with fail
          refine (zhi _ _ _ hsm hpos (by omega) HNG.out).mono ?_
          rintro e w1 ⟨rfl, hb1⟩
          have hB1 := hB.trans (hb1.mono hB.size)
          clear hb1
          go_wp2_with fail
          exact ⟨⟨k + 1, by omega, by go_num, by rw [HS.out]; omega, by rw [HS.out]; congr 1; omega, hB1⟩, by simp [intOf]; omega⟩
        · have HF : Hid (zF (zcl ms) left = -1) := zx (by have := HS.out; unfold zcl; omega)
          have HNG := hid hneg
          clear hneg hle
          go_wp2_with fail
          refine (zhT _ _ _ hsm hpos (by omega) (by have := HNG.out; omega)).mono ?_
          rintro e w1 ⟨rfl, hb1⟩
          have hB1 := hB.trans (hb1.mono hB.size)
          clear hb1
          go_wp2_with fail
          go_ret
          exact ⟨zl HF.out.symm, hB1⟩
      · have HF : Hid (zF (zcl ms) left = left - ms.length - zdv (ms.take k)) := by
          rw [List.take_of_length_le (by omega)] at hpos ⊢
          have e : zF (zcl ms) left = left - zcl ms := zG (by unfold zcl; omega)
          unfold Hid; rw [e]; unfold zcl; omega
        clear hw
        go_wp2
        go_ret
        exact ⟨zl HF.out.symm, hB⟩
  · have HF : Hid (zF (zcl ms) left = -1) := zx (by unfold zcl; omega)
    clear hw
    go_enter Tryz.func23, Tryz.ntmps23
    go_wp2
    go_ret
    exact ⟨zl HF.out.symm, Below.refl _ _⟩
theorem zhg (m : Pu) (w : World) : Calls Tryz.prog 79 #[.agg m.cells, .agg m.cells] w fun e w' => e = .returned (.bool true) /\ Below w.heap.size w w' := by
  unfold Pu.cells
  have hn3 : (m.am != m.am) = false := by simp
  have hn4 : (m.un != m.un) = false := by simp
  go_enter Tryz.func79, Tryz.ntmps79
  go_wp2_with fail
  go_ret
  exact ⟨rfl, zq _ _ _⟩
set_option maxHeartbeats 2000000 in
theorem zgd (a a' : Option Addr) (cap cap' : Nat) (ms : List Pu) (w : World) (hw : zcE w a ms) (hw' : zcE w a' ms) :
    Calls Tryz.prog 41 #[.slice a ms.length cap, .slice a' ms.length cap'] w fun e w' => e = .returned (.bool true) /\ Below w.heap.size w w' := by
  have hl := hw.len
  unfold maxLen at hl
  have hnn : ((ms.length : Int) != ms.length) = false := by simp
  go_enter Tryz.func41, Tryz.ntmps41
  go_wp2_with fail
  go_loopw [5] (fun i wr => ∃ k : Nat, k <= ms.length /\ i = .int .i64 k /\ Below w.heap.size w wr) (fun i _ => ms.length - (intOf i).toNat)
  case atStart => exact ⟨0, Nat.zero_le _, rfl, Below.refl _ _⟩
  case round =>
    obtain ⟨k, hk, rfl, hB⟩ := hrel
    by_cases hlt : k < ms.length
    · obtain ⟨b, off, rfl, hb, c0, c1, c2, c3, c4⟩ := hw.load hB k hlt
      obtain ⟨b', off', rfl, hb', d0, d1, d2, d3, d4⟩ := hw'.load hB k hlt
      have hltI : (k : Int) < (ms.length : Int) := by omega
      clear hw hw'
      go_wp2_with fail
      go_region_with (go_at_call 79; refine (zhg ms[k] _).mono ?_; rintro e w1 ⟨rfl, hb1'⟩; have hb1 := (Below.refl wr.heap.size wr).drew.trans hb1'; clear hb1')
      all_goals go_wp2_with fail
      all_goals exact ⟨⟨k + 1, by omega, by go_num, hB.trans (hb1.mono hB.size)⟩, by simp [intOf]; omega⟩
    · clear hw hw'
      go_wp2_with fail
      go_ret
      exact ⟨rfl, hB⟩
structure jr (lo : Nat) (w : World) (bo : Nat) (ms : List Pu) (k : Nat) : Prop where
  low : lo <= bo
  rows : ∃ C, w.heap[bo]? = some (.cells C 132) /\ C.size = ms.length * 5 /\ ∀ i (h : i < ms.length), i < k -> ∀ j, j < 5 -> C[i * 5 + j]? = ms[i].cells[j]?
theorem jr.at {lo : Nat} {w : World} {bo : Nat} {ms : List Pu} (h : jr lo w bo ms ms.length) (hs : ∀ i (h : i < ms.length), ms[i].Small) (hl : ms.length <= maxLen) : zcE w (some ⟨bo, 0, none⟩) ms := by
  obtain ⟨C, hC, hsz, hr⟩ := h.rows
  refine ⟨hl, hs, fun _ => ⟨bo, 0, rfl, (Array.getElem?_eq_some_iff.1 hC).1, fun i hi j hj => ?_⟩⟩
  rw [cell_of_block hC, Nat.zero_add]
  exact hr i hi hi j hj
theorem jr.later {lo : Nat} {w w' : World} {bo : Nat} {ms : List Pu} {k : Nat} (h : jr lo w bo ms k) (hb : Below w.heap.size w w') : jr lo w' bo ms k := by
  obtain ⟨C, hC, hsz, hr⟩ := h.rows
  exact ⟨h.low, C, (hb.block bo (Array.getElem?_eq_some_iff.1 hC).1).trans hC, hsz, hr⟩
theorem jr.above {lo : Nat} {w w' : World} {bo : Nat} {ms : List Pu} {k : Nat} (h : jr lo w bo ms k) (ha : yt lo w w') : jr lo w' bo ms k := by
  obtain ⟨C, hC, hr⟩ := h.rows
  exact ⟨h.low, C, (ha.same _ h.low (Array.getElem?_eq_some_iff.1 hC).1).trans hC, hr⟩
theorem jr.weaken {lo lo' : Nat} {w : World} {bo : Nat} {ms : List Pu} {k : Nat} (h : jr lo w bo ms k) (hl : lo' <= lo) : jr lo' w bo ms k := ⟨Nat.le_trans hl h.low, h.rows⟩
def zoj (w : World) (b o : Nat) (v0 v1 v2 v3 v4 : Value) : World := (((((w.setCell ⟨b, o, none⟩ v0).setCell ⟨b, o + 1, none⟩ v1).setCell ⟨b, o + 2, none⟩ v2).setCell ⟨b, o + 3, none⟩ v3).setCell ⟨b, o + 4, none⟩ v4)
def zhH (C : Array Value) (o : Nat) (v0 v1 v2 v3 v4 : Value) : Array Value := (((((C.setIfInBounds (o) v0).setIfInBounds (o + 1) v1).setIfInBounds (o + 2) v2).setIfInBounds (o + 3) v3).setIfInBounds (o + 4) v4)
theorem zls {w : World} {b o : Nat} {C : Array Value} {t : TypeId} (h : w.heap[b]? = some (.cells C t)) (v0 v1 v2 v3 v4 : Value) : (zoj w b o v0 v1 v2 v3 v4).heap[b]? = some (.cells (zhH C o v0 v1 v2 v3 v4) t) :=
  zf (zf (zf (zf (zf h v0) v1) v2) v3) v4
theorem zlm {B : Nat} {a w : World} (h : Below B a w) {b : Nat} (hb : B <= b) (o : Nat) (v0 v1 v2 v3 v4 : Value) : Below B a (zoj w b o v0 v1 v2 v3 v4) :=
  ((((h.setCell hb v0).setCell hb v1).setCell hb v2).setCell hb v3).setCell hb v4
theorem zmD (C : Array Value) (o : Nat) (v0 v1 v2 v3 v4 : Value) : (zhH C o v0 v1 v2 v3 v4).size = C.size := by simp [zhH]
theorem znM (C : Array Value) (o i : Nat) (v0 v1 v2 v3 v4 : Value) (h : i < o \/ o + 5 <= i) : (zhH C o v0 v1 v2 v3 v4)[i]? = C[i]? := by
  unfold zhH
  iterate 5 rw [Array.getElem?_setIfInBounds, if_neg (by omega)]
theorem zoh (C : Array Value) (o j : Nat) (v0 v1 v2 v3 v4 : Value) (hj : j < 5) (ho : o + 5 <= C.size) : (zhH C o v0 v1 v2 v3 v4)[o + j]? = (#[v0, v1, v2, v3, v4] : Array Value)[j]? := by
  have hc : j = 0 \/ j = 1 \/ j = 2 \/ j = 3 \/ j = 4 := by omega
  unfold zhH
  rcases hc with h | h | h | h | h <;> subst h <;> simp [Array.getElem?_setIfInBounds] <;> omega
theorem jr.put {lo : Nat} {w : World} {bo : Nat} {ms : List Pu} {k : Nat} (h : jr lo w bo ms k) (hk : k < ms.length) :
    jr lo (zoj w bo (k * 5) (.string ms[k].dr) (.string ms[k].tm) (.string ms[k].rs) (.int .i64 ms[k].am) (.int .i64 ms[k].un)) bo ms (k + 1) := by
  obtain ⟨C, hC, hsz, hr⟩ := h.rows
  refine ⟨h.low, _, zls hC _ _ _ _ _, by rw [zmD]; exact hsz, fun i hi hik j hj => ?_⟩
  rcases Nat.lt_or_ge i k with hlt | hge
  · rw [znM _ _ _ _ _ _ _ _ (by omega)]
    exact hr i hi hlt j hj
  · have e : i = k := by omega
    subst e
    rw [zoh _ _ _ _ _ _ _ _ hj (by omega)]
    rfl
set_option maxHeartbeats 1000000 in
theorem zhf (m : Pu) (w : World) :
    Calls Tryz.prog 68 #[.agg m.cells] w fun e w' => e = .returned (.agg m.cells) /\ Below w.heap.size w w' := by
  unfold Pu.cells
  go_enter Tryz.func68, Tryz.ntmps68
  go_wp2_with fail
  refine bodyPost_ret (v := .agg #[.string m.dr, .string m.tm, .string m.rs, .int .i64 m.am, .int .i64 m.un]) (by simp [results, Tryz.results68, go_sem]) rfl ⟨rfl, ?_⟩
  exact ((((Below.refl _ _).alloc (Nat.le_refl _) _).alloc (by simp) _).alloc (by simp; omega) _)
def zoM : Array Value := #[.string ByteArray.empty, .string ByteArray.empty, .string ByteArray.empty, .int .i64 0, .int .i64 0]
def znj (n : Nat) : Array Value := madeCells zoM (n * 5)
set_option maxHeartbeats 2000000 in
theorem zfO (a : Option Addr) (cap : Nat) (ms : List Pu) (w : World) (hw : zcE w a ms) (hl : ms.length <= 1048576) :
    Calls Tryz.prog 32 #[.slice a ms.length cap] w fun e w' => e = .returned (.slice (some ⟨w.heap.size, 0, none⟩) ms.length ms.length) /\ jr w.heap.size w' w.heap.size ms ms.length /\ Below w.heap.size w w' := by
  have hmk : ∀ w : World, (Instr.makeSlice 46 (.int .i64 ms.length) (.int .i64 ms.length)).run Tryz.prog w = .ok (.slice (some ⟨w.heap.size, 0, none⟩) ms.length ms.length) (w.alloc (.cells (znj ms.length) 132)) :=
    fun w => qQ (P := Tryz.prog) 46 132 (.agg zoM) 5 64 Tryz.underlying46 (by kernel_rfl) ms.length (by omega) (by omega) w
  go_enter Tryz.func32, Tryz.ntmps32
  go_wp2_with fail
  clear hmk
  go_loopw [4] (fun i wr => ∃ k : Nat, k <= ms.length /\ i = .int .i64 k /\ jr w.heap.size wr w.heap.size ms k /\ Below w.heap.size w wr) (fun i _ => ms.length - (intOf i).toNat)
  case atStart => exact ⟨0, Nat.zero_le _, rfl, ⟨Nat.le_refl _, znj ms.length, (MapKept.heap_alloc w _).1, size_madeCells _ _, fun i _ h => absurd h (by omega)⟩, (Below.refl _ _).alloc (Nat.le_refl _) _⟩
  case round =>
    obtain ⟨k, hk, rfl, hown, hB⟩ := hrel
    by_cases hlt : k < ms.length
    · obtain ⟨b, off, rfl, hb, c0, c1, c2, c3, c4⟩ := hw.load hB k hlt
      have hltI : (k : Int) < (ms.length : Int) := by omega
      clear hw
      go_wp2_with fail
      refine (zhf ms[k] _).mono ?_
      rintro e w1 ⟨rfl, hb1⟩
      have hB1 := hB.trans (hb1.mono hB.size)
      have hown1 := hown.later hb1
      have hbo : w.heap.size < wr.heap.size := by
        obtain ⟨C', hC', _⟩ := hown.rows
        exact (Array.getElem?_eq_some_iff.1 hC').1
      obtain ⟨C, hC, hsz, _⟩ := hown1.rows
      have hfz : ∀ o, w1.frozen? ⟨w.heap.size, o, none⟩ = false := fun o => zh hC
      have hex : ∀ o, o < ms.length * 5 -> ∃ v, w1.cell? ⟨w.heap.size, o, none⟩ = some v := fun o ho => ⟨C[o]'(by omega), by rw [cell_of_block hC]; exact Array.getElem?_eq_getElem (by omega)⟩
      obtain ⟨v0, hv0⟩ := hex (k * 5) (by omega)
      obtain ⟨v1, hv1⟩ := hex (k * 5 + 1) (by omega)
      obtain ⟨v2, hv2⟩ := hex (k * 5 + 2) (by omega)
      obtain ⟨v3, hv3⟩ := hex (k * 5 + 3) (by omega)
      obtain ⟨v4, hv4⟩ := hex (k * 5 + 4) (by omega)
      have HP := hid hown1
      clear hex hC hsz c0 c1 c2 c3 c4 hown hown1
      unfold Pu.cells
      go_wp2_with fail
      exact ⟨⟨k + 1, by omega, by go_num, HP.out.put hlt, zlm hB1 (Nat.le_refl _) _ _ _ _ _ _⟩, by simp [intOf]; omega⟩
    · have HF : Hid (jr w.heap.size wr w.heap.size ms ms.length) := by
        have e : k = ms.length := by omega
        subst e; exact hown
      clear hw hown
      go_wp2_with fail
      go_ret
      exact ⟨rfl, HF.out, hB⟩
end Go.Proofs.YtfcdmlnpfoikhaaGreat

namespace Go.Proofs.YtfcdmlnpfoikhaaGreat
open Go.RowKit
theorem zit {p : Prop} (h : p) : Hid p := h
theorem yR (w : World) (X Y : Array Value) (s t : TypeId) : (∀ j, ((w.alloc (.cells X s)).alloc (.cells Y t)).cell? ⟨w.heap.size, j, none⟩ = X[j]?) /\ ∀ j, ((w.alloc (.cells X s)).alloc (.cells Y t)).cell? ⟨w.heap.size + 1, j, none⟩ = Y[j]? := by
  refine ⟨za (zH w X s) (by simp) ((Below.refl _ _).alloc (Nat.le_refl _) _), fun j => ?_⟩
  have h := zH (w.alloc (.cells X s)) Y t j
  rw [World.size_alloc] at h
  exact h
set_option maxHeartbeats 2000000 in
theorem zjv (l : Lw) (la lb lc : Option Addr) (lca lcb lcc : Nat) (o : Ob) (oa oa' : Option Addr) (ocap ocap' : Nat) (res : ByteArray) (w : World) (hl : qA w l la lb lc) (_ho : qL w o oa oa') (hc : ¬ (Gate.zu l.ss o = true /\ res.toList.isEmpty = false)) :
    Calls Tryz.prog 215 #[.agg (l.cells la lb lc lca lcb lcc), .agg (oC o oa oa' ocap ocap'), .string res] w fun e w' => e = .returned (.int .i64 (Gate.ql l.ss o res)) /\ Below w.heap.size w w' := by
  have HL := hid hl
  have HW : Hid (Gate.ql l.ss o res = 0) := by unfold Hid Gate.ql; rw [if_neg hc]
  have HC := hid hc
  clear hl hc
  unfold Lw.cells
  go_enter Tryz.func215, Tryz.ntmps215
  go_wp2_with fail
  refine (qz _ _ l.ss o.kd _ (HL.out.ss.mono (zq _ _ _))).mono ?_
  rintro e w1 ⟨fa, fcap, rfl, hfl, hb⟩
  obtain ⟨hX0, hY0⟩ := yR w (lC l la lb lc lca lcb lcc) (oC o oa oa' ocap ocap') 41 115
  have hX1 := za hX0 (by simp; omega) hb
  have hY1 := za hY0 (by simp) hb
  have hz1 : w.heap.size + 1 < w1.heap.size := by have := hb.size; simp at this; omega
  have HB1 : Hid (Below w.heap.size w w1) := (zq w _ _).trans (hb.mono (by simp; omega))
  clear hfl hb hX0 hY0
  by_cases hk : Gate.zD l.ss o.kd = true
  rotate_left
  · have hk' : Gate.zD l.ss o.kd = false := by simpa using hk
    rw [hk']
    clear hk hk'
    go_wp2_with fail
    go_ret
    exact ⟨zl HW.out.symm, HB1.out.alloc HB1.out.size _⟩
  by_cases he : res.toList.isEmpty = true
  · have HK := hid hk
    rw [HK.out]
    clear hk
    go_wp2_with fail
    go_ret
    exact ⟨zl HW.out.symm, HB1.out.alloc HB1.out.size _⟩
  · have he' : res.toList.isEmpty = false := by simpa using he
    have hne : ((o.vs.length : Int) != ((Gate.shapeOf l.ss o.kd).fs.length : Int)) = true := by
      have h := HC.out
      unfold Gate.zu at h
      rw [hk] at h
      simp only [Bool.true_and, decide_eq_true_eq] at h
      have h2 : ¬ o.vs.length = (Gate.shapeOf l.ss o.kd).fs.length := fun e => h ⟨e, he'⟩
      simp; omega
    have HK := hid hk
    rw [HK.out]
    clear he hk
    go_wp2_with fail
    go_ret
    exact ⟨zl HW.out.symm, HB1.out.alloc HB1.out.size _⟩
set_option maxHeartbeats 4000000 in
theorem zh2 (l : Lw) (la lb lc : Option Addr) (lca lcb lcc : Nat) (o : Ob) (oa oa' : Option Addr) (ocap ocap' : Nat) (res : ByteArray) (w : World) (hl : qA w l la lb lc) (ho : qL w o oa oa') (hc : Gate.zu l.ss o = true) (he : res.toList.isEmpty = false) (hlen : o.vs.length <= 1048576) :
    Calls Tryz.prog 215 #[.agg (l.cells la lb lc lca lcb lcc), .agg (oC o oa oa' ocap ocap'), .string res] w fun e w' => e = .returned (.int .i64 (Gate.ql l.ss o res)) /\ Below w.heap.size w w' := by
  have HL := hid hl
  have HO := hid ho
  have HW : Hid (Gate.ql l.ss o res = (if res = o.kd then 1 else 0) + Gate.zc1 (Gate.shapeOf l.ss o.kd).fs o.vs res (Gate.shapeOf l.ss o.kd).fs.length) := by unfold Hid Gate.ql; rw [if_pos ⟨hc, he⟩]
  have HK : Hid (Gate.zD l.ss o.kd = true /\ o.vs.length = (Gate.shapeOf l.ss o.kd).fs.length) := by unfold Gate.zu at hc; unfold Hid; simpa using hc
  have HN := hid hlen
  clear hl ho hc hlen
  unfold Lw.cells
  go_enter Tryz.func215, Tryz.ntmps215
  go_wp2_with fail
  refine (qz _ _ l.ss o.kd _ (HL.out.ss.mono (zq _ _ _))).mono ?_
  rintro e w1 ⟨fa, fcap, rfl, hfl, hb⟩
  obtain ⟨hX0, hY0⟩ := yR w (lC l la lb lc lca lcb lcc) (oC o oa oa' ocap ocap') 41 115
  have hY1 := za hY0 (by simp) hb
  have hz1 : w.heap.size + 1 < w1.heap.size := by have := hb.size; simp at this; omega
  have HB1 : Hid (Below w.heap.size w w1) := (zq w _ _).trans (hb.mono (by simp; omega))
  have HFl := hid (hfl.mono hb)
  clear hfl hb hX0 hY0
  rw [HK.out.1]
  obtain ⟨S, HS⟩ : ∃ S, Hid (S = Gate.shapeOf l.ss o.kd) := ⟨_, rfl⟩
  rw [<- HS.out] at HFl HK HW ⊢
  have hne : ((o.vs.length : Int) != (S.fs.length : Int)) = false := by have := HK.out.2; simp [this]
  obtain ⟨n0, hn0⟩ : ∃ n0 : Int, n0 = if res = o.kd then 1 else 0 := ⟨_, rfl⟩
  have hb0 : 0 <= n0 /\ n0 <= 1 := by rw [hn0]; split <;> omega
  rw [<- hn0] at HW
  have HN0 := hid hn0
  clear hn0
  by_cases hk : res = o.kd
  all_goals (
    first
    | (have hq : (res.toList == o.kd.toList) = true := by rw [Gate.beq_toList]; simpa using hk)
    | (have hq : (res.toList == o.kd.toList) = false := by rw [Gate.beq_toList]; simpa using hk)
    have HKE := zit hk
    clear hk
    go_wp2_with fail
    go_loopw [9, 44] (fun nv iv wr => ∃ (k : Nat) (s : Int), k <= S.fs.length /\ iv = .int .i64 k /\ nv = .int .i64 s /\ Hid (s = n0 + Gate.zc1 S.fs o.vs res k /\ Below w1.heap.size w1 wr)) (fun _ iv _ => S.fs.length - (intOf iv).toNat)
    case atStart => exact ⟨0, n0, Nat.zero_le _, rfl, by have := HN0.out; first | (rw [if_pos HKE.out] at this; rw [this]) | (rw [if_neg HKE.out] at this; rw [this]), by simp [Gate.zc1], (Below.refl _ _).alloc (Nat.le_refl _) _⟩
    case round =>
      obtain ⟨k, s, hk, rfl, rfl, HQ⟩ := hrel
      have hsb : 0 <= s /\ s <= 1 + k * 10000000 := by have h1 := HQ.out.1; have h2 := Gate.zca S.fs o.vs res k; omega
      have hkn : k <= 1048576 := by have := HN.out; have := HK.out.2; omega
      by_cases hlt : k < S.fs.length
      · obtain ⟨b, off, rfl, hb, hr⟩ := HFl.out.rows (by intro e; rw [e] at hlt; simp at hlt)
        obtain ⟨wa, wcap, hf⟩ := hr k hlt
        obtain ⟨c0, c1, c2, c3, c4, c5, c6, c7, c8, c9, c10⟩ := (hf.mono hb HQ.out.2).load
        have hlv : k < o.vs.length := by have := HK.out.2; omega
        have hltI : (k : Int) < (S.fs.length : Int) := by omega
        have hlvI : (k : Int) < (o.vs.length : Int) := by omega
        obtain ⟨vb, voff, rfl, hvb, hvc0⟩ := HO.out.vals.cells (by intro e; rw [e] at hlv; simp at hlv)
        have hvc := ((HB1.out.trans (HQ.out.2.mono HB1.out.size)).cell (p := ⟨vb, voff + k, none⟩) hvb).trans (hvc0 k hlv)
        have hvb' := Nat.lt_of_lt_of_le hvb (HB1.out.trans (HQ.out.2.mono HB1.out.size)).size
        have hb' := Nat.lt_of_lt_of_le hb HQ.out.2.size
        have hY := za hY1 hz1 HQ.out.2
        have hz := Nat.lt_of_lt_of_le hz1 HQ.out.2.size
        have HSt := Gate.znm S.fs o.vs res k hlt hlv
        have HSt : Hid (Gate.zc1 S.fs o.vs res (k + 1) = Gate.zc1 S.fs o.vs res k + Gate.yx S.fs[k] o.vs[k] res) := HSt
        have HVs : Hid (o.vs[k].size <= maxLen) := HO.out.vals.small _ (List.getElem_mem _)
        have HBo : Hid (∀ ob, Below w1.heap.size w1 (wr.alloc ob)) := fun ob => HQ.out.2.alloc HQ.out.2.size _
        clear hf hr hvc0
        by_cases h1 : S.fs[k].kd = 1
        · have e1 : (S.fs[k].kd == 1) = true := by simpa using h1
          by_cases h2 : S.fs[k].wg = res
          · have e2 : (S.fs[k].wg.toList == res.toList) = true := by rw [Gate.beq_toList]; simpa using h2
            have HFw : Hid (Gate.yx S.fs[k] o.vs[k] res = j4 o.vs[k]) := by unfold Hid Gate.yx; rw [if_pos ⟨h1, h2⟩]
            have hdb := Gate.zcZ o.vs[k]
            clear h1 h2
            go_wp2_with fail
            refine (zct o.vs[k] _ HVs.out).mono ?_
            rintro e w2 ⟨rfl, rfl⟩
            go_wp2_with fail
            exact ⟨⟨k + 1, s + j4 o.vs[k], by omega, by go_num, by go_num, by rw [HSt.out, HFw.out, HQ.out.1]; omega, HBo.out _⟩, zk hlt⟩
          · have e2 : (S.fs[k].wg.toList == res.toList) = false := by rw [Gate.beq_toList]; simpa using h2
            have HFw : Hid (Gate.yx S.fs[k] o.vs[k] res = 0) := by unfold Hid Gate.yx; rw [if_neg (fun h => h2 h.2)]
            clear h1 h2
            go_wp2_with fail
            exact ⟨⟨k + 1, s, by omega, by go_num, rfl, by rw [HSt.out, HFw.out, HQ.out.1]; omega, HBo.out _⟩, zk hlt⟩
        · have e1 : (S.fs[k].kd == 1) = false := by simpa using h1
          have HFw : Hid (Gate.yx S.fs[k] o.vs[k] res = 0) := by unfold Hid Gate.yx; rw [if_neg (fun h => h1 h.1)]
          clear h1
          go_wp2_with fail
          exact ⟨⟨k + 1, s, by omega, by go_num, rfl, by rw [HSt.out, HFw.out, HQ.out.1]; omega, HBo.out _⟩, zk hlt⟩
      · have e : k = S.fs.length := by omega
        subst e
        have HE : Hid (Gate.ql l.ss o res = s) := by unfold Hid; rw [HW.out, HQ.out.1]
        clear hlt hk
        go_wp2_with fail
        go_ret
        exact ⟨zl HE.out.symm, HB1.out.trans (HQ.out.2.mono HB1.out.size)⟩)
end Go.Proofs.YtfcdmlnpfoikhaaGreat
