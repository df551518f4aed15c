import Derived.Test.YtfapkhgallmkdaaGreatM14
import Derived.Deep.RegionHeld3
namespace Go.Proofs.YtfapkhgallmkdaaGreat
open Go.RowKit
structure Lg where
  tm : ByteArray
  rs : ByteArray
  mo : Int
  fr : Int
def Lg.cells (m : Lg) : Array Value := #[.string m.tm, .string m.rs, .int .i64 m.mo, .int .i64 m.fr]
structure Lg.Small (m : Lg) : Prop where
  tm : m.tm.size <= maxLen
  rs : m.rs.size <= maxLen
structure zb4 (w : World) (a : Option Addr) (ms : List Lg) : Prop where
  len : ms.length <= maxLen
  small : ∀ i (h : i < ms.length), ms[i].Small
  rows : ms ≠ [] -> ∃ b off, a = some ⟨b, off, none⟩ /\ b < w.heap.size /\ ∀ i (h : i < ms.length), ∀ j, j < 4 -> w.cell? ⟨b, off + i * 4 + j, none⟩ = ms[i].cells[j]?
theorem zb4.mono {w w' : World} {a : Option Addr} {ms : List Lg} (h : zb4 w a ms) (hl : Below w.heap.size w w') : zb4 w' a ms :=
  ⟨h.len, h.small, fun hne => by
    obtain ⟨b, off, ha, hb, hr⟩ := h.rows hne
    exact ⟨b, off, ha, Nat.lt_of_lt_of_le hb hl.size, fun i hi j hj => (hl.cell (p := ⟨b, off + i * 4 + j, none⟩) hb).trans (hr i hi j hj)⟩⟩
theorem zb4.load {w w' : World} {a : Option Addr} {ms : List Lg} (h : zb4 w a ms) (hl : Below w.heap.size w w') (i : Nat) (hi : i < ms.length) : ∃ b off, a = some ⟨b, off, none⟩ /\ b < w.heap.size /\
    w'.cell? ⟨b, off + i * 4, none⟩ = some (.string ms[i].tm) /\ w'.cell? ⟨b, off + i * 4 + 1, none⟩ = some (.string ms[i].rs) /\ w'.cell? ⟨b, off + i * 4 + 2, none⟩ = some (.int .i64 ms[i].mo) /\ w'.cell? ⟨b, off + i * 4 + 3, none⟩ = some (.int .i64 ms[i].fr) := by
  obtain ⟨b, off, ha, hb, hr⟩ := h.rows (by rintro rfl; simp at hi)
  have hc : ∀ j, j < 4 -> w'.cell? ⟨b, off + i * 4 + j, none⟩ = ms[i].cells[j]? := fun j hj => (hl.cell (p := ⟨b, off + i * 4 + j, none⟩) hb).trans (hr i hi j hj)
  exact ⟨b, off, ha, hb, hc 0 (by omega), hc 1 (by omega), hc 2 (by omega), hc 3 (by omega)⟩
def Lg.sz (m : Lg) : Nat := m.tm.size + m.rs.size
def zdc (ms : List Lg) : Nat := (ms.map Lg.sz).sum
def zb0 (ms : List Lg) : Nat := ms.length + zdc ms
set_option maxHeartbeats 1000000 in
theorem zcy (m : Lg) (left : Int) (w : World) (hm : m.Small) (h0 : 0 <= left) (h1 : left <= 1048576) :
    Calls Tryz.prog 44 #[.agg m.cells, .int .i64 left] w fun e w' => e = .returned (.int .i64 (zH m.sz left)) /\ Below w.heap.size w w' := by
  have k0 := hm.tm
  have k1 := hm.rs
  unfold maxLen at k0 k1
  unfold Lg.cells
  have hB : ∀ ob, Below w.heap.size w (w.alloc ob) := fun ob => (Below.refl _ _).alloc (Nat.le_refl _) _
  by_cases hf : (m.sz : Int) <= left
  · have HF : Hid (zH m.sz left = left - m.tm.size - m.rs.size) := by
      unfold Hid; rw [zI hf]; unfold Lg.sz; omega
    unfold Lg.sz at hf
    go_enter Tryz.func44, Tryz.ntmps44
    go_wp2_with fail
    go_ret
    exact ⟨zh HF.out.symm, hB _⟩
  · have HF : Hid (zH m.sz left = -1) := zw hf
    have HN : Hid (¬ ((m.tm.size + m.rs.size : Nat) : Int) <= left) := hf
    clear hf
    go_enter Tryz.func44, Tryz.ntmps44
    go_wp2_with fail
    all_goals go_ret
    all_goals first | exact ⟨zh HF.out.symm, hB _⟩ | (exfalso; have := HN.out; simp at *; omega)
theorem zf0 (m : Lg) (left : Int) (w : World) (hm : m.Small) (h0 : 0 <= left) (h1 : left <= 1048576) (h : (m.sz : Int) <= left) :
    Calls Tryz.prog 44 #[.agg m.cells, .int .i64 left] w fun e w' => e = .returned (.int .i64 (left - m.sz)) /\ Below w.heap.size w w' := by
  refine (zcy m left w hm h0 h1).mono ?_
  rintro e w' ⟨rfl, hb⟩
  exact ⟨zh (zI h), hb⟩
theorem zgy (m : Lg) (left : Int) (w : World) (hm : m.Small) (h0 : 0 <= left) (h1 : left <= 1048576) (h : ¬ (m.sz : Int) <= left) :
    Calls Tryz.prog 44 #[.agg m.cells, .int .i64 left] w fun e w' => e = .returned (.int .i64 (-1)) /\ Below w.heap.size w w' := by
  refine (zcy m left w hm h0 h1).mono ?_
  rintro e w' ⟨rfl, hb⟩
  exact ⟨zh (zw h), hb⟩
set_option maxHeartbeats 1000000 in
theorem zeJ (a : Option Addr) (cap : Nat) (ms : List Lg) (left : Int) (w : World) (hw : zb4 w a ms) (h0 : 0 <= left) (h1 : left <= 1048576) :
    Calls Tryz.prog 19 #[.slice a ms.length cap, .int .i64 left] w fun e w' => e = .returned (.int .i64 (zH (zb0 ms) left)) /\ Below w.heap.size w w' := by
  have hl := hw.len
  unfold maxLen at hl
  by_cases hfit : (ms.length : Int) <= left
  · go_enter Tryz.func19, Tryz.ntmps19
    go_wp2_with fail
    go_loopw [1, 5] (fun l i wr => ∃ k : Nat, k <= ms.length /\ i = .int .i64 k /\ 0 <= left - ms.length - zdc (ms.take k) /\ l = .int .i64 (left - ms.length - zdc (ms.take k)) /\ Below w.heap.size w wr) (fun _ i _ => ms.length - (intOf i).toNat)
    case atStart => exact ⟨0, Nat.zero_le _, rfl, by simp [zdc]; omega, by simp [zdc], Below.refl _ _⟩
    case round =>
      obtain ⟨k, hk, rfl, hpos, rfl, hB⟩ := hrel
      by_cases hlt : k < ms.length
      · obtain ⟨b, off, rfl, hb, c0, c1, c2, c3⟩ := hw.load hB k hlt
        have hsm := hw.small k hlt
        have HS : Hid (zdc (ms.take (k + 1)) = zdc (ms.take k) + ms[k].sz) := zar Lg.sz ms k hlt
        have hle : zdc (ms.take (k + 1)) <= zdc ms := zbW Lg.sz ms (k + 1)
        clear hw
        by_cases hneg : (ms[k].sz : Int) <= left - ms.length - zdc (ms.take k)
        · have HNG : Hid ((ms[k].sz : Int) <= left - ms.length - zdc (ms.take k)) := hneg
          clear hle
          go_wp2_with fail
          refine (zf0 _ _ _ hsm hpos (by omega) HNG.out).mono ?_
          rintro e w1 ⟨rfl, hb1⟩
          have hB1 := hB.trans (hb1.mono hB.size)
          clear hb1
          go_wp2_with fail
          exact ⟨⟨k + 1, by omega, by go_num, by rw [HS.out]; omega, by rw [HS.out]; congr 1; omega, hB1⟩, by simp [intOf]; omega⟩
        · have HF : Hid (zH (zb0 ms) left = -1) := zw (by have := HS.out; unfold zb0; omega)
          have HNG := hid hneg
          clear hneg hle
          go_wp2_with fail
          refine (zgy _ _ _ hsm hpos (by omega) (by have := HNG.out; omega)).mono ?_
          rintro e w1 ⟨rfl, hb1⟩
          have hB1 := hB.trans (hb1.mono hB.size)
          clear hb1
          go_wp2_with fail
          go_ret
          exact ⟨zh HF.out.symm, hB1⟩
      · have HF : Hid (zH (zb0 ms) left = left - ms.length - zdc (ms.take k)) := by
          rw [List.take_of_length_le (by omega)] at hpos ⊢
          have e : zH (zb0 ms) left = left - zb0 ms := zI (by unfold zb0; omega)
          unfold Hid; rw [e]; unfold zb0; omega
        clear hw
        go_wp2
        go_ret
        exact ⟨zh HF.out.symm, hB⟩
  · have HF : Hid (zH (zb0 ms) left = -1) := zw (by unfold zb0; omega)
    clear hw
    go_enter Tryz.func19, Tryz.ntmps19
    go_wp2
    go_ret
    exact ⟨zh HF.out.symm, Below.refl _ _⟩
theorem zfJ (m : Lg) (w : World) : Calls Tryz.prog 72 #[.agg m.cells, .agg m.cells] w fun e w' => e = .returned (.bool true) /\ Below w.heap.size w w' := by
  unfold Lg.cells
  have hn2 : (m.mo != m.mo) = false := by simp
  have hn3 : (m.fr != m.fr) = false := by simp
  go_enter Tryz.func72, Tryz.ntmps72
  go_wp2_with fail
  go_ret
  exact ⟨rfl, zu _ _ _⟩
set_option maxHeartbeats 2000000 in
theorem ze5 (a a' : Option Addr) (cap cap' : Nat) (ms : List Lg) (w : World) (hw : zb4 w a ms) (hw' : zb4 w a' ms) :
    Calls Tryz.prog 37 #[.slice a ms.length cap, .slice a' ms.length cap'] w fun e w' => e = .returned (.bool true) /\ Below w.heap.size w w' := by
  have hl := hw.len
  unfold maxLen at hl
  have hnn : ((ms.length : Int) != ms.length) = false := by simp
  go_enter Tryz.func37, Tryz.ntmps37
  go_wp2_with fail
  go_loopw [5] (fun i wr => ∃ k : Nat, k <= ms.length /\ i = .int .i64 k /\ Below w.heap.size w wr) (fun i _ => ms.length - (intOf i).toNat)
  case atStart => exact ⟨0, Nat.zero_le _, rfl, Below.refl _ _⟩
  case round =>
    obtain ⟨k, hk, rfl, hB⟩ := hrel
    by_cases hlt : k < ms.length
    · obtain ⟨b, off, rfl, hb, c0, c1, c2, c3⟩ := hw.load hB k hlt
      obtain ⟨b', off', rfl, hb', d0, d1, d2, d3⟩ := hw'.load hB k hlt
      have hltI : (k : Int) < (ms.length : Int) := by omega
      clear hw hw'
      go_wp2_with fail
      go_region_with (go_at_call 72; refine (zfJ ms[k] _).mono ?_; rintro e w1 ⟨rfl, hb1'⟩; have hb1 := (Below.refl wr.heap.size wr).drew.trans hb1'; clear hb1')
      all_goals go_wp2_with fail
      all_goals exact ⟨⟨k + 1, by omega, by go_num, hB.trans (hb1.mono hB.size)⟩, by simp [intOf]; omega⟩
    · clear hw hw'
      go_wp2_with fail
      go_ret
      exact ⟨rfl, hB⟩
structure jN (lo : Nat) (w : World) (bo : Nat) (ms : List Lg) (k : Nat) : Prop where
  low : lo <= bo
  rows : ∃ C, w.heap[bo]? = some (.cells C 126) /\ C.size = ms.length * 4 /\ ∀ i (h : i < ms.length), i < k -> ∀ j, j < 4 -> C[i * 4 + j]? = ms[i].cells[j]?
theorem jN.at {lo : Nat} {w : World} {bo : Nat} {ms : List Lg} (h : jN lo w bo ms ms.length) (hs : ∀ i (h : i < ms.length), ms[i].Small) (hl : ms.length <= maxLen) : zb4 w (some ⟨bo, 0, none⟩) ms := by
  obtain ⟨C, hC, hsz, hr⟩ := h.rows
  refine ⟨hl, hs, fun _ => ⟨bo, 0, rfl, (Array.getElem?_eq_some_iff.1 hC).1, fun i hi j hj => ?_⟩⟩
  rw [cell_of_block hC, Nat.zero_add]
  exact hr i hi hi j hj
theorem jN.later {lo : Nat} {w w' : World} {bo : Nat} {ms : List Lg} {k : Nat} (h : jN lo w bo ms k) (hb : Below w.heap.size w w') : jN lo w' bo ms k := by
  obtain ⟨C, hC, hsz, hr⟩ := h.rows
  exact ⟨h.low, C, (hb.block bo (Array.getElem?_eq_some_iff.1 hC).1).trans hC, hsz, hr⟩
theorem jN.above {lo : Nat} {w w' : World} {bo : Nat} {ms : List Lg} {k : Nat} (h : jN lo w bo ms k) (ha : yx lo w w') : jN lo w' bo ms k := by
  obtain ⟨C, hC, hr⟩ := h.rows
  exact ⟨h.low, C, (ha.same _ h.low (Array.getElem?_eq_some_iff.1 hC).1).trans hC, hr⟩
theorem jN.weaken {lo lo' : Nat} {w : World} {bo : Nat} {ms : List Lg} {k : Nat} (h : jN lo w bo ms k) (hl : lo' <= lo) : jN lo' w bo ms k := ⟨Nat.le_trans hl h.low, h.rows⟩
def zoq (w : World) (b o : Nat) (v0 v1 v2 v3 : Value) : World := ((((w.setCell ⟨b, o, none⟩ v0).setCell ⟨b, o + 1, none⟩ v1).setCell ⟨b, o + 2, none⟩ v2).setCell ⟨b, o + 3, none⟩ v3)
def zhe (C : Array Value) (o : Nat) (v0 v1 v2 v3 : Value) : Array Value := ((((C.setIfInBounds (o) v0).setIfInBounds (o + 1) v1).setIfInBounds (o + 2) v2).setIfInBounds (o + 3) v3)
theorem zlO {w : World} {b o : Nat} {C : Array Value} {t : TypeId} (h : w.heap[b]? = some (.cells C t)) (v0 v1 v2 v3 : Value) : (zoq w b o v0 v1 v2 v3).heap[b]? = some (.cells (zhe C o v0 v1 v2 v3) t) :=
  zf (zf (zf (zf h v0) v1) v2) v3
theorem zlU {B : Nat} {a w : World} (h : Below B a w) {b : Nat} (hb : B <= b) (o : Nat) (v0 v1 v2 v3 : Value) : Below B a (zoq w b o v0 v1 v2 v3) :=
  (((h.setCell hb v0).setCell hb v1).setCell hb v2).setCell hb v3
theorem zl8 (C : Array Value) (o : Nat) (v0 v1 v2 v3 : Value) : (zhe C o v0 v1 v2 v3).size = C.size := by simp [zhe]
theorem znL (C : Array Value) (o i : Nat) (v0 v1 v2 v3 : Value) (h : i < o \/ o + 4 <= i) : (zhe C o v0 v1 v2 v3)[i]? = C[i]? := by
  unfold zhe
  iterate 4 rw [Array.getElem?_setIfInBounds, if_neg (by omega)]
theorem zod (C : Array Value) (o j : Nat) (v0 v1 v2 v3 : Value) (hj : j < 4) (ho : o + 4 <= C.size) : (zhe C o v0 v1 v2 v3)[o + j]? = (#[v0, v1, v2, v3] : Array Value)[j]? := by
  have hc : j = 0 \/ j = 1 \/ j = 2 \/ j = 3 := by omega
  unfold zhe
  rcases hc with h | h | h | h <;> subst h <;> simp [Array.getElem?_setIfInBounds] <;> omega
theorem jN.put {lo : Nat} {w : World} {bo : Nat} {ms : List Lg} {k : Nat} (h : jN lo w bo ms k) (hk : k < ms.length) :
    jN lo (zoq w bo (k * 4) (.string ms[k].tm) (.string ms[k].rs) (.int .i64 ms[k].mo) (.int .i64 ms[k].fr)) bo ms (k + 1) := by
  obtain ⟨C, hC, hsz, hr⟩ := h.rows
  refine ⟨h.low, _, zlO hC _ _ _ _, by rw [zl8]; exact hsz, fun i hi hik j hj => ?_⟩
  rcases Nat.lt_or_ge i k with hlt | hge
  · rw [znL _ _ _ _ _ _ _ (by omega)]
    exact hr i hi hlt j hj
  · have e : i = k := by omega
    subst e
    rw [zod _ _ _ _ _ _ _ hj (by omega)]
    rfl
set_option maxHeartbeats 1000000 in
theorem zfC (m : Lg) (w : World) :
    Calls Tryz.prog 58 #[.agg m.cells] w fun e w' => e = .returned (.agg m.cells) /\ Below w.heap.size w w' := by
  unfold Lg.cells
  go_enter Tryz.func58, Tryz.ntmps58
  go_wp2_with fail
  refine bodyPost_ret (v := .agg #[.string m.tm, .string m.rs, .int .i64 m.mo, .int .i64 m.fr]) (by simp [results, Tryz.results58, go_sem]) rfl ⟨rfl, ?_⟩
  exact ((((Below.refl _ _).alloc (Nat.le_refl _) _).alloc (by simp) _).alloc (by simp; omega) _)
def zoy : Array Value := #[.string ByteArray.empty, .string ByteArray.empty, .int .i64 0, .int .i64 0]
def znb (n : Nat) : Array Value := madeCells zoy (n * 4)
set_option maxHeartbeats 2000000 in
theorem ze7 (a : Option Addr) (cap : Nat) (ms : List Lg) (w : World) (hw : zb4 w a ms) (hl : ms.length <= 1048576) :
    Calls Tryz.prog 28 #[.slice a ms.length cap] w fun e w' => e = .returned (.slice (some ⟨w.heap.size, 0, none⟩) ms.length ms.length) /\ jN w.heap.size w' w.heap.size ms ms.length /\ Below w.heap.size w w' := by
  have hmk : ∀ w : World, (Instr.makeSlice 47 (.int .i64 ms.length) (.int .i64 ms.length)).run Tryz.prog w = .ok (.slice (some ⟨w.heap.size, 0, none⟩) ms.length ms.length) (w.alloc (.cells (znb ms.length) 126)) :=
    fun w => qR (P := Tryz.prog) 47 126 (.agg zoy) 4 48 Tryz.underlying47 (by kernel_rfl) ms.length (by omega) (by omega) w
  go_enter Tryz.func28, Tryz.ntmps28
  go_wp2_with fail
  clear hmk
  go_loopw [4] (fun i wr => ∃ k : Nat, k <= ms.length /\ i = .int .i64 k /\ jN w.heap.size wr w.heap.size ms k /\ Below w.heap.size w wr) (fun i _ => ms.length - (intOf i).toNat)
  case atStart => exact ⟨0, Nat.zero_le _, rfl, ⟨Nat.le_refl _, znb ms.length, (MapKept.heap_alloc w _).1, size_madeCells _ _, fun i _ h => absurd h (by omega)⟩, (Below.refl _ _).alloc (Nat.le_refl _) _⟩
  case round =>
    obtain ⟨k, hk, rfl, hown, hB⟩ := hrel
    by_cases hlt : k < ms.length
    · obtain ⟨b, off, rfl, hb, c0, c1, c2, c3⟩ := hw.load hB k hlt
      have hltI : (k : Int) < (ms.length : Int) := by omega
      clear hw
      go_wp2_with fail
      refine (zfC ms[k] _).mono ?_
      rintro e w1 ⟨rfl, hb1⟩
      have hB1 := hB.trans (hb1.mono hB.size)
      have hown1 := hown.later hb1
      have hbo : w.heap.size < wr.heap.size := by
        obtain ⟨C', hC', _⟩ := hown.rows
        exact (Array.getElem?_eq_some_iff.1 hC').1
      obtain ⟨C, hC, hsz, _⟩ := hown1.rows
      have hfz : ∀ o, w1.frozen? ⟨w.heap.size, o, none⟩ = false := fun o => zl hC
      have hex : ∀ o, o < ms.length * 4 -> ∃ v, w1.cell? ⟨w.heap.size, o, none⟩ = some v := fun o ho => ⟨C[o]'(by omega), by rw [cell_of_block hC]; exact Array.getElem?_eq_getElem (by omega)⟩
      obtain ⟨v0, hv0⟩ := hex (k * 4) (by omega)
      obtain ⟨v1, hv1⟩ := hex (k * 4 + 1) (by omega)
      obtain ⟨v2, hv2⟩ := hex (k * 4 + 2) (by omega)
      obtain ⟨v3, hv3⟩ := hex (k * 4 + 3) (by omega)
      have HP := hid hown1
      clear hex hC hsz c0 c1 c2 c3 hown hown1
      unfold Lg.cells
      go_wp2_with fail
      exact ⟨⟨k + 1, by omega, by go_num, HP.out.put hlt, zlU hB1 (Nat.le_refl _) _ _ _ _ _⟩, by simp [intOf]; omega⟩
    · have HF : Hid (jN w.heap.size wr w.heap.size ms ms.length) := by
        have e : k = ms.length := by omega
        subst e; exact hown
      clear hw hown
      go_wp2_with fail
      go_ret
      exact ⟨rfl, HF.out, hB⟩
end Go.Proofs.YtfapkhgallmkdaaGreat
