import Derived.Test.YtfapkhgallmkdaaGreatM14
import Derived.Deep.RegionHeld3
namespace Go.Proofs.YtfapkhgallmkdaaGreat
open Go.RowKit
structure Pu where
  dr : ByteArray
  tm : ByteArray
  rs : ByteArray
  am : Int
  un : Int
def Pu.cells (m : Pu) : Array Value := #[.string m.dr, .string m.tm, .string m.rs, .int .i64 m.am, .int .i64 m.un]
structure Pu.Small (m : Pu) : Prop where
  dr : m.dr.size <= maxLen
  tm : m.tm.size <= maxLen
  rs : m.rs.size <= maxLen
structure zcx (w : World) (a : Option Addr) (ms : List Pu) : Prop where
  len : ms.length <= maxLen
  small : ∀ i (h : i < ms.length), ms[i].Small
  rows : ms ≠ [] -> ∃ b off, a = some ⟨b, off, none⟩ /\ b < w.heap.size /\ ∀ i (h : i < ms.length), ∀ j, j < 5 -> w.cell? ⟨b, off + i * 5 + j, none⟩ = ms[i].cells[j]?
theorem zcx.mono {w w' : World} {a : Option Addr} {ms : List Pu} (h : zcx w a ms) (hl : Below w.heap.size w w') : zcx w' a ms :=
  ⟨h.len, h.small, fun hne => by
    obtain ⟨b, off, ha, hb, hr⟩ := h.rows hne
    exact ⟨b, off, ha, Nat.lt_of_lt_of_le hb hl.size, fun i hi j hj => (hl.cell (p := ⟨b, off + i * 5 + j, none⟩) hb).trans (hr i hi j hj)⟩⟩
theorem zcx.load {w w' : World} {a : Option Addr} {ms : List Pu} (h : zcx w a ms) (hl : Below w.heap.size w w') (i : Nat) (hi : i < ms.length) : ∃ b off, a = some ⟨b, off, none⟩ /\ b < w.heap.size /\
    w'.cell? ⟨b, off + i * 5, none⟩ = some (.string ms[i].dr) /\ w'.cell? ⟨b, off + i * 5 + 1, none⟩ = some (.string ms[i].tm) /\ w'.cell? ⟨b, off + i * 5 + 2, none⟩ = some (.string ms[i].rs) /\ w'.cell? ⟨b, off + i * 5 + 3, none⟩ = some (.int .i64 ms[i].am) /\ w'.cell? ⟨b, off + i * 5 + 4, none⟩ = some (.int .i64 ms[i].un) := by
  obtain ⟨b, off, ha, hb, hr⟩ := h.rows (by rintro rfl; simp at hi)
  have hc : ∀ j, j < 5 -> w'.cell? ⟨b, off + i * 5 + j, none⟩ = ms[i].cells[j]? := fun j hj => (hl.cell (p := ⟨b, off + i * 5 + j, none⟩) hb).trans (hr i hi j hj)
  exact ⟨b, off, ha, hb, hc 0 (by omega), hc 1 (by omega), hc 2 (by omega), hc 3 (by omega), hc 4 (by omega)⟩
def Pu.sz (m : Pu) : Nat := m.dr.size + m.tm.size + m.rs.size
def zdj (ms : List Pu) : Nat := (ms.map Pu.sz).sum
def zci (ms : List Pu) : Nat := ms.length + zdj ms
set_option maxHeartbeats 1000000 in
theorem zdg (m : Pu) (left : Int) (w : World) (hm : m.Small) (h0 : 0 <= left) (h1 : left <= 1048576) :
    Calls Tryz.prog 45 #[.agg m.cells, .int .i64 left] w fun e w' => e = .returned (.int .i64 (zH m.sz left)) /\ Below w.heap.size w w' := by
  have k0 := hm.dr
  have k1 := hm.tm
  have k2 := hm.rs
  unfold maxLen at k0 k1 k2
  unfold Pu.cells
  have hB : ∀ ob, Below w.heap.size w (w.alloc ob) := fun ob => (Below.refl _ _).alloc (Nat.le_refl _) _
  by_cases hf : (m.sz : Int) <= left
  · have HF : Hid (zH m.sz left = left - m.dr.size - m.tm.size - m.rs.size) := by
      unfold Hid; rw [zI hf]; unfold Pu.sz; omega
    unfold Pu.sz at hf
    go_enter Tryz.func45, Tryz.ntmps45
    go_wp2_with fail
    go_ret
    exact ⟨zh HF.out.symm, hB _⟩
  · have HF : Hid (zH m.sz left = -1) := zw hf
    have HN : Hid (¬ ((m.dr.size + m.tm.size + m.rs.size : Nat) : Int) <= left) := hf
    clear hf
    go_enter Tryz.func45, Tryz.ntmps45
    go_wp2_with fail
    all_goals go_ret
    all_goals first | exact ⟨zh HF.out.symm, hB _⟩ | (exfalso; have := HN.out; simp at *; omega)
theorem zgV (m : Pu) (left : Int) (w : World) (hm : m.Small) (h0 : 0 <= left) (h1 : left <= 1048576) (h : (m.sz : Int) <= left) :
    Calls Tryz.prog 45 #[.agg m.cells, .int .i64 left] w fun e w' => e = .returned (.int .i64 (left - m.sz)) /\ Below w.heap.size w w' := by
  refine (zdg m left w hm h0 h1).mono ?_
  rintro e w' ⟨rfl, hb⟩
  exact ⟨zh (zI h), hb⟩
theorem zhw (m : Pu) (left : Int) (w : World) (hm : m.Small) (h0 : 0 <= left) (h1 : left <= 1048576) (h : ¬ (m.sz : Int) <= left) :
    Calls Tryz.prog 45 #[.agg m.cells, .int .i64 left] w fun e w' => e = .returned (.int .i64 (-1)) /\ Below w.heap.size w w' := by
  refine (zdg m left w hm h0 h1).mono ?_
  rintro e w' ⟨rfl, hb⟩
  exact ⟨zh (zw h), hb⟩
set_option maxHeartbeats 1000000 in
theorem zfI (a : Option Addr) (cap : Nat) (ms : List Pu) (left : Int) (w : World) (hw : zcx w a ms) (h0 : 0 <= left) (h1 : left <= 1048576) :
    Calls Tryz.prog 20 #[.slice a ms.length cap, .int .i64 left] w fun e w' => e = .returned (.int .i64 (zH (zci ms) left)) /\ Below w.heap.size w w' := by
  have hl := hw.len
  unfold maxLen at hl
  by_cases hfit : (ms.length : Int) <= left
  · go_enter Tryz.func20, Tryz.ntmps20
    go_wp2_with fail
    go_loopw [1, 5] (fun l i wr => ∃ k : Nat, k <= ms.length /\ i = .int .i64 k /\ 0 <= left - ms.length - zdj (ms.take k) /\ l = .int .i64 (left - ms.length - zdj (ms.take k)) /\ Below w.heap.size w wr) (fun _ i _ => ms.length - (intOf i).toNat)
    case atStart => exact ⟨0, Nat.zero_le _, rfl, by simp [zdj]; omega, by simp [zdj], Below.refl _ _⟩
    case round =>
      obtain ⟨k, hk, rfl, hpos, rfl, hB⟩ := hrel
      by_cases hlt : k < ms.length
      · obtain ⟨b, off, rfl, hb, c0, c1, c2, c3, c4⟩ := hw.load hB k hlt
        have hsm := hw.small k hlt
        have HS : Hid (zdj (ms.take (k + 1)) = zdj (ms.take k) + ms[k].sz) := zar Pu.sz ms k hlt
        have hle : zdj (ms.take (k + 1)) <= zdj ms := zbW Pu.sz ms (k + 1)
        clear hw
        by_cases hneg : (ms[k].sz : Int) <= left - ms.length - zdj (ms.take k)
        · have HNG : Hid ((ms[k].sz : Int) <= left - ms.length - zdj (ms.take k)) := hneg
          clear hle
          go_wp2_with fail
          refine (zgV _ _ _ hsm hpos (by omega) HNG.out).mono ?_
          rintro e w1 ⟨rfl, hb1⟩
          have hB1 := hB.trans (hb1.mono hB.size)
          clear hb1
          go_wp2_with fail
          exact ⟨⟨k + 1, by omega, by go_num, by rw [HS.out]; omega, by rw [HS.out]; congr 1; omega, hB1⟩, by simp [intOf]; omega⟩
        · have HF : Hid (zH (zci ms) left = -1) := zw (by have := HS.out; unfold zci; omega)
          have HNG := hid hneg
          clear hneg hle
          go_wp2_with fail
          refine (zhw _ _ _ hsm hpos (by omega) (by have := HNG.out; omega)).mono ?_
          rintro e w1 ⟨rfl, hb1⟩
          have hB1 := hB.trans (hb1.mono hB.size)
          clear hb1
          go_wp2_with fail
          go_ret
          exact ⟨zh HF.out.symm, hB1⟩
      · have HF : Hid (zH (zci ms) left = left - ms.length - zdj (ms.take k)) := by
          rw [List.take_of_length_le (by omega)] at hpos ⊢
          have e : zH (zci ms) left = left - zci ms := zI (by unfold zci; omega)
          unfold Hid; rw [e]; unfold zci; omega
        clear hw
        go_wp2
        go_ret
        exact ⟨zh HF.out.symm, hB⟩
  · have HF : Hid (zH (zci ms) left = -1) := zw (by unfold zci; omega)
    clear hw
    go_enter Tryz.func20, Tryz.ntmps20
    go_wp2
    go_ret
    exact ⟨zh HF.out.symm, Below.refl _ _⟩
theorem zgT (m : Pu) (w : World) : Calls Tryz.prog 73 #[.agg m.cells, .agg m.cells] w fun e w' => e = .returned (.bool true) /\ Below w.heap.size w w' := by
  unfold Pu.cells
  have hn3 : (m.am != m.am) = false := by simp
  have hn4 : (m.un != m.un) = false := by simp
  go_enter Tryz.func73, Tryz.ntmps73
  go_wp2_with fail
  go_ret
  exact ⟨rfl, zu _ _ _⟩
set_option maxHeartbeats 2000000 in
theorem zfV (a a' : Option Addr) (cap cap' : Nat) (ms : List Pu) (w : World) (hw : zcx w a ms) (hw' : zcx w a' ms) :
    Calls Tryz.prog 38 #[.slice a ms.length cap, .slice a' ms.length cap'] w fun e w' => e = .returned (.bool true) /\ Below w.heap.size w w' := by
  have hl := hw.len
  unfold maxLen at hl
  have hnn : ((ms.length : Int) != ms.length) = false := by simp
  go_enter Tryz.func38, Tryz.ntmps38
  go_wp2_with fail
  go_loopw [5] (fun i wr => ∃ k : Nat, k <= ms.length /\ i = .int .i64 k /\ Below w.heap.size w wr) (fun i _ => ms.length - (intOf i).toNat)
  case atStart => exact ⟨0, Nat.zero_le _, rfl, Below.refl _ _⟩
  case round =>
    obtain ⟨k, hk, rfl, hB⟩ := hrel
    by_cases hlt : k < ms.length
    · obtain ⟨b, off, rfl, hb, c0, c1, c2, c3, c4⟩ := hw.load hB k hlt
      obtain ⟨b', off', rfl, hb', d0, d1, d2, d3, d4⟩ := hw'.load hB k hlt
      have hltI : (k : Int) < (ms.length : Int) := by omega
      clear hw hw'
      go_wp2_with fail
      go_region_with (go_at_call 73; refine (zgT ms[k] _).mono ?_; rintro e w1 ⟨rfl, hb1'⟩; have hb1 := (Below.refl wr.heap.size wr).drew.trans hb1'; clear hb1')
      all_goals go_wp2_with fail
      all_goals exact ⟨⟨k + 1, by omega, by go_num, hB.trans (hb1.mono hB.size)⟩, by simp [intOf]; omega⟩
    · clear hw hw'
      go_wp2_with fail
      go_ret
      exact ⟨rfl, hB⟩
structure jJ (lo : Nat) (w : World) (bo : Nat) (ms : List Pu) (k : Nat) : Prop where
  low : lo <= bo
  rows : ∃ C, w.heap[bo]? = some (.cells C 128) /\ C.size = ms.length * 5 /\ ∀ i (h : i < ms.length), i < k -> ∀ j, j < 5 -> C[i * 5 + j]? = ms[i].cells[j]?
theorem jJ.at {lo : Nat} {w : World} {bo : Nat} {ms : List Pu} (h : jJ lo w bo ms ms.length) (hs : ∀ i (h : i < ms.length), ms[i].Small) (hl : ms.length <= maxLen) : zcx w (some ⟨bo, 0, none⟩) ms := by
  obtain ⟨C, hC, hsz, hr⟩ := h.rows
  refine ⟨hl, hs, fun _ => ⟨bo, 0, rfl, (Array.getElem?_eq_some_iff.1 hC).1, fun i hi j hj => ?_⟩⟩
  rw [cell_of_block hC, Nat.zero_add]
  exact hr i hi hi j hj
theorem jJ.later {lo : Nat} {w w' : World} {bo : Nat} {ms : List Pu} {k : Nat} (h : jJ lo w bo ms k) (hb : Below w.heap.size w w') : jJ lo w' bo ms k := by
  obtain ⟨C, hC, hsz, hr⟩ := h.rows
  exact ⟨h.low, C, (hb.block bo (Array.getElem?_eq_some_iff.1 hC).1).trans hC, hsz, hr⟩
theorem jJ.above {lo : Nat} {w w' : World} {bo : Nat} {ms : List Pu} {k : Nat} (h : jJ lo w bo ms k) (ha : yx lo w w') : jJ lo w' bo ms k := by
  obtain ⟨C, hC, hr⟩ := h.rows
  exact ⟨h.low, C, (ha.same _ h.low (Array.getElem?_eq_some_iff.1 hC).1).trans hC, hr⟩
theorem jJ.weaken {lo lo' : Nat} {w : World} {bo : Nat} {ms : List Pu} {k : Nat} (h : jJ lo w bo ms k) (hl : lo' <= lo) : jJ lo' w bo ms k := ⟨Nat.le_trans hl h.low, h.rows⟩
def znX (w : World) (b o : Nat) (v0 v1 v2 v3 v4 : Value) : World := (((((w.setCell ⟨b, o, none⟩ v0).setCell ⟨b, o + 1, none⟩ v1).setCell ⟨b, o + 2, none⟩ v2).setCell ⟨b, o + 3, none⟩ v3).setCell ⟨b, o + 4, none⟩ v4)
def zhk (C : Array Value) (o : Nat) (v0 v1 v2 v3 v4 : Value) : Array Value := (((((C.setIfInBounds (o) v0).setIfInBounds (o + 1) v1).setIfInBounds (o + 2) v2).setIfInBounds (o + 3) v3).setIfInBounds (o + 4) v4)
theorem zk9 {w : World} {b o : Nat} {C : Array Value} {t : TypeId} (h : w.heap[b]? = some (.cells C t)) (v0 v1 v2 v3 v4 : Value) : (znX w b o v0 v1 v2 v3 v4).heap[b]? = some (.cells (zhk C o v0 v1 v2 v3 v4) t) :=
  zf (zf (zf (zf (zf h v0) v1) v2) v3) v4
theorem zk0 {B : Nat} {a w : World} (h : Below B a w) {b : Nat} (hb : B <= b) (o : Nat) (v0 v1 v2 v3 v4 : Value) : Below B a (znX w b o v0 v1 v2 v3 v4) :=
  ((((h.setCell hb v0).setCell hb v1).setCell hb v2).setCell hb v3).setCell hb v4
theorem zmi (C : Array Value) (o : Nat) (v0 v1 v2 v3 v4 : Value) : (zhk C o v0 v1 v2 v3 v4).size = C.size := by simp [zhk]
theorem znr (C : Array Value) (o i : Nat) (v0 v1 v2 v3 v4 : Value) (h : i < o \/ o + 5 <= i) : (zhk C o v0 v1 v2 v3 v4)[i]? = C[i]? := by
  unfold zhk
  iterate 5 rw [Array.getElem?_setIfInBounds, if_neg (by omega)]
theorem znW (C : Array Value) (o j : Nat) (v0 v1 v2 v3 v4 : Value) (hj : j < 5) (ho : o + 5 <= C.size) : (zhk C o v0 v1 v2 v3 v4)[o + j]? = (#[v0, v1, v2, v3, v4] : Array Value)[j]? := by
  have hc : j = 0 \/ j = 1 \/ j = 2 \/ j = 3 \/ j = 4 := by omega
  unfold zhk
  rcases hc with h | h | h | h | h <;> subst h <;> simp [Array.getElem?_setIfInBounds] <;> omega
theorem jJ.put {lo : Nat} {w : World} {bo : Nat} {ms : List Pu} {k : Nat} (h : jJ lo w bo ms k) (hk : k < ms.length) :
    jJ lo (znX w bo (k * 5) (.string ms[k].dr) (.string ms[k].tm) (.string ms[k].rs) (.int .i64 ms[k].am) (.int .i64 ms[k].un)) bo ms (k + 1) := by
  obtain ⟨C, hC, hsz, hr⟩ := h.rows
  refine ⟨h.low, _, zk9 hC _ _ _ _ _, by rw [zmi]; exact hsz, fun i hi hik j hj => ?_⟩
  rcases Nat.lt_or_ge i k with hlt | hge
  · rw [znr _ _ _ _ _ _ _ _ (by omega)]
    exact hr i hi hlt j hj
  · have e : i = k := by omega
    subst e
    rw [znW _ _ _ _ _ _ _ _ hj (by omega)]
    rfl
set_option maxHeartbeats 1000000 in
theorem zgS (m : Pu) (w : World) :
    Calls Tryz.prog 59 #[.agg m.cells] w fun e w' => e = .returned (.agg m.cells) /\ Below w.heap.size w w' := by
  unfold Pu.cells
  go_enter Tryz.func59, Tryz.ntmps59
  go_wp2_with fail
  refine bodyPost_ret (v := .agg #[.string m.dr, .string m.tm, .string m.rs, .int .i64 m.am, .int .i64 m.un]) (by simp [results, Tryz.results59, go_sem]) rfl ⟨rfl, ?_⟩
  exact ((((Below.refl _ _).alloc (Nat.le_refl _) _).alloc (by simp) _).alloc (by simp; omega) _)
def zoo : Array Value := #[.string ByteArray.empty, .string ByteArray.empty, .string ByteArray.empty, .int .i64 0, .int .i64 0]
def zmZ (n : Nat) : Array Value := madeCells zoo (n * 5)
set_option maxHeartbeats 2000000 in
theorem zfx (a : Option Addr) (cap : Nat) (ms : List Pu) (w : World) (hw : zcx w a ms) (hl : ms.length <= 1048576) :
    Calls Tryz.prog 29 #[.slice a ms.length cap] w fun e w' => e = .returned (.slice (some ⟨w.heap.size, 0, none⟩) ms.length ms.length) /\ jJ w.heap.size w' w.heap.size ms ms.length /\ Below w.heap.size w w' := by
  have hmk : ∀ w : World, (Instr.makeSlice 48 (.int .i64 ms.length) (.int .i64 ms.length)).run Tryz.prog w = .ok (.slice (some ⟨w.heap.size, 0, none⟩) ms.length ms.length) (w.alloc (.cells (zmZ ms.length) 128)) :=
    fun w => qR (P := Tryz.prog) 48 128 (.agg zoo) 5 64 Tryz.underlying48 (by kernel_rfl) ms.length (by omega) (by omega) w
  go_enter Tryz.func29, Tryz.ntmps29
  go_wp2_with fail
  clear hmk
  go_loopw [4] (fun i wr => ∃ k : Nat, k <= ms.length /\ i = .int .i64 k /\ jJ w.heap.size wr w.heap.size ms k /\ Below w.heap.size w wr) (fun i _ => ms.length - (intOf i).toNat)
  case atStart => exact ⟨0, Nat.zero_le _, rfl, ⟨Nat.le_refl _, zmZ ms.length, (MapKept.heap_alloc w _).1, size_madeCells _ _, fun i _ h => absurd h (by omega)⟩, (Below.refl _ _).alloc (Nat.le_refl _) _⟩
  case round =>
    obtain ⟨k, hk, rfl, hown, hB⟩ := hrel
    by_cases hlt : k < ms.length
    · obtain ⟨b, off, rfl, hb, c0, c1, c2, c3, c4⟩ := hw.load hB k hlt
      have hltI : (k : Int) < (ms.length : Int) := by omega
      clear hw
      go_wp2_with fail
      refine (zgS ms[k] _).mono ?_
      rintro e w1 ⟨rfl, hb1⟩
      have hB1 := hB.trans (hb1.mono hB.size)
      have hown1 := hown.later hb1
      have hbo : w.heap.size < wr.heap.size := by
        obtain ⟨C', hC', _⟩ := hown.rows
        exact (Array.getElem?_eq_some_iff.1 hC').1
      obtain ⟨C, hC, hsz, _⟩ := hown1.rows
      have hfz : ∀ o, w1.frozen? ⟨w.heap.size, o, none⟩ = false := fun o => zl hC
      have hex : ∀ o, o < ms.length * 5 -> ∃ v, w1.cell? ⟨w.heap.size, o, none⟩ = some v := fun o ho => ⟨C[o]'(by omega), by rw [cell_of_block hC]; exact Array.getElem?_eq_getElem (by omega)⟩
      obtain ⟨v0, hv0⟩ := hex (k * 5) (by omega)
      obtain ⟨v1, hv1⟩ := hex (k * 5 + 1) (by omega)
      obtain ⟨v2, hv2⟩ := hex (k * 5 + 2) (by omega)
      obtain ⟨v3, hv3⟩ := hex (k * 5 + 3) (by omega)
      obtain ⟨v4, hv4⟩ := hex (k * 5 + 4) (by omega)
      have HP := hid hown1
      clear hex hC hsz c0 c1 c2 c3 c4 hown hown1
      unfold Pu.cells
      go_wp2_with fail
      exact ⟨⟨k + 1, by omega, by go_num, HP.out.put hlt, zk0 hB1 (Nat.le_refl _) _ _ _ _ _ _⟩, by simp [intOf]; omega⟩
    · have HF : Hid (jJ w.heap.size wr w.heap.size ms ms.length) := by
        have e : k = ms.length := by omega
        subst e; exact hown
      clear hw hown
      go_wp2_with fail
      go_ret
      exact ⟨rfl, HF.out, hB⟩
end Go.Proofs.YtfapkhgallmkdaaGreat
