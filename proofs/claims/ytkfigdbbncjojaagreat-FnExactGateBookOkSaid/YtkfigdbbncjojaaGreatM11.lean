import Derived.Test.YtkfigdbbncjojaaGreatM08
import Derived.Test.YtkfigdbbncjojaaGreatM01
import Derived.Test.YtkfigdbbncjojaaGreatM09
import Derived.Test.YtkfigdbbncjojaaGreatM05
import Derived.Test.YtkfigdbbncjojaaGreatM06
import Derived.Deep.RegionWith
namespace Go.Proofs.YtkfigdbbncjojaaGreat
open Go.RowKit
set_option maxHeartbeats 400000 in
theorem zbm (a : Option Addr) (cap : Nat) (ws : List ByteArray) (v : ByteArray) (w : World) (hw : zB w a ws) :
    Calls Tryz.prog 139 #[.slice a ws.length cap, .string v] w fun e w' => e = .returned (.bool (Gate.has ws v)) /\ w' = w := by
  have hl := hw.len
  unfold maxLen at hl
  by_cases hne : ws = []
  · subst hne
    go_enter Tryz.func139, Tryz.ntmps139
    go_wp2
    go_loop [5] (fun i => i = .int .i64 0) (fun i => 0)
    case atStart => rfl
    case round =>
      subst hrel
      go_wp2
      go_ret
      exact ⟨rfl, rfl⟩
  · obtain ⟨b, off, rfl, hb, hc⟩ := hw.cells hne
    clear hw
    have HL : Hid (0 < ws.length) := List.length_pos_iff.2 hne
    clear hne
    go_enter Tryz.func139, Tryz.ntmps139
    go_wp2
    go_loop [5] (fun i => ∃ k : Nat, k <= ws.length /\ i = .int .i64 k /\ Gate.has (ws.take k) v = false) (fun i => ws.length - (intOf i).toNat)
    case atStart => exact ⟨0, Nat.zero_le _, rfl, rfl⟩
    case round =>
      obtain ⟨k, hk, rfl, hall⟩ := hrel
      by_cases hlt : k < ws.length
      · have hck := hc k hlt
        clear hc
        have HS : Hid (Gate.has (ws.take (k + 1)) v = (false || decide (ws[k] = v))) := by rw [Gate.zkf ws v k hlt, hall]; rfl
        have HN : Hid (ws[k] = v -> Gate.has ws v = true) := fun h => Gate.zmZ ws v k hlt h
        clear hall
        by_cases he : ws[k] = v
        · have hbe : (ws[k].toList == v.toList) = true := by rw [Gate.beq_toList]; simpa using he
          have HE : Hid (ws[k] = v) := he
          clear he
          go_wp2
          go_ret
          exact ⟨ze (HN.out HE.out).symm, rfl⟩
        · have hbe : (ws[k].toList == v.toList) = false := by rw [Gate.beq_toList]; simpa using he
          have HE : Hid (¬ ws[k] = v) := he
          clear he
          go_wp2
          go_round
          case rel => exact ⟨k + 1, by omega, by go_num, by rw [HS.out, decide_eq_false HE.out]; rfl⟩
          case measure => simp [intOf]; omega
      · have HA : Hid (Gate.has ws v = false) := by rw [<- Gate.zmc ws v k (by omega)]; exact hall
        clear hall hc
        go_wp2
        go_ret
        exact ⟨ze HA.out.symm, rfl⟩
end Go.Proofs.YtkfigdbbncjojaaGreat

namespace Go.Proofs.YtkfigdbbncjojaaGreat
open Go.RowKit
structure qQ (w : World) (o : Ob) (a a' : Option Addr) : Prop where
  small : o.Small
  vals : zB w a o.vs
  holds : zB w a' o.hs
theorem qQ.mono {w w' : World} {o : Ob} {a a' : Option Addr} (h : qQ w o a a') (hb : Below w.heap.size w w') : qQ w' o a a' :=
  ⟨h.small, h.vals.mono hb, h.holds.mono hb⟩
end Go.Proofs.YtkfigdbbncjojaaGreat

namespace Go.Proofs.YtkfigdbbncjojaaGreat
open Go.RowKit
structure yT (lo : Nat) (w : World) (bo : Nat) (fs : List Fld) (k : Nat) : Prop where
  low : lo <= bo
  rows : ∃ C, w.heap[bo]? = some (.cells C 115) /\ C.size = fs.length * 11 /\
    ∀ i (h : i < fs.length), i < k -> ∃ bk, lo <= bk /\ bk ≠ bo /\ w.heap[bk]? = some (.cells (j5 fs[i].ws) 9) /\ ∀ j, j < 11 -> C[i * 11 + j]? = (fs[i].cells (some ⟨bk, 0, none⟩) fs[i].ws.length)[j]?
theorem yT.at {lo : Nat} {w : World} {bo : Nat} {fs : List Fld} (h : yT lo w bo fs fs.length) (hs : zaS fs) (hl : fs.length <= maxLen) : zW w (some ⟨bo, 0, none⟩) fs := by
  obtain ⟨C, hC, hsz, hr⟩ := h.rows
  refine ⟨hl, fun _ => ⟨bo, 0, rfl, (Array.getElem?_eq_some_iff.1 hC).1, fun i hi => ?_⟩⟩
  obtain ⟨bk, _, _, hk, hc⟩ := hr i hi hi
  obtain ⟨s1, s2, s3⟩ := hs.small i hi
  refine ⟨some ⟨bk, 0, none⟩, fs[i].ws.length, s1, zb7 hk s2 s3, fun j hj => ?_⟩
  rw [cell_of_block hC, Nat.zero_add]
  exact hc j hj
theorem yT.later {lo : Nat} {w w' : World} {bo : Nat} {fs : List Fld} {k : Nat} (h : yT lo w bo fs k) (hb : Below w.heap.size w w') : yT lo w' bo fs k := by
  obtain ⟨C, hC, hsz, hr⟩ := h.rows
  refine ⟨h.low, C, (hb.block bo (Array.getElem?_eq_some_iff.1 hC).1).trans hC, hsz, fun i hi hk => ?_⟩
  obtain ⟨bk, h1, h2, h3, h4⟩ := hr i hi hk
  exact ⟨bk, h1, h2, (hb.block bk (Array.getElem?_eq_some_iff.1 h3).1).trans h3, h4⟩
theorem yT.put {lo : Nat} {w : World} {bo : Nat} {fs : List Fld} {k : Nat} (h : yT lo w bo fs k) (hk : k < fs.length) (bk : Nat) (h1 : lo <= bk) (h2 : bk ≠ bo) (h3 : w.heap[bk]? = some (.cells (j5 fs[k].ws) 9)) :
    yT lo (zjT w bo (k * 11) (.string fs[k].nm) (.int .i64 fs[k].kd) (.int .i64 fs[k].ls) (.int .i64 fs[k].ms) (.slice (some ⟨bk, 0, none⟩) fs[k].ws.length fs[k].ws.length) (.string fs[k].to) (.int .i64 fs[k].rl) (.bool fs[k].mu) (.bool fs[k].fx) (.string fs[k].df) (.string fs[k].wg)) bo fs (k + 1) := by
  obtain ⟨C, hC, hsz, hr⟩ := h.rows
  refine ⟨h.low, _, zkp hC _ _ _ _ _ _ _ _ _ _ _, by rw [zlv]; exact hsz, fun i hi hik => ?_⟩
  rcases Nat.lt_or_ge i k with hlt | hge
  · obtain ⟨bi, g1, g2, g3, g4⟩ := hr i hi hlt
    refine ⟨bi, g1, g2, by rw [zfv _ _ _ _ g2]; exact g3, fun j hj => ?_⟩
    rw [zmQ _ _ _ _ _ _ _ _ _ _ _ _ _ _ (by omega)]
    exact g4 j hj
  · have e : i = k := by omega
    subst e
    refine ⟨bk, h1, h2, by rw [zfv _ _ _ _ h2]; exact h3, fun j hj => ?_⟩
    rw [znr _ _ _ _ _ _ _ _ _ _ _ _ _ _ hj (by omega)]
    rfl
def zma : Array Value := #[.string ByteArray.empty, .int .i64 0, .int .i64 0, .int .i64 0, .slice none 0 0, .string ByteArray.empty, .int .i64 0, .bool false, .bool false, .string ByteArray.empty, .string ByteArray.empty]
def zkj (n : Nat) : Array Value := madeCells zma (n * 11)
set_option maxHeartbeats 2000000 in
theorem ze0 (a : Option Addr) (cap : Nat) (fs : List Fld) (w : World) (hw : zW w a fs) (hl : fs.length <= 1048576) (hls : ∀ i (h : i < fs.length), fs[i].ws.length <= 1048576) :
    Calls Tryz.prog 100 #[.slice a fs.length cap] w fun e w' => e = .returned (.slice (some ⟨w.heap.size, 0, none⟩) fs.length fs.length) /\ yT w.heap.size w' w.heap.size fs fs.length /\ Below w.heap.size w w' := by
  have hmk : ∀ w : World, (Instr.makeSlice 111 (.int .i64 fs.length) (.int .i64 fs.length)).run Tryz.prog w = .ok (.slice (some ⟨w.heap.size, 0, none⟩) fs.length fs.length) (w.alloc (.cells (zkj fs.length) 115)) :=
    fun w => qG (P := Tryz.prog) 111 115 (.agg zma) 11 128 Tryz.underlying111 (by kernel_rfl) fs.length (by omega) (by omega) w
  go_enter Tryz.func100, Tryz.ntmps100
  go_wp2_with fail
  clear hmk
  go_loopw [4] (fun i wr => ∃ k : Nat, k <= fs.length /\ i = .int .i64 k /\ yT w.heap.size wr w.heap.size fs k /\ Below w.heap.size w wr) (fun i _ => fs.length - (intOf i).toNat)
  case atStart => exact ⟨0, Nat.zero_le _, rfl, ⟨Nat.le_refl _, zkj fs.length, (MapKept.heap_alloc w _).1, size_madeCells _ _, fun i _ h => absurd h (by omega)⟩, (Below.refl _ _).alloc (Nat.le_refl _) _⟩
  case round =>
    obtain ⟨k, hk, rfl, hown, hB⟩ := hrel
    by_cases hlt : k < fs.length
    · obtain ⟨b, off, rfl, hb, hr⟩ := hw.rows (by rintro rfl; simp at hlt)
      obtain ⟨wa, wcap, hf0⟩ := hr k hlt
      have hf := hf0.mono hb hB
      obtain ⟨c0, c1, c2, c3, c4, c5, c6, c7, c8, c9, c10⟩ := hf.load
      have hst := hf.strs
      have HLS : Hid (fs[k].ws.length <= 1048576) := hls k hlt
      have hltI : (k : Int) < (fs.length : Int) := by omega
      clear hw hr hf0 hf
      go_wp2_with fail
      refine (zgc _ _ _ _ _ _ _ _ _ _ _ _ _ _ hst HLS.out).mono ?_
      rintro e w1 ⟨bk, rfl, hlo, hhi, hbk, hb1⟩
      have hB1 := hB.trans (hb1.mono hB.size)
      have hown1 := hown.later hb1
      obtain ⟨C, hC, hsz, _⟩ := hown1.rows
      have hfz : ∀ o, w1.frozen? ⟨w.heap.size, o, none⟩ = false := fun o => zi hC
      have hex : ∀ o, o < fs.length * 11 -> ∃ v, w1.cell? ⟨w.heap.size, o, none⟩ = some v := fun o ho => ⟨C[o]'(by omega), by rw [cell_of_block hC]; exact Array.getElem?_eq_getElem (by omega)⟩
      obtain ⟨v0, hv0⟩ := hex (k * 11) (by omega)
      obtain ⟨v1, hv1⟩ := hex (k * 11 + 1) (by omega)
      obtain ⟨v2, hv2⟩ := hex (k * 11 + 2) (by omega)
      obtain ⟨v3, hv3⟩ := hex (k * 11 + 3) (by omega)
      obtain ⟨v4, hv4⟩ := hex (k * 11 + 4) (by omega)
      obtain ⟨v5, hv5⟩ := hex (k * 11 + 5) (by omega)
      obtain ⟨v6, hv6⟩ := hex (k * 11 + 6) (by omega)
      obtain ⟨v7, hv7⟩ := hex (k * 11 + 7) (by omega)
      obtain ⟨v8, hv8⟩ := hex (k * 11 + 8) (by omega)
      obtain ⟨v9, hv9⟩ := hex (k * 11 + 9) (by omega)
      obtain ⟨v10, hv10⟩ := hex (k * 11 + 10) (by omega)
      clear hex hC hsz c0 c1 c2 c3 c4 c5 c6 c7 c8 c9 c10
      have hbo : w.heap.size < wr.heap.size := by
        obtain ⟨C', hC', _⟩ := hown.rows
        exact (Array.getElem?_eq_some_iff.1 hC').1
      go_wp2_with fail
      exact ⟨⟨k + 1, by omega, by go_num, hown1.put hlt bk (by omega) (by omega) hbk, zkO hB1 (Nat.le_refl _) _ _ _ _ _ _ _ _ _ _ _ _⟩, by simp [intOf]; omega⟩
    · have HF : Hid (yT w.heap.size wr w.heap.size fs fs.length) := by
        have e : k = fs.length := by omega
        subst e; exact hown
      clear hw hown
      go_wp2_with fail
      go_ret
      exact ⟨rfl, HF.out, hB⟩
structure jd (lo : Nat) (w : World) (bo : Nat) (ss : List Shp) (k : Nat) : Prop where
  low : lo <= bo
  rows : ∃ C, w.heap[bo]? = some (.cells C 127) /\ C.size = ss.length * 2 /\
    ∀ i (h : i < ss.length), i < k -> ∃ bf, lo <= bf /\ bo < bf /\ yT (bo + 1) w bf ss[i].fs ss[i].fs.length /\ C[i * 2]? = some (.string ss[i].kd) /\ C[i * 2 + 1]? = some (.slice (some ⟨bf, 0, none⟩) ss[i].fs.length ss[i].fs.length)
theorem jd.at {lo : Nat} {w : World} {bo : Nat} {ss : List Shp} (h : jd lo w bo ss ss.length) (hs : zcf ss) (hl : ss.length <= maxLen) : yB w (some ⟨bo, 0, none⟩) ss := by
  obtain ⟨C, hC, hsz, hr⟩ := h.rows
  refine ⟨hl, fun _ => ⟨bo, 0, rfl, (Array.getElem?_eq_some_iff.1 hC).1, fun i hi => ?_⟩⟩
  obtain ⟨bf, _, _, hf, h1, h2⟩ := hr i hi hi
  obtain ⟨s1, s2, s3⟩ := hs.small i hi
  refine ⟨some ⟨bf, 0, none⟩, ss[i].fs.length, s1, hf.at s3 s2, ?_, ?_⟩
  · rw [cell_of_block hC, Nat.zero_add]; exact h1
  · rw [cell_of_block hC, Nat.zero_add]; exact h2
theorem jd.later {lo : Nat} {w w' : World} {bo : Nat} {ss : List Shp} {k : Nat} (h : jd lo w bo ss k) (hb : Below w.heap.size w w') : jd lo w' bo ss k := by
  obtain ⟨C, hC, hsz, hr⟩ := h.rows
  refine ⟨h.low, C, (hb.block bo (Array.getElem?_eq_some_iff.1 hC).1).trans hC, hsz, fun i hi hk => ?_⟩
  obtain ⟨bf, h1, h2, h3, h4⟩ := hr i hi hk
  exact ⟨bf, h1, h2, h3.later hb, h4⟩
theorem yT.setCell {lo : Nat} {w : World} {bf : Nat} {fs : List Fld} {k : Nat} (h : yT lo w bf fs k) {p : Addr} (hp : p.block < lo) (v : Value) : yT lo (w.setCell p v) bf fs k := by
  obtain ⟨C, hC, hsz, hr⟩ := h.rows
  have hl := h.low
  refine ⟨h.low, C, by rw [Below.heap_setCell _ _ _ _ (by omega)]; exact hC, hsz, fun i hi hk => ?_⟩
  obtain ⟨bk, h1, h2, h3, h4⟩ := hr i hi hk
  exact ⟨bk, h1, h2, by rw [Below.heap_setCell _ _ _ _ (by omega)]; exact h3, h4⟩
theorem yT.weaken {lo lo' : Nat} {w : World} {bf : Nat} {fs : List Fld} {k : Nat} (h : yT lo w bf fs k) (hl : lo' <= lo) : yT lo' w bf fs k := by
  obtain ⟨C, hC, hsz, hr⟩ := h.rows
  refine ⟨Nat.le_trans hl h.low, C, hC, hsz, fun i hi hk => ?_⟩
  obtain ⟨bk, h1, h2⟩ := hr i hi hk
  exact ⟨bk, Nat.le_trans hl h1, h2⟩
theorem jd.put {lo : Nat} {w : World} {bo : Nat} {ss : List Shp} {k : Nat} (h : jd lo w bo ss k) (hk : k < ss.length) (bf : Nat) (h1 : bo < bf) (h3 : yT (bo + 1) w bf ss[k].fs ss[k].fs.length) :
    jd lo ((w.setCell ⟨bo, k * 2, none⟩ (.string ss[k].kd)).setCell ⟨bo, k * 2 + 1, none⟩ (.slice (some ⟨bf, 0, none⟩) ss[k].fs.length ss[k].fs.length)) bo ss (k + 1) := by
  obtain ⟨C, hC, hsz, hr⟩ := h.rows
  have hl := h.low
  refine ⟨h.low, _, zf (zf hC _) _, by simp [hsz], fun i hi hik => ?_⟩
  rcases Nat.lt_or_ge i k with hlt | hge
  · obtain ⟨bi, g1, g2, g3, g4, g5⟩ := hr i hi hlt
    refine ⟨bi, g1, g2, (g3.setCell (by simp) _).setCell (by simp) _, ?_, ?_⟩
    · rw [Array.getElem?_setIfInBounds, if_neg (by omega), Array.getElem?_setIfInBounds, if_neg (by omega)]; exact g4
    · rw [Array.getElem?_setIfInBounds, if_neg (by omega), Array.getElem?_setIfInBounds, if_neg (by omega)]; exact g5
  · have e : i = k := by omega
    subst e
    refine ⟨bf, by omega, h1, (h3.setCell (by simp) _).setCell (by simp) _, ?_, ?_⟩
    · rw [Array.getElem?_setIfInBounds, if_neg (by omega), Array.getElem?_setIfInBounds, if_pos rfl, if_pos (by omega)]
    · rw [Array.getElem?_setIfInBounds, if_pos rfl, if_pos (by simp; omega)]
set_option maxHeartbeats 1000000 in
theorem zf5 (kd : ByteArray) (a : Option Addr) (cap : Nat) (fs : List Fld) (w : World) (hw : zW w a fs) (hl : fs.length <= 1048576) (hls : ∀ i (h : i < fs.length), fs[i].ws.length <= 1048576) :
    Calls Tryz.prog 62 #[.agg #[.string kd, .slice a fs.length cap]] w fun e w' => ∃ bf, e = .returned (.agg #[.string kd, .slice (some ⟨bf, 0, none⟩) fs.length fs.length]) /\ yT w.heap.size w' bf fs fs.length /\ Below w.heap.size w w' := by
  go_enter Tryz.func62, Tryz.ntmps62
  go_wp2_with fail
  refine (ze0 _ _ _ _ (hw.mono ((((Below.refl _ _).alloc (Nat.le_refl _) _).alloc (by simp) _).alloc (by simp; omega) _)) hl hls).mono ?_
  rintro e w1 ⟨rfl, hown, hb1⟩
  have qr0 : w1.cell? ⟨w.heap.size + 1, 0, none⟩ = some (.string { data := #[] }) := (hb1.cell (p := ⟨w.heap.size + 1, 0, none⟩) (by simp)).trans (by simp [World.cell?_alloc_at, World.cell?_alloc_past])
  have fr0 : w1.frozen? ⟨w.heap.size + 1, 0, none⟩ = false := (hb1.frozen (p := ⟨w.heap.size + 1, 0, none⟩) (by simp)).trans (by simp [World.frozen?_alloc_at, World.frozen?_alloc_past])
  have qr1 : w1.cell? ⟨w.heap.size + 1, 1, none⟩ = some (.slice none 0 0) := (hb1.cell (p := ⟨w.heap.size + 1, 1, none⟩) (by simp)).trans (by simp [World.cell?_alloc_at, World.cell?_alloc_past])
  have fr1 : w1.frozen? ⟨w.heap.size + 1, 1, none⟩ = false := (hb1.frozen (p := ⟨w.heap.size + 1, 1, none⟩) (by simp)).trans (by simp [World.frozen?_alloc_at, World.frozen?_alloc_past])
  have qo0 : w1.cell? ⟨w.heap.size + 1 + 1, 0, none⟩ = some (.string kd) := (hb1.cell (p := ⟨w.heap.size + 1 + 1, 0, none⟩) (by simp)).trans (by simp [World.cell?_alloc_at])
  have fo0 : w1.frozen? ⟨w.heap.size + 1 + 1, 0, none⟩ = false := (hb1.frozen (p := ⟨w.heap.size + 1 + 1, 0, none⟩) (by simp)).trans (by simp [World.frozen?_alloc_at])
  have qo1 : w1.cell? ⟨w.heap.size + 1 + 1, 1, none⟩ = some (.slice none 0 0) := (hb1.cell (p := ⟨w.heap.size + 1 + 1, 1, none⟩) (by simp)).trans (by simp [World.cell?_alloc_at])
  have fo1 : w1.frozen? ⟨w.heap.size + 1 + 1, 1, none⟩ = false := (hb1.frozen (p := ⟨w.heap.size + 1 + 1, 1, none⟩) (by simp)).trans (by simp [World.frozen?_alloc_at])
  have hz1 : w.heap.size + 1 + 1 < w1.heap.size := by have := hb1.size; simp at this; omega
  go_wp2_with fail
  have hsz : (((w.alloc (.cells #[.string kd, .slice a fs.length cap] 79)).alloc (.cells #[.string { data := #[] }, .slice none 0 0] 127)).alloc (.cells #[.string kd, .slice none 0 0] 127)).heap.size = w.heap.size + 1 + 1 + 1 := by simp
  have hB1 : Below w.heap.size w w1 := ((((Below.refl _ _).alloc (Nat.le_refl _) _).alloc (by simp) _).alloc (by simp; omega) _).trans (hb1.mono (by simp; omega))
  rw [hsz] at hown
  refine bodyPost_ret (v := .agg #[.string kd, .slice (some ⟨w.heap.size + 1 + 1 + 1, 0, none⟩) fs.length fs.length]) (by simp [results, Tryz.results62, go_sem, qr0, qr1]) rfl ⟨w.heap.size + 1 + 1 + 1, rfl, ?_, ?_⟩
  · exact (((hown.setCell (by simp) _).setCell (by simp) _).setCell (by simp) _).weaken (by omega)
  · exact ((hB1.setCell (by simp; omega) _).setCell (by simp) _).setCell (by simp) _
def zmf : Array Value := #[.string ByteArray.empty, .slice none 0 0]
def zj3 (n : Nat) : Array Value := madeCells zmf (n * 2)
set_option maxHeartbeats 2000000 in
theorem ze7 (a : Option Addr) (cap : Nat) (ss : List Shp) (w : World) (hw : yB w a ss) (hl : ss.length <= 1048576) (hls : ∀ i (h : i < ss.length), ss[i].fs.length <= 1048576 /\ ∀ j (h' : j < ss[i].fs.length), ss[i].fs[j].ws.length <= 1048576) :
    Calls Tryz.prog 24 #[.slice a ss.length cap] w fun e w' => e = .returned (.slice (some ⟨w.heap.size, 0, none⟩) ss.length ss.length) /\ jd w.heap.size w' w.heap.size ss ss.length /\ Below w.heap.size w w' := by
  have hmk : ∀ w : World, (Instr.makeSlice 36 (.int .i64 ss.length) (.int .i64 ss.length)).run Tryz.prog w = .ok (.slice (some ⟨w.heap.size, 0, none⟩) ss.length ss.length) (w.alloc (.cells (zj3 ss.length) 127)) :=
    fun w => qG (P := Tryz.prog) 36 127 (.agg zmf) 2 40 Tryz.underlying36 (by kernel_rfl) ss.length (by omega) (by omega) w
  go_enter Tryz.func24, Tryz.ntmps24
  go_wp2_with fail
  clear hmk
  go_loopw [4] (fun i wr => ∃ k : Nat, k <= ss.length /\ i = .int .i64 k /\ jd w.heap.size wr w.heap.size ss k /\ Below w.heap.size w wr) (fun i _ => ss.length - (intOf i).toNat)
  case atStart => exact ⟨0, Nat.zero_le _, rfl, ⟨Nat.le_refl _, zj3 ss.length, (MapKept.heap_alloc w _).1, size_madeCells _ _, fun i _ h => absurd h (by omega)⟩, (Below.refl _ _).alloc (Nat.le_refl _) _⟩
  case round =>
    obtain ⟨k, hk, rfl, hown, hB⟩ := hrel
    by_cases hlt : k < ss.length
    · obtain ⟨b, off, rfl, hb, hr⟩ := hw.rows (by rintro rfl; simp at hlt)
      obtain ⟨fa, fcap, hs0⟩ := hr k hlt
      have hs := hs0.mono hb hB
      have hck := hs.kind
      have hcl := hs.list
      have hfl := hs.flds
      have HLS := hls k hlt
      have HLS' : Hid (ss[k].fs.length <= 1048576 /\ ∀ j (h' : j < ss[k].fs.length), ss[k].fs[j].ws.length <= 1048576) := HLS
      have hltI : (k : Int) < (ss.length : Int) := by omega
      clear hw hr hs0 hs HLS
      go_wp2_with fail
      refine (zf5 _ _ _ _ _ hfl HLS'.out.1 HLS'.out.2).mono ?_
      rintro e w1 ⟨bf, rfl, hof, hb1⟩
      have hB1 := hB.trans (hb1.mono hB.size)
      have hown1 := hown.later hb1
      have hbo : w.heap.size < wr.heap.size := by
        obtain ⟨C', hC', _⟩ := hown.rows
        exact (Array.getElem?_eq_some_iff.1 hC').1
      obtain ⟨C, hC, hsz, _⟩ := hown1.rows
      have hfz : ∀ o, w1.frozen? ⟨w.heap.size, o, none⟩ = false := fun o => zi hC
      have hex : ∀ o, o < ss.length * 2 -> ∃ v, w1.cell? ⟨w.heap.size, o, none⟩ = some v := fun o ho => ⟨C[o]'(by omega), by rw [cell_of_block hC]; exact Array.getElem?_eq_getElem (by omega)⟩
      obtain ⟨v0, hv0⟩ := hex (k * 2) (by omega)
      obtain ⟨v1, hv1⟩ := hex (k * 2 + 1) (by omega)
      clear hex hC hsz hck hcl
      have hlow := hof.low
      go_wp2_with fail
      exact ⟨⟨k + 1, by omega, by go_num, hown1.put hlt bf (by omega) (hof.weaken (by omega)), (hB1.setCell (Nat.le_refl _) _).setCell (Nat.le_refl _) _⟩, by simp [intOf]; omega⟩
    · have HF : Hid (jd w.heap.size wr w.heap.size ss ss.length) := by
        have e : k = ss.length := by omega
        subst e; exact hown
      clear hw hown
      go_wp2_with fail
      go_ret
      exact ⟨rfl, HF.out, hB⟩
end Go.Proofs.YtkfigdbbncjojaaGreat

namespace Go.Proofs.YtkfigdbbncjojaaGreat
open Go.RowKit
set_option maxHeartbeats 2000000 in
theorem zfc (a a' : Option Addr) (cap cap' : Nat) (fs : List Fld) (w : World) (hw : zW w a fs) (hw' : zW w a' fs) :
    Calls Tryz.prog 131 #[.slice a fs.length cap, .slice a' fs.length cap'] w fun e w' => e = .returned (.bool true) /\ Below w.heap.size w w' := by
  have hl := hw.len
  unfold maxLen at hl
  have hnn : ((fs.length : Int) != fs.length) = false := by simp
  go_enter Tryz.func131, Tryz.ntmps131
  go_wp2_with fail
  go_loopw [5] (fun i wr => ∃ k : Nat, k <= fs.length /\ i = .int .i64 k /\ Below w.heap.size w wr) (fun i _ => fs.length - (intOf i).toNat)
  case atStart => exact ⟨0, Nat.zero_le _, rfl, Below.refl _ _⟩
  case round =>
    obtain ⟨k, hk, rfl, hB⟩ := hrel
    by_cases hlt : k < fs.length
    · obtain ⟨b, off, rfl, hb, hr⟩ := hw.rows (by rintro rfl; simp at hlt)
      obtain ⟨b', off', rfl, hb', hr'⟩ := hw'.rows (by rintro rfl; simp at hlt)
      obtain ⟨wa, wcap, hf0⟩ := hr k hlt
      obtain ⟨wa', wcap', hf0'⟩ := hr' k hlt
      have hf := hf0.mono hb hB
      have hf' := hf0'.mono hb' hB
      obtain ⟨c0, c1, c2, c3, c4, c5, c6, c7, c8, c9, c10⟩ := hf.load
      obtain ⟨d0, d1, d2, d3, d4, d5, d6, d7, d8, d9, d10⟩ := hf'.load
      have hst := hf.strs
      have hst' := hf'.strs
      have hltI : (k : Int) < (fs.length : Int) := by omega
      clear hw hw' hr hr' hf0 hf0' hf hf'
      go_wp2_with fail
      go_region_with (go_at_call 173; refine (zgd _ _ _ _ _ _ _ _ _ _ _ _ _ _ _ _ (by exact hst.mono ((Below.refl _ _).drew)) (by exact hst'.mono ((Below.refl _ _).drew))).mono ?_; rintro e w1 ⟨rfl, hb1'⟩; have hb1 := (Below.refl wr.heap.size wr).drew.trans hb1'; clear hb1')
      all_goals go_wp2_with fail
      all_goals exact ⟨⟨k + 1, by omega, by go_num, hB.trans (hb1.mono hB.size)⟩, by simp [intOf]; omega⟩
    · clear hw hw'
      go_wp2_with fail
      go_ret
      exact ⟨rfl, hB⟩
set_option maxHeartbeats 1000000 in
theorem zgn (kd : ByteArray) (a a' : Option Addr) (cap cap' : Nat) (fs : List Fld) (w : World) (hw : zW w a fs) (hw' : zW w a' fs) :
    Calls Tryz.prog 77 #[.agg #[.string kd, .slice a fs.length cap], .agg #[.string kd, .slice a' fs.length cap']] w fun e w' => e = .returned (.bool true) /\ Below w.heap.size w w' := by
  go_enter Tryz.func77, Tryz.ntmps77
  go_wp2_with fail
  refine (zfc _ _ _ _ _ _ (hw.mono (zq _ _ _)) (hw'.mono (zq _ _ _))).mono ?_
  rintro e w1 ⟨rfl, hb1⟩
  go_wp2_with fail
  go_ret
  exact ⟨rfl, (zq _ _ _).trans (hb1.mono (by simp; omega))⟩
set_option maxHeartbeats 2000000 in
theorem zfn (a a' : Option Addr) (cap cap' : Nat) (ss : List Shp) (w : World) (hw : yB w a ss) (hw' : yB w a' ss) :
    Calls Tryz.prog 33 #[.slice a ss.length cap, .slice a' ss.length cap'] w fun e w' => e = .returned (.bool true) /\ Below w.heap.size w w' := by
  have hl := hw.len
  unfold maxLen at hl
  have hnn : ((ss.length : Int) != ss.length) = false := by simp
  go_enter Tryz.func33, Tryz.ntmps33
  go_wp2_with fail
  go_loopw [5] (fun i wr => ∃ k : Nat, k <= ss.length /\ i = .int .i64 k /\ Below w.heap.size w wr) (fun i _ => ss.length - (intOf i).toNat)
  case atStart => exact ⟨0, Nat.zero_le _, rfl, Below.refl _ _⟩
  case round =>
    obtain ⟨k, hk, rfl, hB⟩ := hrel
    by_cases hlt : k < ss.length
    · obtain ⟨b, off, rfl, hb, hr⟩ := hw.rows (by rintro rfl; simp at hlt)
      obtain ⟨b', off', rfl, hb', hr'⟩ := hw'.rows (by rintro rfl; simp at hlt)
      obtain ⟨wa, wcap, hf0⟩ := hr k hlt
      obtain ⟨wa', wcap', hf0'⟩ := hr' k hlt
      have hf := hf0.mono hb hB
      have hf' := hf0'.mono hb' hB
      have c0 := hf.kind
      have c1 := hf.list
      have d0 := hf'.kind
      have d1 := hf'.list
      have hst := hf.flds
      have hst' := hf'.flds
      have hltI : (k : Int) < (ss.length : Int) := by omega
      clear hw hw' hr hr' hf0 hf0' hf hf'
      go_wp2_with fail
      go_region_with (go_at_call 77; refine (zgn _ _ _ _ _ _ _ (by exact hst.mono ((Below.refl _ _).drew)) (by exact hst'.mono ((Below.refl _ _).drew))).mono ?_; rintro e w1 ⟨rfl, hb1'⟩; have hb1 := (Below.refl wr.heap.size wr).drew.trans hb1'; clear hb1')
      all_goals go_wp2_with fail
      all_goals exact ⟨⟨k + 1, by omega, by go_num, hB.trans (hb1.mono hB.size)⟩, by simp [intOf]; omega⟩
    · clear hw hw'
      go_wp2_with fail
      go_ret
      exact ⟨rfl, hB⟩
end Go.Proofs.YtkfigdbbncjojaaGreat

namespace Go.Proofs.YtkfigdbbncjojaaGreat
open Go.RowKit
theorem znq {ss : List Shp} (h : (jS ss : Int) <= 1048576) : ss.length <= 1048576 /\ ∀ i (h : i < ss.length), ss[i].fs.length <= 1048576 /\ ∀ j (h' : j < ss[i].fs.length), ss[i].fs[j].ws.length <= 1048576 := by
  unfold jS at h
  refine ⟨by omega, fun i hi => ?_⟩
  have h1 : Shp.sz ss[i] <= zfg ss := zgy Shp.sz ss i hi
  unfold Shp.sz jP at h1
  refine ⟨by omega, fun j hj => ?_⟩
  have h2 : Fld.sz ss[i].fs[j] <= zfs ss[i].fs := zgy Fld.sz ss[i].fs j hj
  unfold Fld.sz jC yX at h2
  omega
end Go.Proofs.YtkfigdbbncjojaaGreat
