import Derived.Test.YtponiggfclcbgaaGreatM01
import Derived.Test.YtponiggfclcbgaaGreatM02
import Derived.Test.YtponiggfclcbgaaGreatM03
import Derived.Test.YtponiggfclcbgaaGreatM05
import Derived.Test.YtponiggfclcbgaaGreatM04
namespace Go.Proofs.YtponiggfclcbgaaGreat
open Go.RowKit

/-- A row of fields in memory from lo on, the first k of them laid; the words of each in a block of their own. -/
structure FldsOwn (lo : Nat) (w : World) (bo : Nat) (fs : List Fld) (k : Nat) : Prop where
  low : lo ≤ bo
  rows : ∃ C, w.heap[bo]? = some (.cells C 91) ∧ C.size = fs.length * 11 ∧
    ∀ i (h : i < fs.length), i < k → ∃ bk, lo ≤ bk ∧ bk ≠ bo ∧ w.heap[bk]? = some (.cells (strArr fs[i].ws) 9) ∧ ∀ j, j < 11 → C[i * 11 + j]? = (fs[i].cells (some ⟨bk, 0, none⟩) fs[i].ws.length)[j]?

structure FldsSmall (fs : List Fld) : Prop where
  small : ∀ i (h : i < fs.length), fs[i].Small ∧ fs[i].ws.length ≤ maxLen ∧ ∀ s ∈ fs[i].ws, s.size ≤ maxLen

theorem FldsAt.smalls {w : World} {a : Option Addr} {fs : List Fld} (h : FldsAt w a fs) : FldsSmall fs :=
  ⟨fun i hi => by
    obtain ⟨b, off, _, _, hr⟩ := h.rows (by rintro rfl; simp at hi)
    obtain ⟨wa, wcap, hf⟩ := hr i hi
    exact ⟨hf.small, hf.strs.len, hf.strs.small⟩⟩

theorem FldsOwn.at {lo : Nat} {w : World} {bo : Nat} {fs : List Fld} (h : FldsOwn lo w bo fs fs.length) (hs : FldsSmall fs) (hl : fs.length ≤ maxLen) : FldsAt w (some ⟨bo, 0, none⟩) fs := by
  obtain ⟨C, hC, hsz, hr⟩ := h.rows
  refine ⟨hl, fun _ => ⟨bo, 0, rfl, (Array.getElem?_eq_some_iff.1 hC).1, fun i hi => ?_⟩⟩
  obtain ⟨bk, _, _, hk, hc⟩ := hr i hi hi
  obtain ⟨s1, s2, s3⟩ := hs.small i hi
  refine ⟨some ⟨bk, 0, none⟩, fs[i].ws.length, s1, heap_strs hk s2 s3, fun j hj => ?_⟩
  rw [cell_of_block hC, Nat.zero_add]
  exact hc j hj

theorem FldsOwn.later {lo : Nat} {w w' : World} {bo : Nat} {fs : List Fld} {k : Nat} (h : FldsOwn lo w bo fs k) (hb : Below w.heap.size w w') : FldsOwn lo w' bo fs k := by
  obtain ⟨C, hC, hsz, hr⟩ := h.rows
  refine ⟨h.low, C, (hb.block bo (Array.getElem?_eq_some_iff.1 hC).1).trans hC, hsz, fun i hi hk => ?_⟩
  obtain ⟨bk, h1, h2, h3, h4⟩ := hr i hi hk
  exact ⟨bk, h1, h2, (hb.block bk (Array.getElem?_eq_some_iff.1 h3).1).trans h3, h4⟩

theorem FldsOwn.put {lo : Nat} {w : World} {bo : Nat} {fs : List Fld} {k : Nat} (h : FldsOwn lo w bo fs k) (hk : k < fs.length) (bk : Nat) (h1 : lo ≤ bk) (h2 : bk ≠ bo) (h3 : w.heap[bk]? = some (.cells (strArr fs[k].ws) 9)) :
    FldsOwn lo (put11 w bo (k * 11) (.string fs[k].nm) (.int .i64 fs[k].kd) (.int .i64 fs[k].ls) (.int .i64 fs[k].ms) (.slice (some ⟨bk, 0, none⟩) fs[k].ws.length fs[k].ws.length) (.string fs[k].to) (.int .i64 fs[k].rl) (.bool fs[k].mu) (.bool fs[k].fx) (.string fs[k].df) (.string fs[k].wg)) bo fs (k + 1) := by
  obtain ⟨C, hC, hsz, hr⟩ := h.rows
  refine ⟨h.low, _, put11_block hC _ _ _ _ _ _ _ _ _ _ _, by rw [set11_size]; exact hsz, fun i hi hik => ?_⟩
  rcases Nat.lt_or_ge i k with hlt | hge
  · obtain ⟨bi, g1, g2, g3, g4⟩ := hr i hi hlt
    refine ⟨bi, g1, g2, by rw [put11_other _ _ _ _ g2]; exact g3, fun j hj => ?_⟩
    rw [set11_out _ _ _ _ _ _ _ _ _ _ _ _ _ _ (by omega)]
    exact g4 j hj
  · have e : i = k := by omega
    subst e
    refine ⟨bk, h1, h2, by rw [put11_other _ _ _ _ h2]; exact h3, fun j hj => ?_⟩
    rw [set11_in _ _ _ _ _ _ _ _ _ _ _ _ _ _ hj (by omega)]
    rfl

def fldZero : Array Value := #[.string ByteArray.empty, .int .i64 0, .int .i64 0, .int .i64 0, .slice none 0 0, .string ByteArray.empty, .int .i64 0, .bool false, .bool false, .string ByteArray.empty, .string ByteArray.empty]
def fldsZero (n : Nat) : Array Value := madeCells fldZero (n * 11)

set_option maxHeartbeats 2000000 in
theorem toGateFieldS_any (a : Option Addr) (cap : Nat) (fs : List Fld) (w : World) (hw : FldsAt w a fs) (hl : fs.length ≤ 1048576) (hls : ∀ i (h : i < fs.length), fs[i].ws.length ≤ 1048576) :
    Calls Tryz.prog 68 #[.slice a fs.length cap] w fun e w' => e = .returned (.slice (some ⟨w.heap.size, 0, none⟩) fs.length fs.length) ∧ FldsOwn w.heap.size w' w.heap.size fs fs.length ∧ Below w.heap.size w w' := by
  have hmk : ∀ w : World, (Instr.makeSlice 49 (.int .i64 fs.length) (.int .i64 fs.length)).run Tryz.prog w = .ok (.slice (some ⟨w.heap.size, 0, none⟩) fs.length fs.length) (w.alloc (.cells (fldsZero fs.length) 91)) :=
    fun w => run_make_rows (P := Tryz.prog) 49 91 (.agg fldZero) 11 128 Tryz.underlying49 (by kernel_rfl) fs.length (by omega) (by omega) w
  go_enter Tryz.func68, Tryz.ntmps68
  go_wp2_with fail
  clear hmk
  go_loopw [4] (fun i wr => ∃ k : Nat, k ≤ fs.length ∧ i = .int .i64 k ∧ FldsOwn w.heap.size wr w.heap.size fs k ∧ Below w.heap.size w wr) (fun i _ => fs.length - (intOf i).toNat)
  case atStart => exact ⟨0, Nat.zero_le _, rfl, ⟨Nat.le_refl _, fldsZero fs.length, (MapKept.heap_alloc w _).1, size_madeCells _ _, fun i _ h => absurd h (by omega)⟩, (Below.refl _ _).alloc (Nat.le_refl _) _⟩
  case round =>
    obtain ⟨k, hk, rfl, hown, hB⟩ := hrel
    by_cases hlt : k < fs.length
    · obtain ⟨b, off, rfl, hb, hr⟩ := hw.rows (by rintro rfl; simp at hlt)
      obtain ⟨wa, wcap, hf0⟩ := hr k hlt
      have hf := hf0.mono hb hB
      obtain ⟨c0, c1, c2, c3, c4, c5, c6, c7, c8, c9, c10⟩ := hf.load
      have hst := hf.strs
      have HLS : Hid (fs[k].ws.length ≤ 1048576) := hls k hlt
      have hltI : (k : Int) < (fs.length : Int) := by omega
      clear hw hr hf0 hf
      go_wp2_with fail
      refine (toGateField_any _ _ _ _ _ _ _ _ _ _ _ _ _ _ hst HLS.out).mono ?_
      rintro e w1 ⟨bk, rfl, hlo, hhi, hbk, hb1⟩
      have hB1 := hB.trans (hb1.mono hB.size)
      have hown1 := hown.later hb1
      obtain ⟨C, hC, hsz, _⟩ := hown1.rows
      have hfz : ∀ o, w1.frozen? ⟨w.heap.size, o, none⟩ = false := fun o => frozen_of_block hC
      have hex : ∀ o, o < fs.length * 11 → ∃ v, w1.cell? ⟨w.heap.size, o, none⟩ = some v := fun o ho => ⟨C[o]'(by omega), by rw [cell_of_block hC]; exact Array.getElem?_eq_getElem (by omega)⟩
      obtain ⟨v0, hv0⟩ := hex (k * 11) (by omega)
      obtain ⟨v1, hv1⟩ := hex (k * 11 + 1) (by omega)
      obtain ⟨v2, hv2⟩ := hex (k * 11 + 2) (by omega)
      obtain ⟨v3, hv3⟩ := hex (k * 11 + 3) (by omega)
      obtain ⟨v4, hv4⟩ := hex (k * 11 + 4) (by omega)
      obtain ⟨v5, hv5⟩ := hex (k * 11 + 5) (by omega)
      obtain ⟨v6, hv6⟩ := hex (k * 11 + 6) (by omega)
      obtain ⟨v7, hv7⟩ := hex (k * 11 + 7) (by omega)
      obtain ⟨v8, hv8⟩ := hex (k * 11 + 8) (by omega)
      obtain ⟨v9, hv9⟩ := hex (k * 11 + 9) (by omega)
      obtain ⟨v10, hv10⟩ := hex (k * 11 + 10) (by omega)
      clear hex hC hsz c0 c1 c2 c3 c4 c5 c6 c7 c8 c9 c10
      have hbo : w.heap.size < wr.heap.size := by
        obtain ⟨C', hC', _⟩ := hown.rows
        exact (Array.getElem?_eq_some_iff.1 hC').1
      go_wp2_with fail
      exact ⟨⟨k + 1, by omega, by go_num, hown1.put hlt bk (by omega) (by omega) hbk, put11_below hB1 (Nat.le_refl _) _ _ _ _ _ _ _ _ _ _ _ _⟩, by simp [intOf]; omega⟩
    · have HF : Hid (FldsOwn w.heap.size wr w.heap.size fs fs.length) := by
        have e : k = fs.length := by omega
        subst e; exact hown
      clear hw hown
      go_wp2_with fail
      go_ret
      exact ⟨rfl, HF.out, hB⟩

/-- The same of a row of shapes: each has its fields in memory of its own, from lo on. -/
structure ShpsOwn (lo : Nat) (w : World) (bo : Nat) (ss : List Shp) (k : Nat) : Prop where
  low : lo ≤ bo
  rows : ∃ C, w.heap[bo]? = some (.cells C 69) ∧ C.size = ss.length * 2 ∧
    ∀ i (h : i < ss.length), i < k → ∃ bf, lo ≤ bf ∧ bo < bf ∧ FldsOwn (bo + 1) w bf ss[i].fs ss[i].fs.length ∧ C[i * 2]? = some (.string ss[i].kd) ∧ C[i * 2 + 1]? = some (.slice (some ⟨bf, 0, none⟩) ss[i].fs.length ss[i].fs.length)

structure ShpsSmall (ss : List Shp) : Prop where
  small : ∀ i (h : i < ss.length), ss[i].kd.size ≤ maxLen ∧ ss[i].fs.length ≤ maxLen ∧ FldsSmall ss[i].fs

theorem ShpsAt.smalls {w : World} {a : Option Addr} {ss : List Shp} (h : ShpsAt w a ss) : ShpsSmall ss :=
  ⟨fun i hi => by
    obtain ⟨b, off, _, _, hr⟩ := h.rows (by rintro rfl; simp at hi)
    obtain ⟨fa, fcap, hs⟩ := hr i hi
    exact ⟨hs.small, hs.flds.len, hs.flds.smalls⟩⟩

theorem ShpsOwn.at {lo : Nat} {w : World} {bo : Nat} {ss : List Shp} (h : ShpsOwn lo w bo ss ss.length) (hs : ShpsSmall ss) (hl : ss.length ≤ maxLen) : ShpsAt w (some ⟨bo, 0, none⟩) ss := by
  obtain ⟨C, hC, hsz, hr⟩ := h.rows
  refine ⟨hl, fun _ => ⟨bo, 0, rfl, (Array.getElem?_eq_some_iff.1 hC).1, fun i hi => ?_⟩⟩
  obtain ⟨bf, _, _, hf, h1, h2⟩ := hr i hi hi
  obtain ⟨s1, s2, s3⟩ := hs.small i hi
  refine ⟨some ⟨bf, 0, none⟩, ss[i].fs.length, s1, hf.at s3 s2, ?_, ?_⟩
  · rw [cell_of_block hC, Nat.zero_add]; exact h1
  · rw [cell_of_block hC, Nat.zero_add]; exact h2

theorem ShpsOwn.later {lo : Nat} {w w' : World} {bo : Nat} {ss : List Shp} {k : Nat} (h : ShpsOwn lo w bo ss k) (hb : Below w.heap.size w w') : ShpsOwn lo w' bo ss k := by
  obtain ⟨C, hC, hsz, hr⟩ := h.rows
  refine ⟨h.low, C, (hb.block bo (Array.getElem?_eq_some_iff.1 hC).1).trans hC, hsz, fun i hi hk => ?_⟩
  obtain ⟨bf, h1, h2, h3, h4⟩ := hr i hi hk
  exact ⟨bf, h1, h2, h3.later hb, h4⟩

/-- A store into block bo leaves the fields of shapes that lie above it. -/
theorem FldsOwn.setCell {lo : Nat} {w : World} {bf : Nat} {fs : List Fld} {k : Nat} (h : FldsOwn lo w bf fs k) {p : Addr} (hp : p.block < lo) (v : Value) : FldsOwn lo (w.setCell p v) bf fs k := by
  obtain ⟨C, hC, hsz, hr⟩ := h.rows
  have hl := h.low
  refine ⟨h.low, C, by rw [Below.heap_setCell _ _ _ _ (by omega)]; exact hC, hsz, fun i hi hk => ?_⟩
  obtain ⟨bk, h1, h2, h3, h4⟩ := hr i hi hk
  exact ⟨bk, h1, h2, by rw [Below.heap_setCell _ _ _ _ (by omega)]; exact h3, h4⟩

theorem FldsOwn.weaken {lo lo' : Nat} {w : World} {bf : Nat} {fs : List Fld} {k : Nat} (h : FldsOwn lo w bf fs k) (hl : lo' ≤ lo) : FldsOwn lo' w bf fs k := by
  obtain ⟨C, hC, hsz, hr⟩ := h.rows
  refine ⟨Nat.le_trans hl h.low, C, hC, hsz, fun i hi hk => ?_⟩
  obtain ⟨bk, h1, h2⟩ := hr i hi hk
  exact ⟨bk, Nat.le_trans hl h1, h2⟩

theorem ShpsOwn.put {lo : Nat} {w : World} {bo : Nat} {ss : List Shp} {k : Nat} (h : ShpsOwn lo w bo ss k) (hk : k < ss.length) (bf : Nat) (h1 : bo < bf) (h3 : FldsOwn (bo + 1) w bf ss[k].fs ss[k].fs.length) :
    ShpsOwn lo ((w.setCell ⟨bo, k * 2, none⟩ (.string ss[k].kd)).setCell ⟨bo, k * 2 + 1, none⟩ (.slice (some ⟨bf, 0, none⟩) ss[k].fs.length ss[k].fs.length)) bo ss (k + 1) := by
  obtain ⟨C, hC, hsz, hr⟩ := h.rows
  have hl := h.low
  refine ⟨h.low, _, heap_setCell_at (heap_setCell_at hC _) _, by simp [hsz], fun i hi hik => ?_⟩
  rcases Nat.lt_or_ge i k with hlt | hge
  · obtain ⟨bi, g1, g2, g3, g4, g5⟩ := hr i hi hlt
    refine ⟨bi, g1, g2, (g3.setCell (by simp) _).setCell (by simp) _, ?_, ?_⟩
    · rw [Array.getElem?_setIfInBounds, if_neg (by omega), Array.getElem?_setIfInBounds, if_neg (by omega)]; exact g4
    · rw [Array.getElem?_setIfInBounds, if_neg (by omega), Array.getElem?_setIfInBounds, if_neg (by omega)]; exact g5
  · have e : i = k := by omega
    subst e
    refine ⟨bf, by omega, h1, (h3.setCell (by simp) _).setCell (by simp) _, ?_, ?_⟩
    · rw [Array.getElem?_setIfInBounds, if_neg (by omega), Array.getElem?_setIfInBounds, if_pos rfl, if_pos (by omega)]
    · rw [Array.getElem?_setIfInBounds, if_pos rfl, if_pos (by simp; omega)]

set_option maxHeartbeats 1000000 in
theorem toGateShape_any (kd : ByteArray) (a : Option Addr) (cap : Nat) (fs : List Fld) (w : World) (hw : FldsAt w a fs) (hl : fs.length ≤ 1048576) (hls : ∀ i (h : i < fs.length), fs[i].ws.length ≤ 1048576) :
    Calls Tryz.prog 38 #[.agg #[.string kd, .slice a fs.length cap]] w fun e w' => ∃ bf, e = .returned (.agg #[.string kd, .slice (some ⟨bf, 0, none⟩) fs.length fs.length]) ∧ FldsOwn w.heap.size w' bf fs fs.length ∧ Below w.heap.size w w' := by
  go_enter Tryz.func38, Tryz.ntmps38
  go_wp2_with fail
  refine (toGateFieldS_any _ _ _ _ (hw.mono ((((Below.refl _ _).alloc (Nat.le_refl _) _).alloc (by simp) _).alloc (by simp; omega) _)) hl hls).mono ?_
  rintro e w1 ⟨rfl, hown, hb1⟩
  have qr0 : w1.cell? ⟨w.heap.size + 1, 0, none⟩ = some (.string { data := #[] }) := (hb1.cell (p := ⟨w.heap.size + 1, 0, none⟩) (by simp)).trans (by simp [World.cell?_alloc_at, World.cell?_alloc_past])
  have fr0 : w1.frozen? ⟨w.heap.size + 1, 0, none⟩ = false := (hb1.frozen (p := ⟨w.heap.size + 1, 0, none⟩) (by simp)).trans (by simp [World.frozen?_alloc_at, World.frozen?_alloc_past])
  have qr1 : w1.cell? ⟨w.heap.size + 1, 1, none⟩ = some (.slice none 0 0) := (hb1.cell (p := ⟨w.heap.size + 1, 1, none⟩) (by simp)).trans (by simp [World.cell?_alloc_at, World.cell?_alloc_past])
  have fr1 : w1.frozen? ⟨w.heap.size + 1, 1, none⟩ = false := (hb1.frozen (p := ⟨w.heap.size + 1, 1, none⟩) (by simp)).trans (by simp [World.frozen?_alloc_at, World.frozen?_alloc_past])
  have qo0 : w1.cell? ⟨w.heap.size + 1 + 1, 0, none⟩ = some (.string kd) := (hb1.cell (p := ⟨w.heap.size + 1 + 1, 0, none⟩) (by simp)).trans (by simp [World.cell?_alloc_at])
  have fo0 : w1.frozen? ⟨w.heap.size + 1 + 1, 0, none⟩ = false := (hb1.frozen (p := ⟨w.heap.size + 1 + 1, 0, none⟩) (by simp)).trans (by simp [World.frozen?_alloc_at])
  have qo1 : w1.cell? ⟨w.heap.size + 1 + 1, 1, none⟩ = some (.slice none 0 0) := (hb1.cell (p := ⟨w.heap.size + 1 + 1, 1, none⟩) (by simp)).trans (by simp [World.cell?_alloc_at])
  have fo1 : w1.frozen? ⟨w.heap.size + 1 + 1, 1, none⟩ = false := (hb1.frozen (p := ⟨w.heap.size + 1 + 1, 1, none⟩) (by simp)).trans (by simp [World.frozen?_alloc_at])
  have hz1 : w.heap.size + 1 + 1 < w1.heap.size := by have := hb1.size; simp at this; omega
  go_wp2_with fail
  have hsz : (((w.alloc (.cells #[.string kd, .slice a fs.length cap] 62)).alloc (.cells #[.string { data := #[] }, .slice none 0 0] 69)).alloc (.cells #[.string kd, .slice none 0 0] 69)).heap.size = w.heap.size + 1 + 1 + 1 := by simp
  have hB1 : Below w.heap.size w w1 := ((((Below.refl _ _).alloc (Nat.le_refl _) _).alloc (by simp) _).alloc (by simp; omega) _).trans (hb1.mono (by simp; omega))
  rw [hsz] at hown
  refine bodyPost_ret (v := .agg #[.string kd, .slice (some ⟨w.heap.size + 1 + 1 + 1, 0, none⟩) fs.length fs.length]) (by simp [results, Tryz.results38, go_sem, qr0, qr1]) rfl ⟨w.heap.size + 1 + 1 + 1, rfl, ?_, ?_⟩
  · exact (((hown.setCell (by simp) _).setCell (by simp) _).setCell (by simp) _).weaken (by omega)
  · exact ((hB1.setCell (by simp; omega) _).setCell (by simp) _).setCell (by simp) _

def shpZero : Array Value := #[.string ByteArray.empty, .slice none 0 0]
def shpsZero (n : Nat) : Array Value := madeCells shpZero (n * 2)

set_option maxHeartbeats 2000000 in
theorem toGateShapeS_any (a : Option Addr) (cap : Nat) (ss : List Shp) (w : World) (hw : ShpsAt w a ss) (hl : ss.length ≤ 1048576) (hls : ∀ i (h : i < ss.length), ss[i].fs.length ≤ 1048576 ∧ ∀ j (h' : j < ss[i].fs.length), ss[i].fs[j].ws.length ≤ 1048576) :
    Calls Tryz.prog 10 #[.slice a ss.length cap] w fun e w' => e = .returned (.slice (some ⟨w.heap.size, 0, none⟩) ss.length ss.length) ∧ ShpsOwn w.heap.size w' w.heap.size ss ss.length ∧ Below w.heap.size w w' := by
  have hmk : ∀ w : World, (Instr.makeSlice 32 (.int .i64 ss.length) (.int .i64 ss.length)).run Tryz.prog w = .ok (.slice (some ⟨w.heap.size, 0, none⟩) ss.length ss.length) (w.alloc (.cells (shpsZero ss.length) 69)) :=
    fun w => run_make_rows (P := Tryz.prog) 32 69 (.agg shpZero) 2 40 Tryz.underlying32 (by kernel_rfl) ss.length (by omega) (by omega) w
  go_enter Tryz.func10, Tryz.ntmps10
  go_wp2_with fail
  clear hmk
  go_loopw [4] (fun i wr => ∃ k : Nat, k ≤ ss.length ∧ i = .int .i64 k ∧ ShpsOwn w.heap.size wr w.heap.size ss k ∧ Below w.heap.size w wr) (fun i _ => ss.length - (intOf i).toNat)
  case atStart => exact ⟨0, Nat.zero_le _, rfl, ⟨Nat.le_refl _, shpsZero ss.length, (MapKept.heap_alloc w _).1, size_madeCells _ _, fun i _ h => absurd h (by omega)⟩, (Below.refl _ _).alloc (Nat.le_refl _) _⟩
  case round =>
    obtain ⟨k, hk, rfl, hown, hB⟩ := hrel
    by_cases hlt : k < ss.length
    · obtain ⟨b, off, rfl, hb, hr⟩ := hw.rows (by rintro rfl; simp at hlt)
      obtain ⟨fa, fcap, hs0⟩ := hr k hlt
      have hs := hs0.mono hb hB
      have hck := hs.kind
      have hcl := hs.list
      have hfl := hs.flds
      have HLS := hls k hlt
      have HLS' : Hid (ss[k].fs.length ≤ 1048576 ∧ ∀ j (h' : j < ss[k].fs.length), ss[k].fs[j].ws.length ≤ 1048576) := HLS
      have hltI : (k : Int) < (ss.length : Int) := by omega
      clear hw hr hs0 hs HLS
      go_wp2_with fail
      refine (toGateShape_any _ _ _ _ _ hfl HLS'.out.1 HLS'.out.2).mono ?_
      rintro e w1 ⟨bf, rfl, hof, hb1⟩
      have hB1 := hB.trans (hb1.mono hB.size)
      have hown1 := hown.later hb1
      have hbo : w.heap.size < wr.heap.size := by
        obtain ⟨C', hC', _⟩ := hown.rows
        exact (Array.getElem?_eq_some_iff.1 hC').1
      obtain ⟨C, hC, hsz, _⟩ := hown1.rows
      have hfz : ∀ o, w1.frozen? ⟨w.heap.size, o, none⟩ = false := fun o => frozen_of_block hC
      have hex : ∀ o, o < ss.length * 2 → ∃ v, w1.cell? ⟨w.heap.size, o, none⟩ = some v := fun o ho => ⟨C[o]'(by omega), by rw [cell_of_block hC]; exact Array.getElem?_eq_getElem (by omega)⟩
      obtain ⟨v0, hv0⟩ := hex (k * 2) (by omega)
      obtain ⟨v1, hv1⟩ := hex (k * 2 + 1) (by omega)
      clear hex hC hsz hck hcl
      have hlow := hof.low
      go_wp2_with fail
      exact ⟨⟨k + 1, by omega, by go_num, hown1.put hlt bf (by omega) (hof.weaken (by omega)), (hB1.setCell (Nat.le_refl _) _).setCell (Nat.le_refl _) _⟩, by simp [intOf]; omega⟩
    · have HF : Hid (ShpsOwn w.heap.size wr w.heap.size ss ss.length) := by
        have e : k = ss.length := by omega
        subst e; exact hown
      clear hw hown
      go_wp2_with fail
      go_ret
      exact ⟨rfl, HF.out, hB⟩

end Go.Proofs.YtponiggfclcbgaaGreat

namespace Go.Proofs.YtponiggfclcbgaaGreat

/-- What an object holds. -/
structure Ob where
  kd : ByteArray
  nm : ByteArray
  tm : ByteArray
  vs : List ByteArray
  en : Bool
  hs : List ByteArray
  vr : Int

def Ob.cells (o : Ob) (a : Option Addr) (cap : Nat) (a' : Option Addr) (cap' : Nat) : Array Value :=
  #[.string o.kd, .string o.nm, .string o.tm, .slice a o.vs.length cap, .bool o.en, .slice a' o.hs.length cap', .int .i64 o.vr]

structure Ob.Small (o : Ob) : Prop where
  kd : o.kd.size ≤ maxLen
  nm : o.nm.size ≤ maxLen
  tm : o.tm.size ≤ maxLen

namespace Gate

/-- What is wrong with a value, by its field: 2, 3, or nothing. -/
def faultAt (f : Fld) (v : ByteArray) : Int := if v.size = 0 then (if f.mu then 2 else 0) else if fitsF f v then 0 else 3
def faultIx (fs : List Fld) (vs : List ByteArray) (i : Nat) : Int := faultAt (fs.getD i noField) (vs.getD i ByteArray.empty)
def valOkAt (fs : List Fld) (vs : List ByteArray) (i : Nat) : Bool := decide (faultIx fs vs i = 0)
/-- The first fault among the values. -/
def valRes (fs : List Fld) (vs : List ByteArray) : Int × Int := match (List.range fs.length).find? (fun i => !valOkAt fs vs i) with | some i => (faultIx fs vs i, i) | none => (0, 0)

theorem find_range {P : Nat → Bool} {n k : Nat} (hk : k < n) (hu : up P k = true) (hp : P k = false) : (List.range n).find? (fun i => !P i) = some k := by
  rw [List.find?_eq_some_iff_getElem]
  refine ⟨by simp [hp], k, by simpa using hk, by simp, fun j hj => ?_⟩
  have := up_at hj hu
  simp [this]

theorem find_range_none {P : Nat → Bool} {n : Nat} (hu : up P n = true) : (List.range n).find? (fun i => !P i) = none := by
  rw [List.find?_eq_none]
  intro x hx
  have := up_at (List.mem_range.1 hx) hu
  simp [this]

theorem valRes_at {fs : List Fld} {vs : List ByteArray} {k : Nat} (hk : k < fs.length) (hu : up (valOkAt fs vs) k = true) (hp : valOkAt fs vs k = false) : valRes fs vs = (faultIx fs vs k, (k : Int)) := by
  unfold valRes; rw [find_range hk hu hp]
theorem valRes_none {fs : List Fld} {vs : List ByteArray} (hu : up (valOkAt fs vs) fs.length = true) : valRes fs vs = (0, 0) := by
  unfold valRes; rw [find_range_none hu]

theorem faultIx_eq {fs : List Fld} {vs : List ByteArray} {k : Nat} (h1 : k < fs.length) (h2 : k < vs.length) : faultIx fs vs k = faultAt fs[k] vs[k] := by
  unfold faultIx; rw [getD_at fs k _ h1, getD_at vs k _ h2]

def wholeNames (o : Ob) : Bool := nameOk o.nm && nameOk o.tm
def wholeHolds (o : Ob) : Bool := decide (o.hs.length ≤ 3) && asc o.hs
def wholeVersion (o : Ob) : Bool := decide (0 ≤ o.vr) && decide (o.vr ≤ 1000000)
def wholeCount (ss : List Shp) (o : Ob) : Bool := hasKind ss o.kd && decide (o.vs.length = (shapeOf ss o.kd).fs.length)
def whole (ss : List Shp) (o : Ob) : Bool := wholeNames o && wholeHolds o && wholeVersion o && wholeCount ss o

/-- What is wrong with an object, by shapes that are ok. -/
def checkRes (ss : List Shp) (o : Ob) : Int × Int := if whole ss o = true then valRes (shapeOf ss o.kd).fs o.vs else (1, 0)
def check (ss : List Shp) (o : Ob) : Int × Int := if shapesOk ss = true then checkRes ss o else (1, 0)

end Gate
end Go.Proofs.YtponiggfclcbgaaGreat

namespace Go.Proofs.YtponiggfclcbgaaGreat
open Go.RowKit

/-- An object by value: its two lists lie in memory. -/
structure ObAt (w : World) (o : Ob) (a a' : Option Addr) : Prop where
  small : o.Small
  vals : StrsAt w a o.vs
  holds : StrsAt w a' o.hs

theorem ObAt.mono {w w' : World} {o : Ob} {a a' : Option Addr} (h : ObAt w o a a') (hb : Below w.heap.size w w') : ObAt w' o a a' :=
  ⟨h.small, h.vals.mono hb, h.holds.mono hb⟩

end Go.Proofs.YtponiggfclcbgaaGreat
