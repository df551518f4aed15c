import Derived.Test.YtnbpglbbjnkhpaaGreatM03
import Derived.Test.YtnbpglbbjnkhpaaGreatM02
import Derived.Test.YtnbpglbbjnkhpaaGreatM01
import Derived.Deep.RegionHeld3
import Derived.WalkKit
import Derived.MapKept
namespace Go.Proofs.YtnbpglbbjnkhpaaGreat
open Go.RowKit
structure qM (lo : Nat) (w : World) (bo : Nat) (fs : List Fld) (k : Nat) : Prop where
  low : lo <= bo
  rows : ∃ C, w.heap[bo]? = some (.cells C 115) /\ C.size = fs.length * 11 /\
    ∀ i (h : i < fs.length), i < k -> ∃ bk, lo <= bk /\ bk ≠ bo /\ w.heap[bk]? = some (.cells (jU fs[i].ws) 9) /\ ∀ j, j < 11 -> C[i * 11 + j]? = (fs[i].cells (some ⟨bk, 0, none⟩) fs[i].ws.length)[j]?
structure zbi (fs : List Fld) : Prop where
  small : ∀ i (h : i < fs.length), fs[i].Small /\ fs[i].ws.length <= maxLen /\ ∀ s ∈ fs[i].ws, s.size <= maxLen
theorem zP.smalls {w : World} {a : Option Addr} {fs : List Fld} (h : zP w a fs) : zbi fs :=
  ⟨fun i hi => by
    obtain ⟨b, off, _, _, hr⟩ := h.rows (by rintro rfl; simp at hi)
    obtain ⟨wa, wcap, hf⟩ := hr i hi
    exact ⟨hf.small, hf.strs.len, hf.strs.small⟩⟩
theorem qM.at {lo : Nat} {w : World} {bo : Nat} {fs : List Fld} (h : qM lo w bo fs fs.length) (hs : zbi fs) (hl : fs.length <= maxLen) : zP w (some ⟨bo, 0, none⟩) fs := by
  obtain ⟨C, hC, hsz, hr⟩ := h.rows
  refine ⟨hl, fun _ => ⟨bo, 0, rfl, (Array.getElem?_eq_some_iff.1 hC).1, fun i hi => ?_⟩⟩
  obtain ⟨bk, _, _, hk, hc⟩ := hr i hi hi
  obtain ⟨s1, s2, s3⟩ := hs.small i hi
  refine ⟨some ⟨bk, 0, none⟩, fs[i].ws.length, s1, zcC hk s2 s3, fun j hj => ?_⟩
  rw [cell_of_block hC, Nat.zero_add]
  exact hc j hj
theorem qM.later {lo : Nat} {w w' : World} {bo : Nat} {fs : List Fld} {k : Nat} (h : qM lo w bo fs k) (hb : Below w.heap.size w w') : qM lo w' bo fs k := by
  obtain ⟨C, hC, hsz, hr⟩ := h.rows
  refine ⟨h.low, C, (hb.block bo (Array.getElem?_eq_some_iff.1 hC).1).trans hC, hsz, fun i hi hk => ?_⟩
  obtain ⟨bk, h1, h2, h3, h4⟩ := hr i hi hk
  exact ⟨bk, h1, h2, (hb.block bk (Array.getElem?_eq_some_iff.1 h3).1).trans h3, h4⟩
theorem qM.put {lo : Nat} {w : World} {bo : Nat} {fs : List Fld} {k : Nat} (h : qM lo w bo fs k) (hk : k < fs.length) (bk : Nat) (h1 : lo <= bk) (h2 : bk ≠ bo) (h3 : w.heap[bk]? = some (.cells (jU fs[k].ws) 9)) :
    qM lo (zk7 w bo (k * 11) (.string fs[k].nm) (.int .i64 fs[k].kd) (.int .i64 fs[k].ls) (.int .i64 fs[k].ms) (.slice (some ⟨bk, 0, none⟩) fs[k].ws.length fs[k].ws.length) (.string fs[k].to) (.int .i64 fs[k].rl) (.bool fs[k].mu) (.bool fs[k].fx) (.string fs[k].df) (.string fs[k].wg)) bo fs (k + 1) := by
  obtain ⟨C, hC, hsz, hr⟩ := h.rows
  refine ⟨h.low, _, zkE hC _ _ _ _ _ _ _ _ _ _ _, by rw [zlw]; exact hsz, fun i hi hik => ?_⟩
  rcases Nat.lt_or_ge i k with hlt | hge
  · obtain ⟨bi, g1, g2, g3, g4⟩ := hr i hi hlt
    refine ⟨bi, g1, g2, by rw [zgc _ _ _ _ g2]; exact g3, fun j hj => ?_⟩
    rw [zmW _ _ _ _ _ _ _ _ _ _ _ _ _ _ (by omega)]
    exact g4 j hj
  · have e : i = k := by omega
    subst e
    refine ⟨bk, h1, h2, by rw [zgc _ _ _ _ h2]; exact h3, fun j hj => ?_⟩
    rw [znm _ _ _ _ _ _ _ _ _ _ _ _ _ _ hj (by omega)]
    rfl
def zmj : Array Value := #[.string ByteArray.empty, .int .i64 0, .int .i64 0, .int .i64 0, .slice none 0 0, .string ByteArray.empty, .int .i64 0, .bool false, .bool false, .string ByteArray.empty, .string ByteArray.empty]
def zkD (n : Nat) : Array Value := madeCells zmj (n * 11)
set_option maxHeartbeats 2000000 in
theorem zfv (a : Option Addr) (cap : Nat) (fs : List Fld) (w : World) (hw : zP w a fs) (hl : fs.length <= 1048576) (hls : ∀ i (h : i < fs.length), fs[i].ws.length <= 1048576) :
    Calls Tryz.prog 100 #[.slice a fs.length cap] w fun e w' => e = .returned (.slice (some ⟨w.heap.size, 0, none⟩) fs.length fs.length) /\ qM w.heap.size w' w.heap.size fs fs.length /\ Below w.heap.size w w' := by
  have hmk : ∀ w : World, (Instr.makeSlice 111 (.int .i64 fs.length) (.int .i64 fs.length)).run Tryz.prog w = .ok (.slice (some ⟨w.heap.size, 0, none⟩) fs.length fs.length) (w.alloc (.cells (zkD fs.length) 115)) :=
    fun w => jk (P := Tryz.prog) 111 115 (.agg zmj) 11 128 Tryz.underlying111 (by kernel_rfl) fs.length (by omega) (by omega) w
  go_enter Tryz.func100, Tryz.ntmps100
  go_wp2_with fail
  clear hmk
  go_loopw [4] (fun i wr => ∃ k : Nat, k <= fs.length /\ i = .int .i64 k /\ qM w.heap.size wr w.heap.size fs k /\ Below w.heap.size w wr) (fun i _ => fs.length - (intOf i).toNat)
  case atStart => exact ⟨0, Nat.zero_le _, rfl, ⟨Nat.le_refl _, zkD fs.length, (MapKept.heap_alloc w _).1, size_madeCells _ _, fun i _ h => absurd h (by omega)⟩, (Below.refl _ _).alloc (Nat.le_refl _) _⟩
  case round =>
    obtain ⟨k, hk, rfl, hown, hB⟩ := hrel
    by_cases hlt : k < fs.length
    · obtain ⟨b, off, rfl, hb, hr⟩ := hw.rows (by rintro rfl; simp at hlt)
      obtain ⟨wa, wcap, hf0⟩ := hr k hlt
      have hf := hf0.mono hb hB
      obtain ⟨c0, c1, c2, c3, c4, c5, c6, c7, c8, c9, c10⟩ := hf.load
      have hst := hf.strs
      have HLS : Hid (fs[k].ws.length <= 1048576) := hls k hlt
      have hltI : (k : Int) < (fs.length : Int) := by omega
      clear hw hr hf0 hf
      go_wp2_with fail
      refine (zgI _ _ _ _ _ _ _ _ _ _ _ _ _ _ hst HLS.out).mono ?_
      rintro e w1 ⟨bk, rfl, hlo, hhi, hbk, hb1⟩
      have hB1 := hB.trans (hb1.mono hB.size)
      have hown1 := hown.later hb1
      obtain ⟨C, hC, hsz, _⟩ := hown1.rows
      have hfz : ∀ o, w1.frozen? ⟨w.heap.size, o, none⟩ = false := fun o => zm hC
      have hex : ∀ o, o < fs.length * 11 -> ∃ v, w1.cell? ⟨w.heap.size, o, none⟩ = some v := fun o ho => ⟨C[o]'(by omega), by rw [cell_of_block hC]; exact Array.getElem?_eq_getElem (by omega)⟩
      obtain ⟨v0, hv0⟩ := hex (k * 11) (by omega)
      obtain ⟨v1, hv1⟩ := hex (k * 11 + 1) (by omega)
      obtain ⟨v2, hv2⟩ := hex (k * 11 + 2) (by omega)
      obtain ⟨v3, hv3⟩ := hex (k * 11 + 3) (by omega)
      obtain ⟨v4, hv4⟩ := hex (k * 11 + 4) (by omega)
      obtain ⟨v5, hv5⟩ := hex (k * 11 + 5) (by omega)
      obtain ⟨v6, hv6⟩ := hex (k * 11 + 6) (by omega)
      obtain ⟨v7, hv7⟩ := hex (k * 11 + 7) (by omega)
      obtain ⟨v8, hv8⟩ := hex (k * 11 + 8) (by omega)
      obtain ⟨v9, hv9⟩ := hex (k * 11 + 9) (by omega)
      obtain ⟨v10, hv10⟩ := hex (k * 11 + 10) (by omega)
      clear hex hC hsz c0 c1 c2 c3 c4 c5 c6 c7 c8 c9 c10
      have hbo : w.heap.size < wr.heap.size := by
        obtain ⟨C', hC', _⟩ := hown.rows
        exact (Array.getElem?_eq_some_iff.1 hC').1
      go_wp2_with fail
      exact ⟨⟨k + 1, by omega, by go_num, hown1.put hlt bk (by omega) (by omega) hbk, zkF hB1 (Nat.le_refl _) _ _ _ _ _ _ _ _ _ _ _ _⟩, by simp [intOf]; omega⟩
    · have HF : Hid (qM w.heap.size wr w.heap.size fs fs.length) := by
        have e : k = fs.length := by omega
        subst e; exact hown
      clear hw hown
      go_wp2_with fail
      go_ret
      exact ⟨rfl, HF.out, hB⟩
structure jM (lo : Nat) (w : World) (bo : Nat) (ss : List Shp) (k : Nat) : Prop where
  low : lo <= bo
  rows : ∃ C, w.heap[bo]? = some (.cells C 127) /\ C.size = ss.length * 2 /\
    ∀ i (h : i < ss.length), i < k -> ∃ bf, lo <= bf /\ bo < bf /\ qM (bo + 1) w bf ss[i].fs ss[i].fs.length /\ C[i * 2]? = some (.string ss[i].kd) /\ C[i * 2 + 1]? = some (.slice (some ⟨bf, 0, none⟩) ss[i].fs.length ss[i].fs.length)
structure zcT (ss : List Shp) : Prop where
  small : ∀ i (h : i < ss.length), ss[i].kd.size <= maxLen /\ ss[i].fs.length <= maxLen /\ zbi ss[i].fs
theorem yG.smalls {w : World} {a : Option Addr} {ss : List Shp} (h : yG w a ss) : zcT ss :=
  ⟨fun i hi => by
    obtain ⟨b, off, _, _, hr⟩ := h.rows (by rintro rfl; simp at hi)
    obtain ⟨fa, fcap, hs⟩ := hr i hi
    exact ⟨hs.small, hs.flds.len, hs.flds.smalls⟩⟩
theorem jM.at {lo : Nat} {w : World} {bo : Nat} {ss : List Shp} (h : jM lo w bo ss ss.length) (hs : zcT ss) (hl : ss.length <= maxLen) : yG w (some ⟨bo, 0, none⟩) ss := by
  obtain ⟨C, hC, hsz, hr⟩ := h.rows
  refine ⟨hl, fun _ => ⟨bo, 0, rfl, (Array.getElem?_eq_some_iff.1 hC).1, fun i hi => ?_⟩⟩
  obtain ⟨bf, _, _, hf, h1, h2⟩ := hr i hi hi
  obtain ⟨s1, s2, s3⟩ := hs.small i hi
  refine ⟨some ⟨bf, 0, none⟩, ss[i].fs.length, s1, hf.at s3 s2, ?_, ?_⟩
  · rw [cell_of_block hC, Nat.zero_add]; exact h1
  · rw [cell_of_block hC, Nat.zero_add]; exact h2
theorem jM.later {lo : Nat} {w w' : World} {bo : Nat} {ss : List Shp} {k : Nat} (h : jM lo w bo ss k) (hb : Below w.heap.size w w') : jM lo w' bo ss k := by
  obtain ⟨C, hC, hsz, hr⟩ := h.rows
  refine ⟨h.low, C, (hb.block bo (Array.getElem?_eq_some_iff.1 hC).1).trans hC, hsz, fun i hi hk => ?_⟩
  obtain ⟨bf, h1, h2, h3, h4⟩ := hr i hi hk
  exact ⟨bf, h1, h2, h3.later hb, h4⟩
theorem qM.setCell {lo : Nat} {w : World} {bf : Nat} {fs : List Fld} {k : Nat} (h : qM lo w bf fs k) {p : Addr} (hp : p.block < lo) (v : Value) : qM lo (w.setCell p v) bf fs k := by
  obtain ⟨C, hC, hsz, hr⟩ := h.rows
  have hl := h.low
  refine ⟨h.low, C, by rw [Below.heap_setCell _ _ _ _ (by omega)]; exact hC, hsz, fun i hi hk => ?_⟩
  obtain ⟨bk, h1, h2, h3, h4⟩ := hr i hi hk
  exact ⟨bk, h1, h2, by rw [Below.heap_setCell _ _ _ _ (by omega)]; exact h3, h4⟩
theorem qM.weaken {lo lo' : Nat} {w : World} {bf : Nat} {fs : List Fld} {k : Nat} (h : qM lo w bf fs k) (hl : lo' <= lo) : qM lo' w bf fs k := by
  obtain ⟨C, hC, hsz, hr⟩ := h.rows
  refine ⟨Nat.le_trans hl h.low, C, hC, hsz, fun i hi hk => ?_⟩
  obtain ⟨bk, h1, h2⟩ := hr i hi hk
  exact ⟨bk, Nat.le_trans hl h1, h2⟩
theorem jM.put {lo : Nat} {w : World} {bo : Nat} {ss : List Shp} {k : Nat} (h : jM lo w bo ss k) (hk : k < ss.length) (bf : Nat) (h1 : bo < bf) (h3 : qM (bo + 1) w bf ss[k].fs ss[k].fs.length) :
    jM lo ((w.setCell ⟨bo, k * 2, none⟩ (.string ss[k].kd)).setCell ⟨bo, k * 2 + 1, none⟩ (.slice (some ⟨bf, 0, none⟩) ss[k].fs.length ss[k].fs.length)) bo ss (k + 1) := by
  obtain ⟨C, hC, hsz, hr⟩ := h.rows
  have hl := h.low
  refine ⟨h.low, _, zi (zi hC _) _, by simp [hsz], fun i hi hik => ?_⟩
  rcases Nat.lt_or_ge i k with hlt | hge
  · obtain ⟨bi, g1, g2, g3, g4, g5⟩ := hr i hi hlt
    refine ⟨bi, g1, g2, (g3.setCell (by simp) _).setCell (by simp) _, ?_, ?_⟩
    · rw [Array.getElem?_setIfInBounds, if_neg (by omega), Array.getElem?_setIfInBounds, if_neg (by omega)]; exact g4
    · rw [Array.getElem?_setIfInBounds, if_neg (by omega), Array.getElem?_setIfInBounds, if_neg (by omega)]; exact g5
  · have e : i = k := by omega
    subst e
    refine ⟨bf, by omega, h1, (h3.setCell (by simp) _).setCell (by simp) _, ?_, ?_⟩
    · rw [Array.getElem?_setIfInBounds, if_neg (by omega), Array.getElem?_setIfInBounds, if_pos rfl, if_pos (by omega)]
    · rw [Array.getElem?_setIfInBounds, if_pos rfl, if_pos (by simp; omega)]
set_option maxHeartbeats 1000000 in
theorem zgR (kd : ByteArray) (a : Option Addr) (cap : Nat) (fs : List Fld) (w : World) (hw : zP w a fs) (hl : fs.length <= 1048576) (hls : ∀ i (h : i < fs.length), fs[i].ws.length <= 1048576) :
    Calls Tryz.prog 62 #[.agg #[.string kd, .slice a fs.length cap]] w fun e w' => ∃ bf, e = .returned (.agg #[.string kd, .slice (some ⟨bf, 0, none⟩) fs.length fs.length]) /\ qM w.heap.size w' bf fs fs.length /\ Below w.heap.size w w' := by
  go_enter Tryz.func62, Tryz.ntmps62
  go_wp2_with fail
  refine (zfv _ _ _ _ (hw.mono ((((Below.refl _ _).alloc (Nat.le_refl _) _).alloc (by simp) _).alloc (by simp; omega) _)) hl hls).mono ?_
  rintro e w1 ⟨rfl, hown, hb1⟩
  have qr0 : w1.cell? ⟨w.heap.size + 1, 0, none⟩ = some (.string { data := #[] }) := (hb1.cell (p := ⟨w.heap.size + 1, 0, none⟩) (by simp)).trans (by simp [World.cell?_alloc_at, World.cell?_alloc_past])
  have fr0 : w1.frozen? ⟨w.heap.size + 1, 0, none⟩ = false := (hb1.frozen (p := ⟨w.heap.size + 1, 0, none⟩) (by simp)).trans (by simp [World.frozen?_alloc_at, World.frozen?_alloc_past])
  have qr1 : w1.cell? ⟨w.heap.size + 1, 1, none⟩ = some (.slice none 0 0) := (hb1.cell (p := ⟨w.heap.size + 1, 1, none⟩) (by simp)).trans (by simp [World.cell?_alloc_at, World.cell?_alloc_past])
  have fr1 : w1.frozen? ⟨w.heap.size + 1, 1, none⟩ = false := (hb1.frozen (p := ⟨w.heap.size + 1, 1, none⟩) (by simp)).trans (by simp [World.frozen?_alloc_at, World.frozen?_alloc_past])
  have qo0 : w1.cell? ⟨w.heap.size + 1 + 1, 0, none⟩ = some (.string kd) := (hb1.cell (p := ⟨w.heap.size + 1 + 1, 0, none⟩) (by simp)).trans (by simp [World.cell?_alloc_at])
  have fo0 : w1.frozen? ⟨w.heap.size + 1 + 1, 0, none⟩ = false := (hb1.frozen (p := ⟨w.heap.size + 1 + 1, 0, none⟩) (by simp)).trans (by simp [World.frozen?_alloc_at])
  have qo1 : w1.cell? ⟨w.heap.size + 1 + 1, 1, none⟩ = some (.slice none 0 0) := (hb1.cell (p := ⟨w.heap.size + 1 + 1, 1, none⟩) (by simp)).trans (by simp [World.cell?_alloc_at])
  have fo1 : w1.frozen? ⟨w.heap.size + 1 + 1, 1, none⟩ = false := (hb1.frozen (p := ⟨w.heap.size + 1 + 1, 1, none⟩) (by simp)).trans (by simp [World.frozen?_alloc_at])
  have hz1 : w.heap.size + 1 + 1 < w1.heap.size := by have := hb1.size; simp at this; omega
  go_wp2_with fail
  have hsz : (((w.alloc (.cells #[.string kd, .slice a fs.length cap] 79)).alloc (.cells #[.string { data := #[] }, .slice none 0 0] 127)).alloc (.cells #[.string kd, .slice none 0 0] 127)).heap.size = w.heap.size + 1 + 1 + 1 := by simp
  have hB1 : Below w.heap.size w w1 := ((((Below.refl _ _).alloc (Nat.le_refl _) _).alloc (by simp) _).alloc (by simp; omega) _).trans (hb1.mono (by simp; omega))
  rw [hsz] at hown
  refine bodyPost_ret (v := .agg #[.string kd, .slice (some ⟨w.heap.size + 1 + 1 + 1, 0, none⟩) fs.length fs.length]) (by simp [results, Tryz.results62, go_sem, qr0, qr1]) rfl ⟨w.heap.size + 1 + 1 + 1, rfl, ?_, ?_⟩
  · exact (((hown.setCell (by simp) _).setCell (by simp) _).setCell (by simp) _).weaken (by omega)
  · exact ((hB1.setCell (by simp; omega) _).setCell (by simp) _).setCell (by simp) _
def zme : Array Value := #[.string ByteArray.empty, .slice none 0 0]
def zk2 (n : Nat) : Array Value := madeCells zme (n * 2)
set_option maxHeartbeats 2000000 in
theorem zfr (a : Option Addr) (cap : Nat) (ss : List Shp) (w : World) (hw : yG w a ss) (hl : ss.length <= 1048576) (hls : ∀ i (h : i < ss.length), ss[i].fs.length <= 1048576 /\ ∀ j (h' : j < ss[i].fs.length), ss[i].fs[j].ws.length <= 1048576) :
    Calls Tryz.prog 24 #[.slice a ss.length cap] w fun e w' => e = .returned (.slice (some ⟨w.heap.size, 0, none⟩) ss.length ss.length) /\ jM w.heap.size w' w.heap.size ss ss.length /\ Below w.heap.size w w' := by
  have hmk : ∀ w : World, (Instr.makeSlice 36 (.int .i64 ss.length) (.int .i64 ss.length)).run Tryz.prog w = .ok (.slice (some ⟨w.heap.size, 0, none⟩) ss.length ss.length) (w.alloc (.cells (zk2 ss.length) 127)) :=
    fun w => jk (P := Tryz.prog) 36 127 (.agg zme) 2 40 Tryz.underlying36 (by kernel_rfl) ss.length (by omega) (by omega) w
  go_enter Tryz.func24, Tryz.ntmps24
  go_wp2_with fail
  clear hmk
  go_loopw [4] (fun i wr => ∃ k : Nat, k <= ss.length /\ i = .int .i64 k /\ jM w.heap.size wr w.heap.size ss k /\ Below w.heap.size w wr) (fun i _ => ss.length - (intOf i).toNat)
  case atStart => exact ⟨0, Nat.zero_le _, rfl, ⟨Nat.le_refl _, zk2 ss.length, (MapKept.heap_alloc w _).1, size_madeCells _ _, fun i _ h => absurd h (by omega)⟩, (Below.refl _ _).alloc (Nat.le_refl _) _⟩
  case round =>
    obtain ⟨k, hk, rfl, hown, hB⟩ := hrel
    by_cases hlt : k < ss.length
    · obtain ⟨b, off, rfl, hb, hr⟩ := hw.rows (by rintro rfl; simp at hlt)
      obtain ⟨fa, fcap, hs0⟩ := hr k hlt
      have hs := hs0.mono hb hB
      have hck := hs.kind
      have hcl := hs.list
      have hfl := hs.flds
      have HLS := hls k hlt
      have HLS' : Hid (ss[k].fs.length <= 1048576 /\ ∀ j (h' : j < ss[k].fs.length), ss[k].fs[j].ws.length <= 1048576) := HLS
      have hltI : (k : Int) < (ss.length : Int) := by omega
      clear hw hr hs0 hs HLS
      go_wp2_with fail
      refine (zgR _ _ _ _ _ hfl HLS'.out.1 HLS'.out.2).mono ?_
      rintro e w1 ⟨bf, rfl, hof, hb1⟩
      have hB1 := hB.trans (hb1.mono hB.size)
      have hown1 := hown.later hb1
      have hbo : w.heap.size < wr.heap.size := by
        obtain ⟨C', hC', _⟩ := hown.rows
        exact (Array.getElem?_eq_some_iff.1 hC').1
      obtain ⟨C, hC, hsz, _⟩ := hown1.rows
      have hfz : ∀ o, w1.frozen? ⟨w.heap.size, o, none⟩ = false := fun o => zm hC
      have hex : ∀ o, o < ss.length * 2 -> ∃ v, w1.cell? ⟨w.heap.size, o, none⟩ = some v := fun o ho => ⟨C[o]'(by omega), by rw [cell_of_block hC]; exact Array.getElem?_eq_getElem (by omega)⟩
      obtain ⟨v0, hv0⟩ := hex (k * 2) (by omega)
      obtain ⟨v1, hv1⟩ := hex (k * 2 + 1) (by omega)
      clear hex hC hsz hck hcl
      have hlow := hof.low
      go_wp2_with fail
      exact ⟨⟨k + 1, by omega, by go_num, hown1.put hlt bf (by omega) (hof.weaken (by omega)), (hB1.setCell (Nat.le_refl _) _).setCell (Nat.le_refl _) _⟩, by simp [intOf]; omega⟩
    · have HF : Hid (jM w.heap.size wr w.heap.size ss ss.length) := by
        have e : k = ss.length := by omega
        subst e; exact hown
      clear hw hown
      go_wp2_with fail
      go_ret
      exact ⟨rfl, HF.out, hB⟩
end Go.Proofs.YtnbpglbbjnkhpaaGreat

namespace Go.Proofs.YtnbpglbbjnkhpaaGreat
open Go.RowKit
def Mnd.sz (m : Mnd) : Nat := m.kd.size + m.fd.size + m.wh.size + m.wi.size + m.pt.size + m.fr.size
def zfo (ms : List Mnd) : Nat := (ms.map Mnd.sz).sum
def zaU (ms : List Mnd) : Nat := ms.length + zfo ms
set_option maxHeartbeats 1000000 in
theorem zdC (m : Mnd) (left : Int) (w : World) (hm : m.Small) (h0 : 0 <= left) (h1 : left <= 1048576) :
    Calls Tryz.prog 41 #[.agg m.cells, .int .i64 left] w fun e w' => e = .returned (.int .i64 (zL m.sz left)) /\ Below w.heap.size w w' := by
  have k1 := hm.kd
  have k2 := hm.fd
  have k3 := hm.wh
  have k4 := hm.wi
  have k5 := hm.pt
  have k6 := hm.fr
  unfold maxLen at k1 k2 k3 k4 k5 k6
  unfold Mnd.cells
  have hB : ∀ ob, Below w.heap.size w (w.alloc ob) := fun ob => (Below.refl _ _).alloc (Nat.le_refl _) _
  by_cases hf : (m.sz : Int) <= left
  · have HF : Hid (zL m.sz left = left - m.kd.size - m.fd.size - m.wh.size - m.wi.size - m.pt.size - m.fr.size) := by
      unfold Hid; rw [zM hf]; unfold Mnd.sz; omega
    unfold Mnd.sz at hf
    go_enter Tryz.func41, Tryz.ntmps41
    go_wp2_with fail
    go_ret
    exact ⟨zo HF.out.symm, hB _⟩
  · have HF : Hid (zL m.sz left = -1) := zC hf
    have HN : Hid (¬ ((m.kd.size + m.fd.size + m.wh.size + m.wi.size + m.pt.size + m.fr.size : Nat) : Int) <= left) := hf
    clear hf
    go_enter Tryz.func41, Tryz.ntmps41
    go_wp2_with fail
    all_goals go_ret
    all_goals first | exact ⟨zo HF.out.symm, hB _⟩ | (exfalso; have := HN.out; simp at *; omega)
theorem zhk (m : Mnd) (left : Int) (w : World) (hm : m.Small) (h0 : 0 <= left) (h1 : left <= 1048576) (h : (m.sz : Int) <= left) :
    Calls Tryz.prog 41 #[.agg m.cells, .int .i64 left] w fun e w' => e = .returned (.int .i64 (left - m.sz)) /\ Below w.heap.size w w' := by
  refine (zdC m left w hm h0 h1).mono ?_
  rintro e w' ⟨rfl, hb⟩
  exact ⟨zo (zM h), hb⟩
theorem zil (m : Mnd) (left : Int) (w : World) (hm : m.Small) (h0 : 0 <= left) (h1 : left <= 1048576) (h : ¬ (m.sz : Int) <= left) :
    Calls Tryz.prog 41 #[.agg m.cells, .int .i64 left] w fun e w' => e = .returned (.int .i64 (-1)) /\ Below w.heap.size w w' := by
  refine (zdC m left w hm h0 h1).mono ?_
  rintro e w' ⟨rfl, hb⟩
  exact ⟨zo (zC h), hb⟩
set_option maxHeartbeats 1000000 in
theorem zgE (a : Option Addr) (cap : Nat) (ms : List Mnd) (left : Int) (w : World) (hw : yS w a ms) (h0 : 0 <= left) (h1 : left <= 1048576) :
    Calls Tryz.prog 13 #[.slice a ms.length cap, .int .i64 left] w fun e w' => e = .returned (.int .i64 (zL (zaU ms) left)) /\ Below w.heap.size w w' := by
  have hl := hw.len
  unfold maxLen at hl
  by_cases hfit : (ms.length : Int) <= left
  · go_enter Tryz.func13, Tryz.ntmps13
    go_wp2_with fail
    go_loopw [1, 5] (fun l i wr => ∃ k : Nat, k <= ms.length /\ i = .int .i64 k /\ 0 <= left - ms.length - zfo (ms.take k) /\ l = .int .i64 (left - ms.length - zfo (ms.take k)) /\ Below w.heap.size w wr) (fun _ i _ => ms.length - (intOf i).toNat)
    case atStart => exact ⟨0, Nat.zero_le _, rfl, by simp [zfo]; omega, by simp [zfo], Below.refl _ _⟩
    case round =>
      obtain ⟨k, hk, rfl, hpos, rfl, hB⟩ := hrel
      by_cases hlt : k < ms.length
      · obtain ⟨b, off, rfl, hb, c0, c1, c2, c3, c4, c5⟩ := hw.load hB k hlt
        have hsm := hw.small k hlt
        have HS : Hid (zfo (ms.take (k + 1)) = zfo (ms.take k) + ms[k].sz) := zaB Mnd.sz ms k hlt
        have hle : zfo (ms.take (k + 1)) <= zfo ms := zbX Mnd.sz ms (k + 1)
        clear hw
        by_cases hneg : (ms[k].sz : Int) <= left - ms.length - zfo (ms.take k)
        · have HNG : Hid ((ms[k].sz : Int) <= left - ms.length - zfo (ms.take k)) := hneg
          clear hle
          go_wp2_with fail
          refine (zhk _ _ _ hsm hpos (by omega) HNG.out).mono ?_
          rintro e w1 ⟨rfl, hb1⟩
          have hB1 := hB.trans (hb1.mono hB.size)
          clear hb1
          go_wp2_with fail
          exact ⟨⟨k + 1, by omega, by go_num, by rw [HS.out]; omega, by rw [HS.out]; congr 1; omega, hB1⟩, by simp [intOf]; omega⟩
        · have HF : Hid (zL (zaU ms) left = -1) := zC (by have := HS.out; unfold zaU; omega)
          have HNG : Hid (¬ (ms[k].sz : Int) <= left - ms.length - zfo (ms.take k)) := hneg
          clear hneg hle
          go_wp2_with fail
          refine (zil _ _ _ hsm hpos (by omega) (by have := HNG.out; omega)).mono ?_
          rintro e w1 ⟨rfl, hb1⟩
          have hB1 := hB.trans (hb1.mono hB.size)
          clear hb1
          go_wp2_with fail
          go_ret
          exact ⟨zo HF.out.symm, hB1⟩
      · have HF : Hid (zL (zaU ms) left = left - ms.length - zfo (ms.take k)) := by
          rw [List.take_of_length_le (by omega)] at hpos ⊢
          have e : zL (zaU ms) left = left - zaU ms := zM (by unfold zaU; omega)
          unfold Hid; rw [e]; unfold zaU; omega
        clear hw
        go_wp2
        go_ret
        exact ⟨zo HF.out.symm, hB⟩
  · have HF : Hid (zL (zaU ms) left = -1) := zC (by unfold zaU; omega)
    clear hw
    go_enter Tryz.func13, Tryz.ntmps13
    go_wp2
    go_ret
    exact ⟨zo HF.out.symm, Below.refl _ _⟩
theorem zh2 (m : Mnd) (w : World) : Calls Tryz.prog 78 #[.agg m.cells, .agg m.cells] w fun e w' => e = .returned (.bool true) /\ Below w.heap.size w w' := by
  unfold Mnd.cells
  go_enter Tryz.func78, Tryz.ntmps78
  go_wp2_with fail
  go_ret
  exact ⟨rfl, zB _ _ _⟩
set_option maxHeartbeats 2000000 in
theorem zgu (a a' : Option Addr) (cap cap' : Nat) (ms : List Mnd) (w : World) (hw : yS w a ms) (hw' : yS w a' ms) :
    Calls Tryz.prog 34 #[.slice a ms.length cap, .slice a' ms.length cap'] w fun e w' => e = .returned (.bool true) /\ Below w.heap.size w w' := by
  have hl := hw.len
  unfold maxLen at hl
  have hnn : ((ms.length : Int) != ms.length) = false := by simp
  go_enter Tryz.func34, Tryz.ntmps34
  go_wp2_with fail
  go_loopw [5] (fun i wr => ∃ k : Nat, k <= ms.length /\ i = .int .i64 k /\ Below w.heap.size w wr) (fun i _ => ms.length - (intOf i).toNat)
  case atStart => exact ⟨0, Nat.zero_le _, rfl, Below.refl _ _⟩
  case round =>
    obtain ⟨k, hk, rfl, hB⟩ := hrel
    by_cases hlt : k < ms.length
    · obtain ⟨b, off, rfl, hb, c0, c1, c2, c3, c4, c5⟩ := hw.load hB k hlt
      obtain ⟨b', off', rfl, hb', d0, d1, d2, d3, d4, d5⟩ := hw'.load hB k hlt
      have hltI : (k : Int) < (ms.length : Int) := by omega
      clear hw hw'
      go_wp2_with fail
      go_region_with (go_at_call 78; refine (zh2 ms[k] _).mono ?_; rintro e w1 ⟨rfl, hb1'⟩; have hb1 := (Below.refl wr.heap.size wr).drew.trans hb1'; clear hb1')
      all_goals go_wp2_with fail
      all_goals exact ⟨⟨k + 1, by omega, by go_num, hB.trans (hb1.mono hB.size)⟩, by simp [intOf]; omega⟩
    · clear hw hw'
      go_wp2_with fail
      go_ret
      exact ⟨rfl, hB⟩
structure ji (lo : Nat) (w : World) (bo : Nat) (ms : List Mnd) (k : Nat) : Prop where
  low : lo <= bo
  rows : ∃ C, w.heap[bo]? = some (.cells C 129) /\ C.size = ms.length * 6 /\ ∀ i (h : i < ms.length), i < k -> ∀ j, j < 6 -> C[i * 6 + j]? = ms[i].cells[j]?
theorem ji.at {lo : Nat} {w : World} {bo : Nat} {ms : List Mnd} (h : ji lo w bo ms ms.length) (hs : ∀ i (h : i < ms.length), ms[i].Small) (hl : ms.length <= maxLen) : yS w (some ⟨bo, 0, none⟩) ms := by
  obtain ⟨C, hC, hsz, hr⟩ := h.rows
  refine ⟨hl, hs, fun _ => ⟨bo, 0, rfl, (Array.getElem?_eq_some_iff.1 hC).1, fun i hi j hj => ?_⟩⟩
  rw [cell_of_block hC, Nat.zero_add]
  exact hr i hi hi j hj
theorem ji.later {lo : Nat} {w w' : World} {bo : Nat} {ms : List Mnd} {k : Nat} (h : ji lo w bo ms k) (hb : Below w.heap.size w w') : ji lo w' bo ms k := by
  obtain ⟨C, hC, hsz, hr⟩ := h.rows
  exact ⟨h.low, C, (hb.block bo (Array.getElem?_eq_some_iff.1 hC).1).trans hC, hsz, hr⟩
end Go.Proofs.YtnbpglbbjnkhpaaGreat

namespace Go.Proofs.YtnbpglbbjnkhpaaGreat
open Go.RowKit
def zn1 (w : World) (b o : Nat) (v0 v1 v2 v3 v4 v5 : Value) : World := (((((w.setCell ⟨b, o, none⟩ v0).setCell ⟨b, o + 1, none⟩ v1).setCell ⟨b, o + 2, none⟩ v2).setCell ⟨b, o + 3, none⟩ v3).setCell ⟨b, o + 4, none⟩ v4).setCell ⟨b, o + 5, none⟩ v5
def zlZ (C : Array Value) (o : Nat) (v0 v1 v2 v3 v4 v5 : Value) : Array Value := (((((C.setIfInBounds o v0).setIfInBounds (o + 1) v1).setIfInBounds (o + 2) v2).setIfInBounds (o + 3) v3).setIfInBounds (o + 4) v4).setIfInBounds (o + 5) v5
theorem zlS {w : World} {b o : Nat} {C : Array Value} {t : TypeId} (h : w.heap[b]? = some (.cells C t)) (v0 v1 v2 v3 v4 v5 : Value) : (zn1 w b o v0 v1 v2 v3 v4 v5).heap[b]? = some (.cells (zlZ C o v0 v1 v2 v3 v4 v5) t) :=
  zi (zi (zi (zi (zi (zi h v0) v1) v2) v3) v4) v5
theorem zlk {B : Nat} {a w : World} (h : Below B a w) {b : Nat} (hb : B <= b) (o : Nat) (v0 v1 v2 v3 v4 v5 : Value) : Below B a (zn1 w b o v0 v1 v2 v3 v4 v5) :=
  (((((h.setCell hb v0).setCell hb v1).setCell hb v2).setCell hb v3).setCell hb v4).setCell hb v5
theorem zmI (C : Array Value) (o : Nat) (v0 v1 v2 v3 v4 v5 : Value) : (zlZ C o v0 v1 v2 v3 v4 v5).size = C.size := by simp [zlZ]
theorem znt (C : Array Value) (o i : Nat) (v0 v1 v2 v3 v4 v5 : Value) (h : i < o \/ o + 6 <= i) : (zlZ C o v0 v1 v2 v3 v4 v5)[i]? = C[i]? := by
  unfold zlZ
  iterate 6 rw [Array.getElem?_setIfInBounds, if_neg (by omega)]
theorem znU (C : Array Value) (o j : Nat) (v0 v1 v2 v3 v4 v5 : Value) (hj : j < 6) (ho : o + 6 <= C.size) : (zlZ C o v0 v1 v2 v3 v4 v5)[o + j]? = (#[v0, v1, v2, v3, v4, v5] : Array Value)[j]? := by
  have hc : j = 0 \/ j = 1 \/ j = 2 \/ j = 3 \/ j = 4 \/ j = 5 := by omega
  unfold zlZ
  rcases hc with h | h | h | h | h | h <;> subst h <;> simp [Array.getElem?_setIfInBounds] <;> omega
theorem ji.put {lo : Nat} {w : World} {bo : Nat} {ms : List Mnd} {k : Nat} (h : ji lo w bo ms k) (hk : k < ms.length) :
    ji lo (zn1 w bo (k * 6) (.string ms[k].kd) (.string ms[k].fd) (.string ms[k].wh) (.string ms[k].wi) (.string ms[k].pt) (.string ms[k].fr)) bo ms (k + 1) := by
  obtain ⟨C, hC, hsz, hr⟩ := h.rows
  refine ⟨h.low, _, zlS hC _ _ _ _ _ _, by rw [zmI]; exact hsz, fun i hi hik j hj => ?_⟩
  rcases Nat.lt_or_ge i k with hlt | hge
  · rw [znt _ _ _ _ _ _ _ _ _ (by omega)]
    exact hr i hi hlt j hj
  · have e : i = k := by omega
    subst e
    rw [znU _ _ _ _ _ _ _ _ _ hj (by omega)]
    rfl
set_option maxHeartbeats 1000000 in
theorem zhq (m : Mnd) (w : World) :
    Calls Tryz.prog 63 #[.agg m.cells] w fun e w' => e = .returned (.agg m.cells) /\ Below w.heap.size w w' := by
  unfold Mnd.cells
  go_enter Tryz.func63, Tryz.ntmps63
  go_wp2_with fail
  refine bodyPost_ret (v := .agg #[.string m.kd, .string m.fd, .string m.wh, .string m.wi, .string m.pt, .string m.fr]) (by simp [results, Tryz.results63, go_sem]) rfl ⟨rfl, ?_⟩
  exact ((((Below.refl _ _).alloc (Nat.le_refl _) _).alloc (by simp) _).alloc (by simp; omega) _)
def zmk : Array Value := #[.string ByteArray.empty, .string ByteArray.empty, .string ByteArray.empty, .string ByteArray.empty, .string ByteArray.empty, .string ByteArray.empty]
def zkk (n : Nat) : Array Value := madeCells zmk (n * 6)
set_option maxHeartbeats 2000000 in
theorem zgX (a : Option Addr) (cap : Nat) (ms : List Mnd) (w : World) (hw : yS w a ms) (hl : ms.length <= 1048576) :
    Calls Tryz.prog 25 #[.slice a ms.length cap] w fun e w' => e = .returned (.slice (some ⟨w.heap.size, 0, none⟩) ms.length ms.length) /\ ji w.heap.size w' w.heap.size ms ms.length /\ Below w.heap.size w w' := by
  have hmk : ∀ w : World, (Instr.makeSlice 37 (.int .i64 ms.length) (.int .i64 ms.length)).run Tryz.prog w = .ok (.slice (some ⟨w.heap.size, 0, none⟩) ms.length ms.length) (w.alloc (.cells (zkk ms.length) 129)) :=
    fun w => jk (P := Tryz.prog) 37 129 (.agg zmk) 6 96 Tryz.underlying37 (by kernel_rfl) ms.length (by omega) (by omega) w
  go_enter Tryz.func25, Tryz.ntmps25
  go_wp2_with fail
  clear hmk
  go_loopw [4] (fun i wr => ∃ k : Nat, k <= ms.length /\ i = .int .i64 k /\ ji w.heap.size wr w.heap.size ms k /\ Below w.heap.size w wr) (fun i _ => ms.length - (intOf i).toNat)
  case atStart => exact ⟨0, Nat.zero_le _, rfl, ⟨Nat.le_refl _, zkk ms.length, (MapKept.heap_alloc w _).1, size_madeCells _ _, fun i _ h => absurd h (by omega)⟩, (Below.refl _ _).alloc (Nat.le_refl _) _⟩
  case round =>
    obtain ⟨k, hk, rfl, hown, hB⟩ := hrel
    by_cases hlt : k < ms.length
    · obtain ⟨b, off, rfl, hb, c0, c1, c2, c3, c4, c5⟩ := hw.load hB k hlt
      have hltI : (k : Int) < (ms.length : Int) := by omega
      clear hw
      go_wp2_with fail
      refine (zhq ms[k] _).mono ?_
      rintro e w1 ⟨rfl, hb1⟩
      have hB1 := hB.trans (hb1.mono hB.size)
      have hown1 := hown.later hb1
      have hbo : w.heap.size < wr.heap.size := by
        obtain ⟨C', hC', _⟩ := hown.rows
        exact (Array.getElem?_eq_some_iff.1 hC').1
      obtain ⟨C, hC, hsz, _⟩ := hown1.rows
      have hfz : ∀ o, w1.frozen? ⟨w.heap.size, o, none⟩ = false := fun o => zm hC
      have hex : ∀ o, o < ms.length * 6 -> ∃ v, w1.cell? ⟨w.heap.size, o, none⟩ = some v := fun o ho => ⟨C[o]'(by omega), by rw [cell_of_block hC]; exact Array.getElem?_eq_getElem (by omega)⟩
      obtain ⟨v0, hv0⟩ := hex (k * 6) (by omega)
      obtain ⟨v1, hv1⟩ := hex (k * 6 + 1) (by omega)
      obtain ⟨v2, hv2⟩ := hex (k * 6 + 2) (by omega)
      obtain ⟨v3, hv3⟩ := hex (k * 6 + 3) (by omega)
      obtain ⟨v4, hv4⟩ := hex (k * 6 + 4) (by omega)
      obtain ⟨v5, hv5⟩ := hex (k * 6 + 5) (by omega)
      have HP : Hid (ji w.heap.size w1 w.heap.size ms k) := hown1
      clear hex hC hsz c0 c1 c2 c3 c4 c5 hown hown1
      unfold Mnd.cells
      go_wp2_with fail
      exact ⟨⟨k + 1, by omega, by go_num, HP.out.put hlt, zlk hB1 (Nat.le_refl _) _ _ _ _ _ _ _⟩, by simp [intOf]; omega⟩
    · have HF : Hid (ji w.heap.size wr w.heap.size ms ms.length) := by
        have e : k = ms.length := by omega
        subst e; exact hown
      clear hw hown
      go_wp2_with fail
      go_ret
      exact ⟨rfl, HF.out, hB⟩
end Go.Proofs.YtnbpglbbjnkhpaaGreat

namespace Go.Proofs.YtnbpglbbjnkhpaaGreat
open Go.RowKit
theorem zm5 (w : World) (o o' : Obj) : { (w.alloc o) with heap := (w.alloc o).heap.setIfInBounds w.heap.size o' } = w.alloc o' := by
  show ({ w with heap := (w.heap.push o).setIfInBounds w.heap.size o' } : World) = { w with heap := w.heap.push o' }
  congr 1
  apply Array.ext_getElem?
  intro i
  simp only [Array.getElem?_setIfInBounds, Array.getElem?_push, Array.size_push]
  by_cases h : w.heap.size = i
  · subst h; simp
  · rw [if_neg h, if_neg (fun e => h e.symm), if_neg (fun e => h e.symm)]
theorem alloc_at (w : World) (o : Obj) : (w.alloc o).heap[w.heap.size]? = some o := by
  show (w.heap.push o)[w.heap.size]? = some o
  simp
theorem zaM {P : Program} {mty kt et : TypeId} {d : TypeDesc} (hm : P.underlying mty = some (.map kt et)) (hd : P.underlying kt = some d) (key val : Value) (hk : MapKept.IsKey d key)
    (es : Array MapEntry) (clock : Nat) (hf : Instr.findNow d key es.toList 0 = some none) (w : World) :
    (Instr.mapUpdate mty (.map (some w.heap.size)) key val).run P (w.alloc (.map es clock)) = .ok () (w.alloc (.map (es.push ⟨key, val, clock⟩) (clock + 1))) := by
  have hb := alloc_at w (.map es clock)
  have hc := MapKept.run_checkKey (P := P) (w := w.alloc (.map es clock)) hd hk false 9999
  simp [Instr.mapUpdate, run_underlying hm, MapKept.run_getObj_map hb, hc, MapKept.run_findKey hd hf, MapKept.run_setObj_map _ hb, Result.andThen, <- zm5 w (.map es clock) (.map (es.push ⟨key, val, clock⟩) (clock + 1))]
theorem yN {P : Program} {mty kt et : TypeId} {d : TypeDesc} (hm : P.underlying mty = some (.map kt et)) (hd : P.underlying kt = some d) (key val : Value) (hk : MapKept.IsKey d key)
    (es : Array MapEntry) (clock i : Nat) (hf : Instr.findNow d key es.toList 0 = some (some (i, val))) (w : World) (r : Nat) (hb : w.heap[r]? = some (.map es clock)) :
    (Instr.lookup mty (.map (some r)) key true).run P w = .ok (.tuple #[val, .bool true]) w := by
  have hc := MapKept.run_checkKey (P := P) (w := w) hd hk es.isEmpty 9999
  simp [Instr.lookup, run_underlying hm, MapKept.run_getObj_map hb, hc, MapKept.run_findKey hd hf, Result.andThen]
theorem zbD {P : Program} {mty kt et : TypeId} {d : TypeDesc} (hm : P.underlying mty = some (.map kt et)) (hd : P.underlying kt = some d) (key z : Value) (hk : MapKept.IsKey d key)
    (es : Array MapEntry) (clock : Nat) (hf : Instr.findNow d key es.toList 0 = some none) (w : World) (hz : (zeroValue et).run P w = .ok z w) (r : Nat) (hb : w.heap[r]? = some (.map es clock)) :
    (Instr.lookup mty (.map (some r)) key true).run P w = .ok (.tuple #[z, .bool false]) w := by
  have hc := MapKept.run_checkKey (P := P) (w := w) hd hk es.isEmpty 9999
  simp [Instr.lookup, run_underlying hm, MapKept.run_getObj_map hb, hc, MapKept.run_findKey hd hf, hz, Result.andThen]
end Go.Proofs.YtnbpglbbjnkhpaaGreat
