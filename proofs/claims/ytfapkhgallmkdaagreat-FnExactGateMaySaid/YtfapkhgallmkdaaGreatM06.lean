import Derived.Test.YtfapkhgallmkdaaGreatM04
import Derived.Deep.OwnRows
import Derived.MapKept
import Derived.Below
namespace Go.Proofs.YtfapkhgallmkdaaGreat
open Go.RowKit
set_option maxHeartbeats 400000 in
theorem zcm (a : Option Addr) (cap : Nat) (ws : List ByteArray) (w : World) (hw : zC w a ws) (hl : ws.length <= 1048576) :
    Calls Tryz.prog 96 #[.slice a ws.length cap] w fun e w' => e = .returned (.slice (some ⟨w.heap.size, 0, none⟩) ws.length ws.length) /\ w' = w.alloc (.cells (zam ws) 9) := by
  have hmk : ∀ w : World, (Instr.makeSlice 91 (.int .i64 ws.length) (.int .i64 ws.length)).run Tryz.prog w = .ok (.slice (some ⟨w.heap.size, 0, none⟩) ws.length ws.length) (w.alloc (.cells (strCells ws 0) 9)) := by
    intro w
    have h := run_make_row' (P := Tryz.prog) 91 9 (.string ByteArray.empty) 16 Tryz.underlying91 (by kernel_rfl) rfl .i64 .i64 ws.length (by omega) (by omega) w
    rw [ziP] at h
    exact h
  go_enter Tryz.func96, Tryz.ntmps96
  go_wp2
  clear hmk
  go_loopw [4] (fun i wr => ∃ k : Nat, k <= ws.length /\ i = .int .i64 k /\ wr = w.alloc (.cells (strCells ws k) 9)) (fun i _ => ws.length - (intOf i).toNat)
  case atStart => exact ⟨0, Nat.zero_le _, rfl, rfl⟩
  case round =>
    obtain ⟨k, hk, rfl, rfl⟩ := hrel
    by_cases hlt : k < ws.length
    · obtain ⟨b, off, rfl, hb, hc⟩ := hw.cells (by rintro rfl; simp at hlt)
      clear hw
      have hck := hc k hlt
      have hold := zlo ws k hlt
      have HS := hid (zj9 ws k hlt)
      clear hc
      go_wp2
      go_roundw
      case rel => exact ⟨k + 1, by omega, by go_num, by rw [HS.out]⟩
      case measure => simp [intOf]; omega
    · have HA := hid (zjG ws k (by omega))
      clear hw
      go_wp2
      go_ret
      exact ⟨rfl, by rw [HA.out]⟩
theorem zmf (w : World) (o1 o2 o3 o4 : Obj) : Below w.heap.size w ((((w.alloc o1).alloc o2).alloc o3).alloc o4) :=
  ((((Below.refl _ _).alloc (Nat.le_refl _) _).alloc (by simp) _).alloc (by simp; omega) _).alloc (by simp; omega) _
theorem at4 (w : World) (o1 o2 o3 o4 : Obj) : ((((w.alloc o1).alloc o2).alloc o3).alloc o4).heap[w.heap.size + 1 + 1 + 1]? = some o4 := by
  have h := MapKept.heap_alloc (((w.alloc o1).alloc o2).alloc o3) o4
  simpa using h.1
set_option maxHeartbeats 1000000 in
theorem zgs (nm : ByteArray) (kd ls ms : Int) (a : Option Addr) (cap : Nat) (ws : List ByteArray) (to : ByteArray) (rl : Int) (mu fx : Bool) (df wg : ByteArray) (w : World) (hw : zC w a ws) (hl : ws.length <= 1048576) :
    Calls Tryz.prog 127 #[.agg #[.string nm, .int .i64 kd, .int .i64 ls, .int .i64 ms, .slice a ws.length cap, .string to, .int .i64 rl, .bool mu, .bool fx, .string df, .string wg]] w
      fun e w' => ∃ bk, e = .returned (.agg #[.string nm, .int .i64 kd, .int .i64 ls, .int .i64 ms, .slice (some ⟨bk, 0, none⟩) ws.length ws.length, .string to, .int .i64 rl, .bool mu, .bool fx, .string df, .string wg]) /\
        w.heap.size <= bk /\ bk < w'.heap.size /\ w'.heap[bk]? = some (.cells (zam ws) 9) /\ Below w.heap.size w w' := by
  go_enter Tryz.func127, Tryz.ntmps127
  go_wp2_with (go_at_call 96; refine (zcm _ _ _ _ (by exact hw.mono ((((Below.refl _ _).alloc (Nat.le_refl _) _).alloc (by simp) _).alloc (by simp; omega) _)) hl).mono ?_; rintro e w' ⟨rfl, rfl⟩)
  refine bodyPost_ret (v := .agg #[.string nm, .int .i64 kd, .int .i64 ls, .int .i64 ms, .slice (some ⟨w.heap.size + 1 + 1 + 1, 0, none⟩) ws.length ws.length, .string to, .int .i64 rl, .bool mu, .bool fx, .string df, .string wg]) (by simp [results, Tryz.results127, go_sem]) rfl ⟨w.heap.size + 1 + 1 + 1, rfl, by omega, by simp, at4 _ _ _ _ _, zmf _ _ _ _ _⟩
end Go.Proofs.YtfapkhgallmkdaaGreat

namespace Go.Proofs.YtfapkhgallmkdaaGreat
open Go.RowKit
structure zbb (fs : List Fld) : Prop where
  small : ∀ i (h : i < fs.length), fs[i].Small /\ fs[i].ws.length <= maxLen /\ ∀ s ∈ fs[i].ws, s.size <= maxLen
theorem yc.smalls {w : World} {a : Option Addr} {fs : List Fld} (h : yc w a fs) : zbb fs :=
  ⟨fun i hi => by
    obtain ⟨b, off, _, _, hr⟩ := h.rows (by rintro rfl; simp at hi)
    obtain ⟨wa, wcap, hf⟩ := hr i hi
    exact ⟨hf.small, hf.strs.len, hf.strs.small⟩⟩
structure zcF (ss : List Shp) : Prop where
  small : ∀ i (h : i < ss.length), ss[i].kd.size <= maxLen /\ ss[i].fs.length <= maxLen /\ zbb ss[i].fs
theorem yH.smalls {w : World} {a : Option Addr} {ss : List Shp} (h : yH w a ss) : zcF ss :=
  ⟨fun i hi => by
    obtain ⟨b, off, _, _, hr⟩ := h.rows (by rintro rfl; simp at hi)
    obtain ⟨fa, fcap, hs⟩ := hr i hi
    exact ⟨hs.small, hs.flds.len, hs.flds.smalls⟩⟩
end Go.Proofs.YtfapkhgallmkdaaGreat

namespace Go.Proofs.YtfapkhgallmkdaaGreat
open Go.RowKit
structure qj (lo : Nat) (w : World) (bo : Nat) (fs : List Fld) (k : Nat) : Prop where
  low : lo <= bo
  rows : ∃ C, w.heap[bo]? = some (.cells C 158) /\ C.size = fs.length * 11 /\
    ∀ i (h : i < fs.length), i < k -> ∃ bk, lo <= bk /\ bk ≠ bo /\ w.heap[bk]? = some (.cells (zam fs[i].ws) 9) /\ ∀ j, j < 11 -> C[i * 11 + j]? = (fs[i].cells (some ⟨bk, 0, none⟩) fs[i].ws.length)[j]?
theorem qj.at {lo : Nat} {w : World} {bo : Nat} {fs : List Fld} (h : qj lo w bo fs fs.length) (hs : zbb fs) (hl : fs.length <= maxLen) : yc w (some ⟨bo, 0, none⟩) fs := by
  obtain ⟨C, hC, hsz, hr⟩ := h.rows
  refine ⟨hl, fun _ => ⟨bo, 0, rfl, (Array.getElem?_eq_some_iff.1 hC).1, fun i hi => ?_⟩⟩
  obtain ⟨bk, _, _, hk, hc⟩ := hr i hi hi
  obtain ⟨s1, s2, s3⟩ := hs.small i hi
  refine ⟨some ⟨bk, 0, none⟩, fs[i].ws.length, s1, zcw hk s2 s3, fun j hj => ?_⟩
  rw [cell_of_block hC, Nat.zero_add]
  exact hc j hj
theorem qj.later {lo : Nat} {w w' : World} {bo : Nat} {fs : List Fld} {k : Nat} (h : qj lo w bo fs k) (hb : Below w.heap.size w w') : qj lo w' bo fs k := by
  obtain ⟨C, hC, hsz, hr⟩ := h.rows
  refine ⟨h.low, C, (hb.block bo (Array.getElem?_eq_some_iff.1 hC).1).trans hC, hsz, fun i hi hk => ?_⟩
  obtain ⟨bk, h1, h2, h3, h4⟩ := hr i hi hk
  exact ⟨bk, h1, h2, (hb.block bk (Array.getElem?_eq_some_iff.1 h3).1).trans h3, h4⟩
theorem qj.put {lo : Nat} {w : World} {bo : Nat} {fs : List Fld} {k : Nat} (h : qj lo w bo fs k) (hk : k < fs.length) (bk : Nat) (h1 : lo <= bk) (h2 : bk ≠ bo) (h3 : w.heap[bk]? = some (.cells (zam fs[k].ws) 9)) :
    qj lo (zlc w bo (k * 11) (.string fs[k].nm) (.int .i64 fs[k].kd) (.int .i64 fs[k].ls) (.int .i64 fs[k].ms) (.slice (some ⟨bk, 0, none⟩) fs[k].ws.length fs[k].ws.length) (.string fs[k].to) (.int .i64 fs[k].rl) (.bool fs[k].mu) (.bool fs[k].fx) (.string fs[k].df) (.string fs[k].wg)) bo fs (k + 1) := by
  obtain ⟨C, hC, hsz, hr⟩ := h.rows
  refine ⟨h.low, _, zlJ hC _ _ _ _ _ _ _ _ _ _ _, by rw [zmQ]; exact hsz, fun i hi hik => ?_⟩
  rcases Nat.lt_or_ge i k with hlt | hge
  · obtain ⟨bi, g1, g2, g3, g4⟩ := hr i hi hlt
    refine ⟨bi, g1, g2, by rw [zf3 _ _ _ _ g2]; exact g3, fun j hj => ?_⟩
    rw [znm _ _ _ _ _ _ _ _ _ _ _ _ _ _ (by omega)]
    exact g4 j hj
  · have e : i = k := by omega
    subst e
    refine ⟨bk, h1, h2, by rw [zf3 _ _ _ _ h2]; exact h3, fun j hj => ?_⟩
    rw [zoh _ _ _ _ _ _ _ _ _ _ _ _ _ _ hj (by omega)]
    rfl
def zm2 : Array Value := #[.string ByteArray.empty, .int .i64 0, .int .i64 0, .int .i64 0, .slice none 0 0, .string ByteArray.empty, .int .i64 0, .bool false, .bool false, .string ByteArray.empty, .string ByteArray.empty]
def zln (n : Nat) : Array Value := madeCells zm2 (n * 11)
set_option maxHeartbeats 2000000 in
theorem zfL (a : Option Addr) (cap : Nat) (fs : List Fld) (w : World) (hw : yc w a fs) (hl : fs.length <= 1048576) (hls : ∀ i (h : i < fs.length), fs[i].ws.length <= 1048576) :
    Calls Tryz.prog 95 #[.slice a fs.length cap] w fun e w' => e = .returned (.slice (some ⟨w.heap.size, 0, none⟩) fs.length fs.length) /\ qj w.heap.size w' w.heap.size fs fs.length /\ Below w.heap.size w w' := by
  have hmk : ∀ w : World, (Instr.makeSlice 113 (.int .i64 fs.length) (.int .i64 fs.length)).run Tryz.prog w = .ok (.slice (some ⟨w.heap.size, 0, none⟩) fs.length fs.length) (w.alloc (.cells (zln fs.length) 158)) :=
    fun w => qR (P := Tryz.prog) 113 158 (.agg zm2) 11 128 Tryz.underlying113 (by kernel_rfl) fs.length (by omega) (by omega) w
  go_enter Tryz.func95, Tryz.ntmps95
  go_wp2_with fail
  clear hmk
  go_loopw [4] (fun i wr => ∃ k : Nat, k <= fs.length /\ i = .int .i64 k /\ qj w.heap.size wr w.heap.size fs k /\ Below w.heap.size w wr) (fun i _ => fs.length - (intOf i).toNat)
  case atStart => exact ⟨0, Nat.zero_le _, rfl, ⟨Nat.le_refl _, zln fs.length, (MapKept.heap_alloc w _).1, size_madeCells _ _, fun i _ h => absurd h (by omega)⟩, (Below.refl _ _).alloc (Nat.le_refl _) _⟩
  case round =>
    obtain ⟨k, hk, rfl, hown, hB⟩ := hrel
    by_cases hlt : k < fs.length
    · obtain ⟨b, off, rfl, hb, hr⟩ := hw.rows (by rintro rfl; simp at hlt)
      obtain ⟨wa, wcap, hf0⟩ := hr k hlt
      have hf := hf0.mono hb hB
      obtain ⟨c0, c1, c2, c3, c4, c5, c6, c7, c8, c9, c10⟩ := hf.load
      have hst := hf.strs
      have HLS : Hid (fs[k].ws.length <= 1048576) := hls k hlt
      have hltI : (k : Int) < (fs.length : Int) := by omega
      clear hw hr hf0 hf
      go_wp2_with fail
      refine (zgs _ _ _ _ _ _ _ _ _ _ _ _ _ _ hst HLS.out).mono ?_
      rintro e w1 ⟨bk, rfl, hlo, hhi, hbk, hb1⟩
      have hB1 := hB.trans (hb1.mono hB.size)
      have hown1 := hown.later hb1
      obtain ⟨C, hC, hsz, _⟩ := hown1.rows
      have hfz : ∀ o, w1.frozen? ⟨w.heap.size, o, none⟩ = false := fun o => zl hC
      have hex : ∀ o, o < fs.length * 11 -> ∃ v, w1.cell? ⟨w.heap.size, o, none⟩ = some v := fun o ho => ⟨C[o]'(by omega), by rw [cell_of_block hC]; exact Array.getElem?_eq_getElem (by omega)⟩
      obtain ⟨v0, hv0⟩ := hex (k * 11) (by omega)
      obtain ⟨v1, hv1⟩ := hex (k * 11 + 1) (by omega)
      obtain ⟨v2, hv2⟩ := hex (k * 11 + 2) (by omega)
      obtain ⟨v3, hv3⟩ := hex (k * 11 + 3) (by omega)
      obtain ⟨v4, hv4⟩ := hex (k * 11 + 4) (by omega)
      obtain ⟨v5, hv5⟩ := hex (k * 11 + 5) (by omega)
      obtain ⟨v6, hv6⟩ := hex (k * 11 + 6) (by omega)
      obtain ⟨v7, hv7⟩ := hex (k * 11 + 7) (by omega)
      obtain ⟨v8, hv8⟩ := hex (k * 11 + 8) (by omega)
      obtain ⟨v9, hv9⟩ := hex (k * 11 + 9) (by omega)
      obtain ⟨v10, hv10⟩ := hex (k * 11 + 10) (by omega)
      clear hex hC hsz c0 c1 c2 c3 c4 c5 c6 c7 c8 c9 c10
      have hbo : w.heap.size < wr.heap.size := by
        obtain ⟨C', hC', _⟩ := hown.rows
        exact (Array.getElem?_eq_some_iff.1 hC').1
      go_wp2_with fail
      exact ⟨⟨k + 1, by omega, by go_num, hown1.put hlt bk (by omega) (by omega) hbk, zlQ hB1 (Nat.le_refl _) _ _ _ _ _ _ _ _ _ _ _ _⟩, by simp [intOf]; omega⟩
    · have HF : Hid (qj w.heap.size wr w.heap.size fs fs.length) := by
        have e : k = fs.length := by omega
        subst e; exact hown
      clear hw hown
      go_wp2_with fail
      go_ret
      exact ⟨rfl, HF.out, hB⟩
structure jB (lo : Nat) (w : World) (bo : Nat) (ss : List Shp) (k : Nat) : Prop where
  low : lo <= bo
  rows : ∃ C, w.heap[bo]? = some (.cells C 115) /\ C.size = ss.length * 2 /\
    ∀ i (h : i < ss.length), i < k -> ∃ bf, lo <= bf /\ bo < bf /\ qj (bo + 1) w bf ss[i].fs ss[i].fs.length /\ C[i * 2]? = some (.string ss[i].kd) /\ C[i * 2 + 1]? = some (.slice (some ⟨bf, 0, none⟩) ss[i].fs.length ss[i].fs.length)
theorem jB.at {lo : Nat} {w : World} {bo : Nat} {ss : List Shp} (h : jB lo w bo ss ss.length) (hs : zcF ss) (hl : ss.length <= maxLen) : yH w (some ⟨bo, 0, none⟩) ss := by
  obtain ⟨C, hC, hsz, hr⟩ := h.rows
  refine ⟨hl, fun _ => ⟨bo, 0, rfl, (Array.getElem?_eq_some_iff.1 hC).1, fun i hi => ?_⟩⟩
  obtain ⟨bf, _, _, hf, h1, h2⟩ := hr i hi hi
  obtain ⟨s1, s2, s3⟩ := hs.small i hi
  refine ⟨some ⟨bf, 0, none⟩, ss[i].fs.length, s1, hf.at s3 s2, ?_, ?_⟩
  · rw [cell_of_block hC, Nat.zero_add]; exact h1
  · rw [cell_of_block hC, Nat.zero_add]; exact h2
theorem jB.later {lo : Nat} {w w' : World} {bo : Nat} {ss : List Shp} {k : Nat} (h : jB lo w bo ss k) (hb : Below w.heap.size w w') : jB lo w' bo ss k := by
  obtain ⟨C, hC, hsz, hr⟩ := h.rows
  refine ⟨h.low, C, (hb.block bo (Array.getElem?_eq_some_iff.1 hC).1).trans hC, hsz, fun i hi hk => ?_⟩
  obtain ⟨bf, h1, h2, h3, h4⟩ := hr i hi hk
  exact ⟨bf, h1, h2, h3.later hb, h4⟩
theorem qj.setCell {lo : Nat} {w : World} {bf : Nat} {fs : List Fld} {k : Nat} (h : qj lo w bf fs k) {p : Addr} (hp : p.block < lo) (v : Value) : qj lo (w.setCell p v) bf fs k := by
  obtain ⟨C, hC, hsz, hr⟩ := h.rows
  have hl := h.low
  refine ⟨h.low, C, by rw [Below.heap_setCell _ _ _ _ (by omega)]; exact hC, hsz, fun i hi hk => ?_⟩
  obtain ⟨bk, h1, h2, h3, h4⟩ := hr i hi hk
  exact ⟨bk, h1, h2, by rw [Below.heap_setCell _ _ _ _ (by omega)]; exact h3, h4⟩
theorem qj.weaken {lo lo' : Nat} {w : World} {bf : Nat} {fs : List Fld} {k : Nat} (h : qj lo w bf fs k) (hl : lo' <= lo) : qj lo' w bf fs k := by
  obtain ⟨C, hC, hsz, hr⟩ := h.rows
  refine ⟨Nat.le_trans hl h.low, C, hC, hsz, fun i hi hk => ?_⟩
  obtain ⟨bk, h1, h2⟩ := hr i hi hk
  exact ⟨bk, Nat.le_trans hl h1, h2⟩
theorem jB.put {lo : Nat} {w : World} {bo : Nat} {ss : List Shp} {k : Nat} (h : jB lo w bo ss k) (hk : k < ss.length) (bf : Nat) (h1 : bo < bf) (h3 : qj (bo + 1) w bf ss[k].fs ss[k].fs.length) :
    jB lo ((w.setCell ⟨bo, k * 2, none⟩ (.string ss[k].kd)).setCell ⟨bo, k * 2 + 1, none⟩ (.slice (some ⟨bf, 0, none⟩) ss[k].fs.length ss[k].fs.length)) bo ss (k + 1) := by
  obtain ⟨C, hC, hsz, hr⟩ := h.rows
  have hl := h.low
  refine ⟨h.low, _, zf (zf hC _) _, by simp [hsz], fun i hi hik => ?_⟩
  rcases Nat.lt_or_ge i k with hlt | hge
  · obtain ⟨bi, g1, g2, g3, g4, g5⟩ := hr i hi hlt
    refine ⟨bi, g1, g2, (g3.setCell (by simp) _).setCell (by simp) _, ?_, ?_⟩
    · rw [Array.getElem?_setIfInBounds, if_neg (by omega), Array.getElem?_setIfInBounds, if_neg (by omega)]; exact g4
    · rw [Array.getElem?_setIfInBounds, if_neg (by omega), Array.getElem?_setIfInBounds, if_neg (by omega)]; exact g5
  · have e : i = k := by omega
    subst e
    refine ⟨bf, by omega, h1, (h3.setCell (by simp) _).setCell (by simp) _, ?_, ?_⟩
    · rw [Array.getElem?_setIfInBounds, if_neg (by omega), Array.getElem?_setIfInBounds, if_pos rfl, if_pos (by omega)]
    · rw [Array.getElem?_setIfInBounds, if_pos rfl, if_pos (by simp; omega)]
set_option maxHeartbeats 1000000 in
theorem zgB (kd : ByteArray) (a : Option Addr) (cap : Nat) (fs : List Fld) (w : World) (hw : yc w a fs) (hl : fs.length <= 1048576) (hls : ∀ i (h : i < fs.length), fs[i].ws.length <= 1048576) :
    Calls Tryz.prog 53 #[.agg #[.string kd, .slice a fs.length cap]] w fun e w' => ∃ bf, e = .returned (.agg #[.string kd, .slice (some ⟨bf, 0, none⟩) fs.length fs.length]) /\ qj w.heap.size w' bf fs fs.length /\ Below w.heap.size w w' := by
  go_enter Tryz.func53, Tryz.ntmps53
  go_wp2_with fail
  refine (zfL _ _ _ _ (hw.mono ((((Below.refl _ _).alloc (Nat.le_refl _) _).alloc (by simp) _).alloc (by simp; omega) _)) hl hls).mono ?_
  rintro e w1 ⟨rfl, hown, hb1⟩
  have qr0 : w1.cell? ⟨w.heap.size + 1, 0, none⟩ = some (.string { data := #[] }) := (hb1.cell (p := ⟨w.heap.size + 1, 0, none⟩) (by simp)).trans (by simp [World.cell?_alloc_at, World.cell?_alloc_past])
  have fr0 : w1.frozen? ⟨w.heap.size + 1, 0, none⟩ = false := (hb1.frozen (p := ⟨w.heap.size + 1, 0, none⟩) (by simp)).trans (by simp [World.frozen?_alloc_at, World.frozen?_alloc_past])
  have qr1 : w1.cell? ⟨w.heap.size + 1, 1, none⟩ = some (.slice none 0 0) := (hb1.cell (p := ⟨w.heap.size + 1, 1, none⟩) (by simp)).trans (by simp [World.cell?_alloc_at, World.cell?_alloc_past])
  have fr1 : w1.frozen? ⟨w.heap.size + 1, 1, none⟩ = false := (hb1.frozen (p := ⟨w.heap.size + 1, 1, none⟩) (by simp)).trans (by simp [World.frozen?_alloc_at, World.frozen?_alloc_past])
  have qo0 : w1.cell? ⟨w.heap.size + 1 + 1, 0, none⟩ = some (.string kd) := (hb1.cell (p := ⟨w.heap.size + 1 + 1, 0, none⟩) (by simp)).trans (by simp [World.cell?_alloc_at])
  have fo0 : w1.frozen? ⟨w.heap.size + 1 + 1, 0, none⟩ = false := (hb1.frozen (p := ⟨w.heap.size + 1 + 1, 0, none⟩) (by simp)).trans (by simp [World.frozen?_alloc_at])
  have qo1 : w1.cell? ⟨w.heap.size + 1 + 1, 1, none⟩ = some (.slice none 0 0) := (hb1.cell (p := ⟨w.heap.size + 1 + 1, 1, none⟩) (by simp)).trans (by simp [World.cell?_alloc_at])
  have fo1 : w1.frozen? ⟨w.heap.size + 1 + 1, 1, none⟩ = false := (hb1.frozen (p := ⟨w.heap.size + 1 + 1, 1, none⟩) (by simp)).trans (by simp [World.frozen?_alloc_at])
  have hz1 : w.heap.size + 1 + 1 < w1.heap.size := by have := hb1.size; simp at this; omega
  go_wp2_with fail
  have hsz : (((w.alloc (.cells #[.string kd, .slice a fs.length cap] 83)).alloc (.cells #[.string { data := #[] }, .slice none 0 0] 115)).alloc (.cells #[.string kd, .slice none 0 0] 115)).heap.size = w.heap.size + 1 + 1 + 1 := by simp
  have hB1 : Below w.heap.size w w1 := ((((Below.refl _ _).alloc (Nat.le_refl _) _).alloc (by simp) _).alloc (by simp; omega) _).trans (hb1.mono (by simp; omega))
  rw [hsz] at hown
  refine bodyPost_ret (v := .agg #[.string kd, .slice (some ⟨w.heap.size + 1 + 1 + 1, 0, none⟩) fs.length fs.length]) (by simp [results, Tryz.results53, go_sem, qr0, qr1]) rfl ⟨w.heap.size + 1 + 1 + 1, rfl, ?_, ?_⟩
  · exact (((hown.setCell (by simp) _).setCell (by simp) _).setCell (by simp) _).weaken (by omega)
  · exact ((hB1.setCell (by simp; omega) _).setCell (by simp) _).setCell (by simp) _
def zm6 : Array Value := #[.string ByteArray.empty, .slice none 0 0]
def zlf (n : Nat) : Array Value := madeCells zm6 (n * 2)
set_option maxHeartbeats 2000000 in
theorem zfO (a : Option Addr) (cap : Nat) (ss : List Shp) (w : World) (hw : yH w a ss) (hl : ss.length <= 1048576) (hls : ∀ i (h : i < ss.length), ss[i].fs.length <= 1048576 /\ ∀ j (h' : j < ss[i].fs.length), ss[i].fs[j].ws.length <= 1048576) :
    Calls Tryz.prog 23 #[.slice a ss.length cap] w fun e w' => e = .returned (.slice (some ⟨w.heap.size, 0, none⟩) ss.length ss.length) /\ jB w.heap.size w' w.heap.size ss ss.length /\ Below w.heap.size w w' := by
  have hmk : ∀ w : World, (Instr.makeSlice 39 (.int .i64 ss.length) (.int .i64 ss.length)).run Tryz.prog w = .ok (.slice (some ⟨w.heap.size, 0, none⟩) ss.length ss.length) (w.alloc (.cells (zlf ss.length) 115)) :=
    fun w => qR (P := Tryz.prog) 39 115 (.agg zm6) 2 40 Tryz.underlying39 (by kernel_rfl) ss.length (by omega) (by omega) w
  go_enter Tryz.func23, Tryz.ntmps23
  go_wp2_with fail
  clear hmk
  go_loopw [4] (fun i wr => ∃ k : Nat, k <= ss.length /\ i = .int .i64 k /\ jB w.heap.size wr w.heap.size ss k /\ Below w.heap.size w wr) (fun i _ => ss.length - (intOf i).toNat)
  case atStart => exact ⟨0, Nat.zero_le _, rfl, ⟨Nat.le_refl _, zlf ss.length, (MapKept.heap_alloc w _).1, size_madeCells _ _, fun i _ h => absurd h (by omega)⟩, (Below.refl _ _).alloc (Nat.le_refl _) _⟩
  case round =>
    obtain ⟨k, hk, rfl, hown, hB⟩ := hrel
    by_cases hlt : k < ss.length
    · obtain ⟨b, off, rfl, hb, hr⟩ := hw.rows (by rintro rfl; simp at hlt)
      obtain ⟨fa, fcap, hs0⟩ := hr k hlt
      have hs := hs0.mono hb hB
      have hck := hs.kind
      have hcl := hs.list
      have hfl := hs.flds
      have HLS := hls k hlt
      have HLS' : Hid (ss[k].fs.length <= 1048576 /\ ∀ j (h' : j < ss[k].fs.length), ss[k].fs[j].ws.length <= 1048576) := HLS
      have hltI : (k : Int) < (ss.length : Int) := by omega
      clear hw hr hs0 hs HLS
      go_wp2_with fail
      refine (zgB _ _ _ _ _ hfl HLS'.out.1 HLS'.out.2).mono ?_
      rintro e w1 ⟨bf, rfl, hof, hb1⟩
      have hB1 := hB.trans (hb1.mono hB.size)
      have hown1 := hown.later hb1
      have hbo : w.heap.size < wr.heap.size := by
        obtain ⟨C', hC', _⟩ := hown.rows
        exact (Array.getElem?_eq_some_iff.1 hC').1
      obtain ⟨C, hC, hsz, _⟩ := hown1.rows
      have hfz : ∀ o, w1.frozen? ⟨w.heap.size, o, none⟩ = false := fun o => zl hC
      have hex : ∀ o, o < ss.length * 2 -> ∃ v, w1.cell? ⟨w.heap.size, o, none⟩ = some v := fun o ho => ⟨C[o]'(by omega), by rw [cell_of_block hC]; exact Array.getElem?_eq_getElem (by omega)⟩
      obtain ⟨v0, hv0⟩ := hex (k * 2) (by omega)
      obtain ⟨v1, hv1⟩ := hex (k * 2 + 1) (by omega)
      clear hex hC hsz hck hcl
      have hlow := hof.low
      go_wp2_with fail
      exact ⟨⟨k + 1, by omega, by go_num, hown1.put hlt bf (by omega) (hof.weaken (by omega)), (hB1.setCell (Nat.le_refl _) _).setCell (Nat.le_refl _) _⟩, by simp [intOf]; omega⟩
    · have HF : Hid (jB w.heap.size wr w.heap.size ss ss.length) := by
        have e : k = ss.length := by omega
        subst e; exact hown
      clear hw hown
      go_wp2_with fail
      go_ret
      exact ⟨rfl, HF.out, hB⟩
end Go.Proofs.YtfapkhgallmkdaaGreat

namespace Go.Proofs.YtfapkhgallmkdaaGreat
open Go.RowKit
structure zaI (w : World) (r : Nat) (f : Int -> Option Int) : Prop where
  ex : ∃ es clock, w.heap[r]? = some (.map es clock) /\ (∀ x ∈ es.toList, ∃ k v, x.key = .int .i64 k /\ x.val = .int .i64 v /\ f k = some v) /\ (∀ k v, f k = some v -> ∃ x ∈ es.toList, x.key = .int .i64 k) /\ ∀ (i j : Nat) (x y : MapEntry), es[i]? = some x -> es[j]? = some y -> x.key = y.key -> i = j
theorem zaI.mono {w w' : World} {r : Nat} {f : Int -> Option Int} (h : zaI w r f) (hb : w'.heap[r]? = w.heap[r]?) : zaI w' r f := by
  obtain ⟨es, clock, h1, h2⟩ := h.ex
  exact ⟨es, clock, hb.trans h1, h2⟩
theorem zaI.lt {w : World} {r : Nat} {f : Int -> Option Int} (h : zaI w r f) : r < w.heap.size := by
  obtain ⟨es, clock, h1, _⟩ := h.ex
  exact (Array.getElem?_eq_some_iff.1 h1).1
theorem zaJ (k : Int) : MapKept.IsKey (.int .i64) (.int .i64 k) := by simp [MapKept.IsKey]
theorem zaI.keys {es : Array MapEntry} {f : Int -> Option Int} (h : ∀ x ∈ es.toList, ∃ k v, x.key = .int .i64 k /\ x.val = .int .i64 v /\ f k = some v) : ∀ x ∈ es.toList, MapKept.IsKey (.int .i64) x.key := by
  intro x hx
  obtain ⟨k, v, h1, _⟩ := h x hx
  rw [h1]; exact zaJ k
theorem zaI.look {w : World} {r : Nat} {f : Int -> Option Int} (h : zaI w r f) (k : Int) :
    (Instr.lookup 262 (.map (some r)) (.int .i64 k) true).run Tryz.prog w = .ok (.tuple #[.int .i64 ((f k).getD 0), .bool (f k).isSome]) w := by
  obtain ⟨es, clock, hb, h1, h2, h3⟩ := h.ex
  rcases MapKept.findNow_spec (zaJ k) es.toList 0 (zaI.keys h1) with ⟨g1, g2⟩ | ⟨j, e, g1, g2, g3⟩
  · have hn : f k = none := by
      cases hf : f k with
      | none => rfl
      | some v =>
        obtain ⟨x, hx, hk⟩ := h2 k v hf
        exact absurd hk (g2 x hx)
    rw [hn]
    exact zbt Tryz.underlying262 Tryz.underlying3 (.int .i64 k) (.int .i64 0) (zaJ k) es clock g1 w (by kernel_rfl) r hb
  · obtain ⟨k', v', e1, e2, e3⟩ := h1 e (List.mem_of_getElem? g2)
    rw [g3] at e1
    cases e1
    rw [e3]
    rw [e2] at g1
    exact qw Tryz.underlying262 Tryz.underlying3 (.int .i64 k) (.int .i64 v') (zaJ k) es clock _ g1 w r hb
structure zfD (r : Nat) (w w' : World) : Prop where
  os : w'.os = w.os
  tape : w'.tape = w.tape
  output : w'.output = w.output
  size : w'.heap.size = w.heap.size
  out : ∀ k, k ≠ r -> w'.heap[k]? = w.heap[k]?
theorem zaI.upd {w : World} {r : Nat} {f : Int -> Option Int} (h : zaI w r f) (k v : Int) :
    ∃ w', (Instr.mapUpdate 262 (.map (some r)) (.int .i64 k) (.int .i64 v)).run Tryz.prog w = .ok () w' /\ zaI w' r (fun q => if q = k then some v else f q) /\ zfD r w w' := by
  obtain ⟨es, clock, hb, h1, h2, h3⟩ := h.ex
  have hm := Tryz.underlying262
  have hd := Tryz.underlying3
  rcases MapKept.findNow_spec (zaJ k) es.toList 0 (zaI.keys h1) with ⟨g1, g2⟩ | ⟨j, e, g1, g2, g3⟩
  · refine ⟨{ w with heap := w.heap.setIfInBounds r (.map (es.push ⟨.int .i64 k, .int .i64 v, clock⟩) (clock + 1)) }, ?_, ⟨_, _, (MapKept.heap_set hb).1, ?_, ?_, ?_⟩, rfl, rfl, rfl, by simp, fun q hq => (MapKept.heap_set hb).2 q hq⟩
    · simp [Instr.mapUpdate, run_underlying hm, MapKept.run_getObj_map hb, MapKept.run_checkKey hd (zaJ k), MapKept.run_findKey hd g1, MapKept.run_setObj_map _ hb, Result.andThen]
    · intro x hx
      rw [Array.toList_push, List.mem_append, List.mem_singleton] at hx
      rcases hx with hx | rfl
      · obtain ⟨k', v', e1, e2, e3⟩ := h1 x hx
        refine ⟨k', v', e1, e2, ?_⟩
        have : k' ≠ k := by rintro rfl; exact g2 x hx e1
        simp only [if_neg this]; exact e3
      · exact ⟨k, v, rfl, rfl, by simp⟩
    · intro q u hq
      by_cases e : q = k
      · subst e
        exact ⟨⟨.int .i64 q, .int .i64 v, clock⟩, by simp, rfl⟩
      · rw [if_neg e] at hq
        obtain ⟨x, hx, hk⟩ := h2 q u hq
        exact ⟨x, by simp [Array.toList_push]; exact Or.inl (by simpa using hx), hk⟩
    · intro i j' x y hx hy hxy
      rw [Array.getElem?_push] at hx hy
      by_cases e1 : i = es.size
      · by_cases e2 : j' = es.size
        · omega
        · rw [if_pos e1] at hx
          rw [if_neg e2] at hy
          have hm : y ∈ es.toList := by rw [<- Array.mem_def]; exact Array.mem_of_getElem? hy
          cases hx
          exact absurd hxy.symm (g2 y hm)
      · by_cases e2 : j' = es.size
        · rw [if_neg e1] at hx
          rw [if_pos e2] at hy
          have hm : x ∈ es.toList := by rw [<- Array.mem_def]; exact Array.mem_of_getElem? hx
          cases hy
          exact absurd hxy (g2 x hm)
        · rw [if_neg e1] at hx
          rw [if_neg e2] at hy
          exact h3 i j' x y hx hy hxy
  · have hj : es[j]? = some e := by simpa using g2
    refine ⟨{ w with heap := w.heap.setIfInBounds r (.map (es.modify j fun x => { x with key := .int .i64 k, val := .int .i64 v }) clock) }, ?_, ⟨_, _, (MapKept.heap_set hb).1, ?_, ?_, ?_⟩, rfl, rfl, rfl, by simp, fun q hq => (MapKept.heap_set hb).2 q hq⟩
    · simp [Instr.mapUpdate, run_underlying hm, MapKept.run_getObj_map hb, MapKept.run_checkKey hd (zaJ k), MapKept.run_findKey hd g1, hj, g3, MapKept.run_keyThatStays (zaJ k), MapKept.run_setObj_map _ hb, Result.andThen]
    · intro x hx
      obtain ⟨i, hi, rfl⟩ := List.mem_iff_getElem.1 hx
      have hi' : i < es.size := by simpa using hi
      simp only [Array.getElem_toList, Array.getElem_modify]
      by_cases e' : j = i
      · subst e'
        simp only [if_true]
        exact ⟨k, v, rfl, rfl, by simp⟩
      · simp only [if_neg e']
        obtain ⟨k', v', e1, e2, e3⟩ := h1 es[i] (by simp)
        have ek : k' ≠ k := by
          rintro rfl
          exact e' (h3 j i e es[i] hj (Array.getElem?_eq_getElem hi') (g3.trans e1.symm))
        exact ⟨k', v', e1, e2, by rw [if_neg ek]; exact e3⟩
    · intro q u hq
      have hj' : j < es.size := (Array.getElem?_eq_some_iff.1 hj).1
      by_cases e' : q = k
      · subst e'
        refine ⟨(es.modify j fun x => { x with key := .int .i64 q, val := .int .i64 v })[j]'(by simpa using hj'), ?_, ?_⟩
        · rw [<- Array.mem_def]; exact Array.getElem_mem _
        · rw [Array.getElem_modify]; simp
      · rw [if_neg e'] at hq
        obtain ⟨x, hx, hk⟩ := h2 q u hq
        obtain ⟨i, hi, rfl⟩ := List.mem_iff_getElem.1 hx
        have hi' : i < es.size := by simpa using hi
        have hij : j ≠ i := by
          rintro rfl
          rw [Array.getElem_toList] at hk
          rw [Array.getElem?_eq_getElem hi'] at hj
          cases hj
          rw [g3] at hk
          cases hk
          exact e' rfl
        refine ⟨(es.modify j fun x => { x with key := .int .i64 k, val := .int .i64 v })[i]'(by simpa using hi'), ?_, ?_⟩
        · rw [<- Array.mem_def]; exact Array.getElem_mem _
        · rw [Array.getElem_modify, if_neg hij]; simpa using hk
    · have hkey : ∀ (i : Nat) (x : MapEntry), (es.modify j fun x => { x with key := .int .i64 k, val := .int .i64 v })[i]? = some x -> ∃ y, es[i]? = some y /\ x.key = y.key := by
        intro i x hx
        obtain ⟨hi, rfl⟩ := Array.getElem?_eq_some_iff.1 hx
        have hi' : i < es.size := by simpa using hi
        refine ⟨es[i], Array.getElem?_eq_getElem hi', ?_⟩
        rw [Array.getElem_modify]
        by_cases e' : j = i
        · subst e'
          rw [Array.getElem?_eq_getElem hi'] at hj
          cases hj
          simp [g3]
        · rw [if_neg e']
      intro i j' x y hx hy hxy
      obtain ⟨x', hx', ex⟩ := hkey i x hx
      obtain ⟨y', hy', ey⟩ := hkey j' y hy
      exact h3 i j' x' y' hx' hy' (ex.symm.trans (hxy.trans ey))
end Go.Proofs.YtfapkhgallmkdaaGreat

namespace Go.Proofs.YtfapkhgallmkdaaGreat
open Go.RowKit
def qy (s : ByteArray) : Int := if Gate.jS s = true then Gate.zeE s else -1
theorem zjw (k : Nat) (h : k <= 7) : (10 : Int) ^ k <= 10000000 := by
  have : k = 0 \/ k = 1 \/ k = 2 \/ k = 3 \/ k = 4 \/ k = 5 \/ k = 6 \/ k = 7 := by omega
  rcases this with h | h | h | h | h | h | h | h <;> subst h <;> decide
set_option maxHeartbeats 800000 in
theorem ziG (s : ByteArray) (w : World) (h1 : 1 <= s.size) (h7 : s.size <= 7) (hz : s.size <= 1 \/ ¬ (s[0].toNat : Int) = 48) :
    Calls Tryz.prog 166 #[.string s] w fun e w' => e = .returned (.int .i64 (qy s)) /\ w' = w := by
  have HF : Hid (Gate.jS s = Gate.zao s) := Gate.zjB s h1 h7 hz
  rcases (show (s.size <= 1) \/ (1 < s.size /\ ¬ (s[0].toNat : Int) = 48) by rcases hz with h | h <;> omega) with hone | ⟨hmore, hz0⟩
  all_goals
    clear hz
    try have hz1 : ((s[0].toNat : Int) == 48) = false := by simpa using hz0
    try clear hz0
    go_enter Tryz.func166, Tryz.ntmps166
    go_wp2_with (go_at_call 47; refine (zb2 _ _ _ _ (by omega) (by omega)).mono ?_; rintro e w' ⟨rfl, rfl⟩)
    go_loop [3, 4] (fun n i => ∃ k : Nat, k <= s.size /\ i = .int .i64 k /\ (s.data.toList.take k).all Gate.digit = true /\ n = .int .i64 (Gate.dec (s.data.toList.take k))) (fun _ i => s.size - (intOf i).toNat)
    case atStart => exact ⟨0, Nat.zero_le _, rfl, rfl, rfl⟩
    case round =>
      obtain ⟨k, hk, rfl, hall, rfl⟩ := hrel
      have hlen : (s.data.toList.take k).length <= k := List.length_take_le _ _
      obtain ⟨hd0, hd1⟩ := Gate.zd0 _ hall k hlen
      by_cases hlt : k < s.size
      · have hp := zjw k (by omega)
        have hd2 : Gate.dec (s.data.toList.take k) < 10000000 := by omega
        clear hp hd1 hlen
        have HS : Hid ((s.data.toList.take (k + 1)).all Gate.digit = (true && Gate.digit s[k])) := by rw [Gate.zbr _ s k hlt, hall]; rfl
        have HD : Hid (Gate.dec (s.data.toList.take (k + 1)) = Gate.dec (s.data.toList.take k) * 10 + ((s[k].toNat : Int) - 48)) := by rw [Gate.zfu s k hlt]; exact Gate.zls _ _
        have HN : Hid (Gate.digit s[k] = false -> Gate.zao s = false) := fun h => Gate.zc2 Gate.digit s k hlt h
        clear hall
        by_cases h48 : (s[k].toNat : Int) < 48
        · have HC : Hid (Gate.digit s[k] = false) := by simp [Gate.digit, Hid]; omega
          go_wp2
          go_ret
          exact ⟨zh (by unfold qy; rw [HF.out, HN.out HC.out]; rfl), rfl⟩
        · by_cases h57 : 57 < (s[k].toNat : Int)
          · have HC : Hid (Gate.digit s[k] = false) := by simp [Gate.digit, Hid]; omega
            go_wp2
            go_ret
            exact ⟨zh (by unfold qy; rw [HF.out, HN.out HC.out]; rfl), rfl⟩
          · have HC : Hid (Gate.digit s[k] = true) := by simp [Gate.digit, Hid]; omega
            go_wp2
            go_round
            case rel => exact ⟨k + 1, by omega, by go_num, by rw [HS.out, HC.out]; rfl, by rw [HD.out]; go_num⟩
            case measure => simp [intOf]; omega
      · have HA : Hid (Gate.zao s = true) := by unfold Gate.zao Hid; rw [<- Gate.zaS s k (by omega)]; exact hall
        have HB : Hid (Gate.dec (s.data.toList.take k) = Gate.zeE s) := by rw [Gate.zaS s k (by omega)]; rfl
        clear hall hd0 hd1 hlen
        go_wp2
        go_ret
        exact ⟨zh (by unfold qy; rw [HF.out, HA.out, HB.out]; rfl), rfl⟩
set_option maxHeartbeats 400000 in
theorem zc8 (s : ByteArray) (w : World) (hs : s.size <= maxLen) :
    Calls Tryz.prog 166 #[.string s] w fun e w' => e = .returned (.int .i64 (qy s)) /\ w' = w := by
  unfold maxLen at hs
  by_cases h17 : 1 <= s.size /\ s.size <= 7
  · obtain ⟨h1, h7⟩ := h17
    by_cases hz : 1 < s.size /\ (s[0].toNat : Int) = 48
    · obtain ⟨hm, hz0⟩ := hz
      have HF : Hid (qy s = -1) := by unfold qy Hid; rw [Gate.zd7 s hm hz0]; rfl
      have hz1 : ((s[0].toNat : Int) == 48) = true := by simpa using hz0
      clear hz0
      go_enter Tryz.func166, Tryz.ntmps166
      go_wp2_with (go_at_call 47; refine (zb2 _ _ _ _ (by omega) (by omega)).mono ?_; rintro e w' ⟨rfl, rfl⟩)
      go_ret
      exact ⟨zh HF.out.symm, rfl⟩
    · exact ziG s w h1 h7 (by omega)
  · have HF : Hid (qy s = -1) := by unfold qy Hid; rw [Gate.zcW s h17]; rfl
    go_enter Tryz.func166, Tryz.ntmps166
    go_wp2_with (go_at_call 47; refine (zdZ _ _ _ _ (by omega)).mono ?_; rintro e w' ⟨rfl, rfl⟩)
    go_ret
    exact ⟨zh HF.out.symm, rfl⟩
end Go.Proofs.YtfapkhgallmkdaaGreat

namespace Go.Proofs.YtfapkhgallmkdaaGreat
open Go.RowKit
def zon (ss : List Shp) (v : ByteArray) (e : Ending) : Prop :=
  (Gate.zF ss v = false -> e = .returned (.int .i64 (-1))) /\ (Gate.zF ss v = true -> ∃ k, ∃ h : k < ss.length, e = .returned (.int .i64 (k : Nat)) /\ Gate.shapeOf ss v = ss[k])
set_option maxHeartbeats 400000 in
theorem zf5 (a : Option Addr) (cap : Nat) (ss : List Shp) (v : ByteArray) (w : World) (hw : yH w a ss) :
    Calls Tryz.prog 124 #[.slice a ss.length cap, .string v] w fun e w' => zon ss v e /\ w' = w := by
  have hl := hw.len
  unfold maxLen at hl
  go_enter Tryz.func124, Tryz.ntmps124
  go_wp2
  go_loop [5] (fun i => ∃ k : Nat, k <= ss.length /\ i = .int .i64 k /\ Gate.zF (ss.take k) v = false) (fun i => ss.length - (intOf i).toNat)
  case atStart => exact ⟨0, Nat.zero_le _, rfl, rfl⟩
  case round =>
    obtain ⟨k, hk, rfl, hno⟩ := hrel
    by_cases hlt : k < ss.length
    · obtain ⟨b, off, rfl, hb, hr⟩ := hw.rows (by rintro rfl; simp at hlt)
      obtain ⟨fa, fcap, hs⟩ := hr k hlt
      have hck := hs.kind
      clear hw hr hs
      by_cases he : ss[k].kd = v
      · have hbe : (ss[k].kd.toList == v.toList) = true := by rw [Gate.beq_toList]; simpa using he
        have HA : Hid (Gate.zF ss v = true) := Gate.zeo ss v k hlt he
        have HB : Hid (Gate.shapeOf ss v = ss[k]) := Gate.zcI ss v k hlt hno he
        clear he hno
        go_wp2
        go_ret
        exact ⟨⟨fun h => (by rw [HA.out] at h; cases h), fun _ => ⟨k, hlt, rfl, HB.out⟩⟩, rfl⟩
      · have hbe : (ss[k].kd.toList == v.toList) = false := by rw [Gate.beq_toList]; simpa using he
        have HS : Hid (Gate.zF (ss.take (k + 1)) v = false) := by unfold Hid; rw [Gate.zcQ ss v k hlt, hno, decide_eq_false he]; rfl
        clear he hno
        go_wp2
        go_round
        case rel => exact ⟨k + 1, by omega, by go_num, HS.out⟩
        case measure => simp [intOf]; omega
    · have HA : Hid (Gate.zF ss v = false) := by rw [<- Gate.zdL ss v k (by omega)]; exact hno
      clear hno hw
      go_wp2
      go_ret
      exact ⟨⟨fun _ => rfl, fun h => by rw [HA.out] at h; cases h⟩, rfl⟩
theorem zes (a : Option Addr) (cap : Nat) (ss : List Shp) (v : ByteArray) (w : World) (hw : yH w a ss) (h : Gate.zF ss v = false) :
    Calls Tryz.prog 124 #[.slice a ss.length cap, .string v] w fun e w' => e = .returned (.int .i64 (-1)) /\ w' = w := by
  refine (zf5 a cap ss v w hw).mono ?_
  rintro e w' ⟨⟨h1, _⟩, rfl⟩
  exact ⟨h1 h, rfl⟩
theorem zaP (a : Option Addr) (cap : Nat) (ss : List Shp) (v : ByteArray) (w : World) (hw : yH w a ss) (h : Gate.zF ss v = true) :
    Calls Tryz.prog 124 #[.slice a ss.length cap, .string v] w fun e w' => ∃ k, ∃ h : k < ss.length, e = .returned (.int .i64 (k : Nat)) /\ Gate.shapeOf ss v = ss[k] /\ w' = w := by
  refine (zf5 a cap ss v w hw).mono ?_
  rintro e w' ⟨⟨_, h2⟩, rfl⟩
  obtain ⟨k, hk, he, hs⟩ := h2 h
  exact ⟨k, hk, he, hs, rfl⟩
end Go.Proofs.YtfapkhgallmkdaaGreat

namespace Go.Proofs.YtfapkhgallmkdaaGreat
open Go.RowKit
theorem zT {w : World} {p : Addr} {v : Value} {b o : Nat} (h : b ≠ p.block) : (w.setCell p v).cell? ⟨b, o, none⟩ = w.cell? ⟨b, o, none⟩ := by
  unfold World.cell?; rw [Below.heap_setCell _ _ _ _ h]
theorem zfZ {w : World} {b g o : Nat} (h : b ≠ g) {v0 v1 v2 v3 v4 v5 v6 : Value} : (((((((w.setCell ⟨g, 0, none⟩ v0).setCell ⟨g, 1, none⟩ v1).setCell ⟨g, 2, none⟩ v2).setCell ⟨g, 3, none⟩ v3).setCell ⟨g, 4, none⟩ v4).setCell ⟨g, 5, none⟩ v5).setCell ⟨g, 6, none⟩ v6).cell? ⟨b, o, none⟩ = w.cell? ⟨b, o, none⟩ := by
  rw [zT h, zT h, zT h, zT h, zT h, zT h, zT h]
end Go.Proofs.YtfapkhgallmkdaaGreat

namespace Go.Proofs.YtfapkhgallmkdaaGreat
open Go.ChangeShapes Go.WideShapes Go.ChangeAt Go.RowKit
theorem Tryz.zjg : Tryz.prog.cellsOf 86 = 6 := by kernel_rfl
section
variable {H : Type} {enc : TypeId × Value -> H} {w : World} {base : Nat} {spare : Nat -> Bool} {held : Bool}
theorem znq {fuel : Nat} {cs : List Value} {x : DataW H × List MemPlace} (h : DataW.trod enc Tryz.prog w base spare held fuel 86 cs = some x) :
    ∃ m : Mnd, cs = m.cells.toList /\ m.Small := by
  have hlen : cs.length = 6 := by
    obtain ⟨_, _, _, _, hl, _, _⟩ := DataW.trod_struct Tryz.underlying86 h
    rw [hl]; exact Tryz.zjg
  match cs, hlen with
  | [c0, c1, c2, c3, c4, c5], _ =>
    have hf := jh Tryz.underlying86 h
    obtain ⟨_, _, f0⟩ := hf 0 9 0 c0 rfl Tryz.zJ rfl
    obtain ⟨_, _, f1⟩ := hf 1 9 1 c1 rfl Tryz.zJ rfl
    obtain ⟨_, _, f2⟩ := hf 2 9 2 c2 rfl Tryz.zJ rfl
    obtain ⟨_, _, f3⟩ := hf 3 9 3 c3 rfl Tryz.zJ rfl
    obtain ⟨_, _, f4⟩ := hf 4 9 4 c4 rfl Tryz.zJ rfl
    obtain ⟨_, _, f5⟩ := hf 5 9 5 c5 rfl Tryz.zJ rfl
    obtain ⟨x0, e0, _, s0⟩ := DataW.trod_string Tryz.underlying9 f0
    obtain ⟨x1, e1, _, s1⟩ := DataW.trod_string Tryz.underlying9 f1
    obtain ⟨x2, e2, _, s2⟩ := DataW.trod_string Tryz.underlying9 f2
    obtain ⟨x3, e3, _, s3⟩ := DataW.trod_string Tryz.underlying9 f3
    obtain ⟨x4, e4, _, s4⟩ := DataW.trod_string Tryz.underlying9 f4
    obtain ⟨x5, e5, _, s5⟩ := DataW.trod_string Tryz.underlying9 f5
    simp only [List.cons.injEq, and_true] at e0 e1 e2 e3 e4 e5
    subst e0 e1 e2 e3 e4 e5
    exact ⟨⟨x0, x1, x2, x3, x4, x5⟩, rfl, s0, s1, s2, s3, s4, s5⟩
theorem zlW {fuel : Nat} {cs : List Value} {x : DataW H × List MemPlace} (h : DataW.trod enc Tryz.prog w base spare held fuel 23 cs = some x) :
    ∃ a cap ms, cs = [.slice a (List.length ms) cap] /\ qp w a ms := by
  obtain ⟨a, len, cap, rfl, hm, hr⟩ := zai Tryz.underlying23 Tryz.zjg (by omega) h
  rcases Nat.eq_zero_or_pos len with h0 | hp
  · subst h0
    exact ⟨a, cap, [], rfl, ⟨by simp [maxLen], fun i h => absurd h (by simp), fun h => absurd rfl h⟩⟩
  · obtain ⟨b, off, rfl, hb, hrow⟩ := hr hp
    have hf : ∀ i, i < len -> ∃ m : Mnd, m.Small /\ ∀ j, j < 6 -> w.cell? ⟨b, off + i * 6 + j, none⟩ = m.cells[j]? := by
      intro i hi
      obtain ⟨es, n, y, hel, hcell, hy⟩ := hrow i hi
      obtain ⟨m, rfl, hs⟩ := znq hy
      exact ⟨m, hs, fun j hj => by rw [hcell j hj]; simp⟩
    obtain ⟨ms, hl, hms⟩ := zbk len hf
    exact ⟨_, cap, ms, by rw [hl], ⟨by omega, fun i hi => (hms i hi).1, fun _ => ⟨b, off, rfl, hb, fun i hi => (hms i hi).2⟩⟩⟩
end
end Go.Proofs.YtfapkhgallmkdaaGreat
