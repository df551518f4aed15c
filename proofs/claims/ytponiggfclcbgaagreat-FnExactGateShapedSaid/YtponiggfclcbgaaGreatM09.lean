import Derived.Test.YtponiggfclcbgaaGreatM08
import Derived.Deep.RegionHeld3
namespace Go.Proofs.YtponiggfclcbgaaGreat
open Go.RowKit

theorem wrap_one {i : Nat} (h : i < 9000000000000000000) : wrap64 ((i : Int) + 1) = ((i + 1 : Nat) : Int) := by
  rw [wrap_in _ ⟨by omega, by omega⟩]; omega

theorem step_less {n i : Nat} (h : i < n) (hi : i < 9000000000000000000) : n - (intOf (Value.int IntKind.i64 (wrap64 ((i : Int) + 1)))).toNat < n - (intOf (Value.int IntKind.i64 (i : Int))).toNat := by
  rw [wrap_one hi]
  show n - ((i + 1 : Nat) : Int).toNat < n - ((i : Nat) : Int).toNat
  rw [Int.toNat_natCast, Int.toNat_natCast]
  omega

set_option maxHeartbeats 1000000 in
theorem markStringS_any (g n cap : Nat) (C : Array Value) (k : Nat) (w : World) (hC : w.heap[g]? = some (.cells C 9)) (hn : n ≤ C.size) (hns : ∀ i, i < n → ∀ a m c, C[i]? ≠ some (Value.slice a m c)) (hk : 0 < k) (hkn : k + n < 9000000000000000000) :
    Calls Tryz.prog 49 #[.slice (some ⟨g, 0, none⟩) n cap, .int .i64 k] w fun e w' => e = .returned (.int .i64 ((k + n : Nat) : Int)) ∧ Marked g (g + 1) w w' ∧ ∃ C', w'.heap[g]? = some (.cells C' 9) ∧ C'.size = C.size ∧ ∀ i, i < n → C'[i]? = some (.string (Gate.markTxt (k + i))) := by
  have HS : Hid (∀ i, i < n → ∀ a m c, C[i]? ≠ some (Value.slice a m c)) := hns
  have HC : Hid (w.heap[g]? = some (.cells C 9)) := hC
  have HN : Hid (n ≤ C.size) := hn
  have HKN : Hid (k + n < 9000000000000000000) := hkn
  clear hns hC hn hkn
  go_enter Tryz.func49, Tryz.ntmps49
  go_wp2_with fail
  go_loopw [1, 5] (fun kv iv wr => ∃ i : Nat, i ≤ n ∧ kv = .int .i64 ((k + i : Nat) : Int) ∧ iv = .int .i64 i ∧ Marked g (g + 1) w wr ∧ ∃ C', wr.heap[g]? = some (.cells C' 9) ∧ C'.size = C.size ∧ ∀ j, j < i → C'[j]? = some (.string (Gate.markTxt (k + j)))) (fun _ iv _ => n - (intOf iv).toNat)
  case atStart => exact ⟨0, Nat.zero_le _, by simp, rfl, Marked.refl _ _ _, C, HC.out, rfl, fun j h => absurd h (by omega)⟩
  case round =>
    obtain ⟨i, hi, rfl, rfl, hM, C', hC', hs', hc'⟩ := hrel
    by_cases hlt : i < n
    · have hkn := HKN.out
      have hltI : (i : Int) < (n : Int) := by omega
      have HX : Hid (Marked g (g + 1) w wr ∧ wr.heap[g]? = some (.cells C' 9) ∧ C'.size = C.size ∧ ∀ j, j < i → C'[j]? = some (.string (Gate.markTxt (k + j)))) := ⟨hM, hC', hs', hc'⟩
      have hglt : g < wr.heap.size := (Array.getElem?_eq_some_iff.1 hC').1
      clear hM hC' hs' hc' hkn
      go_wp2_with fail
      rw [← Int.natCast_add]
      refine (markText_any (k + i) _ (by omega) (by have := HKN.out; omega)).mono ?_
      rintro e w1 ⟨rfl, hb1⟩
      have hC1 : w1.heap[g]? = some (.cells C' 9) := (hb1.block g hglt).trans HX.out.2.1
      have hi1 : i < C'.size := by have h1 := HX.out.2.2.1; have h2 := HN.out; omega
      have hcell : w1.cell? ⟨g, i, none⟩ = some C'[i] := by rw [cell_of_block hC1]; exact Array.getElem?_eq_getElem hi1
      have hfz : w1.frozen? ⟨g, i, none⟩ = false := frozen_of_block hC1
      have HC1 : Hid (w1.heap[g]? = some (.cells C' 9)) := hC1
      have HM1 : Hid (Marked g (g + 1) w w1) := HX.out.1.trans (Marked.of_below hb1)
      have HR : Hid (wrap64 ((k : Int) + i + 1) = ((k + (i + 1) : Nat) : Int)) := by have := HKN.out; rw [Hid, wrap_in _ ⟨by omega, by omega⟩]; omega
      clear hb1 hC1
      go_wp2_with fail
      go_roundw
      case rel =>
        refine ⟨i + 1, by omega, ?_, by rw [wrap_one (by have := HKN.out; omega)], ?_, C'.setIfInBounds i (.string (Gate.markTxt (k + i))), heap_setCell_at HC1.out _, by simp [HX.out.2.2.1], fun j hj => ?_⟩
        · rw [HR.out]
        · exact HM1.out.put (Nat.le_refl _) (Nat.lt_succ_self _) HC.out (HS.out i hlt) _ (fun _ _ _ h => by cases h)
        · by_cases e : j = i
          · subst e; rw [Array.getElem?_setIfInBounds_self_of_lt hi1]
          · rw [Array.getElem?_setIfInBounds_ne (fun h => e h.symm)]; exact HX.out.2.2.2 j (by omega)
      case measure =>
        have hkn := HKN.out
        exact step_less hlt (by omega)
    · have e : i = n := by omega
      have HX : Hid (Marked g (g + 1) w wr ∧ ∃ C', wr.heap[g]? = some (.cells C' 9) ∧ C'.size = C.size ∧ ∀ j, j < n → C'[j]? = some (.string (Gate.markTxt (k + j)))) := ⟨hM, C', hC', hs', by rw [← e]; exact hc'⟩
      clear hM hC' hs' hc'
      subst e
      go_wp2_with fail
      go_ret
      exact ⟨rfl, HX.out⟩

/-- Nothing to mark. -/
theorem markStringS_none (k : Int) (a : Option Addr) (cap : Nat) (w : World) :
    Calls Tryz.prog 49 #[.slice a 0 cap, .int .i64 k] w fun e w' => e = .returned (.int .i64 k) ∧ w' = w := by
  go_enter Tryz.func49, Tryz.ntmps49
  go_wp2_with fail
  go_loopw [1, 5] (fun kv iv wr => kv = .int .i64 k ∧ iv = .int .i64 0 ∧ wr = w) (fun _ _ _ => 0)
  case atStart => exact ⟨rfl, rfl, rfl⟩
  case round =>
    obtain ⟨rfl, rfl, rfl⟩ := hrel
    go_wp2_with fail
    go_ret
    exact ⟨rfl, rfl⟩

set_option maxHeartbeats 1000000 in
theorem heldStringS_any (a : Option Addr) (cap : Nat) (ws : List ByteArray) (k : Nat) (w : World) (hw : StrsAt w a ws) (hk : 0 < k) (hkn : k + ws.length < 9000000000000000000) (hws : ∀ i (h : i < ws.length), ws[i] = Gate.markTxt (k + i)) :
    Calls Tryz.prog 50 #[.slice a ws.length cap, .int .i64 k] w fun e w' => e = .returned (.int .i64 ((k + ws.length : Nat) : Int)) ∧ Below w.heap.size w w' := by
  have HS : Hid (∀ i (h : i < ws.length), ws[i] = Gate.markTxt (k + i)) := hws
  have HKN : Hid (k + ws.length < 9000000000000000000) := hkn
  clear hws hkn
  go_enter Tryz.func50, Tryz.ntmps50
  go_wp2_with fail
  go_loopw [1, 5] (fun kv iv wr => ∃ i : Nat, i ≤ ws.length ∧ kv = .int .i64 ((k + i : Nat) : Int) ∧ iv = .int .i64 i ∧ Below w.heap.size w wr) (fun _ iv _ => ws.length - (intOf iv).toNat)
  case atStart => exact ⟨0, Nat.zero_le _, by simp, rfl, Below.refl _ _⟩
  case round =>
    obtain ⟨i, hi, rfl, rfl, hB⟩ := hrel
    by_cases hlt : i < ws.length
    · obtain ⟨b, off, rfl, hb, hc⟩ := hw.cells (by rintro rfl; simp at hlt)
      have hltI : (i : Int) < (ws.length : Int) := by omega
      have hckd : wr.drew.cell? ⟨b, off + i, none⟩ = some (.string (Gate.markTxt (k + i))) := by
        rw [← HS.out i hlt]; exact (hB.cell (p := ⟨b, off + i, none⟩) hb).trans (hc i hlt)
      have hBd := hB.drew
      have hbd : b < wr.drew.heap.size := Nat.lt_of_lt_of_le hb hB.size
      have HR : Hid (wrap64 ((k : Int) + i + 1) = ((k + (i + 1) : Nat) : Int)) := by have := HKN.out; rw [Hid, wrap_in _ ⟨by omega, by omega⟩]; omega
      clear hw hc
      go_wp2_with fail
      go_region_held3 (fun w' => w'.cell? ⟨b, off + i, none⟩ = some (.string (Gate.markTxt (k + i)))) (exact hckd) (first
        | (go_at_call 47; (try rw [← Int.natCast_add]); refine (markText_any (k + i) _ (by omega) (by have := HKN.out; omega)).mono ?_; rintro e w1 ⟨rfl, hb1⟩; have hckd := (hb1.cell (p := ⟨b, off + i, none⟩) hbd).trans hckd; have hBd := hBd.trans (hb1.mono hBd.size); clear hb1))
      go_wp2_with fail
      exact ⟨⟨i + 1, by omega, by rw [HR.out], by rw [wrap_one (by have := HKN.out; omega)], hBd⟩, step_less hlt (by have := HKN.out; omega)⟩
    · have e : i = ws.length := by omega
      subst e
      clear hw
      go_wp2_with fail
      go_ret
      exact ⟨rfl, hB⟩

end Go.Proofs.YtponiggfclcbgaaGreat

namespace Go.Proofs.YtponiggfclcbgaaGreat
open Go.RowKit

def NoSlice (C : Array Value) (j : Nat) : Prop := ∀ a n c, C[j]? ≠ some (Value.slice a n c)

/-- The form of a list of texts: a block with room, no slice among what is written. -/
structure TxtsForm (lo hi : Nat) (w : World) (b n : Nat) : Prop where
  low : lo ≤ b
  high : b < hi
  rows : ∃ C, w.heap[b]? = some (.cells C 9) ∧ n ≤ C.size ∧ ∀ j, j < n → NoSlice C j

structure FldsForm (lo hi : Nat) (w : World) (bo : Nat) (fs : List Fld) : Prop where
  low : lo ≤ bo
  high : bo < hi
  rows : ∃ C, w.heap[bo]? = some (.cells C 91) ∧ C.size = fs.length * 11 ∧
    ∀ i (h : i < fs.length), ∃ bk cap, TxtsForm lo hi w bk fs[i].ws.length ∧ C[i * 11 + 4]? = some (.slice (some ⟨bk, 0, none⟩) fs[i].ws.length cap) ∧ ∀ j, j < 11 → j ≠ 4 → NoSlice C (i * 11 + j)

structure ShpsForm (lo hi : Nat) (w : World) (bo : Nat) (ss : List Shp) : Prop where
  low : lo ≤ bo
  high : bo < hi
  rows : ∃ C, w.heap[bo]? = some (.cells C 69) ∧ C.size = ss.length * 2 ∧
    ∀ i (h : i < ss.length), ∃ bf cap, FldsForm lo hi w bf ss[i].fs ∧ C[i * 2 + 1]? = some (.slice (some ⟨bf, 0, none⟩) ss[i].fs.length cap) ∧ NoSlice C (i * 2)

theorem TxtsForm.mono {lo hi : Nat} {w w' : World} {b n : Nat} (h : TxtsForm lo hi w b n) (hM : Marked lo hi w w') : TxtsForm lo hi w' b n := by
  obtain ⟨C, hC, hs, hn⟩ := h.rows
  obtain ⟨C', hC', hs', hk⟩ := hM.inn b C _ h.low h.high hC
  exact ⟨h.low, h.high, C', hC', by omega, fun j hj a m c he => hn j hj a m c ((hk j a m c).1 he)⟩

theorem FldsForm.mono {lo hi : Nat} {w w' : World} {b : Nat} {fs : List Fld} (h : FldsForm lo hi w b fs) (hM : Marked lo hi w w') : FldsForm lo hi w' b fs := by
  obtain ⟨C, hC, hs, hn⟩ := h.rows
  obtain ⟨C', hC', hs', hk⟩ := hM.inn b C _ h.low h.high hC
  refine ⟨h.low, h.high, C', hC', by omega, fun i hi => ?_⟩
  obtain ⟨bk, cap, h1, h2, h3⟩ := hn i hi
  exact ⟨bk, cap, h1.mono hM, (hk _ _ _ _).2 h2, fun j hj hj4 a m c he => h3 j hj hj4 a m c ((hk _ a m c).1 he)⟩

theorem ShpsForm.mono {lo hi : Nat} {w w' : World} {b : Nat} {ss : List Shp} (h : ShpsForm lo hi w b ss) (hM : Marked lo hi w w') : ShpsForm lo hi w' b ss := by
  obtain ⟨C, hC, hs, hn⟩ := h.rows
  obtain ⟨C', hC', hs', hk⟩ := hM.inn b C _ h.low h.high hC
  refine ⟨h.low, h.high, C', hC', by omega, fun i hi => ?_⟩
  obtain ⟨bk, cap, h1, h2, h3⟩ := hn i hi
  exact ⟨bk, cap, h1.mono hM, (hk _ _ _ _).2 h2, fun a m c he => h3 a m c ((hk _ a m c).1 he)⟩

theorem strArr_noSlice (ws : List ByteArray) (j : Nat) : NoSlice (strArr ws) j := by
  intro a n c h
  simp only [strArr, List.getElem?_toArray, List.getElem?_map, Option.map_eq_some_iff] at h
  obtain ⟨_, _, h⟩ := h
  cases h

theorem FldsOwn.form {lo : Nat} {w : World} {bo : Nat} {fs : List Fld} (h : FldsOwn lo w bo fs fs.length) : FldsForm lo w.heap.size w bo fs := by
  obtain ⟨C, hC, hsz, hr⟩ := h.rows
  refine ⟨h.low, (Array.getElem?_eq_some_iff.1 hC).1, C, hC, hsz, fun i hi => ?_⟩
  obtain ⟨bk, h1, _, hk, hc⟩ := hr i hi hi
  refine ⟨bk, fs[i].ws.length, ⟨h1, (Array.getElem?_eq_some_iff.1 hk).1, strArr fs[i].ws, hk, by simp [strArr], fun j _ => strArr_noSlice _ _⟩, by rw [hc 4 (by omega)]; rfl, fun j hj hj4 a n c he => ?_⟩
  rw [hc j hj] at he
  rcases j with _ | _ | _ | _ | _ | _ | _ | _ | _ | _ | _ | j <;> first | omega | (simp [Fld.cells] at he)

theorem ShpsOwn.form {lo : Nat} {w : World} {bo : Nat} {ss : List Shp} (h : ShpsOwn lo w bo ss ss.length) : ShpsForm lo w.heap.size w bo ss := by
  obtain ⟨C, hC, hsz, hr⟩ := h.rows
  refine ⟨h.low, (Array.getElem?_eq_some_iff.1 hC).1, C, hC, hsz, fun i hi => ?_⟩
  obtain ⟨bf, h1, h2, hf, hk, hl⟩ := hr i hi hi
  have hf' := hf.form
  have hlow : lo ≤ bo := h.low
  refine ⟨bf, ss[i].fs.length, ⟨h1, hf'.high, ?_⟩, hl, fun a n c he => by rw [hk] at he; cases he⟩
  obtain ⟨C', hC', hs', hr'⟩ := hf'.rows
  refine ⟨C', hC', hs', fun j hj => ?_⟩
  obtain ⟨bk, cap, g1, g2, g3⟩ := hr' j hj
  exact ⟨bk, cap, ⟨by have := g1.low; omega, g1.high, g1.rows⟩, g2, g3⟩

theorem markText_some (k : Int) (w : World) (hk : 0 < k) (hk2 : k < 9000000000000000000) :
    Calls Tryz.prog 47 #[.int .i64 k] w fun e w' => ∃ s, e = .returned (.string s) ∧ Below w.heap.size w w' := by
  obtain ⟨n, rfl⟩ : ∃ n : Nat, k = n := ⟨k.toNat, by omega⟩
  exact (markText_any n w (by omega) (by omega)).mono fun e w' ⟨h1, h2⟩ => ⟨_, h1, h2⟩

theorem markStringS_some (lo hi b n cap : Nat) (k : Int) (w : World) (h : TxtsForm lo hi w b n) (hn : n ≤ 1048576) (hk : 0 < k) (hk2 : k < 8000000000000000000) :
    Calls Tryz.prog 49 #[.slice (some ⟨b, 0, none⟩) n cap, .int .i64 k] w fun e w' => ∃ k', e = .returned (.int .i64 k') ∧ k' = k + n ∧ Marked lo hi w w' := by
  obtain ⟨m, rfl⟩ : ∃ m : Nat, k = m := ⟨k.toNat, by omega⟩
  obtain ⟨C, hC, hs, hns⟩ := h.rows
  refine (markStringS_any b n cap C m w hC hs hns (by omega) (by omega)).mono fun e w' ⟨h1, h2, _⟩ => ⟨_, h1, Int.natCast_add _ _, h2.wide h.low h.high⟩

end Go.Proofs.YtponiggfclcbgaaGreat

namespace Go.Proofs.YtponiggfclcbgaaGreat
open Go.RowKit

/-- What a store into a field of a marked list wants to know. -/
theorem FldsForm.ready {lo hi bo : Nat} {w W : World} {fs : List Fld} (h : FldsForm lo hi w bo fs) (hM : Marked lo hi w W) (i : Nat) (hi' : i < fs.length) :
    (∀ j, j < 11 → ∃ v, W.cell? ⟨bo, i * 11 + j, none⟩ = some v) ∧ (∀ o, W.frozen? ⟨bo, o, none⟩ = false) := by
  have h' := h.mono hM
  obtain ⟨C, hC, hs, hn⟩ := h'.rows
  exact ⟨fun j hj => ⟨C[i * 11 + j]'(by omega), by rw [cell_of_block hC]; exact Array.getElem?_eq_getElem (by omega)⟩, fun o => frozen_of_block hC⟩

theorem FldsForm.words {lo hi bo : Nat} {w : World} {fs : List Fld} (h : FldsForm lo hi w bo fs) (i : Nat) (hi' : i < fs.length) :
    ∃ bk cap, TxtsForm lo hi w bk fs[i].ws.length ∧ ∀ W, Marked lo hi w W → W.cell? ⟨bo, i * 11 + 4, none⟩ = some (.slice (some ⟨bk, 0, none⟩) fs[i].ws.length cap) := by
  obtain ⟨C, hC, hs, hn⟩ := h.rows
  obtain ⟨bk, cap, h1, h2, _⟩ := hn i hi'
  refine ⟨bk, cap, h1, fun W hM => ?_⟩
  obtain ⟨C', hC', _, hk⟩ := hM.inn bo C _ h.low h.high hC
  rw [cell_of_block hC']
  exact (hk _ _ _ _).2 h2

/-- A store into a field of a marked list. -/
theorem FldsForm.put {lo hi bo : Nat} {w W : World} {fs : List Fld} (h : FldsForm lo hi w bo fs) (hM : Marked lo hi w W) (i j : Nat) (hi' : i < fs.length) (hj : j < 11) (hj4 : j ≠ 4) (v : Value) (hv : ∀ a n c, v ≠ Value.slice a n c) : Marked lo hi w (W.setCell ⟨bo, i * 11 + j, none⟩ v) := by
  obtain ⟨C, hC, _, hn⟩ := h.rows
  obtain ⟨_, _, _, _, h3⟩ := hn i hi'
  exact hM.put h.low h.high hC (h3 j hj hj4) v hv

set_option maxRecDepth 20000 in
set_option maxHeartbeats 4000000 in
theorem markGateFieldS_any (lo hi bo cap : Nat) (fs : List Fld) (k : Int) (w : World) (h : FldsForm lo hi w bo fs) (hl : fs.length ≤ 1048576) (hls : ∀ i (h : i < fs.length), fs[i].ws.length ≤ 1048576) (hk : 0 < k) (hk2 : k < 4000000000000000000) :
    Calls Tryz.prog 48 #[.slice (some ⟨bo, 0, none⟩) fs.length cap, .int .i64 k] w fun e w' => ∃ k', e = .returned (.int .i64 k') ∧ k ≤ k' ∧ k' ≤ k + fs.length * 1048586 ∧ Marked lo hi w w' := by
  have HF : Hid (FldsForm lo hi w bo fs) := h
  have HL : Hid (fs.length ≤ 1048576 ∧ ∀ i (h : i < fs.length), fs[i].ws.length ≤ 1048576) := ⟨hl, hls⟩
  have HK : Hid (0 < k ∧ k < 4000000000000000000) := ⟨hk, hk2⟩
  clear h hl hls hk hk2
  go_enter Tryz.func48, Tryz.ntmps48
  go_wp2_with fail
  go_loopw [1, 5] (fun kv iv wr => ∃ (i : Nat) (kk : Int), i ≤ fs.length ∧ kv = .int .i64 kk ∧ iv = .int .i64 i ∧ k ≤ kk ∧ kk ≤ k + i * 1048586 ∧ Marked lo hi w wr) (fun _ iv _ => fs.length - (intOf iv).toNat)
  case atStart => exact ⟨0, k, Nat.zero_le _, rfl, rfl, Int.le_refl _, by simp, Marked.refl _ _ _⟩
  case round =>
    obtain ⟨i, kk, hile, rfl, rfl, h1, h2, hM⟩ := hrel
    by_cases hlt : i < fs.length
    · have hltI : (i : Int) < (fs.length : Int) := by omega
      have HB : Hid (0 < kk ∧ kk < 7000000000000000000 ∧ kk ≤ k + i * 1048586 ∧ k ≤ kk) := by have a := HK.out; have b := HL.out.1; exact ⟨by omega, by omega, h2, h1⟩
      have HM : Hid (Marked lo hi w wr) := hM
      clear h1 h2 hM
      obtain ⟨bk, bcap, hT, hsl⟩ := HF.out.words i hlt
      have HT : Hid (TxtsForm lo hi w bk fs[i].ws.length ∧ ∀ W, Marked lo hi w W → W.cell? ⟨bo, i * 11 + 4, none⟩ = some (.slice (some ⟨bk, 0, none⟩) fs[i].ws.length bcap)) := ⟨hT, hsl⟩
      clear hT hsl
      go_wp2_with fail
      refine (markText_some _ _ HB.out.1 (by have := HB.out; omega)).mono ?_
      rintro e w1 ⟨s1, rfl, hb1⟩
      have HM1 : Hid (Marked lo hi w w1) := HM.out.trans (Marked.of_below hb1)
      clear hb1
      have hsl := HT.out.2 _ HM1.out
      obtain ⟨hex, hfz⟩ := HF.out.ready HM1.out i hlt
      obtain ⟨v0, hv0⟩ := hex 0 (by omega)
      obtain ⟨v1, hv1⟩ := hex 1 (by omega)
      obtain ⟨v2, hv2⟩ := hex 2 (by omega)
      obtain ⟨v3, hv3⟩ := hex 3 (by omega)
      rw [Nat.add_zero] at hv0
      have hwkk1 : wrap64 (kk + 1) = kk + 1 := by have := HB.out; exact wrap_in _ ⟨by omega, by omega⟩
      have hwkk2 : wrap64 (kk + 1 + 1) = kk + 1 + 1 := by have := HB.out; exact wrap_in _ ⟨by omega, by omega⟩
      have hwkk3 : wrap64 (kk + 1 + 1 + 1) = kk + 1 + 1 + 1 := by have := HB.out; exact wrap_in _ ⟨by omega, by omega⟩
      have hwkk4 : wrap64 (kk + 1 + 1 + 1 + 1) = kk + 1 + 1 + 1 + 1 := by have := HB.out; exact wrap_in _ ⟨by omega, by omega⟩
      clear hex
      go_wp2_with fail
      have HMW := HF.out.put (HF.out.put (HF.out.put (HF.out.put HM1.out i 0 hlt (by omega) (by omega) (.string s1) (fun _ _ _ h => by cases h)) i 1 hlt (by omega) (by omega) (.int .i64 (kk + 1)) (fun _ _ _ h => by cases h)) i 2 hlt (by omega) (by omega) (.int .i64 (kk + 1 + 1)) (fun _ _ _ h => by cases h)) i 3 hlt (by omega) (by omega) (.int .i64 (kk + 1 + 1 + 1)) (fun _ _ _ h => by cases h)
      refine (markStringS_some lo hi bk _ bcap _ _ (HT.out.1.mono HMW) (HL.out.2 i hlt) (by have := HB.out; omega) (by have := HB.out; omega)).mono ?_
      rintro e w2 ⟨k2, rfl, hk2, hM2⟩
      have HM2 : Hid (Marked lo hi w w2) := HMW.trans hM2
      have HB2 : Hid (kk < k2 ∧ k2 ≤ kk + 4 + 1048576 ∧ 0 < k2) := by have a := HL.out.2 i hlt; have b := HB.out; exact ⟨by omega, by omega, by omega⟩
      clear HMW hM2 hk2 hv0 hv1 hv2 hv3 hfz hsl
      go_wp2_with fail
      refine (markText_some _ _ HB2.out.2.2 (by have := HB.out; have := HB2.out; omega)).mono ?_
      rintro e w3 ⟨s3, rfl, hb3⟩
      have HM3 : Hid (Marked lo hi w w3) := HM2.out.trans (Marked.of_below hb3)
      clear hb3
      obtain ⟨hex, hfz⟩ := HF.out.ready HM3.out i hlt
      obtain ⟨v5, hv5⟩ := hex 5 (by omega)
      obtain ⟨v6, hv6⟩ := hex 6 (by omega)
      obtain ⟨v7, hv7⟩ := hex 7 (by omega)
      obtain ⟨v8, hv8⟩ := hex 8 (by omega)
      have hwk21 : wrap64 (k2 + 1) = k2 + 1 := by have := HB.out; have := HB2.out; exact wrap_in _ ⟨by omega, by omega⟩
      have hwk22 : wrap64 (k2 + 1 + 1) = k2 + 1 + 1 := by have := HB.out; have := HB2.out; exact wrap_in _ ⟨by omega, by omega⟩
      have hwk23 : wrap64 (k2 + 1 + 1 + 1) = k2 + 1 + 1 + 1 := by have := HB.out; have := HB2.out; exact wrap_in _ ⟨by omega, by omega⟩
      have hwk24 : wrap64 (k2 + 1 + 1 + 1 + 1) = k2 + 1 + 1 + 1 + 1 := by have := HB.out; have := HB2.out; exact wrap_in _ ⟨by omega, by omega⟩
      have hwk25 : wrap64 (k2 + 1 + 1 + 1 + 1 + 1) = k2 + 1 + 1 + 1 + 1 + 1 := by have := HB.out; have := HB2.out; exact wrap_in _ ⟨by omega, by omega⟩
      have hwk26 : wrap64 (k2 + 1 + 1 + 1 + 1 + 1 + 1) = k2 + 1 + 1 + 1 + 1 + 1 + 1 := by have := HB.out; have := HB2.out; exact wrap_in _ ⟨by omega, by omega⟩
      clear hex
      go_wp2_with fail
      have HMW := HF.out.put (HF.out.put (HF.out.put (HF.out.put HM3.out i 5 hlt (by omega) (by omega) (.string s3) (fun _ _ _ h => by cases h)) i 6 hlt (by omega) (by omega) (.int .i64 (k2 + 1)) (fun _ _ _ h => by cases h)) i 7 hlt (by omega) (by omega) (.bool ((k2 + 1 + 1).tmod 3 == 0)) (fun _ _ _ h => by cases h)) i 8 hlt (by omega) (by omega) (.bool ((k2 + 1 + 1 + 1).tmod 3 == 0)) (fun _ _ _ h => by cases h)
      refine (markText_some _ _ (by have := HB2.out; omega) (by have := HB.out; have := HB2.out; omega)).mono ?_
      rintro e w4 ⟨s4, rfl, hb4⟩
      have HM4 : Hid (Marked lo hi w w4) := HMW.trans (Marked.of_below hb4)
      clear HMW hb4 hv5 hv6 hv7 hv8 hfz
      obtain ⟨hex, hfz⟩ := HF.out.ready HM4.out i hlt
      obtain ⟨v9, hv9⟩ := hex 9 (by omega)
      clear hex
      go_wp2_with fail
      have HMW := HF.out.put HM4.out i 9 hlt (by omega) (by omega) (.string s4) (fun _ _ _ h => by cases h)
      refine (markText_some _ _ (by have := HB2.out; omega) (by have := HB.out; have := HB2.out; omega)).mono ?_
      rintro e w5 ⟨s5, rfl, hb5⟩
      have HM5 : Hid (Marked lo hi w w5) := HMW.trans (Marked.of_below hb5)
      clear HMW hb5 hv9 hfz
      obtain ⟨hex, hfz⟩ := HF.out.ready HM5.out i hlt
      obtain ⟨v10, hv10⟩ := hex 10 (by omega)
      clear hex
      go_wp2_with fail
      go_roundw
      case rel => exact ⟨i + 1, k2 + 1 + 1 + 1 + 1 + 1 + 1, by omega, by rw [hwk26], by rw [wrap_one (by have := HL.out.1; omega)], by have a := HB.out; have b := HB2.out; omega, by have a := HB.out; have b := HB2.out; omega, HF.out.put HM5.out i 10 hlt (by omega) (by omega) (.string s5) (fun _ _ _ h => by cases h)⟩
      case measure => exact step_less hlt (by have := HL.out.1; omega)
    · have e : i = fs.length := by omega
      subst e
      go_wp2_with fail
      go_ret
      exact ⟨kk, rfl, h1, h2, hM⟩

theorem ShpsForm.ready {lo hi bo : Nat} {w W : World} {ss : List Shp} (h : ShpsForm lo hi w bo ss) (hM : Marked lo hi w W) (i : Nat) (hi' : i < ss.length) :
    (∀ j, j < 2 → ∃ v, W.cell? ⟨bo, i * 2 + j, none⟩ = some v) ∧ (∀ o, W.frozen? ⟨bo, o, none⟩ = false) := by
  have h' := h.mono hM
  obtain ⟨C, hC, hs, hn⟩ := h'.rows
  exact ⟨fun j hj => ⟨C[i * 2 + j]'(by omega), by rw [cell_of_block hC]; exact Array.getElem?_eq_getElem (by omega)⟩, fun o => frozen_of_block hC⟩

theorem ShpsForm.flds {lo hi bo : Nat} {w : World} {ss : List Shp} (h : ShpsForm lo hi w bo ss) (i : Nat) (hi' : i < ss.length) :
    ∃ bf cap, FldsForm lo hi w bf ss[i].fs ∧ ∀ W, Marked lo hi w W → W.cell? ⟨bo, i * 2 + 1, none⟩ = some (.slice (some ⟨bf, 0, none⟩) ss[i].fs.length cap) := by
  obtain ⟨C, hC, hs, hn⟩ := h.rows
  obtain ⟨bk, cap, h1, h2, _⟩ := hn i hi'
  refine ⟨bk, cap, h1, fun W hM => ?_⟩
  obtain ⟨C', hC', _, hk⟩ := hM.inn bo C _ h.low h.high hC
  rw [cell_of_block hC']
  exact (hk _ _ _ _).2 h2

theorem ShpsForm.put {lo hi bo : Nat} {w W : World} {ss : List Shp} (h : ShpsForm lo hi w bo ss) (hM : Marked lo hi w W) (i : Nat) (hi' : i < ss.length) (v : Value) (hv : ∀ a n c, v ≠ Value.slice a n c) : Marked lo hi w (W.setCell ⟨bo, i * 2, none⟩ v) := by
  obtain ⟨C, hC, _, hn⟩ := h.rows
  obtain ⟨_, _, _, _, h3⟩ := hn i hi'
  exact hM.put h.low h.high hC h3 v hv

set_option maxHeartbeats 4000000 in
theorem markGateShapeS_any (lo hi bo cap : Nat) (ss : List Shp) (k : Int) (w : World) (h : ShpsForm lo hi w bo ss) (hl : ss.length ≤ 1048576) (hls : ∀ i (h : i < ss.length), ss[i].fs.length ≤ 1048576 ∧ ∀ j (h' : j < ss[i].fs.length), ss[i].fs[j].ws.length ≤ 1048576) (hk : 0 < k) (hk2 : k < 1000000000000000000) :
    Calls Tryz.prog 17 #[.slice (some ⟨bo, 0, none⟩) ss.length cap, .int .i64 k] w fun e w' => ∃ k', e = .returned (.int .i64 k') ∧ k ≤ k' ∧ k' ≤ k + ss.length * 1099522113537 ∧ Marked lo hi w w' := by
  have HF : Hid (ShpsForm lo hi w bo ss) := h
  have HL : Hid (ss.length ≤ 1048576 ∧ ∀ i (h : i < ss.length), ss[i].fs.length ≤ 1048576 ∧ ∀ j (h' : j < ss[i].fs.length), ss[i].fs[j].ws.length ≤ 1048576) := ⟨hl, hls⟩
  have HK : Hid (0 < k ∧ k < 1000000000000000000) := ⟨hk, hk2⟩
  clear h hl hls hk hk2
  go_enter Tryz.func17, Tryz.ntmps17
  go_wp2_with fail
  go_loopw [1, 5] (fun kv iv wr => ∃ (i : Nat) (kk : Int), i ≤ ss.length ∧ kv = .int .i64 kk ∧ iv = .int .i64 i ∧ k ≤ kk ∧ kk ≤ k + i * 1099522113537 ∧ Marked lo hi w wr) (fun _ iv _ => ss.length - (intOf iv).toNat)
  case atStart => exact ⟨0, k, Nat.zero_le _, rfl, rfl, Int.le_refl _, by simp, Marked.refl _ _ _⟩
  case round =>
    obtain ⟨i, kk, hile, rfl, rfl, h1, h2, hM⟩ := hrel
    by_cases hlt : i < ss.length
    · have hltI : (i : Int) < (ss.length : Int) := by omega
      have HB : Hid (0 < kk ∧ kk < 3000000000000000000 ∧ kk ≤ k + i * 1099522113537 ∧ k ≤ kk) := by have a := HK.out; have b := HL.out.1; exact ⟨by omega, by omega, h2, h1⟩
      have HM : Hid (Marked lo hi w wr) := hM
      clear h1 h2 hM
      obtain ⟨bf, bcap, hT, hsl⟩ := HF.out.flds i hlt
      have HT : Hid (FldsForm lo hi w bf ss[i].fs ∧ ∀ W, Marked lo hi w W → W.cell? ⟨bo, i * 2 + 1, none⟩ = some (.slice (some ⟨bf, 0, none⟩) ss[i].fs.length bcap)) := ⟨hT, hsl⟩
      clear hT hsl
      go_wp2_with fail
      refine (markText_some _ _ HB.out.1 (by have := HB.out; omega)).mono ?_
      rintro e w1 ⟨s1, rfl, hb1⟩
      have HM1 : Hid (Marked lo hi w w1) := HM.out.trans (Marked.of_below hb1)
      clear hb1
      have hsl := HT.out.2 _ HM1.out
      obtain ⟨hex, hfz⟩ := HF.out.ready HM1.out i hlt
      obtain ⟨v0, hv0⟩ := hex 0 (by omega)
      rw [Nat.add_zero] at hv0
      have hw1 : wrap64 (kk + 1) = kk + 1 := by have := HB.out; exact wrap_in _ ⟨by omega, by omega⟩
      clear hex
      go_wp2_with fail
      have HMW := HF.out.put HM1.out i hlt (.string s1) (fun _ _ _ h => by cases h)
      refine (markGateFieldS_any lo hi bf bcap _ _ _ (HT.out.1.mono HMW) (HL.out.2 i hlt).1 (HL.out.2 i hlt).2 (by have := HB.out; omega) (by have := HB.out; omega)).mono ?_
      rintro e w2 ⟨k2, rfl, h3, h4, hM2⟩
      have HM2 : Hid (Marked lo hi w w2) := HMW.trans hM2
      have HB2 : Hid (kk < k2 ∧ k2 ≤ kk + 1099522113537) := by have a := (HL.out.2 i hlt).1; exact ⟨by omega, by omega⟩
      clear HMW hM2 h3 h4 hv0 hfz hsl
      go_wp2_with fail
      go_roundw
      case rel => exact ⟨i + 1, k2, by omega, rfl, by rw [wrap_one (by have := HL.out.1; omega)], by have a := HB.out; have b := HB2.out; omega, by have a := HB.out; have b := HB2.out; omega, HM2.out⟩
      case measure => exact step_less hlt (by have := HL.out.1; omega)
    · have e : i = ss.length := by omega
      subst e
      go_wp2_with fail
      go_ret
      exact ⟨kk, rfl, h1, h2, hM⟩

end Go.Proofs.YtponiggfclcbgaaGreat
