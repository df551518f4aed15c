import Derived.Test.YtbefjngbilakjaaM09
namespace Go.Proofs.Ytbefjngbilakjaa
open Go.RowKit

def NoSlice (C : Array Value) (j : Nat) : Prop := ∀ a n c, C[j]? ≠ some (Value.slice a n c)

/-- The form of a list of texts: a block with room, no slice among what is written. -/
structure TxtsForm (lo hi : Nat) (w : World) (b n : Nat) : Prop where
  low : lo ≤ b
  high : b < hi
  rows : ∃ C, w.heap[b]? = some (.cells C 9) ∧ n ≤ C.size ∧ ∀ j, j < n → NoSlice C j

structure FldsForm (lo hi : Nat) (w : World) (bo : Nat) (fs : List Fld) : Prop where
  low : lo ≤ bo
  high : bo < hi
  rows : ∃ C, w.heap[bo]? = some (.cells C 27) ∧ C.size = fs.length * 11 ∧
    ∀ i (h : i < fs.length), ∃ bk cap, TxtsForm lo hi w bk fs[i].ws.length ∧ C[i * 11 + 4]? = some (.slice (some ⟨bk, 0, none⟩) fs[i].ws.length cap) ∧ ∀ j, j < 11 → j ≠ 4 → NoSlice C (i * 11 + j)

structure ShpsForm (lo hi : Nat) (w : World) (bo : Nat) (ss : List Shp) : Prop where
  low : lo ≤ bo
  high : bo < hi
  rows : ∃ C, w.heap[bo]? = some (.cells C 71) ∧ C.size = ss.length * 2 ∧
    ∀ i (h : i < ss.length), ∃ bf cap, FldsForm lo hi w bf ss[i].fs ∧ C[i * 2 + 1]? = some (.slice (some ⟨bf, 0, none⟩) ss[i].fs.length cap) ∧ NoSlice C (i * 2)

theorem TxtsForm.mono {lo hi : Nat} {w w' : World} {b n : Nat} (h : TxtsForm lo hi w b n) (hM : Marked lo hi w w') : TxtsForm lo hi w' b n := by
  obtain ⟨C, hC, hs, hn⟩ := h.rows
  obtain ⟨C', hC', hs', hk⟩ := hM.inn b C _ h.low h.high hC
  exact ⟨h.low, h.high, C', hC', by omega, fun j hj a m c he => hn j hj a m c ((hk j a m c).1 he)⟩

theorem FldsForm.mono {lo hi : Nat} {w w' : World} {b : Nat} {fs : List Fld} (h : FldsForm lo hi w b fs) (hM : Marked lo hi w w') : FldsForm lo hi w' b fs := by
  obtain ⟨C, hC, hs, hn⟩ := h.rows
  obtain ⟨C', hC', hs', hk⟩ := hM.inn b C _ h.low h.high hC
  refine ⟨h.low, h.high, C', hC', by omega, fun i hi => ?_⟩
  obtain ⟨bk, cap, h1, h2, h3⟩ := hn i hi
  exact ⟨bk, cap, h1.mono hM, (hk _ _ _ _).2 h2, fun j hj hj4 a m c he => h3 j hj hj4 a m c ((hk _ a m c).1 he)⟩

theorem ShpsForm.mono {lo hi : Nat} {w w' : World} {b : Nat} {ss : List Shp} (h : ShpsForm lo hi w b ss) (hM : Marked lo hi w w') : ShpsForm lo hi w' b ss := by
  obtain ⟨C, hC, hs, hn⟩ := h.rows
  obtain ⟨C', hC', hs', hk⟩ := hM.inn b C _ h.low h.high hC
  refine ⟨h.low, h.high, C', hC', by omega, fun i hi => ?_⟩
  obtain ⟨bk, cap, h1, h2, h3⟩ := hn i hi
  exact ⟨bk, cap, h1.mono hM, (hk _ _ _ _).2 h2, fun a m c he => h3 a m c ((hk _ a m c).1 he)⟩

theorem strArr_noSlice (ws : List ByteArray) (j : Nat) : NoSlice (strArr ws) j := by
  intro a n c h
  simp only [strArr, List.getElem?_toArray, List.getElem?_map, Option.map_eq_some_iff] at h
  obtain ⟨_, _, h⟩ := h
  cases h

theorem FldsOwn.form {lo : Nat} {w : World} {bo : Nat} {fs : List Fld} (h : FldsOwn lo w bo fs fs.length) : FldsForm lo w.heap.size w bo fs := by
  obtain ⟨C, hC, hsz, hr⟩ := h.rows
  refine ⟨h.low, (Array.getElem?_eq_some_iff.1 hC).1, C, hC, hsz, fun i hi => ?_⟩
  obtain ⟨bk, h1, _, hk, hc⟩ := hr i hi hi
  refine ⟨bk, fs[i].ws.length, ⟨h1, (Array.getElem?_eq_some_iff.1 hk).1, strArr fs[i].ws, hk, by simp [strArr], fun j _ => strArr_noSlice _ _⟩, by rw [hc 4 (by omega)]; rfl, fun j hj hj4 a n c he => ?_⟩
  rw [hc j hj] at he
  rcases j with _ | _ | _ | _ | _ | _ | _ | _ | _ | _ | _ | j <;> first | omega | (simp [Fld.cells] at he)

theorem ShpsOwn.form {lo : Nat} {w : World} {bo : Nat} {ss : List Shp} (h : ShpsOwn lo w bo ss ss.length) : ShpsForm lo w.heap.size w bo ss := by
  obtain ⟨C, hC, hsz, hr⟩ := h.rows
  refine ⟨h.low, (Array.getElem?_eq_some_iff.1 hC).1, C, hC, hsz, fun i hi => ?_⟩
  obtain ⟨bf, h1, h2, hf, hk, hl⟩ := hr i hi hi
  have hf' := hf.form
  have hlow : lo ≤ bo := h.low
  refine ⟨bf, ss[i].fs.length, ⟨h1, hf'.high, ?_⟩, hl, fun a n c he => by rw [hk] at he; cases he⟩
  obtain ⟨C', hC', hs', hr'⟩ := hf'.rows
  refine ⟨C', hC', hs', fun j hj => ?_⟩
  obtain ⟨bk, cap, g1, g2, g3⟩ := hr' j hj
  exact ⟨bk, cap, ⟨by have := g1.low; omega, g1.high, g1.rows⟩, g2, g3⟩

theorem markText_some (k : Int) (w : World) (hk : 0 < k) (hk2 : k < 9000000000000000000) :
    Calls Try.prog 50 #[.int .i64 k] w fun e w' => ∃ s, e = .returned (.string s) ∧ Below w.heap.size w w' := by
  obtain ⟨n, rfl⟩ : ∃ n : Nat, k = n := ⟨k.toNat, by omega⟩
  exact (markText_any n w (by omega) (by omega)).mono fun e w' ⟨h1, h2⟩ => ⟨_, h1, h2⟩

theorem markStringS_some (lo hi b n cap : Nat) (k : Int) (w : World) (h : TxtsForm lo hi w b n) (hn : n ≤ 1048576) (hk : 0 < k) (hk2 : k < 8000000000000000000) :
    Calls Try.prog 52 #[.slice (some ⟨b, 0, none⟩) n cap, .int .i64 k] w fun e w' => ∃ k', e = .returned (.int .i64 k') ∧ k' = k + n ∧ Marked lo hi w w' := by
  obtain ⟨m, rfl⟩ : ∃ m : Nat, k = m := ⟨k.toNat, by omega⟩
  obtain ⟨C, hC, hs, hns⟩ := h.rows
  refine (markStringS_any b n cap C m w hC hs hns (by omega) (by omega)).mono fun e w' ⟨h1, h2, _⟩ => ⟨_, h1, Int.natCast_add _ _, h2.wide h.low h.high⟩

end Go.Proofs.Ytbefjngbilakjaa

namespace Go.Proofs.Ytbefjngbilakjaa
open Go.RowKit

/-- What a store into a field of a marked list wants to know. -/
theorem FldsForm.ready {lo hi bo : Nat} {w W : World} {fs : List Fld} (h : FldsForm lo hi w bo fs) (hM : Marked lo hi w W) (i : Nat) (hi' : i < fs.length) :
    (∀ j, j < 11 → ∃ v, W.cell? ⟨bo, i * 11 + j, none⟩ = some v) ∧ (∀ o, W.frozen? ⟨bo, o, none⟩ = false) := by
  have h' := h.mono hM
  obtain ⟨C, hC, hs, hn⟩ := h'.rows
  exact ⟨fun j hj => ⟨C[i * 11 + j]'(by omega), by rw [cell_of_block hC]; exact Array.getElem?_eq_getElem (by omega)⟩, fun o => frozen_of_block hC⟩

theorem FldsForm.words {lo hi bo : Nat} {w : World} {fs : List Fld} (h : FldsForm lo hi w bo fs) (i : Nat) (hi' : i < fs.length) :
    ∃ bk cap, TxtsForm lo hi w bk fs[i].ws.length ∧ ∀ W, Marked lo hi w W → W.cell? ⟨bo, i * 11 + 4, none⟩ = some (.slice (some ⟨bk, 0, none⟩) fs[i].ws.length cap) := by
  obtain ⟨C, hC, hs, hn⟩ := h.rows
  obtain ⟨bk, cap, h1, h2, _⟩ := hn i hi'
  refine ⟨bk, cap, h1, fun W hM => ?_⟩
  obtain ⟨C', hC', _, hk⟩ := hM.inn bo C _ h.low h.high hC
  rw [cell_of_block hC']
  exact (hk _ _ _ _).2 h2

/-- A store into a field of a marked list. -/
theorem FldsForm.put {lo hi bo : Nat} {w W : World} {fs : List Fld} (h : FldsForm lo hi w bo fs) (hM : Marked lo hi w W) (i j : Nat) (hi' : i < fs.length) (hj : j < 11) (hj4 : j ≠ 4) (v : Value) (hv : ∀ a n c, v ≠ Value.slice a n c) : Marked lo hi w (W.setCell ⟨bo, i * 11 + j, none⟩ v) := by
  obtain ⟨C, hC, _, hn⟩ := h.rows
  obtain ⟨_, _, _, _, h3⟩ := hn i hi'
  exact hM.put h.low h.high hC (h3 j hj hj4) v hv

set_option maxRecDepth 20000 in
set_option maxHeartbeats 4000000 in
theorem markGateFieldS_any (lo hi bo cap : Nat) (fs : List Fld) (k : Int) (w : World) (h : FldsForm lo hi w bo fs) (hl : fs.length ≤ 1048576) (hls : ∀ i (h : i < fs.length), fs[i].ws.length ≤ 1048576) (hk : 0 < k) (hk2 : k < 4000000000000000000) :
    Calls Try.prog 51 #[.slice (some ⟨bo, 0, none⟩) fs.length cap, .int .i64 k] w fun e w' => ∃ k', e = .returned (.int .i64 k') ∧ k ≤ k' ∧ k' ≤ k + fs.length * 1048586 ∧ Marked lo hi w w' := by
  have HF : Hid (FldsForm lo hi w bo fs) := h
  have HL : Hid (fs.length ≤ 1048576 ∧ ∀ i (h : i < fs.length), fs[i].ws.length ≤ 1048576) := ⟨hl, hls⟩
  have HK : Hid (0 < k ∧ k < 4000000000000000000) := ⟨hk, hk2⟩
  clear h hl hls hk hk2
  go_enter Try.func51, Try.ntmps51
  go_wp2_with fail
  go_loopw [1, 5] (fun kv iv wr => ∃ (i : Nat) (kk : Int), i ≤ fs.length ∧ kv = .int .i64 kk ∧ iv = .int .i64 i ∧ k ≤ kk ∧ kk ≤ k + i * 1048586 ∧ Marked lo hi w wr) (fun _ iv _ => fs.length - (intOf iv).toNat)
  case atStart => exact ⟨0, k, Nat.zero_le _, rfl, rfl, Int.le_refl _, by simp, Marked.refl _ _ _⟩
  case round =>
    obtain ⟨i, kk, hile, rfl, rfl, h1, h2, hM⟩ := hrel
    by_cases hlt : i < fs.length
    · have hltI : (i : Int) < (fs.length : Int) := by omega
      have HB : Hid (0 < kk ∧ kk < 7000000000000000000 ∧ kk ≤ k + i * 1048586 ∧ k ≤ kk) := by have a := HK.out; have b := HL.out.1; exact ⟨by omega, by omega, h2, h1⟩
      have HM : Hid (Marked lo hi w wr) := hM
      clear h1 h2 hM
      obtain ⟨bk, bcap, hT, hsl⟩ := HF.out.words i hlt
      have HT : Hid (TxtsForm lo hi w bk fs[i].ws.length ∧ ∀ W, Marked lo hi w W → W.cell? ⟨bo, i * 11 + 4, none⟩ = some (.slice (some ⟨bk, 0, none⟩) fs[i].ws.length bcap)) := ⟨hT, hsl⟩
      clear hT hsl
      go_wp2_with fail
      refine (markText_some _ _ HB.out.1 (by have := HB.out; omega)).mono ?_
      rintro e w1 ⟨s1, rfl, hb1⟩
      have HM1 : Hid (Marked lo hi w w1) := HM.out.trans (Marked.of_below hb1)
      clear hb1
      have hsl := HT.out.2 _ HM1.out
      obtain ⟨hex, hfz⟩ := HF.out.ready HM1.out i hlt
      obtain ⟨v0, hv0⟩ := hex 0 (by omega)
      obtain ⟨v1, hv1⟩ := hex 1 (by omega)
      obtain ⟨v2, hv2⟩ := hex 2 (by omega)
      obtain ⟨v3, hv3⟩ := hex 3 (by omega)
      rw [Nat.add_zero] at hv0
      have hwkk1 : wrap64 (kk + 1) = kk + 1 := by have := HB.out; exact wrap_in _ ⟨by omega, by omega⟩
      have hwkk2 : wrap64 (kk + 1 + 1) = kk + 1 + 1 := by have := HB.out; exact wrap_in _ ⟨by omega, by omega⟩
      have hwkk3 : wrap64 (kk + 1 + 1 + 1) = kk + 1 + 1 + 1 := by have := HB.out; exact wrap_in _ ⟨by omega, by omega⟩
      have hwkk4 : wrap64 (kk + 1 + 1 + 1 + 1) = kk + 1 + 1 + 1 + 1 := by have := HB.out; exact wrap_in _ ⟨by omega, by omega⟩
      clear hex
      go_wp2_with fail
      have HMW := HF.out.put (HF.out.put (HF.out.put (HF.out.put HM1.out i 0 hlt (by omega) (by omega) (.string s1) (fun _ _ _ h => by cases h)) i 1 hlt (by omega) (by omega) (.int .i64 (kk + 1)) (fun _ _ _ h => by cases h)) i 2 hlt (by omega) (by omega) (.int .i64 (kk + 1 + 1)) (fun _ _ _ h => by cases h)) i 3 hlt (by omega) (by omega) (.int .i64 (kk + 1 + 1 + 1)) (fun _ _ _ h => by cases h)
      refine (markStringS_some lo hi bk _ bcap _ _ (HT.out.1.mono HMW) (HL.out.2 i hlt) (by have := HB.out; omega) (by have := HB.out; omega)).mono ?_
      rintro e w2 ⟨k2, rfl, hk2, hM2⟩
      have HM2 : Hid (Marked lo hi w w2) := HMW.trans hM2
      have HB2 : Hid (kk < k2 ∧ k2 ≤ kk + 4 + 1048576 ∧ 0 < k2) := by have a := HL.out.2 i hlt; have b := HB.out; exact ⟨by omega, by omega, by omega⟩
      clear HMW hM2 hk2 hv0 hv1 hv2 hv3 hfz hsl
      go_wp2_with fail
      refine (markText_some _ _ HB2.out.2.2 (by have := HB.out; have := HB2.out; omega)).mono ?_
      rintro e w3 ⟨s3, rfl, hb3⟩
      have HM3 : Hid (Marked lo hi w w3) := HM2.out.trans (Marked.of_below hb3)
      clear hb3
      obtain ⟨hex, hfz⟩ := HF.out.ready HM3.out i hlt
      obtain ⟨v5, hv5⟩ := hex 5 (by omega)
      obtain ⟨v6, hv6⟩ := hex 6 (by omega)
      obtain ⟨v7, hv7⟩ := hex 7 (by omega)
      obtain ⟨v8, hv8⟩ := hex 8 (by omega)
      have hwk21 : wrap64 (k2 + 1) = k2 + 1 := by have := HB.out; have := HB2.out; exact wrap_in _ ⟨by omega, by omega⟩
      have hwk22 : wrap64 (k2 + 1 + 1) = k2 + 1 + 1 := by have := HB.out; have := HB2.out; exact wrap_in _ ⟨by omega, by omega⟩
      have hwk23 : wrap64 (k2 + 1 + 1 + 1) = k2 + 1 + 1 + 1 := by have := HB.out; have := HB2.out; exact wrap_in _ ⟨by omega, by omega⟩
      have hwk24 : wrap64 (k2 + 1 + 1 + 1 + 1) = k2 + 1 + 1 + 1 + 1 := by have := HB.out; have := HB2.out; exact wrap_in _ ⟨by omega, by omega⟩
      have hwk25 : wrap64 (k2 + 1 + 1 + 1 + 1 + 1) = k2 + 1 + 1 + 1 + 1 + 1 := by have := HB.out; have := HB2.out; exact wrap_in _ ⟨by omega, by omega⟩
      have hwk26 : wrap64 (k2 + 1 + 1 + 1 + 1 + 1 + 1) = k2 + 1 + 1 + 1 + 1 + 1 + 1 := by have := HB.out; have := HB2.out; exact wrap_in _ ⟨by omega, by omega⟩
      clear hex
      go_wp2_with fail
      have HMW := HF.out.put (HF.out.put (HF.out.put (HF.out.put HM3.out i 5 hlt (by omega) (by omega) (.string s3) (fun _ _ _ h => by cases h)) i 6 hlt (by omega) (by omega) (.int .i64 (k2 + 1)) (fun _ _ _ h => by cases h)) i 7 hlt (by omega) (by omega) (.bool ((k2 + 1 + 1).tmod 3 == 0)) (fun _ _ _ h => by cases h)) i 8 hlt (by omega) (by omega) (.bool ((k2 + 1 + 1 + 1).tmod 3 == 0)) (fun _ _ _ h => by cases h)
      refine (markText_some _ _ (by have := HB2.out; omega) (by have := HB.out; have := HB2.out; omega)).mono ?_
      rintro e w4 ⟨s4, rfl, hb4⟩
      have HM4 : Hid (Marked lo hi w w4) := HMW.trans (Marked.of_below hb4)
      clear HMW hb4 hv5 hv6 hv7 hv8 hfz
      obtain ⟨hex, hfz⟩ := HF.out.ready HM4.out i hlt
      obtain ⟨v9, hv9⟩ := hex 9 (by omega)
      clear hex
      go_wp2_with fail
      have HMW := HF.out.put HM4.out i 9 hlt (by omega) (by omega) (.string s4) (fun _ _ _ h => by cases h)
      refine (markText_some _ _ (by have := HB2.out; omega) (by have := HB.out; have := HB2.out; omega)).mono ?_
      rintro e w5 ⟨s5, rfl, hb5⟩
      have HM5 : Hid (Marked lo hi w w5) := HMW.trans (Marked.of_below hb5)
      clear HMW hb5 hv9 hfz
      obtain ⟨hex, hfz⟩ := HF.out.ready HM5.out i hlt
      obtain ⟨v10, hv10⟩ := hex 10 (by omega)
      clear hex
      go_wp2_with fail
      go_roundw
      case rel => exact ⟨i + 1, k2 + 1 + 1 + 1 + 1 + 1 + 1, by omega, by rw [hwk26], by rw [wrap_one (by have := HL.out.1; omega)], by have a := HB.out; have b := HB2.out; omega, by have a := HB.out; have b := HB2.out; omega, HF.out.put HM5.out i 10 hlt (by omega) (by omega) (.string s5) (fun _ _ _ h => by cases h)⟩
      case measure => exact step_less hlt (by have := HL.out.1; omega)
    · have e : i = fs.length := by omega
      subst e
      go_wp2_with fail
      go_ret
      exact ⟨kk, rfl, h1, h2, hM⟩

theorem ShpsForm.ready {lo hi bo : Nat} {w W : World} {ss : List Shp} (h : ShpsForm lo hi w bo ss) (hM : Marked lo hi w W) (i : Nat) (hi' : i < ss.length) :
    (∀ j, j < 2 → ∃ v, W.cell? ⟨bo, i * 2 + j, none⟩ = some v) ∧ (∀ o, W.frozen? ⟨bo, o, none⟩ = false) := by
  have h' := h.mono hM
  obtain ⟨C, hC, hs, hn⟩ := h'.rows
  exact ⟨fun j hj => ⟨C[i * 2 + j]'(by omega), by rw [cell_of_block hC]; exact Array.getElem?_eq_getElem (by omega)⟩, fun o => frozen_of_block hC⟩

theorem ShpsForm.flds {lo hi bo : Nat} {w : World} {ss : List Shp} (h : ShpsForm lo hi w bo ss) (i : Nat) (hi' : i < ss.length) :
    ∃ bf cap, FldsForm lo hi w bf ss[i].fs ∧ ∀ W, Marked lo hi w W → W.cell? ⟨bo, i * 2 + 1, none⟩ = some (.slice (some ⟨bf, 0, none⟩) ss[i].fs.length cap) := by
  obtain ⟨C, hC, hs, hn⟩ := h.rows
  obtain ⟨bk, cap, h1, h2, _⟩ := hn i hi'
  refine ⟨bk, cap, h1, fun W hM => ?_⟩
  obtain ⟨C', hC', _, hk⟩ := hM.inn bo C _ h.low h.high hC
  rw [cell_of_block hC']
  exact (hk _ _ _ _).2 h2

theorem ShpsForm.put {lo hi bo : Nat} {w W : World} {ss : List Shp} (h : ShpsForm lo hi w bo ss) (hM : Marked lo hi w W) (i : Nat) (hi' : i < ss.length) (v : Value) (hv : ∀ a n c, v ≠ Value.slice a n c) : Marked lo hi w (W.setCell ⟨bo, i * 2, none⟩ v) := by
  obtain ⟨C, hC, _, hn⟩ := h.rows
  obtain ⟨_, _, _, _, h3⟩ := hn i hi'
  exact hM.put h.low h.high hC h3 v hv

set_option maxHeartbeats 4000000 in
theorem markGateShapeS_any (lo hi bo cap : Nat) (ss : List Shp) (k : Int) (w : World) (h : ShpsForm lo hi w bo ss) (hl : ss.length ≤ 1048576) (hls : ∀ i (h : i < ss.length), ss[i].fs.length ≤ 1048576 ∧ ∀ j (h' : j < ss[i].fs.length), ss[i].fs[j].ws.length ≤ 1048576) (hk : 0 < k) (hk2 : k < 1000000000000000000) :
    Calls Try.prog 22 #[.slice (some ⟨bo, 0, none⟩) ss.length cap, .int .i64 k] w fun e w' => ∃ k', e = .returned (.int .i64 k') ∧ k ≤ k' ∧ k' ≤ k + ss.length * 1099522113537 ∧ Marked lo hi w w' := by
  have HF : Hid (ShpsForm lo hi w bo ss) := h
  have HL : Hid (ss.length ≤ 1048576 ∧ ∀ i (h : i < ss.length), ss[i].fs.length ≤ 1048576 ∧ ∀ j (h' : j < ss[i].fs.length), ss[i].fs[j].ws.length ≤ 1048576) := ⟨hl, hls⟩
  have HK : Hid (0 < k ∧ k < 1000000000000000000) := ⟨hk, hk2⟩
  clear h hl hls hk hk2
  go_enter Try.func22, Try.ntmps22
  go_wp2_with fail
  go_loopw [1, 5] (fun kv iv wr => ∃ (i : Nat) (kk : Int), i ≤ ss.length ∧ kv = .int .i64 kk ∧ iv = .int .i64 i ∧ k ≤ kk ∧ kk ≤ k + i * 1099522113537 ∧ Marked lo hi w wr) (fun _ iv _ => ss.length - (intOf iv).toNat)
  case atStart => exact ⟨0, k, Nat.zero_le _, rfl, rfl, Int.le_refl _, by simp, Marked.refl _ _ _⟩
  case round =>
    obtain ⟨i, kk, hile, rfl, rfl, h1, h2, hM⟩ := hrel
    by_cases hlt : i < ss.length
    · have hltI : (i : Int) < (ss.length : Int) := by omega
      have HB : Hid (0 < kk ∧ kk < 3000000000000000000 ∧ kk ≤ k + i * 1099522113537 ∧ k ≤ kk) := by have a := HK.out; have b := HL.out.1; exact ⟨by omega, by omega, h2, h1⟩
      have HM : Hid (Marked lo hi w wr) := hM
      clear h1 h2 hM
      obtain ⟨bf, bcap, hT, hsl⟩ := HF.out.flds i hlt
      have HT : Hid (FldsForm lo hi w bf ss[i].fs ∧ ∀ W, Marked lo hi w W → W.cell? ⟨bo, i * 2 + 1, none⟩ = some (.slice (some ⟨bf, 0, none⟩) ss[i].fs.length bcap)) := ⟨hT, hsl⟩
      clear hT hsl
      go_wp2_with fail
      refine (markText_some _ _ HB.out.1 (by have := HB.out; omega)).mono ?_
      rintro e w1 ⟨s1, rfl, hb1⟩
      have HM1 : Hid (Marked lo hi w w1) := HM.out.trans (Marked.of_below hb1)
      clear hb1
      have hsl := HT.out.2 _ HM1.out
      obtain ⟨hex, hfz⟩ := HF.out.ready HM1.out i hlt
      obtain ⟨v0, hv0⟩ := hex 0 (by omega)
      rw [Nat.add_zero] at hv0
      have hw1 : wrap64 (kk + 1) = kk + 1 := by have := HB.out; exact wrap_in _ ⟨by omega, by omega⟩
      clear hex
      go_wp2_with fail
      have HMW := HF.out.put HM1.out i hlt (.string s1) (fun _ _ _ h => by cases h)
      refine (markGateFieldS_any lo hi bf bcap _ _ _ (HT.out.1.mono HMW) (HL.out.2 i hlt).1 (HL.out.2 i hlt).2 (by have := HB.out; omega) (by have := HB.out; omega)).mono ?_
      rintro e w2 ⟨k2, rfl, h3, h4, hM2⟩
      have HM2 : Hid (Marked lo hi w w2) := HMW.trans hM2
      have HB2 : Hid (kk < k2 ∧ k2 ≤ kk + 1099522113537) := by have a := (HL.out.2 i hlt).1; exact ⟨by omega, by omega⟩
      clear HMW hM2 h3 h4 hv0 hfz hsl
      go_wp2_with fail
      go_roundw
      case rel => exact ⟨i + 1, k2, by omega, rfl, by rw [wrap_one (by have := HL.out.1; omega)], by have a := HB.out; have b := HB2.out; omega, by have a := HB.out; have b := HB2.out; omega, HM2.out⟩
      case measure => exact step_less hlt (by have := HL.out.1; omega)
    · have e : i = ss.length := by omega
      subst e
      go_wp2_with fail
      go_ret
      exact ⟨kk, rfl, h1, h2, hM⟩

end Go.Proofs.Ytbefjngbilakjaa

namespace Go.Proofs.Ytbefjngbilakjaa
open Go.RowKit

/-- The marks from k on, n of them. -/
def markTxts (k n : Nat) : List ByteArray := (List.range n).map fun i => Gate.markTxt (k + i)
theorem markTxts_length (k n : Nat) : (markTxts k n).length = n := by simp [markTxts]
theorem markTxts_at (k n i : Nat) (h : i < (markTxts k n).length) : (markTxts k n)[i] = Gate.markTxt (k + i) := by simp [markTxts]

theorem TxtsOwn.form {lo : Nat} {w : World} {g : Addr} {ws : List ByteArray} (h : TxtsOwn lo w (some g) ws) : ∃ b C, g = ⟨b, 0, none⟩ ∧ lo ≤ b ∧ w.heap[b]? = some (.cells C 9) ∧ ws.length ≤ C.size ∧ ∀ j, j < ws.length → NoSlice C j := by
  rcases h with ⟨h0, _⟩ | ⟨b, C, h0, hg, hh, hc⟩
  · cases h0
  · cases h0
    refine ⟨b, C, rfl, hg, hh, ?_, fun j hj a n c he => by rw [hc j hj] at he; cases he⟩
    rcases Nat.lt_or_ge C.size ws.length with hlt | hge
    · have := hc C.size hlt
      rw [Array.getElem?_eq_none (Nat.le_refl _)] at this; cases this
    · exact hge

theorem markStringS_own (lo cap : Nat) (a : Option Addr) (vs : List ByteArray) (k : Nat) (w : World) (h : TxtsOwn lo w a vs) (hk : 0 < k) (hkn : k + vs.length < 9000000000000000000) :
    Calls Try.prog 52 #[.slice a vs.length cap, .int .i64 k] w fun e w' => e = .returned (.int .i64 ((k + vs.length : Nat) : Int)) ∧ TxtsOwn lo w' a (markTxts k vs.length) ∧ Marked lo w.heap.size w w' ∧ (a = none → w' = w) ∧ ∀ g, a = some g → Marked g.block (g.block + 1) w w' := by
  rcases a with _ | g
  · rcases h with ⟨_, rfl⟩ | ⟨_, _, h0, _⟩
    · exact (markStringS_none (k : Int) none cap w).mono fun e w' ⟨h1, h2⟩ => ⟨by simpa using h1, by subst h2; exact Or.inl ⟨rfl, rfl⟩, by subst h2; exact Marked.refl _ _ _, fun _ => h2, fun g hg => by cases hg⟩
    · cases h0
  · obtain ⟨b, C, rfl, hlo, hC, hs, hns⟩ := h.form
    refine (markStringS_any b vs.length cap C k w hC hs hns hk hkn).mono fun e w' ⟨h1, h2, C', hC', hs', hc'⟩ => ⟨h1, Or.inr ⟨b, C', rfl, hlo, hC', fun i hi => ?_⟩, h2.wide hlo (Array.getElem?_eq_some_iff.1 hC).1, fun h0 => (by cases h0), fun g hg => by cases hg; exact h2⟩
    rw [markTxts_length] at hi
    rw [hc' i hi, markTxts_at]

theorem int_nat {k : Int} {n : Nat} (h : k = (n : Int)) : Value.int .i64 k = Value.int .i64 (n : Int) := by rw [h]

set_option maxHeartbeats 1000000 in
theorem markGateObject_form (lo hi : Nat) (o : Ob) (b b' cap cap' : Nat) (k : Int) (w : World) (h : TxtsForm lo hi w b o.vs.length) (h' : TxtsForm lo hi w b' o.hs.length) (hl : o.vs.length ≤ 1048576) (hl' : o.hs.length ≤ 1048576) (hhi : hi ≤ w.heap.size) (hk : 0 < k) (hk2 : k < 7000000000000000000) :
    Calls Try.prog 23 #[.agg #[.string o.kd, .string o.nm, .string o.tm, .slice (some ⟨b, 0, none⟩) o.vs.length cap, .bool o.en, .slice (some ⟨b', 0, none⟩) o.hs.length cap', .int .i64 o.vr], .int .i64 k] w
      fun e w' => ∃ k', e = .returned (.int .i64 k') ∧ 0 < k' ∧ Marked lo hi w w' := by
  go_enter Try.func23, Try.ntmps23
  have HK : Hid (0 < k ∧ k < 7000000000000000000) := ⟨hk, hk2⟩
  clear hk hk2
  have hM0 : Marked lo hi w (w.alloc (.cells #[.string o.kd, .string o.nm, .string o.tm, .slice (some ⟨b, 0, none⟩) o.vs.length cap, .bool o.en, .slice (some ⟨b', 0, none⟩) o.hs.length cap', .int .i64 o.vr] 41)) := Marked.of_below ((Below.refl _ _).alloc (Nat.le_refl _) _)
  go_wp2_with fail
  refine (markStringS_some lo hi b _ cap _ _ (h.mono hM0) hl HK.out.1 (by have := HK.out; omega)).mono ?_
  rintro e w1 ⟨k1, rfl, hk1, hM1⟩
  have hX1 := hM1.box (box_new w _ _) (by simp) (Or.inr hhi)
  have HM1 : Hid (Marked lo hi w w1) := hM0.trans hM1
  have HB1 : Hid (0 < k1 ∧ k1 < 8000000000000000000) := by have := HK.out; exact ⟨by omega, by omega⟩
  clear hM0 hM1 hk1 h
  go_wp2_with fail
  refine (markStringS_some lo hi b' _ cap' _ _ (h'.mono HM1.out) hl' HB1.out.1 HB1.out.2).mono ?_
  rintro e w2 ⟨k2, rfl, hk2, hM2⟩
  have HM2 : Hid (Marked lo hi w w2) := HM1.out.trans hM2
  have HB2 : Hid (0 < k2) := by have := HB1.out; show 0 < k2; omega
  clear hM2 hk2 h' hX1
  go_wp2_with fail
  go_ret
  exact ⟨k2, rfl, HB2.out, HM2.out⟩

set_option maxHeartbeats 1000000 in
theorem markGateObject_own (lo m hi : Nat) (o : Ob) (a a' : Option Addr) (cap cap' : Nat) (w : World) (h : TxtsOwn lo w a o.vs) (hm : ∀ g, a = some g → g.block < m) (hlm : lo ≤ m) (h' : TxtsOwn m w a' o.hs) (hl : o.vs.length ≤ 1048576) (hl' : o.hs.length ≤ 1048576) (hu : ∀ g, a = some g → g.block < hi) (hu' : ∀ g, a' = some g → g.block < hi) (hhi : hi ≤ w.heap.size) :
    Calls Try.prog 23 #[.agg #[.string o.kd, .string o.nm, .string o.tm, .slice a o.vs.length cap, .bool o.en, .slice a' o.hs.length cap', .int .i64 o.vr], .int .i64 1] w
      fun e w' => e = .returned (.int .i64 ((1 + o.vs.length + o.hs.length : Nat) : Int)) ∧ TxtsOwn lo w' a (markTxts 1 o.vs.length) ∧ TxtsOwn m w' a' (markTxts (1 + o.vs.length) o.hs.length) ∧ Marked lo hi w w' := by
  go_enter Try.func23, Try.ntmps23
  have hB0 : Below w.heap.size w (w.alloc (.cells #[.string o.kd, .string o.nm, .string o.tm, .slice a o.vs.length cap, .bool o.en, .slice a' o.hs.length cap', .int .i64 o.vr] 41)) := (Below.refl _ _).alloc (Nat.le_refl _) _
  have HALT : Hid (∀ g, a = some g → g.block < hi) := hu
  have HALT' : Hid (∀ g, a' = some g → g.block < hi) := hu'
  have HMM : Hid (∀ g, a = some g → g.block < m) := hm
  go_wp2_with fail
  refine (markStringS_own lo cap a o.vs 1 _ (h.mono hB0) (by omega) (by omega)).mono ?_
  rintro e w1 ⟨rfl, ht1, _, hn1, hg1⟩
  have hM1 : Marked lo hi (w.alloc (.cells #[.string o.kd, .string o.nm, .string o.tm, .slice a o.vs.length cap, .bool o.en, .slice a' o.hs.length cap', .int .i64 o.vr] 41)) w1 := by
    rcases a with _ | g
    · rw [hn1 rfl]; exact Marked.refl _ _ _
    · obtain ⟨b, C, rfl, hlo', hC, _⟩ := h.form
      exact (hg1 _ rfl).wide hlo' (HALT.out _ rfl)
  have hX1 := hM1.box (box_new w _ _) (by simp) (Or.inr hhi)
  have h1' : TxtsOwn m w1 a' o.hs := by
    rcases a with _ | g
    · rw [hn1 rfl]; exact h'.mono hB0
    · refine (hg1 _ rfl).txts (h'.mono hB0) (fun g' hg' => ?_)
      right
      subst hg'
      obtain ⟨b, C, rfl, hlo', _⟩ := h'.form
      have := HMM.out _ rfl
      show g.block + 1 ≤ b
      omega
  have HM1 : Hid (Marked lo hi w w1) := (Marked.of_below hB0).trans hM1
  have HT1 : Hid (TxtsOwn lo w1 a (markTxts 1 o.vs.length)) := ht1
  clear hM1 hB0 hn1 hg1 h h' ht1 hm hu hu'
  go_wp2_with fail
  rw [show ((1 : Int) + (o.vs.length : Int)) = ((1 + o.vs.length : Nat) : Int) by omega]
  refine (markStringS_own m cap' a' o.hs (1 + o.vs.length) _ h1' (by omega) (by omega)).mono ?_
  rintro e w2 ⟨rfl, ht2, _, hn2, hg2⟩
  have hM2 : Marked lo hi w1 w2 := by
    rcases a' with _ | g
    · rw [hn2 rfl]; exact Marked.refl _ _ _
    · obtain ⟨b, C, rfl, hlo', hC, _⟩ := h1'.form
      exact (hg2 _ rfl).wide (Nat.le_trans hlm hlo') (HALT'.out _ rfl)
  have HT2 : Hid (TxtsOwn lo w2 a (markTxts 1 o.vs.length)) := by
    rcases a' with _ | g
    · rw [hn2 rfl]; exact HT1.out
    · refine (hg2 _ rfl).txts HT1.out (fun g' hg' => ?_)
      left
      obtain ⟨b, C, rfl, hlo', _⟩ := h1'.form
      have := HMM.out _ hg'
      show g'.block < b
      omega
  have HU2 : Hid (TxtsOwn m w2 a' (markTxts (1 + o.vs.length) o.hs.length)) := ht2
  have HM2 : Hid (Marked lo hi w w2) := HM1.out.trans hM2
  clear hM2 hn2 hg2 ht2 h1' hX1
  go_wp2_with fail
  go_ret
  exact ⟨rfl, HT2.out, HU2.out, HM2.out⟩

set_option maxHeartbeats 1000000 in
theorem heldGateObject_any (o : Ob) (n n' : Nat) (a a' : Option Addr) (cap cap' : Nat) (w : World) (h : StrsAt w a (markTxts 1 n)) (h' : StrsAt w a' (markTxts (1 + n) n')) (hl : n ≤ 1048576) (hl' : n' ≤ 1048576) :
    Calls Try.prog 24 #[.agg #[.string o.kd, .string o.nm, .string o.tm, .slice a n cap, .bool o.en, .slice a' n' cap', .int .i64 o.vr], .int .i64 1] w
      fun e w' => e = .returned (.int .i64 ((1 + n + n' : Nat) : Int)) ∧ Below w.heap.size w w' := by
  go_enter Try.func24, Try.ntmps24
  have hB0 : Below w.heap.size w (w.alloc (.cells #[.string o.kd, .string o.nm, .string o.tm, .slice a n cap, .bool o.en, .slice a' n' cap', .int .i64 o.vr] 41)) := (Below.refl _ _).alloc (Nat.le_refl _) _
  go_wp2_with fail
  have h1 := heldStringS_any a cap (markTxts 1 n) 1 _ (h.mono hB0) (by omega) (by rw [markTxts_length]; omega) (fun i hi => markTxts_at _ _ _ hi)
  rw [markTxts_length] at h1
  refine h1.mono ?_
  rintro e w1 ⟨rfl, hb1⟩
  clear h1
  have hX1 := box_later (box_new w _ _) (by simp) hb1
  have hB1 := hB0.trans (hb1.mono hB0.size)
  have hneg : decide (((1 + n : Nat) : Int) < 0) = false := by simp; omega
  clear hB0 hb1 h
  go_wp2_with fail
  have h2 := heldStringS_any a' cap' (markTxts (1 + n) n') (1 + n) _ (h'.mono hB1) (by omega) (by rw [markTxts_length]; omega) (fun i hi => markTxts_at _ _ _ hi)
  rw [markTxts_length] at h2
  rw [show ((1 : Int) + (n : Int)) = ((1 + n : Nat) : Int) by omega]
  refine h2.mono ?_
  rintro e w2 ⟨rfl, hb2⟩
  have hB2 := hB1.trans (hb2.mono hB1.size)
  have hneg2 : decide (((1 + n + n' : Nat) : Int) < 0) = false := by simp; omega
  clear h2 hB1 hb2 h' hX1
  go_wp2_with fail
  go_ret
  exact ⟨rfl, hB2⟩

end Go.Proofs.Ytbefjngbilakjaa
