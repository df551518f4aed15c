import Derived.Test.YtkfigdbbncjojaaGreatM13
import Derived.Test.YtkfigdbbncjojaaGreatM09
import Derived.Test.YtkfigdbbncjojaaGreatM14
namespace Go.Proofs.YtkfigdbbncjojaaGreat
open Go.RowKit
set_option maxHeartbeats 400000 in
theorem zat (ls ms lo hi : Int) (w : World) :
    Calls Tryz.prog 124 #[.int .i64 ls, .int .i64 ms, .int .i64 lo, .int .i64 hi] w fun e w' => e = .returned (.bool (Gate.qV ls ms lo hi)) /\ w' = w := by
  go_enter Tryz.func124, Tryz.ntmps124
  go_wp2
  all_goals
    go_ret
    refine ⟨ze ?_, rfl⟩
    rw [Bool.eq_iff_iff]; simp [Gate.qV]; try omega
set_option maxHeartbeats 400000 in
theorem zhr (nm : ByteArray) (kd ls ms : Int) (a : Option Addr) (n cap : Nat) (to : ByteArray) (rl : Int) (mu fx : Bool) (df wg : ByteArray) (w : World) :
    Calls Tryz.prog 219 #[.agg #[.string nm, .int .i64 kd, .int .i64 ls, .int .i64 ms, .slice a n cap, .string to, .int .i64 rl, .bool mu, .bool fx, .string df, .string wg]] w fun e w' => e = .returned (.bool (Gate.qE 1 ls ms n to rl wg)) /\ Below w.heap.size w w' := by
  go_enter Tryz.func219, Tryz.ntmps219
  go_wp2
  all_goals
    go_ret
    refine ⟨ze ?_, (Below.refl _ _).alloc (Nat.le_refl _) _⟩
    simp_all [Gate.qE]
    try (rw [Bool.eq_iff_iff]; simp)
set_option maxHeartbeats 400000 in
theorem zjQ (nm : ByteArray) (kd ls ms : Int) (a : Option Addr) (n cap : Nat) (to : ByteArray) (rl : Int) (mu fx : Bool) (df wg : ByteArray) (w : World) :
    Calls Tryz.prog 222 #[.agg #[.string nm, .int .i64 kd, .int .i64 ls, .int .i64 ms, .slice a n cap, .string to, .int .i64 rl, .bool mu, .bool fx, .string df, .string wg]] w fun e w' => e = .returned (.bool (Gate.qE 2 ls ms n to rl wg)) /\ Below w.heap.size w w' := by
  go_enter Tryz.func222, Tryz.ntmps222
  go_wp2
  all_goals
    go_ret
    refine ⟨ze ?_, (Below.refl _ _).alloc (Nat.le_refl _) _⟩
    simp_all [Gate.qE]
    try (rw [Bool.eq_iff_iff]; simp)
set_option maxHeartbeats 400000 in
theorem zjI (nm : ByteArray) (kd ls ms : Int) (a : Option Addr) (n cap : Nat) (to : ByteArray) (rl : Int) (mu fx : Bool) (df wg : ByteArray) (w : World) :
    Calls Tryz.prog 227 #[.agg #[.string nm, .int .i64 kd, .int .i64 ls, .int .i64 ms, .slice a n cap, .string to, .int .i64 rl, .bool mu, .bool fx, .string df, .string wg]] w fun e w' => e = .returned (.bool (Gate.qE 3 ls ms n to rl wg)) /\ Below w.heap.size w w' := by
  go_enter Tryz.func227, Tryz.ntmps227
  go_wp2
  all_goals
    go_ret
    refine ⟨ze ?_, (Below.refl _ _).alloc (Nat.le_refl _) _⟩
    simp_all [Gate.qE]
    try (rw [Bool.eq_iff_iff]; simp)
set_option maxHeartbeats 400000 in
theorem zjJ (nm : ByteArray) (kd ls ms : Int) (a : Option Addr) (n cap : Nat) (to : ByteArray) (rl : Int) (mu fx : Bool) (df wg : ByteArray) (w : World) :
    Calls Tryz.prog 230 #[.agg #[.string nm, .int .i64 kd, .int .i64 ls, .int .i64 ms, .slice a n cap, .string to, .int .i64 rl, .bool mu, .bool fx, .string df, .string wg]] w fun e w' => e = .returned (.bool (Gate.qE 4 ls ms n to rl wg)) /\ Below w.heap.size w w' := by
  go_enter Tryz.func230, Tryz.ntmps230
  go_wp2
  all_goals
    go_ret
    refine ⟨ze ?_, (Below.refl _ _).alloc (Nat.le_refl _) _⟩
    simp_all [Gate.qE]
    try (rw [Bool.eq_iff_iff]; simp)
set_option maxHeartbeats 400000 in
theorem zgi (nm : ByteArray) (ls ms : Int) (a : Option Addr) (cap : Nat) (ws : List ByteArray) (to : ByteArray) (rl : Int) (mu fx : Bool) (df wg : ByteArray) (a0 : Option Addr) (cap0 : Nat) (ss : List Shp) (w : World) (hwg : wg.size <= maxLen) :
    Calls Tryz.prog 221 #[.agg #[.string nm, .int .i64 1, .int .i64 ls, .int .i64 ms, .slice a ws.length cap, .string to, .int .i64 rl, .bool mu, .bool fx, .string df, .string wg], .slice a0 ss.length cap0] w fun e w' => e = .returned (.bool (Gate.yP ss ⟨nm, 1, ls, ms, ws, to, rl, mu, fx, df, wg⟩)) /\ Below w.heap.size w w' := by
  have HF : Hid (Gate.yP ss ⟨nm, 1, ls, ms, ws, to, rl, mu, fx, df, wg⟩ = (Gate.qV ls ms 0 1000000 && (wg.toList.isEmpty || Gate.zy wg))) := by simp [Gate.yP, Hid]
  by_cases hr : Gate.qV ls ms 0 1000000 = true
  · by_cases he : wg.toList.isEmpty = true
    · go_enter Tryz.func221, Tryz.ntmps221
      go_wp2_with (go_at_call 124; refine (zat _ _ _ _ _).mono ?_; rintro e w' ⟨rfl, rfl⟩)
      go_ret
      exact ⟨ze (by rw [HF.out, hr, he]; rfl), (Below.refl _ _).alloc (Nat.le_refl _) _⟩
    · have he' : wg.toList.isEmpty = false := by simpa using he
      clear he
      go_enter Tryz.func221, Tryz.ntmps221
      go_wp2_with (first | (go_at_call 124; refine (zat _ _ _ _ _).mono ?_; rintro e w' ⟨rfl, rfl⟩) | (go_at_call 108; refine (zL _ _ hwg).mono ?_; rintro e w' ⟨rfl, rfl⟩))
      go_ret
      exact ⟨ze (by rw [HF.out, hr, he']; rfl), (Below.refl _ _).alloc (Nat.le_refl _) _⟩
  · have hr' : Gate.qV ls ms 0 1000000 = false := by simpa using hr
    clear hr
    go_enter Tryz.func221, Tryz.ntmps221
    go_wp2_with (go_at_call 124; refine (zat _ _ _ _ _).mono ?_; rintro e w' ⟨rfl, rfl⟩)
    go_ret
    exact ⟨ze (by rw [HF.out, hr']; rfl), (Below.refl _ _).alloc (Nat.le_refl _) _⟩
set_option maxHeartbeats 400000 in
theorem zid (nm : ByteArray) (ls ms : Int) (a : Option Addr) (cap : Nat) (ws : List ByteArray) (to : ByteArray) (rl : Int) (mu fx : Bool) (df wg : ByteArray) (a0 : Option Addr) (cap0 : Nat) (ss : List Shp) (w : World) :
    Calls Tryz.prog 229 #[.agg #[.string nm, .int .i64 3, .int .i64 ls, .int .i64 ms, .slice a ws.length cap, .string to, .int .i64 rl, .bool mu, .bool fx, .string df, .string wg], .slice a0 ss.length cap0] w fun e w' => e = .returned (.bool (Gate.yP ss ⟨nm, 3, ls, ms, ws, to, rl, mu, fx, df, wg⟩)) /\ Below w.heap.size w w' := by
  have HF : Hid (Gate.yP ss ⟨nm, 3, ls, ms, ws, to, rl, mu, fx, df, wg⟩ = Gate.qV ls ms 1 40) := by simp [Gate.yP, Hid]
  go_enter Tryz.func229, Tryz.ntmps229
  go_wp2_with (go_at_call 124; refine (zat _ _ _ _ _).mono ?_; rintro e w' ⟨rfl, rfl⟩)
  go_ret
  exact ⟨ze HF.out.symm, (Below.refl _ _).alloc (Nat.le_refl _) _⟩
set_option maxHeartbeats 400000 in
theorem ziu (nm : ByteArray) (ls ms : Int) (a : Option Addr) (cap : Nat) (ws : List ByteArray) (to : ByteArray) (rl : Int) (mu fx : Bool) (df wg : ByteArray) (a0 : Option Addr) (cap0 : Nat) (ss : List Shp) (w : World) (hw : zB w a ws) :
    Calls Tryz.prog 224 #[.agg #[.string nm, .int .i64 2, .int .i64 ls, .int .i64 ms, .slice a ws.length cap, .string to, .int .i64 rl, .bool mu, .bool fx, .string df, .string wg], .slice a0 ss.length cap0] w fun e w' => e = .returned (.bool (Gate.yP ss ⟨nm, 2, ls, ms, ws, to, rl, mu, fx, df, wg⟩)) /\ Below w.heap.size w w' := by
  have HF : Hid (Gate.yP ss ⟨nm, 2, ls, ms, ws, to, rl, mu, fx, df, wg⟩ = (decide (1 <= ws.length) && decide (ws.length <= 6) && Gate.asc ws)) := by simp [Gate.yP, Hid]
  have hl := hw.len
  unfold maxLen at hl
  by_cases h1 : 0 < ws.length
  · by_cases h6 : ws.length <= 6
    · go_enter Tryz.func224, Tryz.ntmps224
      go_wp2_with (go_at_call 196; refine (zhv _ _ _ _ (by exact hw.mono ((Below.refl _ _).alloc (Nat.le_refl _) _))).mono ?_; rintro e w' ⟨rfl, rfl⟩)
      go_ret
      exact ⟨ze (by rw [HF.out, decide_eq_true (show 1 <= ws.length by omega), decide_eq_true h6]; rfl), (Below.refl _ _).alloc (Nat.le_refl _) _⟩
    · go_enter Tryz.func224, Tryz.ntmps224
      go_wp2_with fail
      go_ret
      exact ⟨ze (by rw [HF.out, decide_eq_true (show 1 <= ws.length by omega), decide_eq_false (show ¬ ws.length <= 6 by omega)]; rfl), (Below.refl _ _).alloc (Nat.le_refl _) _⟩
  · go_enter Tryz.func224, Tryz.ntmps224
    go_wp2_with fail
    go_ret
    exact ⟨ze (by rw [HF.out, decide_eq_false (show ¬ 1 <= ws.length by omega)]; rfl), (Below.refl _ _).alloc (Nat.le_refl _) _⟩
end Go.Proofs.YtkfigdbbncjojaaGreat

namespace Go.Proofs.YtkfigdbbncjojaaGreat
open Go.RowKit
set_option maxHeartbeats 400000 in
theorem zdq (nm : ByteArray) (kd ls ms : Int) (sl : Value) (to : ByteArray) (rl : Int) (mu fx : Bool) (df wg : ByteArray) (s : ByteArray) (w : World) (hs : s.size <= maxLen) :
    Calls Tryz.prog 220 #[.agg #[.string nm, .int .i64 kd, .int .i64 ls, .int .i64 ms, sl, .string to, .int .i64 rl, .bool mu, .bool fx, .string df, .string wg], .string s] w
      fun e w' => e = .returned (.bool (Gate.jM ls ms s)) /\ Below w.heap.size w w' := by
  by_cases hd : Gate.jD s = true
  · have HE : Hid (jH s = Gate.zeA s) := by unfold jH Hid; rw [hd]; rfl
    have HF : Hid (Gate.jM ls ms s = (decide (ls <= Gate.zeA s) && decide (Gate.zeA s <= ms))) := by unfold Gate.jM Hid; rw [hd]; rfl
    go_enter Tryz.func220, Tryz.ntmps220
    go_wp2_with (go_at_call 199; refine (zbW _ _ hs).mono ?_; rintro e w' ⟨rfl, rfl⟩)
    all_goals
      go_ret
      refine ⟨ze ?_, (Below.refl _ _).alloc (Nat.le_refl _) _⟩
      rw [HF.out]; have := HE.out; rw [Bool.eq_iff_iff]; simp; omega
  · have hd' : Gate.jD s = false := by simpa using hd
    have HF : Hid (Gate.jM ls ms s = false) := by unfold Gate.jM Hid; rw [hd']; rfl
    go_enter Tryz.func220, Tryz.ntmps220
    go_wp2_with (go_at_call 199; refine (zbW _ _ hs).mono ?_; rintro e w' ⟨rfl, rfl⟩)
    go_ret
    exact ⟨ze HF.out.symm, (Below.refl _ _).alloc (Nat.le_refl _) _⟩
end Go.Proofs.YtkfigdbbncjojaaGreat

namespace Go.Proofs.YtkfigdbbncjojaaGreat
open Go.RowKit
def zn (lo : Nat) (w : World) (a : Option Addr) (ws : List ByteArray) : Prop :=
  (a = none /\ ws = []) \/ ∃ g C, a = some ⟨g, 0, none⟩ /\ lo <= g /\ w.heap[g]? = some (.cells C 9) /\ ∀ i (h : i < ws.length), C[i]? = some (.string ws[i])
theorem zn.zfb {lo : Nat} {w : World} {v : Value} {ws : List ByteArray} (h : w.ownsRow lo 9 1 v ws.length (ws.map Value.string)) : ∃ a cap, v = .slice a ws.length cap /\ zn lo w a ws := by
  obtain ⟨_, ⟨rfl, h0⟩ | ⟨g, cap, cur, rfl, hg, hh, _, _, _, ht⟩⟩ := h
  · exact ⟨none, 0, by rw [h0], Or.inl ⟨rfl, List.length_eq_zero_iff.1 h0⟩⟩
  · refine ⟨some ⟨g, 0, none⟩, cap, rfl, Or.inr ⟨g, cur, rfl, hg, hh, fun i hi => ?_⟩⟩
    have h1 : (cur.toList.take (ws.length * 1))[i]? = (ws.map Value.string)[i]? := by rw [ht]
    rw [List.getElem?_take_of_lt (by omega), List.getElem?_map, List.getElem?_eq_getElem hi] at h1
    simpa using h1
theorem zn.mono {lo : Nat} {w w' : World} {a : Option Addr} {ws : List ByteArray} (h : zn lo w a ws) (hb : Below w.heap.size w w') : zn lo w' a ws := by
  rcases h with ⟨rfl, rfl⟩ | ⟨g, C, rfl, hg, hh, hc⟩
  · exact Or.inl ⟨rfl, rfl⟩
  · exact Or.inr ⟨g, C, rfl, hg, (hb.block g (Array.getElem?_eq_some_iff.1 hh).1).trans hh, hc⟩
theorem zn.at {lo : Nat} {w : World} {a : Option Addr} {ws : List ByteArray} (h : zn lo w a ws) (hl : ws.length <= maxLen) (hs : ∀ s ∈ ws, s.size <= maxLen) : zB w a ws := by
  refine ⟨hl, hs, fun hne => ?_⟩
  rcases h with ⟨_, rfl⟩ | ⟨g, C, rfl, _, hh, hc⟩
  · exact absurd rfl hne
  · refine ⟨g, 0, rfl, (Array.getElem?_eq_some_iff.1 hh).1, fun i hi => ?_⟩
    simp only [World.cell?, hh, Nat.zero_add]
    simpa using hc i hi
end Go.Proofs.YtkfigdbbncjojaaGreat

namespace Go.Proofs.YtkfigdbbncjojaaGreat
open Go.RowKit
def zn4 (w : World) (b o : Nat) (v0 v1 v2 v3 v4 v5 : Value) : World := (((((w.setCell ⟨b, o, none⟩ v0).setCell ⟨b, o + 1, none⟩ v1).setCell ⟨b, o + 2, none⟩ v2).setCell ⟨b, o + 3, none⟩ v3).setCell ⟨b, o + 4, none⟩ v4).setCell ⟨b, o + 5, none⟩ v5
def zlH (C : Array Value) (o : Nat) (v0 v1 v2 v3 v4 v5 : Value) : Array Value := (((((C.setIfInBounds o v0).setIfInBounds (o + 1) v1).setIfInBounds (o + 2) v2).setIfInBounds (o + 3) v3).setIfInBounds (o + 4) v4).setIfInBounds (o + 5) v5
theorem zlJ {w : World} {b o : Nat} {C : Array Value} {t : TypeId} (h : w.heap[b]? = some (.cells C t)) (v0 v1 v2 v3 v4 v5 : Value) : (zn4 w b o v0 v1 v2 v3 v4 v5).heap[b]? = some (.cells (zlH C o v0 v1 v2 v3 v4 v5) t) :=
  zf (zf (zf (zf (zf (zf h v0) v1) v2) v3) v4) v5
theorem zlk {B : Nat} {a w : World} (h : Below B a w) {b : Nat} (hb : B <= b) (o : Nat) (v0 v1 v2 v3 v4 v5 : Value) : Below B a (zn4 w b o v0 v1 v2 v3 v4 v5) :=
  (((((h.setCell hb v0).setCell hb v1).setCell hb v2).setCell hb v3).setCell hb v4).setCell hb v5
theorem zmy (C : Array Value) (o : Nat) (v0 v1 v2 v3 v4 v5 : Value) : (zlH C o v0 v1 v2 v3 v4 v5).size = C.size := by simp [zlH]
theorem zm6 (C : Array Value) (o i : Nat) (v0 v1 v2 v3 v4 v5 : Value) (h : i < o \/ o + 6 <= i) : (zlH C o v0 v1 v2 v3 v4 v5)[i]? = C[i]? := by
  unfold zlH
  iterate 6 rw [Array.getElem?_setIfInBounds, if_neg (by omega)]
theorem znJ (C : Array Value) (o j : Nat) (v0 v1 v2 v3 v4 v5 : Value) (hj : j < 6) (ho : o + 6 <= C.size) : (zlH C o v0 v1 v2 v3 v4 v5)[o + j]? = (#[v0, v1, v2, v3, v4, v5] : Array Value)[j]? := by
  have hc : j = 0 \/ j = 1 \/ j = 2 \/ j = 3 \/ j = 4 \/ j = 5 := by omega
  unfold zlH
  rcases hc with h | h | h | h | h | h <;> subst h <;> simp [Array.getElem?_setIfInBounds] <;> omega
theorem qF.put {lo : Nat} {w : World} {bo : Nat} {ms : List Mnd} {k : Nat} (h : qF lo w bo ms k) (hk : k < ms.length) :
    qF lo (zn4 w bo (k * 6) (.string ms[k].kd) (.string ms[k].fd) (.string ms[k].wh) (.string ms[k].wi) (.string ms[k].pt) (.string ms[k].fr)) bo ms (k + 1) := by
  obtain ⟨C, hC, hsz, hr⟩ := h.rows
  refine ⟨h.low, _, zlJ hC _ _ _ _ _ _, by rw [zmy]; exact hsz, fun i hi hik j hj => ?_⟩
  rcases Nat.lt_or_ge i k with hlt | hge
  · rw [zm6 _ _ _ _ _ _ _ _ _ (by omega)]
    exact hr i hi hlt j hj
  · have e : i = k := by omega
    subst e
    rw [znJ _ _ _ _ _ _ _ _ _ hj (by omega)]
    rfl
set_option maxHeartbeats 1000000 in
theorem zhO (m : Mnd) (w : World) :
    Calls Tryz.prog 63 #[.agg m.cells] w fun e w' => e = .returned (.agg m.cells) /\ Below w.heap.size w w' := by
  unfold Mnd.cells
  go_enter Tryz.func63, Tryz.ntmps63
  go_wp2_with fail
  refine bodyPost_ret (v := .agg #[.string m.kd, .string m.fd, .string m.wh, .string m.wi, .string m.pt, .string m.fr]) (by simp [results, Tryz.results63, go_sem]) rfl ⟨rfl, ?_⟩
  exact ((((Below.refl _ _).alloc (Nat.le_refl _) _).alloc (by simp) _).alloc (by simp; omega) _)
def zmb : Array Value := #[.string ByteArray.empty, .string ByteArray.empty, .string ByteArray.empty, .string ByteArray.empty, .string ByteArray.empty, .string ByteArray.empty]
def zj8 (n : Nat) : Array Value := madeCells zmb (n * 6)
set_option maxHeartbeats 2000000 in
theorem zfX (a : Option Addr) (cap : Nat) (ms : List Mnd) (w : World) (hw : y5 w a ms) (hl : ms.length <= 1048576) :
    Calls Tryz.prog 25 #[.slice a ms.length cap] w fun e w' => e = .returned (.slice (some ⟨w.heap.size, 0, none⟩) ms.length ms.length) /\ qF w.heap.size w' w.heap.size ms ms.length /\ Below w.heap.size w w' := by
  have hmk : ∀ w : World, (Instr.makeSlice 37 (.int .i64 ms.length) (.int .i64 ms.length)).run Tryz.prog w = .ok (.slice (some ⟨w.heap.size, 0, none⟩) ms.length ms.length) (w.alloc (.cells (zj8 ms.length) 129)) :=
    fun w => qG (P := Tryz.prog) 37 129 (.agg zmb) 6 96 Tryz.underlying37 (by kernel_rfl) ms.length (by omega) (by omega) w
  go_enter Tryz.func25, Tryz.ntmps25
  go_wp2_with fail
  clear hmk
  go_loopw [4] (fun i wr => ∃ k : Nat, k <= ms.length /\ i = .int .i64 k /\ qF w.heap.size wr w.heap.size ms k /\ Below w.heap.size w wr) (fun i _ => ms.length - (intOf i).toNat)
  case atStart => exact ⟨0, Nat.zero_le _, rfl, ⟨Nat.le_refl _, zj8 ms.length, (MapKept.heap_alloc w _).1, size_madeCells _ _, fun i _ h => absurd h (by omega)⟩, (Below.refl _ _).alloc (Nat.le_refl _) _⟩
  case round =>
    obtain ⟨k, hk, rfl, hown, hB⟩ := hrel
    by_cases hlt : k < ms.length
    · obtain ⟨b, off, rfl, hb, c0, c1, c2, c3, c4, c5⟩ := hw.load hB k hlt
      have hltI : (k : Int) < (ms.length : Int) := by omega
      clear hw
      go_wp2_with fail
      refine (zhO ms[k] _).mono ?_
      rintro e w1 ⟨rfl, hb1⟩
      have hB1 := hB.trans (hb1.mono hB.size)
      have hown1 := hown.later hb1
      have hbo : w.heap.size < wr.heap.size := by
        obtain ⟨C', hC', _⟩ := hown.rows
        exact (Array.getElem?_eq_some_iff.1 hC').1
      obtain ⟨C, hC, hsz, _⟩ := hown1.rows
      have hfz : ∀ o, w1.frozen? ⟨w.heap.size, o, none⟩ = false := fun o => zi hC
      have hex : ∀ o, o < ms.length * 6 -> ∃ v, w1.cell? ⟨w.heap.size, o, none⟩ = some v := fun o ho => ⟨C[o]'(by omega), by rw [cell_of_block hC]; exact Array.getElem?_eq_getElem (by omega)⟩
      obtain ⟨v0, hv0⟩ := hex (k * 6) (by omega)
      obtain ⟨v1, hv1⟩ := hex (k * 6 + 1) (by omega)
      obtain ⟨v2, hv2⟩ := hex (k * 6 + 2) (by omega)
      obtain ⟨v3, hv3⟩ := hex (k * 6 + 3) (by omega)
      obtain ⟨v4, hv4⟩ := hex (k * 6 + 4) (by omega)
      obtain ⟨v5, hv5⟩ := hex (k * 6 + 5) (by omega)
      have HP : Hid (qF w.heap.size w1 w.heap.size ms k) := hown1
      clear hex hC hsz c0 c1 c2 c3 c4 c5 hown hown1
      unfold Mnd.cells
      go_wp2_with fail
      exact ⟨⟨k + 1, by omega, by go_num, HP.out.put hlt, zlk hB1 (Nat.le_refl _) _ _ _ _ _ _ _⟩, by simp [intOf]; omega⟩
    · have HF : Hid (qF w.heap.size wr w.heap.size ms ms.length) := by
        have e : k = ms.length := by omega
        subst e; exact hown
      clear hw hown
      go_wp2_with fail
      go_ret
      exact ⟨rfl, HF.out, hB⟩
end Go.Proofs.YtkfigdbbncjojaaGreat

namespace Go.Proofs.YtkfigdbbncjojaaGreat
open Go.RowKit
set_option maxHeartbeats 400000 in
theorem zdY (a : Option Addr) (cap : Nat) (vs : List Int) (left : Int) (w : World) (hl : vs.length <= maxLen) (h0 : 0 <= left) (h1 : left <= 1048576) :
    Calls Tryz.prog 135 #[.slice a vs.length cap, .int .i64 left] w fun e w' => e = .returned (.int .i64 (zF vs.length left)) /\ w' = w := by
  unfold maxLen at hl
  by_cases hf : (vs.length : Int) <= left
  · have HF := hid (zG hf)
    go_enter Tryz.func135, Tryz.ntmps135
    go_wp2_with fail
    go_ret
    exact ⟨zk HF.out.symm, rfl⟩
  · have HF := hid (zx hf)
    go_enter Tryz.func135, Tryz.ntmps135
    go_wp2_with fail
    go_ret
    exact ⟨zk HF.out.symm, rfl⟩
set_option maxHeartbeats 1000000 in
theorem zc9 (r : Rl) (a : Option Addr) (cap : Nat) (left : Int) (w : World) (hm : r.Small) (hl : r.vs.length <= maxLen) (h0 : 0 <= left) (h1 : left <= 1048576) :
    Calls Tryz.prog 86 #[.agg (r.cells a cap), .int .i64 left] w fun e w' => e = .returned (.int .i64 (zF r.sz left)) /\ Below w.heap.size w w' := by
  have k1 := hm.kd
  have k2 := hm.tm
  have k3 := hm.px
  have k4 := hl
  unfold maxLen at k1 k2 k3 k4
  unfold Rl.cells
  have hB : ∀ ob, Below w.heap.size w (w.alloc ob) := fun ob => (Below.refl _ _).alloc (Nat.le_refl _) _
  by_cases hv : (r.vs.length : Int) <= left
  rotate_left
  · have HF : Hid (zF r.sz left = -1) := zx (by unfold Rl.sz; omega)
    go_enter Tryz.func86, Tryz.ntmps86
    go_wp2_with fail
    refine (zdY _ _ _ _ _ hl h0 h1).mono ?_
    rintro e w1 ⟨rfl, rfl⟩
    rw [zx (by omega)]
    go_wp2_with fail
    go_ret
    exact ⟨zk HF.out.symm, hB _⟩
  by_cases hf : (r.sz : Int) <= left
  · have HF : Hid (zF r.sz left = left - r.vs.length - r.kd.size - r.tm.size - r.px.size) := by
      unfold Hid; rw [zG hf]; unfold Rl.sz; omega
    unfold Rl.sz at hf
    go_enter Tryz.func86, Tryz.ntmps86
    go_wp2_with fail
    refine (zdY _ _ _ _ _ hl h0 h1).mono ?_
    rintro e w1 ⟨rfl, rfl⟩
    rw [zG hv]
    go_wp2_with fail
    go_ret
    exact ⟨zk HF.out.symm, hB _⟩
  · have HF : Hid (zF r.sz left = -1) := zx hf
    have HN : Hid (¬ ((r.vs.length + r.kd.size + r.tm.size + r.px.size : Nat) : Int) <= left) := hf
    clear hf
    go_enter Tryz.func86, Tryz.ntmps86
    go_wp2_with fail
    refine (zdY _ _ _ _ _ hl h0 h1).mono ?_
    rintro e w1 ⟨rfl, rfl⟩
    rw [zG hv]
    go_wp2_with fail
    all_goals go_ret
    all_goals first | exact ⟨zk HF.out.symm, hB _⟩ | (exfalso; have := HN.out; simp at *; omega)
set_option maxHeartbeats 400000 in
theorem zlz (a : Option Addr) (cap : Nat) (vs : List Int) (w : World) (hw : yQ w a vs) (hl : vs.length <= 1048576) :
    Calls Tryz.prog 145 #[.slice a vs.length cap] w fun e w' => e = .returned (.slice (some ⟨w.heap.size, 0, none⟩) vs.length vs.length) /\ w' = w.alloc (.cells (zbb vs) 3) := by
  have hmk : ∀ w : World, (Instr.makeSlice 91 (.int .i64 vs.length) (.int .i64 vs.length)).run Tryz.prog w = .ok (.slice (some ⟨w.heap.size, 0, none⟩) vs.length vs.length) (w.alloc (.cells (intCells vs 0) 3)) := by
    intro w
    have h := run_make_row' (P := Tryz.prog) 91 3 (.int .i64 0) 8 Tryz.underlying91 (by kernel_rfl) rfl .i64 .i64 vs.length (by omega) (by omega) w
    rw [zh2] at h
    exact h
  go_enter Tryz.func145, Tryz.ntmps145
  go_wp2_with fail
  clear hmk
  go_loopw [4] (fun i wr => ∃ k : Nat, k <= vs.length /\ i = .int .i64 k /\ wr = w.alloc (.cells (intCells vs k) 3)) (fun i _ => vs.length - (intOf i).toNat)
  case atStart => exact ⟨0, Nat.zero_le _, rfl, rfl⟩
  case round =>
    obtain ⟨k, hk, rfl, rfl⟩ := hrel
    by_cases hlt : k < vs.length
    · obtain ⟨b, off, rfl, hb, hck⟩ := hw.load (Below.refl _ _) k hlt
      clear hw
      have hold := zjZ vs k hlt
      have HS := hid (zi6 vs k hlt)
      have hltI : (k : Int) < (vs.length : Int) := by omega
      go_wp2
      go_roundw
      case rel => exact ⟨k + 1, by omega, by go_num, by rw [HS.out]⟩
      case measure => simp [intOf]; omega
    · have HA : Hid (intCells vs k = zbb vs) := zjR vs k (by omega)
      clear hw
      go_wp2
      go_ret
      exact ⟨rfl, by rw [HA.out]⟩
set_option maxHeartbeats 800000 in
theorem zlN (a a' : Option Addr) (cap cap' : Nat) (vs : List Int) (w : World) (hw : yQ w a vs) (hw' : yQ w a' vs) :
    Calls Tryz.prog 174 #[.slice a vs.length cap, .slice a' vs.length cap'] w fun e w' => e = .returned (.bool true) /\ Below w.heap.size w w' := by
  have hl := hw.len
  unfold maxLen at hl
  have hnn : ((vs.length : Int) != vs.length) = false := by simp
  go_enter Tryz.func174, Tryz.ntmps174
  go_wp2_with fail
  go_loopw [5] (fun i wr => ∃ k : Nat, k <= vs.length /\ i = .int .i64 k /\ Below w.heap.size w wr) (fun i _ => vs.length - (intOf i).toNat)
  case atStart => exact ⟨0, Nat.zero_le _, rfl, Below.refl _ _⟩
  case round =>
    obtain ⟨k, hk, rfl, hB⟩ := hrel
    by_cases hlt : k < vs.length
    · obtain ⟨b, off, rfl, hb, c0⟩ := hw.load hB k hlt
      obtain ⟨b', off', rfl, hb', d0⟩ := hw'.load hB k hlt
      have hltI : (k : Int) < (vs.length : Int) := by omega
      have hne : (vs[k] != vs[k]) = false := by simp
      clear hw hw'
      go_wp2_with fail
      first
        | exact ⟨⟨k + 1, by omega, by go_num, hB⟩, by simp [intOf]; omega⟩
        | (go_quiet (fail); go_wp2_with fail; exact ⟨⟨k + 1, by omega, by go_num, below_drewN hB _⟩, by simp [intOf]; omega⟩)
    · clear hw hw'
      go_wp2_with fail
      go_ret
      exact ⟨rfl, hB⟩
theorem zn9 (w : World) (o1 o2 o3 o4 : Obj) : ((((w.alloc o1).alloc o2).alloc o3).alloc o4).heap[w.heap.size + 1 + 1 + 1]? = some o4 := by
  have h := MapKept.heap_alloc (((w.alloc o1).alloc o2).alloc o3) o4
  simpa using h.1
theorem znT (w : World) (o1 o2 o3 o4 : Obj) : Below w.heap.size w ((((w.alloc o1).alloc o2).alloc o3).alloc o4) :=
  ((((Below.refl _ _).alloc (Nat.le_refl _) _).alloc (by simp) _).alloc (by simp; omega) _).alloc (by simp; omega) _
set_option maxHeartbeats 1000000 in
theorem zhf (r : Rl) (a : Option Addr) (cap : Nat) (w : World) (hw : yQ w a r.vs) (hl : r.vs.length <= 1048576) :
    Calls Tryz.prog 102 #[.agg (r.cells a cap)] w
      fun e w' => ∃ bk, e = .returned (.agg (r.cells (some ⟨bk, 0, none⟩) r.vs.length)) /\ w.heap.size <= bk /\ bk < w'.heap.size /\ w'.heap[bk]? = some (.cells (zbb r.vs) 3) /\ Below w.heap.size w w' := by
  unfold Rl.cells
  go_enter Tryz.func102, Tryz.ntmps102
  go_wp2_with (go_at_call 145; refine (zlz _ _ _ _ (by exact hw.mono ((((Below.refl _ _).alloc (Nat.le_refl _) _).alloc (by simp) _).alloc (by simp; omega) _)) hl).mono ?_; rintro e w' ⟨rfl, rfl⟩)
  refine bodyPost_ret (v := .agg #[.slice (some ⟨w.heap.size + 1 + 1 + 1, 0, none⟩) r.vs.length r.vs.length, .string r.kd, .string r.tm, .string r.px]) (by simp [results, Tryz.results102, go_sem]) rfl ⟨w.heap.size + 1 + 1 + 1, rfl, by omega, by simp, zn9 _ _ _ _ _, znT _ _ _ _ _⟩
set_option maxHeartbeats 1000000 in
theorem zhA (r : Rl) (a a' : Option Addr) (cap cap' : Nat) (w : World) (hw : yQ w a r.vs) (hw' : yQ w a' r.vs) :
    Calls Tryz.prog 133 #[.agg (r.cells a cap), .agg (r.cells a' cap')] w fun e w' => e = .returned (.bool true) /\ Below w.heap.size w w' := by
  unfold Rl.cells
  go_enter Tryz.func133, Tryz.ntmps133
  go_wp2_with fail
  refine (zlN _ _ _ _ _ _ (hw.mono (zq _ _ _)) (hw'.mono (zq _ _ _))).mono ?_
  rintro e w1 ⟨rfl, hb1⟩
  have hX1 := za (za (zH w _ _) (by simp) ((Below.refl _ _).alloc (Nat.le_refl _) _)) (by simp; omega) hb1
  have hY1 := za (znB w _ _ _) (by simp) hb1
  have hz : w.heap.size + 1 < w1.heap.size := by have := hb1.size; simp at this; omega
  have hB1 := (zq w _ _).trans (hb1.mono (by simp; omega))
  clear hb1
  go_wp2_with fail
  go_ret
  exact ⟨rfl, hB1⟩
end Go.Proofs.YtkfigdbbncjojaaGreat
