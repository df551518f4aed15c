import Derived.Test.YtfcdmlnpfoikhaaGreatM02
import Derived.Deep.OwnRows
import Derived.MapKept
namespace Go.Proofs.YtfcdmlnpfoikhaaGreat
open Go.RowKit
structure zaQ (w : World) (r : Nat) (f : Int -> Option Int) : Prop where
  ex : ∃ es clock, w.heap[r]? = some (.map es clock) /\ (∀ x ∈ es.toList, ∃ k v, x.key = .int .i64 k /\ x.val = .int .i64 v /\ f k = some v) /\ (∀ k v, f k = some v -> ∃ x ∈ es.toList, x.key = .int .i64 k) /\ ∀ (i j : Nat) (x y : MapEntry), es[i]? = some x -> es[j]? = some y -> x.key = y.key -> i = j
theorem zaQ.mono {w w' : World} {r : Nat} {f : Int -> Option Int} (h : zaQ w r f) (hb : w'.heap[r]? = w.heap[r]?) : zaQ w' r f := by
  obtain ⟨es, clock, h1, h2⟩ := h.ex
  exact ⟨es, clock, hb.trans h1, h2⟩
theorem zaQ.lt {w : World} {r : Nat} {f : Int -> Option Int} (h : zaQ w r f) : r < w.heap.size := by
  obtain ⟨es, clock, h1, _⟩ := h.ex
  exact (Array.getElem?_eq_some_iff.1 h1).1
theorem zaS (k : Int) : MapKept.IsKey (.int .i64) (.int .i64 k) := by simp [MapKept.IsKey]
theorem zaQ.keys {es : Array MapEntry} {f : Int -> Option Int} (h : ∀ x ∈ es.toList, ∃ k v, x.key = .int .i64 k /\ x.val = .int .i64 v /\ f k = some v) : ∀ x ∈ es.toList, MapKept.IsKey (.int .i64) x.key := by
  intro x hx
  obtain ⟨k, v, h1, _⟩ := h x hx
  rw [h1]; exact zaS k
theorem zaQ.look {w : World} {r : Nat} {f : Int -> Option Int} (h : zaQ w r f) (k : Int) :
    (Instr.lookup 260 (.map (some r)) (.int .i64 k) true).run Tryz.prog w = .ok (.tuple #[.int .i64 ((f k).getD 0), .bool (f k).isSome]) w := by
  obtain ⟨es, clock, hb, h1, h2, h3⟩ := h.ex
  rcases MapKept.findNow_spec (zaS k) es.toList 0 (zaQ.keys h1) with ⟨g1, g2⟩ | ⟨j, e, g1, g2, g3⟩
  · have hn : f k = none := by
      cases hf : f k with
      | none => rfl
      | some v =>
        obtain ⟨x, hx, hk⟩ := h2 k v hf
        exact absurd hk (g2 x hx)
    rw [hn]
    exact zbE Tryz.underlying260 Tryz.underlying3 (.int .i64 k) (.int .i64 0) (zaS k) es clock g1 w (by kernel_rfl) r hb
  · obtain ⟨k', v', e1, e2, e3⟩ := h1 e (List.mem_of_getElem? g2)
    rw [g3] at e1
    cases e1
    rw [e3]
    rw [e2] at g1
    exact qx Tryz.underlying260 Tryz.underlying3 (.int .i64 k) (.int .i64 v') (zaS k) es clock _ g1 w r hb
structure zfU (r : Nat) (w w' : World) : Prop where
  os : w'.os = w.os
  tape : w'.tape = w.tape
  output : w'.output = w.output
  size : w'.heap.size = w.heap.size
  out : ∀ k, k ≠ r -> w'.heap[k]? = w.heap[k]?
theorem zaQ.upd {w : World} {r : Nat} {f : Int -> Option Int} (h : zaQ w r f) (k v : Int) :
    ∃ w', (Instr.mapUpdate 260 (.map (some r)) (.int .i64 k) (.int .i64 v)).run Tryz.prog w = .ok () w' /\ zaQ w' r (fun q => if q = k then some v else f q) /\ zfU r w w' := by
  obtain ⟨es, clock, hb, h1, h2, h3⟩ := h.ex
  have hm := Tryz.underlying260
  have hd := Tryz.underlying3
  rcases MapKept.findNow_spec (zaS k) es.toList 0 (zaQ.keys h1) with ⟨g1, g2⟩ | ⟨j, e, g1, g2, g3⟩
  · refine ⟨{ w with heap := w.heap.setIfInBounds r (.map (es.push ⟨.int .i64 k, .int .i64 v, clock⟩) (clock + 1)) }, ?_, ⟨_, _, (MapKept.heap_set hb).1, ?_, ?_, ?_⟩, rfl, rfl, rfl, by simp, fun q hq => (MapKept.heap_set hb).2 q hq⟩
    · simp [Instr.mapUpdate, run_underlying hm, MapKept.run_getObj_map hb, MapKept.run_checkKey hd (zaS k), MapKept.run_findKey hd g1, MapKept.run_setObj_map _ hb, Result.andThen]
    · intro x hx
      rw [Array.toList_push, List.mem_append, List.mem_singleton] at hx
      rcases hx with hx | rfl
      · obtain ⟨k', v', e1, e2, e3⟩ := h1 x hx
        refine ⟨k', v', e1, e2, ?_⟩
        have : k' ≠ k := by rintro rfl; exact g2 x hx e1
        simp only [if_neg this]; exact e3
      · exact ⟨k, v, rfl, rfl, by simp⟩
    · intro q u hq
      by_cases e : q = k
      · subst e
        exact ⟨⟨.int .i64 q, .int .i64 v, clock⟩, by simp, rfl⟩
      · rw [if_neg e] at hq
        obtain ⟨x, hx, hk⟩ := h2 q u hq
        exact ⟨x, by simp [Array.toList_push]; exact Or.inl (by simpa using hx), hk⟩
    · intro i j' x y hx hy hxy
      rw [Array.getElem?_push] at hx hy
      by_cases e1 : i = es.size
      · by_cases e2 : j' = es.size
        · omega
        · rw [if_pos e1] at hx
          rw [if_neg e2] at hy
          have hm : y ∈ es.toList := by rw [<- Array.mem_def]; exact Array.mem_of_getElem? hy
          cases hx
          exact absurd hxy.symm (g2 y hm)
      · by_cases e2 : j' = es.size
        · rw [if_neg e1] at hx
          rw [if_pos e2] at hy
          have hm : x ∈ es.toList := by rw [<- Array.mem_def]; exact Array.mem_of_getElem? hx
          cases hy
          exact absurd hxy (g2 x hm)
        · rw [if_neg e1] at hx
          rw [if_neg e2] at hy
          exact h3 i j' x y hx hy hxy
  · have hj : es[j]? = some e := by simpa using g2
    refine ⟨{ w with heap := w.heap.setIfInBounds r (.map (es.modify j fun x => { x with key := .int .i64 k, val := .int .i64 v }) clock) }, ?_, ⟨_, _, (MapKept.heap_set hb).1, ?_, ?_, ?_⟩, rfl, rfl, rfl, by simp, fun q hq => (MapKept.heap_set hb).2 q hq⟩
    · simp [Instr.mapUpdate, run_underlying hm, MapKept.run_getObj_map hb, MapKept.run_checkKey hd (zaS k), MapKept.run_findKey hd g1, hj, g3, MapKept.run_keyThatStays (zaS k), MapKept.run_setObj_map _ hb, Result.andThen]
    · intro x hx
      obtain ⟨i, hi, rfl⟩ := List.mem_iff_getElem.1 hx
      have hi' : i < es.size := by simpa using hi
      simp only [Array.getElem_toList, Array.getElem_modify]
      by_cases e' : j = i
      · subst e'
        simp only [if_true]
        exact ⟨k, v, rfl, rfl, by simp⟩
      · simp only [if_neg e']
        obtain ⟨k', v', e1, e2, e3⟩ := h1 es[i] (by simp)
        have ek : k' ≠ k := by
          rintro rfl
          exact e' (h3 j i e es[i] hj (Array.getElem?_eq_getElem hi') (g3.trans e1.symm))
        exact ⟨k', v', e1, e2, by rw [if_neg ek]; exact e3⟩
    · intro q u hq
      have hj' : j < es.size := (Array.getElem?_eq_some_iff.1 hj).1
      by_cases e' : q = k
      · subst e'
        refine ⟨(es.modify j fun x => { x with key := .int .i64 q, val := .int .i64 v })[j]'(by simpa using hj'), ?_, ?_⟩
        · rw [<- Array.mem_def]; exact Array.getElem_mem _
        · rw [Array.getElem_modify]; simp
      · rw [if_neg e'] at hq
        obtain ⟨x, hx, hk⟩ := h2 q u hq
        obtain ⟨i, hi, rfl⟩ := List.mem_iff_getElem.1 hx
        have hi' : i < es.size := by simpa using hi
        have hij : j ≠ i := by
          rintro rfl
          rw [Array.getElem_toList] at hk
          rw [Array.getElem?_eq_getElem hi'] at hj
          cases hj
          rw [g3] at hk
          cases hk
          exact e' rfl
        refine ⟨(es.modify j fun x => { x with key := .int .i64 k, val := .int .i64 v })[i]'(by simpa using hi'), ?_, ?_⟩
        · rw [<- Array.mem_def]; exact Array.getElem_mem _
        · rw [Array.getElem_modify, if_neg hij]; simpa using hk
    · have hkey : ∀ (i : Nat) (x : MapEntry), (es.modify j fun x => { x with key := .int .i64 k, val := .int .i64 v })[i]? = some x -> ∃ y, es[i]? = some y /\ x.key = y.key := by
        intro i x hx
        obtain ⟨hi, rfl⟩ := Array.getElem?_eq_some_iff.1 hx
        have hi' : i < es.size := by simpa using hi
        refine ⟨es[i], Array.getElem?_eq_getElem hi', ?_⟩
        rw [Array.getElem_modify]
        by_cases e' : j = i
        · subst e'
          rw [Array.getElem?_eq_getElem hi'] at hj
          cases hj
          simp [g3]
        · rw [if_neg e']
      intro i j' x y hx hy hxy
      obtain ⟨x', hx', ex⟩ := hkey i x hx
      obtain ⟨y', hy', ey⟩ := hkey j' y hy
      exact h3 i j' x' y' hx' hy' (ex.symm.trans (hxy.trans ey))
end Go.Proofs.YtfcdmlnpfoikhaaGreat

namespace Go.Proofs.YtfcdmlnpfoikhaaGreat
open Go.RowKit
set_option maxHeartbeats 400000 in
theorem zbP (a : Option Addr) (cap : Nat) (ws : List ByteArray) (v : ByteArray) (w : World) (hw : zB w a ws) :
    Calls Tryz.prog 168 #[.slice a ws.length cap, .string v] w fun e w' => e = .returned (.bool (Gate.has ws v)) /\ w' = w := by
  have hl := hw.len
  unfold maxLen at hl
  by_cases hne : ws = []
  · subst hne
    go_enter Tryz.func168, Tryz.ntmps168
    go_wp2
    go_loop [5] (fun i => i = .int .i64 0) (fun i => 0)
    case atStart => rfl
    case round =>
      subst hrel
      go_wp2
      go_ret
      exact ⟨rfl, rfl⟩
  · obtain ⟨b, off, rfl, hb, hc⟩ := hw.cells hne
    clear hw
    have HL : Hid (0 < ws.length) := List.length_pos_iff.2 hne
    clear hne
    go_enter Tryz.func168, Tryz.ntmps168
    go_wp2
    go_loop [5] (fun i => ∃ k : Nat, k <= ws.length /\ i = .int .i64 k /\ Gate.has (ws.take k) v = false) (fun i => ws.length - (intOf i).toNat)
    case atStart => exact ⟨0, Nat.zero_le _, rfl, rfl⟩
    case round =>
      obtain ⟨k, hk, rfl, hall⟩ := hrel
      by_cases hlt : k < ws.length
      · have hck := hc k hlt
        clear hc
        have HS : Hid (Gate.has (ws.take (k + 1)) v = (false || decide (ws[k] = v))) := by rw [Gate.zkY ws v k hlt, hall]; rfl
        have HN : Hid (ws[k] = v -> Gate.has ws v = true) := fun h => Gate.zou ws v k hlt h
        clear hall
        by_cases he : ws[k] = v
        · have hbe : (ws[k].toList == v.toList) = true := by rw [Gate.beq_toList]; simpa using he
          have HE : Hid (ws[k] = v) := he
          clear he
          go_wp2
          go_ret
          exact ⟨ze (HN.out HE.out).symm, rfl⟩
        · have hbe : (ws[k].toList == v.toList) = false := by rw [Gate.beq_toList]; simpa using he
          have HE : Hid (¬ ws[k] = v) := he
          clear he
          go_wp2
          go_round
          case rel => exact ⟨k + 1, by omega, by go_num, by rw [HS.out, decide_eq_false HE.out]; rfl⟩
          case measure => simp [intOf]; omega
      · have HA : Hid (Gate.has ws v = false) := by rw [<- Gate.znp ws v k (by omega)]; exact hall
        clear hall hc
        go_wp2
        go_ret
        exact ⟨ze HA.out.symm, rfl⟩
end Go.Proofs.YtfcdmlnpfoikhaaGreat

namespace Go.Proofs.YtfcdmlnpfoikhaaGreat
open Go.RowKit
set_option maxHeartbeats 1000000 in
theorem ziM (a : Option Addr) (cap : Nat) (ws : List ByteArray) (w : World) (hw : zB w a ws) :
    Calls Tryz.prog 218 #[.slice a ws.length cap] w fun e w' => e = .returned (.bool (Gate.asc ws)) /\ w' = w := by
  have hl := hw.len
  unfold maxLen at hl
  go_enter Tryz.func218, Tryz.ntmps218
  go_wp2
  go_loop [7] (fun i => ∃ k : Nat, k <= ws.length /\ i = .int .i64 k /\ Gate.up (Gate.zcN ws) k = true) (fun i => ws.length - (intOf i).toNat)
  case atStart => exact ⟨0, Nat.zero_le _, rfl, rfl⟩
  case round =>
    obtain ⟨k, hk, rfl, hup⟩ := hrel
    by_cases hlt : k < ws.length
    · obtain ⟨b, off, rfl, hb, hc⟩ := hw.cells (by rintro rfl; simp at hlt)
      have hsm := hw.small _ (List.getElem_mem hlt)
      clear hw
      have hck := hc k hlt
      by_cases hn : Gate.zy ws[k] = true
      · by_cases hk0 : k = 0
        · have HF : Hid (Gate.up (Gate.zcN ws) (k + 1) = true) := by subst hk0; unfold Hid; rw [Gate.jF, Gate.zgH hlt hn]; rfl
          have hg : decide (0 < k) = false := by simp; omega
          have HN : Hid (Gate.zy ws[k] = true) := hn
          clear hn hc hup hk0
          go_wp2_with (go_at_call 140; refine (zw HN.out (zN _ _ hsm)).mono ?_; rintro e w' ⟨rfl, rfl⟩)
          go_round
          case rel => exact ⟨k + 1, by omega, by go_num, HF.out⟩
          case measure => simp [intOf]; omega
        · obtain ⟨m, rfl⟩ : ∃ m, k = m + 1 := ⟨k - 1, by omega⟩
          have hcm := hc m (by omega)
          have HU : Hid (Gate.up (Gate.zcN ws) (m + 1 + 1) = Gate.less ws[m] ws[m + 1]) := by unfold Hid; rw [Gate.jF, hup, Gate.zdd hlt hn]; rfl
          have HNN : Hid (Gate.less ws[m] ws[m + 1] = false -> Gate.asc ws = false) := fun h => Gate.za4 hlt (by rw [Gate.zdd hlt hn]; exact h)
          have HN : Hid (Gate.zy ws[m + 1] = true) := hn
          clear hn hc hup hk0
          by_cases hls : Gate.less ws[m] ws[m + 1] = true
          · have hls' : Op.bytesLess ws[m].toList ws[m + 1].toList = true := hls
            have HLS : Hid (Gate.less ws[m] ws[m + 1] = true) := hls
            clear hls
            go_wp2_with (go_at_call 140; refine (zw HN.out (zN _ _ hsm)).mono ?_; rintro e w' ⟨rfl, rfl⟩)
            go_round
            case rel => exact ⟨m + 1 + 1, by omega, by go_num, by rw [HU.out, HLS.out]⟩
            case measure => simp [intOf]; omega
          · have hls' : Op.bytesLess ws[m].toList ws[m + 1].toList = false := by simpa [Gate.less] using hls
            have HLS : Hid (Gate.less ws[m] ws[m + 1] = false) := hls'
            clear hls
            go_wp2_with (go_at_call 140; refine (zw HN.out (zN _ _ hsm)).mono ?_; rintro e w' ⟨rfl, rfl⟩)
            go_ret
            exact ⟨ze (HNN.out HLS.out).symm, rfl⟩
      · have hn' : Gate.zy ws[k] = false := by simpa using hn
        have HF : Hid (Gate.asc ws = false) := Gate.za4 hlt (Gate.zii hlt hn')
        have HN : Hid (Gate.zy ws[k] = false) := hn'
        clear hn hn' hc hup
        go_wp2_with (go_at_call 140; refine (zw HN.out (zN _ _ hsm)).mono ?_; rintro e w' ⟨rfl, rfl⟩)
        go_ret
        exact ⟨ze HF.out.symm, rfl⟩
    · have HF : Hid (Gate.asc ws = true) := by
        have e : k = ws.length := by omega
        subst e; exact hup
      clear hw hup
      go_wp2
      go_ret
      exact ⟨ze HF.out.symm, rfl⟩
end Go.Proofs.YtfcdmlnpfoikhaaGreat

namespace Go.Proofs.YtfcdmlnpfoikhaaGreat
open Go.RowKit
set_option maxHeartbeats 400000 in
theorem zn4 (a : Option Addr) (cap : Nat) (ws : List ByteArray) (v : ByteArray) (w : World) (hw : zB w a ws) :
    Calls Tryz.prog 248 #[.slice a ws.length cap, .string v] w fun e w' => ∃ r : Int, e = .returned (.int .i64 r) /\ decide (0 <= r) = Gate.has ws v /\ w' = w := by
  have hl := hw.len
  unfold maxLen at hl
  by_cases hne : ws = []
  · subst hne
    go_enter Tryz.func248, Tryz.ntmps248
    go_wp2
    go_loop [8] (fun i => i = .int .i64 0) (fun i => 0)
    case atStart => rfl
    case round =>
      subst hrel
      go_wp2
      go_ret
      exact ⟨_, rfl, rfl, rfl⟩
  · obtain ⟨b, off, rfl, hb, hc⟩ := hw.cells hne
    clear hw
    have HL : Hid (0 < ws.length) := List.length_pos_iff.2 hne
    clear hne
    go_enter Tryz.func248, Tryz.ntmps248
    go_wp2
    go_loop [8] (fun i => ∃ k : Nat, k <= ws.length /\ i = .int .i64 k /\ Gate.has (ws.take k) v = false) (fun i => ws.length - (intOf i).toNat)
    case atStart => exact ⟨0, Nat.zero_le _, rfl, rfl⟩
    case round =>
      obtain ⟨k, hk, rfl, hall⟩ := hrel
      by_cases hlt : k < ws.length
      · have hck := hc k hlt
        clear hc
        have HS : Hid (Gate.has (ws.take (k + 1)) v = (false || decide (ws[k] = v))) := by rw [Gate.zkY ws v k hlt, hall]; rfl
        have HN : Hid (ws[k] = v -> Gate.has ws v = true) := fun h => Gate.zou ws v k hlt h
        clear hall
        by_cases he : ws[k] = v
        · have hbe : (v.toList == ws[k].toList) = true := by rw [Gate.beq_toList]; simpa using he.symm
          have HE : Hid (ws[k] = v) := he
          clear he
          go_wp2
          go_ret
          exact ⟨_, rfl, by rw [HN.out HE.out]; simp, rfl⟩
        · have hbe : (v.toList == ws[k].toList) = false := by rw [Gate.beq_toList]; simpa using fun h => he h.symm
          have HE : Hid (¬ ws[k] = v) := he
          clear he
          go_wp2
          go_round
          case rel => exact ⟨k + 1, by omega, by go_num, by rw [HS.out, decide_eq_false HE.out]; rfl⟩
          case measure => simp [intOf]; omega
      · have HA : Hid (Gate.has ws v = false) := by rw [<- Gate.znp ws v k (by omega)]; exact hall
        clear hall hc
        go_wp2
        go_ret
        exact ⟨_, rfl, by rw [HA.out]; rfl, rfl⟩
set_option maxHeartbeats 400000 in
theorem zkU (a : Option Addr) (cap : Nat) (ws : List ByteArray) (v : ByteArray) (w : World) (hw : zB w a ws) :
    Calls Tryz.prog 247 #[.slice a ws.length cap, .string v] w fun e w' => e = .returned (.bool (Gate.has ws v)) /\ w' = w := by
  go_enter Tryz.func247, Tryz.ntmps247
  go_wp2_with (go_at_call 248; refine (zn4 _ _ _ _ _ hw).mono ?_; rintro e w' ⟨r, rfl, hr, rfl⟩)
  go_ret
  exact ⟨rfl, rfl⟩
set_option maxHeartbeats 400000 in
theorem ze8 (nm : ByteArray) (kd ls ms : Int) (a : Option Addr) (cap : Nat) (ws : List ByteArray) (to : ByteArray) (rl : Int) (mu fx : Bool) (df wg : ByteArray) (v : ByteArray) (w : World) (hw : zB w a ws) :
    Calls Tryz.prog 245 #[.agg #[.string nm, .int .i64 kd, .int .i64 ls, .int .i64 ms, .slice a ws.length cap, .string to, .int .i64 rl, .bool mu, .bool fx, .string df, .string wg], .string v] w
      fun e w' => e = .returned (.bool (Gate.has ws v)) /\ Below w.heap.size w w' := by
  go_enter Tryz.func245, Tryz.ntmps245
  go_wp2_with (go_at_call 247; refine (zkU _ _ _ _ _ (hw.mono (by exact (Below.refl _ _).alloc (Nat.le_refl _) _))).mono ?_; rintro e w' ⟨rfl, rfl⟩)
  go_ret
  exact ⟨rfl, (Below.refl _ _).alloc (Nat.le_refl _) _⟩
set_option maxHeartbeats 400000 in
theorem zfc (nm : ByteArray) (kd ls ms : Int) (sl : Value) (to : ByteArray) (rl : Int) (mu fx : Bool) (df wg : ByteArray) (v : ByteArray) (w : World) (hs : v.size <= maxLen) :
    Calls Tryz.prog 253 #[.agg #[.string nm, .int .i64 kd, .int .i64 ls, .int .i64 ms, sl, .string to, .int .i64 rl, .bool mu, .bool fx, .string df, .string wg], .string v] w
      fun e w' => e = .returned (.bool (Gate.zy v)) /\ Below w.heap.size w w' := by
  go_enter Tryz.func253, Tryz.ntmps253
  go_wp2_with (go_at_call 140; refine (zN _ _ hs).mono ?_; rintro e w' ⟨rfl, rfl⟩)
  go_ret
  exact ⟨rfl, (Below.refl _ _).alloc (Nat.le_refl _) _⟩
set_option maxHeartbeats 400000 in
theorem zeV (nm : ByteArray) (kd ls ms : Int) (sl : Value) (to : ByteArray) (rl : Int) (mu fx : Bool) (df wg : ByteArray) (s : ByteArray) (w : World) (hs : s.size <= maxLen) :
    Calls Tryz.prog 250 #[.agg #[.string nm, .int .i64 kd, .int .i64 ls, .int .i64 ms, sl, .string to, .int .i64 rl, .bool mu, .bool fx, .string df, .string wg], .string s] w
      fun e w' => e = .returned (.bool (Gate.za1 ls ms s)) /\ Below w.heap.size w w' := by
  unfold maxLen at hs
  by_cases h1 : (s.size : Int) < ls
  · go_enter Tryz.func250, Tryz.ntmps250
    go_wp2
    go_ret
    refine ⟨ze ?_, (Below.refl _ _).alloc (Nat.le_refl _) _⟩
    unfold Gate.za1; rw [decide_eq_false (by omega)]; rfl
  · by_cases h2 : ms < (s.size : Int)
    · go_enter Tryz.func250, Tryz.ntmps250
      go_wp2
      go_ret
      refine ⟨ze ?_, (Below.refl _ _).alloc (Nat.le_refl _) _⟩
      unfold Gate.za1; rw [decide_eq_false (show ¬ (s.size : Int) <= ms by omega)]; simp
    · have HF : Hid (Gate.za1 ls ms s = Gate.za3 s) := by
        unfold Gate.za1
        rw [decide_eq_true (show ls <= s.size by omega), decide_eq_true (show (s.size : Int) <= ms by omega)]; simp [Hid]
      go_enter Tryz.func250, Tryz.ntmps250
      go_wp2
      go_loop [20] (fun i => ∃ k : Nat, k <= s.size /\ i = .int .i64 k /\ (s.data.toList.take k).all Gate.yK = true) (fun i => s.size - (intOf i).toNat)
      case atStart => exact ⟨0, Nat.zero_le _, rfl, rfl⟩
      case round =>
        obtain ⟨k, hk, rfl, hall⟩ := hrel
        by_cases hlt : k < s.size
        · have HS : Hid ((s.data.toList.take (k + 1)).all Gate.yK = (true && Gate.yK s[k])) := by rw [Gate.zbC _ s k hlt, hall]; rfl
          have HN : Hid (Gate.yK s[k] = false -> Gate.za3 s = false) := fun h => Gate.zdc Gate.yK s k hlt h
          clear hall
          by_cases h33 : (s[k].toNat : Int) < 33
          · have HC : Hid (Gate.yK s[k] = false) := by simp [Gate.yK, Hid]; omega
            go_wp2
            go_ret
            exact ⟨ze (HF.out.trans (HN.out HC.out)).symm, (Below.refl _ _).alloc (Nat.le_refl _) _⟩
          · by_cases h126 : 126 < (s[k].toNat : Int)
            · have HC : Hid (Gate.yK s[k] = false) := by simp [Gate.yK, Hid]; omega
              go_wp2
              go_ret
              exact ⟨ze (HF.out.trans (HN.out HC.out)).symm, (Below.refl _ _).alloc (Nat.le_refl _) _⟩
            · have HC : Hid (Gate.yK s[k] = true) := by simp [Gate.yK, Hid]; omega
              go_wp2
              go_round
              case rel => exact ⟨k + 1, by omega, by go_num, by rw [HS.out, HC.out]; rfl⟩
              case measure => simp [intOf]; omega
        · have HA : Hid (Gate.za3 s = true) := by unfold Gate.za3 Hid; rw [<- Gate.za0 s k (by omega)]; exact hall
          clear hall
          go_wp2
          go_ret
          exact ⟨ze (HF.out.trans HA.out).symm, (Below.refl _ _).alloc (Nat.le_refl _) _⟩
end Go.Proofs.YtfcdmlnpfoikhaaGreat

namespace Go.Proofs.YtfcdmlnpfoikhaaGreat
open Go.RowKit
def zoL (ss : List Shp) (v : ByteArray) (e : Ending) : Prop :=
  (Gate.zD ss v = false -> e = .returned (.int .i64 (-1))) /\ (Gate.zD ss v = true -> ∃ k, ∃ h : k < ss.length, e = .returned (.int .i64 (k : Nat)) /\ Gate.shapeOf ss v = ss[k])
set_option maxHeartbeats 400000 in
theorem zgo (a : Option Addr) (cap : Nat) (ss : List Shp) (v : ByteArray) (w : World) (hw : yE w a ss) :
    Calls Tryz.prog 129 #[.slice a ss.length cap, .string v] w fun e w' => zoL ss v e /\ w' = w := by
  have hl := hw.len
  unfold maxLen at hl
  go_enter Tryz.func129, Tryz.ntmps129
  go_wp2
  go_loop [5] (fun i => ∃ k : Nat, k <= ss.length /\ i = .int .i64 k /\ Gate.zD (ss.take k) v = false) (fun i => ss.length - (intOf i).toNat)
  case atStart => exact ⟨0, Nat.zero_le _, rfl, rfl⟩
  case round =>
    obtain ⟨k, hk, rfl, hno⟩ := hrel
    by_cases hlt : k < ss.length
    · obtain ⟨b, off, rfl, hb, hr⟩ := hw.rows (by rintro rfl; simp at hlt)
      obtain ⟨fa, fcap, hs⟩ := hr k hlt
      have hck := hs.kind
      clear hw hr hs
      by_cases he : ss[k].kd = v
      · have hbe : (ss[k].kd.toList == v.toList) = true := by rw [Gate.beq_toList]; simpa using he
        have HA : Hid (Gate.zD ss v = true) := Gate.zeA ss v k hlt he
        have HB : Hid (Gate.shapeOf ss v = ss[k]) := Gate.zcP ss v k hlt hno he
        clear he hno
        go_wp2
        go_ret
        exact ⟨⟨fun h => (by rw [HA.out] at h; cases h), fun _ => ⟨k, hlt, rfl, HB.out⟩⟩, rfl⟩
      · have hbe : (ss[k].kd.toList == v.toList) = false := by rw [Gate.beq_toList]; simpa using he
        have HS : Hid (Gate.zD (ss.take (k + 1)) v = false) := by unfold Hid; rw [Gate.zcX ss v k hlt, hno, decide_eq_false he]; rfl
        clear he hno
        go_wp2
        go_round
        case rel => exact ⟨k + 1, by omega, by go_num, HS.out⟩
        case measure => simp [intOf]; omega
    · have HA : Hid (Gate.zD ss v = false) := by rw [<- Gate.zdV ss v k (by omega)]; exact hno
      clear hno hw
      go_wp2
      go_ret
      exact ⟨⟨fun _ => rfl, fun h => by rw [HA.out] at h; cases h⟩, rfl⟩
theorem zeI (a : Option Addr) (cap : Nat) (ss : List Shp) (v : ByteArray) (w : World) (hw : yE w a ss) (h : Gate.zD ss v = false) :
    Calls Tryz.prog 129 #[.slice a ss.length cap, .string v] w fun e w' => e = .returned (.int .i64 (-1)) /\ w' = w := by
  refine (zgo a cap ss v w hw).mono ?_
  rintro e w' ⟨⟨h1, _⟩, rfl⟩
  exact ⟨h1 h, rfl⟩
theorem zaX (a : Option Addr) (cap : Nat) (ss : List Shp) (v : ByteArray) (w : World) (hw : yE w a ss) (h : Gate.zD ss v = true) :
    Calls Tryz.prog 129 #[.slice a ss.length cap, .string v] w fun e w' => ∃ k, ∃ h : k < ss.length, e = .returned (.int .i64 (k : Nat)) /\ Gate.shapeOf ss v = ss[k] /\ w' = w := by
  refine (zgo a cap ss v w hw).mono ?_
  rintro e w' ⟨⟨_, h2⟩, rfl⟩
  obtain ⟨k, hk, he, hs⟩ := h2 h
  exact ⟨k, hk, he, hs, rfl⟩
end Go.Proofs.YtfcdmlnpfoikhaaGreat

namespace Go.Proofs.YtfcdmlnpfoikhaaGreat
structure Ob where
  kd : ByteArray
  nm : ByteArray
  tm : ByteArray
  vs : List ByteArray
  en : Bool
  hs : List ByteArray
  vr : Int
abbrev oC (o : Ob) (a a' : Option Addr) (c c' : Nat) : Array Value := #[.string o.kd, .string o.nm, .string o.tm, .slice a o.vs.length c, .bool o.en, .slice a' o.hs.length c', .int .i64 o.vr]
abbrev oZ : Array Value := #[.string ByteArray.empty, .string ByteArray.empty, .string ByteArray.empty, .slice none 0 0, .bool false, .slice none 0 0, .int .i64 0]
def Ob.cells (o : Ob) (a : Option Addr) (cap : Nat) (a' : Option Addr) (cap' : Nat) : Array Value :=
  (oC o a a' cap cap')
structure Ob.Small (o : Ob) : Prop where
  kd : o.kd.size <= maxLen
  nm : o.nm.size <= maxLen
  tm : o.tm.size <= maxLen
namespace Gate
def zab (f : Fld) (v : ByteArray) : Int := if v.size = 0 then (if f.mu then 2 else 0) else if zeu f v then 0 else 3
def zfu (fs : List Fld) (vs : List ByteArray) (i : Nat) : Int := zab (fs.getD i zaZ) (vs.getD i ByteArray.empty)
def zaE (fs : List Fld) (vs : List ByteArray) (i : Nat) : Bool := decide (zfu fs vs i = 0)
def qZ (fs : List Fld) (vs : List ByteArray) : Int × Int := match (List.range fs.length).find? (fun i => !zaE fs vs i) with | some i => (zfu fs vs i, i) | none => (0, 0)
theorem find_range {P : Nat -> Bool} {n k : Nat} (hk : k < n) (hu : up P k = true) (hp : P k = false) : (List.range n).find? (fun i => !P i) = some k := by
  rw [List.find?_eq_some_iff_getElem]
  refine ⟨by simp [hp], k, by simpa using hk, by simp, fun j hj => ?_⟩
  have := zgF hj hu
  simp [this]
theorem zgY {P : Nat -> Bool} {n : Nat} (hu : up P n = true) : (List.range n).find? (fun i => !P i) = none := by
  rw [List.find?_eq_none]
  intro x hx
  have := zgF (List.mem_range.1 hx) hu
  simp [this]
theorem zjA {fs : List Fld} {vs : List ByteArray} {k : Nat} (hk : k < fs.length) (hu : up (zaE fs vs) k = true) (hp : zaE fs vs k = false) : qZ fs vs = (zfu fs vs k, (k : Int)) := by
  unfold qZ; rw [find_range hk hu hp]
theorem zgJ {fs : List Fld} {vs : List ByteArray} (hu : up (zaE fs vs) fs.length = true) : qZ fs vs = (0, 0) := by
  unfold qZ; rw [zgY hu]
theorem ziz {fs : List Fld} {vs : List ByteArray} {k : Nat} (h1 : k < fs.length) (h2 : k < vs.length) : zfu fs vs k = zab fs[k] vs[k] := by
  unfold zfu; rw [getD_at fs k _ h1, getD_at vs k _ h2]
def yY (o : Ob) : Bool := zy o.nm && zy o.tm
def qp (o : Ob) : Bool := decide (o.hs.length <= 3) && asc o.hs
def yN (o : Ob) : Bool := decide (0 <= o.vr) && decide (o.vr <= 1000000)
def zu (ss : List Shp) (o : Ob) : Bool := zD ss o.kd && decide (o.vs.length = (shapeOf ss o.kd).fs.length)
def whole (ss : List Shp) (o : Ob) : Bool := yY o && qp o && yN o && zu ss o
def yu (ss : List Shp) (o : Ob) : Int × Int := if whole ss o = true then qZ (shapeOf ss o.kd).fs o.vs else (1, 0)
def check (ss : List Shp) (o : Ob) : Int × Int := if zP ss = true then yu ss o else (1, 0)
end Gate
end Go.Proofs.YtfcdmlnpfoikhaaGreat

namespace Go.Proofs.YtfcdmlnpfoikhaaGreat
open Go.RowKit
structure qL (w : World) (o : Ob) (a a' : Option Addr) : Prop where
  small : o.Small
  vals : zB w a o.vs
  holds : zB w a' o.hs
theorem qL.mono {w w' : World} {o : Ob} {a a' : Option Addr} (h : qL w o a a') (hb : Below w.heap.size w w') : qL w' o a a' :=
  ⟨h.small, h.vals.mono hb, h.holds.mono hb⟩
end Go.Proofs.YtfcdmlnpfoikhaaGreat

namespace Go.Proofs.YtfcdmlnpfoikhaaGreat
structure Tm where
  nm : ByteArray
  ov : ByteArray
namespace Gate
def zaP : Tm := ⟨ByteArray.empty, ByteArray.empty⟩
def yh (ts : List Tm) (v : ByteArray) : Bool := ts.any fun t => decide (t.nm = v)
def over (ts : List Tm) (v : ByteArray) : ByteArray := ((ts.find? fun t => decide (t.nm = v)).getD zaP).ov
theorem zdm (ts : List Tm) (v : ByteArray) (k : Nat) (h : k < ts.length) : yh (ts.take (k + 1)) v = (yh (ts.take k) v || decide (ts[k].nm = v)) := by
  unfold yh; rw [List.take_succ_eq_append_getElem h, List.any_append]; simp
theorem zmn (ts : List Tm) (v : ByteArray) (k : Nat) (h : k < ts.length) (e : ts[k].nm = v) : yh ts v = true := by
  unfold yh; rw [List.any_eq_true]; exact ⟨ts[k], List.getElem_mem h, by simpa using e⟩
theorem zd4 (ts : List Tm) (v : ByteArray) (k : Nat) (h : ts.length <= k) : yh (ts.take k) v = yh ts v := by rw [List.take_of_length_le h]
theorem zj5 (ts : List Tm) (v : ByteArray) (k : Nat) (h : k < ts.length) (hb : yh (ts.take k) v = false) (e : ts[k].nm = v) : over ts v = ts[k].ov := by
  unfold over
  have hn : (ts.take k).find? (fun s => decide (s.nm = v)) = none := by
    rw [List.find?_eq_none]; intro x hx; unfold yh at hb; rw [List.any_eq_false] at hb; exact hb x hx
  have hf : ts.find? (fun s => decide (s.nm = v)) = some ts[k] := by
    conv => lhs; rw [<- List.take_append_drop k ts]
    rw [List.find?_append, hn, List.drop_eq_getElem_cons h, List.find?_cons_of_pos (by simpa using e)]; rfl
  rw [hf]; rfl
theorem zga (ts : List Tm) (v : ByteArray) (hb : yh ts v = false) : over ts v = ByteArray.empty := by
  unfold over
  have hn : ts.find? (fun s => decide (s.nm = v)) = none := by
    rw [List.find?_eq_none]; intro x hx; unfold yh at hb; rw [List.any_eq_false] at hb; exact hb x hx
  rw [hn]; rfl
def under (ts : List Tm) : Nat -> ByteArray -> ByteArray -> Bool
  | 0, a, b => decide (a = b)
  | n + 1, a, b => decide (a = b) || (decide (¬ (over ts a).size = 0) && under ts n (over ts a) b)
theorem zdk (ts : List Tm) (n : Nat) (a b : ByteArray) (h : a = b) : under ts n a b = true := by
  cases n <;> simp [under, h]
theorem zjE (ts : List Tm) {a b : ByteArray} (h : ¬ a = b) : under ts 0 a b = false := by simp [under, h]
theorem zhU (ts : List Tm) (n : Nat) {a b : ByteArray} (h : ¬ a = b) (h0 : (over ts a).size = 0) : under ts (n + 1) a b = false := by simp [under, h, h0]
theorem zlr (ts : List Tm) (n : Nat) {a b : ByteArray} (h : ¬ a = b) (h0 : ¬ (over ts a).size = 0) : under ts (n + 1) a b = under ts n (over ts a) b := by simp [under, h, h0]
def yU (ts : List Tm) (i : Nat) : Bool :=
  zy (ts.getD i zaP).nm && (decide (i = 0) || less (ts.getD (i - 1) zaP).nm (ts.getD i zaP).nm) && ((ts.getD i zaP).ov.toList.isEmpty || yh ts (ts.getD i zaP).ov)
def zd1 (ts : List Tm) : Nat -> ByteArray -> ByteArray
  | 0, a => a
  | n + 1, a => zd1 ts n (over ts a)
def jh (ts : List Tm) : Nat -> ByteArray -> ByteArray
  | 0, a => a
  | n + 1, a => if a.size = 0 then a else jh ts n (over ts a)
def zdg (ts : List Tm) (t : Tm) : Bool := decide ((zd1 ts 4 t.ov).size = 0)
def zeB (ts : List Tm) (i : Nat) : Bool := zdg ts (ts.getD i zaP)
def zcz (ts : List Tm) (i : Nat) : Bool := decide ((jh ts 5 (ts.getD i zaP).nm).size = 0)
def za8 (ts : List Tm) : Bool := decide (ts.length <= 12) && (up (yU ts) ts.length && up (zeB ts) ts.length)
def zbr (ts : List Tm) (i : Nat) : Bool := yU ts i && zcz ts i
def zak (ts : List Tm) : Bool := decide (ts.length <= 12) && up (zbr ts) ts.length
theorem zb6 {P : Nat -> Bool} {n : Nat} : up P n = true ↔ ∀ i, i < n -> P i = true := by
  unfold up; rw [List.all_eq_true]; simp
theorem znG {ts : List Tm} {i : Nat} (hi : i < ts.length) (h : yU ts i = true) : zy ts[i].nm = true := by
  unfold yU at h; rw [getD_at ts i _ hi] at h; simp only [Bool.and_eq_true] at h; exact h.1.1
theorem zn7 {ts : List Tm} {i : Nat} (hi : i + 1 < ts.length) (h : yU ts (i + 1) = true) : less ts[i].nm ts[i + 1].nm = true := by
  unfold yU at h; rw [getD_at ts (i + 1) _ hi, Nat.add_sub_cancel, getD_at ts i _ (by omega)] at h; simp only [Bool.and_eq_true] at h
  simpa using h.1.2
theorem zm3 {ts : List Tm} (h : up (yU ts) ts.length = true) : ∀ (j : Nat) (hj : j < ts.length) (i : Nat) (hi : i < j), less (ts[i]'(by omega)).nm ts[j].nm = true := by
  intro j
  induction j with
  | zero => intro _ i hi; omega
  | succ j ih =>
    intro hj i hi
    have h2 := zn7 hj (zgF hj h)
    rcases Nat.lt_or_ge i j with hlt | hge
    · exact zaI _ _ _ (ih (by omega) i hlt) h2
    · have e : i = j := by omega
      subst e; exact h2
theorem over_self {ts : List Tm} (h : up (yU ts) ts.length = true) (i : Nat) (hi : i < ts.length) : over ts ts[i].nm = ts[i].ov := by
  refine zj5 ts _ i hi ?_ rfl
  unfold yh
  rw [List.any_eq_false]
  intro x hx
  obtain ⟨k, hk, rfl⟩ := List.mem_iff_getElem.1 hx
  have hk' : k < i := by simp at hk; omega
  have h1 := zm3 h i hi k hk'
  simp only [List.getElem_take, decide_eq_true_eq]
  intro e
  unfold less at h1
  rw [e, zbo] at h1
  cases h1
theorem zmT {ts : List Tm} (h : up (yU ts) ts.length = true) : over ts ByteArray.empty = ByteArray.empty := by
  apply zga
  unfold yh
  rw [List.any_eq_false]
  intro x hx
  obtain ⟨k, hk, rfl⟩ := List.mem_iff_getElem.1 hx
  have h1 := znG hk (zgF hk h)
  simp only [decide_eq_true_eq]
  intro e
  rw [e, ze7 _ rfl] at h1
  cases h1
theorem zgx {ts : List Tm} (h : over ts ByteArray.empty = ByteArray.empty) : ∀ n, zd1 ts n ByteArray.empty = ByteArray.empty
  | 0 => rfl
  | n + 1 => by unfold zd1; rw [h]; exact zgx h n
theorem zio {ts : List Tm} (h : over ts ByteArray.empty = ByteArray.empty) : ∀ n a, jh ts n a = zd1 ts n a
  | 0, _ => rfl
  | n + 1, a => by
    unfold jh
    by_cases h0 : a.size = 0
    · rw [if_pos h0, zcp a h0, zgx h]
    · rw [if_neg h0, zio h n]; rfl
theorem zjT {ts : List Tm} (h : up (yU ts) ts.length = true) (i : Nat) (hi : i < ts.length) : zcz ts i = zeB ts i := by
  unfold zcz zeB zdg
  rw [getD_at ts i _ hi, zio (zmT h), show zd1 ts 5 ts[i].nm = zd1 ts 4 (over ts ts[i].nm) from rfl, over_self h i hi]
theorem zko (ts : List Tm) : za8 ts = zak ts := by
  unfold za8 zak
  congr 1
  rw [Bool.eq_iff_iff, Bool.and_eq_true]
  constructor
  · rintro ⟨h1, h2⟩
    rw [zb6]
    intro i hi
    unfold zbr
    rw [zgF hi h1, zjT h1 i hi, zgF hi h2]; rfl
  · intro h
    rw [zb6] at h
    have h1 : up (yU ts) ts.length = true := by
      rw [zb6]; intro i hi; have := h i hi; unfold zbr at this; rw [Bool.and_eq_true] at this; exact this.1
    refine ⟨h1, ?_⟩
    rw [zb6]; intro i hi; have := h i hi; unfold zbr at this; rw [Bool.and_eq_true, zjT h1 i hi] at this; exact this.2
end Gate
end Go.Proofs.YtfcdmlnpfoikhaaGreat

namespace Go.Proofs.YtfcdmlnpfoikhaaGreat
open Go.RowKit
def Tm.cells (m : Tm) : Array Value := #[.string m.nm, .string m.ov]
structure Tm.Small (m : Tm) : Prop where
  nm : m.nm.size <= maxLen
  ov : m.ov.size <= maxLen
structure jg (w : World) (a : Option Addr) (ts : List Tm) : Prop where
  len : ts.length <= maxLen
  small : ∀ i (h : i < ts.length), ts[i].Small
  rows : ts ≠ [] -> ∃ b off, a = some ⟨b, off, none⟩ /\ b < w.heap.size /\ ∀ i (h : i < ts.length), ∀ j, j < 2 -> w.cell? ⟨b, off + i * 2 + j, none⟩ = ts[i].cells[j]?
theorem jg.mono {w w' : World} {a : Option Addr} {ts : List Tm} (h : jg w a ts) (hl : Below w.heap.size w w') : jg w' a ts :=
  ⟨h.len, h.small, fun hne => by
    obtain ⟨b, off, ha, hb, hr⟩ := h.rows hne
    exact ⟨b, off, ha, Nat.lt_of_lt_of_le hb hl.size, fun i hi j hj => (hl.cell (p := ⟨b, off + i * 2 + j, none⟩) hb).trans (hr i hi j hj)⟩⟩
theorem jg.load {w w' : World} {a : Option Addr} {ts : List Tm} (h : jg w a ts) (hl : Below w.heap.size w w') (i : Nat) (hi : i < ts.length) : ∃ b off, a = some ⟨b, off, none⟩ /\ b < w.heap.size /\
    w'.cell? ⟨b, off + i * 2, none⟩ = some (.string ts[i].nm) /\ w'.cell? ⟨b, off + i * 2 + 1, none⟩ = some (.string ts[i].ov) := by
  obtain ⟨b, off, ha, hb, hr⟩ := h.rows (by rintro rfl; simp at hi)
  have hc : ∀ j, j < 2 -> w'.cell? ⟨b, off + i * 2 + j, none⟩ = ts[i].cells[j]? := fun j hj => (hl.cell (p := ⟨b, off + i * 2 + j, none⟩) hb).trans (hr i hi j hj)
  exact ⟨b, off, ha, hb, hc 0 (by omega), hc 1 (by omega)⟩
def Tm.sz (m : Tm) : Nat := m.nm.size + m.ov.size
def zgR (ts : List Tm) : Nat := (ts.map Tm.sz).sum
def zcg (ts : List Tm) : Nat := ts.length + zgR ts
def zpj (w : World) (b o : Nat) (v0 v1 : Value) : World := (w.setCell ⟨b, o, none⟩ v0).setCell ⟨b, o + 1, none⟩ v1
def set2 (C : Array Value) (o : Nat) (v0 v1 : Value) : Array Value := (C.setIfInBounds o v0).setIfInBounds (o + 1) v1
theorem zmK {w : World} {b o : Nat} {C : Array Value} {t : TypeId} (h : w.heap[b]? = some (.cells C t)) (v0 v1 : Value) : (zpj w b o v0 v1).heap[b]? = some (.cells (set2 C o v0 v1) t) :=
  zf (zf h v0) v1
theorem zmJ {B : Nat} {a w : World} (h : Below B a w) {b : Nat} (hb : B <= b) (o : Nat) (v0 v1 : Value) : Below B a (zpj w b o v0 v1) :=
  (h.setCell hb v0).setCell hb v1
theorem znQ (C : Array Value) (o : Nat) (v0 v1 : Value) : (set2 C o v0 v1).size = C.size := by simp [set2]
theorem zoo (C : Array Value) (o i : Nat) (v0 v1 : Value) (h : i < o \/ o + 2 <= i) : (set2 C o v0 v1)[i]? = C[i]? := by
  unfold set2
  iterate 2 rw [Array.getElem?_setIfInBounds, if_neg (by omega)]
theorem zo2 (C : Array Value) (o j : Nat) (v0 v1 : Value) (hj : j < 2) (ho : o + 2 <= C.size) : (set2 C o v0 v1)[o + j]? = (#[v0, v1] : Array Value)[j]? := by
  have hc : j = 0 \/ j = 1 := by omega
  unfold set2
  rcases hc with h | h <;> subst h <;> simp [Array.getElem?_setIfInBounds] <;> omega
structure jM (ty : TypeId) (lo : Nat) (w : World) (bo : Nat) (ts : List Tm) (k : Nat) : Prop where
  low : lo <= bo
  rows : ∃ C, w.heap[bo]? = some (.cells C ty) /\ C.size = ts.length * 2 /\ ∀ i (h : i < ts.length), i < k -> ∀ j, j < 2 -> C[i * 2 + j]? = ts[i].cells[j]?
theorem jM.at {ty : TypeId} {lo : Nat} {w : World} {bo : Nat} {ts : List Tm} (h : jM ty lo w bo ts ts.length) (hs : ∀ i (h : i < ts.length), ts[i].Small) (hl : ts.length <= maxLen) : jg w (some ⟨bo, 0, none⟩) ts := by
  obtain ⟨C, hC, hsz, hr⟩ := h.rows
  refine ⟨hl, hs, fun _ => ⟨bo, 0, rfl, (Array.getElem?_eq_some_iff.1 hC).1, fun i hi j hj => ?_⟩⟩
  rw [cell_of_block hC, Nat.zero_add]
  exact hr i hi hi j hj
theorem jM.later {ty : TypeId} {lo : Nat} {w w' : World} {bo : Nat} {ts : List Tm} {k : Nat} (h : jM ty lo w bo ts k) (hb : Below w.heap.size w w') : jM ty lo w' bo ts k := by
  obtain ⟨C, hC, hsz, hr⟩ := h.rows
  exact ⟨h.low, C, (hb.block bo (Array.getElem?_eq_some_iff.1 hC).1).trans hC, hsz, hr⟩
theorem jM.put {ty : TypeId} {lo : Nat} {w : World} {bo : Nat} {ts : List Tm} {k : Nat} (h : jM ty lo w bo ts k) (hk : k < ts.length) :
    jM ty lo (zpj w bo (k * 2) (.string ts[k].nm) (.string ts[k].ov)) bo ts (k + 1) := by
  obtain ⟨C, hC, hsz, hr⟩ := h.rows
  refine ⟨h.low, _, zmK hC _ _, by rw [znQ]; exact hsz, fun i hi hik j hj => ?_⟩
  rcases Nat.lt_or_ge i k with hlt | hge
  · rw [zoo _ _ _ _ _ (by omega)]
    exact hr i hi hlt j hj
  · have e : i = k := by omega
    subst e
    rw [zo2 _ _ _ _ _ hj (by omega)]
    rfl
def zoy : Array Value := #[.string ByteArray.empty, .string ByteArray.empty]
def znu (n : Nat) : Array Value := madeCells zoy (n * 2)
end Go.Proofs.YtfcdmlnpfoikhaaGreat

namespace Go.Proofs.YtfcdmlnpfoikhaaGreat
structure Rl where
  vs : List Int
  kd : ByteArray
  tm : ByteArray
  px : ByteArray
structure Ac where
  vb : Int
  kd : ByteArray
  tm : ByteArray
  nm : ByteArray
namespace Gate
def zco (v : Int) : Bool := decide (1 <= v) && decide (v <= 5)
def jZ (vs : List Int) (i : Nat) : Bool := zco (vs.getD i 0) && (decide (i = 0) || decide (vs.getD (i - 1) 0 < vs.getD i 0))
def zbu (vs : List Int) : Bool := decide (0 < vs.length) && up (jZ vs) vs.length
def zcY (r : Rl) : Bool := (r.kd.toList.isEmpty || zy r.kd) && (r.tm.toList.isEmpty || zy r.tm)
def j3 (r : Rl) : Bool := zcY r && (zbu r.vs && (decide (r.px.size <= 16) && jR r.px))
def begins (s p : ByteArray) : Bool := decide (p.size <= s.size) && ((s.extract 0 p.size).toList == p.toList)
def meets (ts : List Tm) (r : Rl) (kd tm nm : ByteArray) : Bool := (r.kd.toList.isEmpty || decide (r.kd = kd)) && ((r.tm.toList.isEmpty || under ts 4 tm r.tm) && begins nm r.px)
end Gate
end Go.Proofs.YtfcdmlnpfoikhaaGreat

namespace Go.Proofs.YtfcdmlnpfoikhaaGreat
open Go.ChangeShapes Go.WideShapes Go.ChangeAt Go.RowKit
theorem Tryz.ziC : Tryz.prog.cellsOf 90 = 2 := by kernel_rfl
theorem Tryz.zll : Tryz.prog.cellsOf 88 = 1 := by kernel_rfl
section
variable {H : Type} {enc : TypeId × Value -> H} {w : World} {base : Nat} {spare : Nat -> Bool} {held : Bool}
theorem zlA {fuel : Nat} {cs : List Value} {x : DataW H × List MemPlace} (h : DataW.trod enc Tryz.prog w base spare held fuel 88 cs = some x) :
    ∃ a cap fs, cs = [.slice a (List.length fs) cap] /\ zY w a fs := by
  obtain ⟨a, len, cap, rfl, hm, hr⟩ := zar Tryz.underlying88 Tryz.zh0 (by omega) h
  rcases Nat.eq_zero_or_pos len with h0 | hp
  · subst h0
    exact ⟨a, cap, [], rfl, ⟨by simp [maxLen], fun h => absurd rfl h⟩⟩
  · obtain ⟨b, off, rfl, hb, hrow⟩ := hr hp
    have hf : ∀ i, i < len -> ∃ f : Fld, ∃ wa wcap, zeh w b (off + i * 11) f wa wcap := by
      intro i hi
      obtain ⟨es, n, y, hel, hcell, hy⟩ := hrow i hi
      obtain ⟨nm, kd, ls, ms, wa, wcap, ws, to, rl, mu, fx, df, wg, rfl, hS, s0, s5, s9, s10⟩ := zmv hy
      refine ⟨⟨nm, kd, ls, ms, ws, to, rl, mu, fx, df, wg⟩, wa, wcap, ⟨s0, s5, s9, s10⟩, hS, fun j hj => ?_⟩
      rw [hcell j hj]
      simp [Fld.cells]
    obtain ⟨fs, hl, hfs⟩ := zbv len hf
    refine ⟨_, cap, fs, by rw [hl], ⟨by omega, fun _ => ⟨b, off, rfl, hb, fun i hi => hfs i hi⟩⟩⟩
theorem zmo {fuel : Nat} {cs : List Value} {x : DataW H × List MemPlace} (h : DataW.trod enc Tryz.prog w base spare held fuel 90 cs = some x) :
    ∃ kd a cap fs, cs = [.string kd, .slice a (List.length fs) cap] /\ kd.size <= maxLen /\ zY w a fs := by
  have hlen : cs.length = 2 := by
    obtain ⟨_, _, _, _, hl, _, _⟩ := DataW.trod_struct Tryz.underlying90 h
    rw [hl]; exact Tryz.ziC
  match cs, hlen with
  | [c0, c1], _ =>
    have hf := jJ Tryz.underlying90 h
    obtain ⟨_, _, f0⟩ := hf 0 9 0 c0 rfl Tryz.zL rfl
    obtain ⟨_, _, f1⟩ := hf 1 88 1 c1 rfl Tryz.zll rfl
    obtain ⟨kd, e0, _, s0⟩ := DataW.trod_string Tryz.underlying9 f0
    obtain ⟨a, cap, fs, e1, hF⟩ := zlA f1
    simp only [List.cons.injEq, and_true] at e0 e1
    subst e0 e1
    exact ⟨kd, a, cap, fs, rfl, s0, hF⟩
theorem zlU {fuel : Nat} {cs : List Value} {x : DataW H × List MemPlace} (h : DataW.trod enc Tryz.prog w base spare held fuel 22 cs = some x) :
    ∃ a cap ss, cs = [.slice a (List.length ss) cap] /\ yE w a ss := by
  obtain ⟨a, len, cap, rfl, hm, hr⟩ := zar Tryz.underlying22 Tryz.ziC (by omega) h
  rcases Nat.eq_zero_or_pos len with h0 | hp
  · subst h0
    exact ⟨a, cap, [], rfl, ⟨by simp [maxLen], fun h => absurd rfl h⟩⟩
  · obtain ⟨b, off, rfl, hb, hrow⟩ := hr hp
    have hf : ∀ i, i < len -> ∃ s : Shp, ∃ fa fcap, zjK w b (off + i * 2) s fa fcap := by
      intro i hi
      obtain ⟨es, n, y, hel, hcell, hy⟩ := hrow i hi
      obtain ⟨kd, fa, fcap, fs, rfl, s0, hF⟩ := zmo hy
      exact ⟨⟨kd, fs⟩, fa, fcap, s0, hF, hcell 0 (by omega), hcell 1 (by omega)⟩
    obtain ⟨ss, hl, hss⟩ := zbv len hf
    exact ⟨_, cap, ss, by rw [hl], ⟨by omega, fun _ => ⟨b, off, rfl, hb, fun i hi => hss i hi⟩⟩⟩
end
end Go.Proofs.YtfcdmlnpfoikhaaGreat

namespace Go.Proofs.YtfcdmlnpfoikhaaGreat
open Go.ChangeShapes Go.WideShapes Go.ChangeAt Go.RowKit
theorem Tryz.zjH : Tryz.prog.cellsOf 93 = 6 := by kernel_rfl
section
variable {H : Type} {enc : TypeId × Value -> H} {w : World} {base : Nat} {spare : Nat -> Bool} {held : Bool}
theorem znL {fuel : Nat} {cs : List Value} {x : DataW H × List MemPlace} (h : DataW.trod enc Tryz.prog w base spare held fuel 93 cs = some x) :
    ∃ m : Mnd, cs = m.cells.toList /\ m.Small := by
  have hlen : cs.length = 6 := by
    obtain ⟨_, _, _, _, hl, _, _⟩ := DataW.trod_struct Tryz.underlying93 h
    rw [hl]; exact Tryz.zjH
  match cs, hlen with
  | [c0, c1, c2, c3, c4, c5], _ =>
    have hf := jJ Tryz.underlying93 h
    obtain ⟨_, _, f0⟩ := hf 0 9 0 c0 rfl Tryz.zL rfl
    obtain ⟨_, _, f1⟩ := hf 1 9 1 c1 rfl Tryz.zL rfl
    obtain ⟨_, _, f2⟩ := hf 2 9 2 c2 rfl Tryz.zL rfl
    obtain ⟨_, _, f3⟩ := hf 3 9 3 c3 rfl Tryz.zL rfl
    obtain ⟨_, _, f4⟩ := hf 4 9 4 c4 rfl Tryz.zL rfl
    obtain ⟨_, _, f5⟩ := hf 5 9 5 c5 rfl Tryz.zL rfl
    obtain ⟨x0, e0, _, s0⟩ := DataW.trod_string Tryz.underlying9 f0
    obtain ⟨x1, e1, _, s1⟩ := DataW.trod_string Tryz.underlying9 f1
    obtain ⟨x2, e2, _, s2⟩ := DataW.trod_string Tryz.underlying9 f2
    obtain ⟨x3, e3, _, s3⟩ := DataW.trod_string Tryz.underlying9 f3
    obtain ⟨x4, e4, _, s4⟩ := DataW.trod_string Tryz.underlying9 f4
    obtain ⟨x5, e5, _, s5⟩ := DataW.trod_string Tryz.underlying9 f5
    simp only [List.cons.injEq, and_true] at e0 e1 e2 e3 e4 e5
    subst e0 e1 e2 e3 e4 e5
    exact ⟨⟨x0, x1, x2, x3, x4, x5⟩, rfl, s0, s1, s2, s3, s4, s5⟩
theorem zmd {fuel : Nat} {cs : List Value} {x : DataW H × List MemPlace} (h : DataW.trod enc Tryz.prog w base spare held fuel 23 cs = some x) :
    ∃ a cap ms, cs = [.slice a (List.length ms) cap] /\ qw w a ms := by
  obtain ⟨a, len, cap, rfl, hm, hr⟩ := zar Tryz.underlying23 Tryz.zjH (by omega) h
  rcases Nat.eq_zero_or_pos len with h0 | hp
  · subst h0
    exact ⟨a, cap, [], rfl, ⟨by simp [maxLen], fun i h => absurd h (by simp), fun h => absurd rfl h⟩⟩
  · obtain ⟨b, off, rfl, hb, hrow⟩ := hr hp
    have hf : ∀ i, i < len -> ∃ m : Mnd, m.Small /\ ∀ j, j < 6 -> w.cell? ⟨b, off + i * 6 + j, none⟩ = m.cells[j]? := by
      intro i hi
      obtain ⟨es, n, y, hel, hcell, hy⟩ := hrow i hi
      obtain ⟨m, rfl, hs⟩ := znL hy
      exact ⟨m, hs, fun j hj => by rw [hcell j hj]; simp⟩
    obtain ⟨ms, hl, hms⟩ := zbv len hf
    exact ⟨_, cap, ms, by rw [hl], ⟨by omega, fun i hi => (hms i hi).1, fun _ => ⟨b, off, rfl, hb, fun i hi => (hms i hi).2⟩⟩⟩
end
end Go.Proofs.YtfcdmlnpfoikhaaGreat
