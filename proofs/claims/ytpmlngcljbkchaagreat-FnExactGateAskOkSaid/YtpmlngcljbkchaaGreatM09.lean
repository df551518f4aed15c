import Derived.Test.YtpmlngcljbkchaaGreatM04
import Derived.Test.YtpmlngcljbkchaaGreatM06
import Derived.Test.YtpmlngcljbkchaaGreatM01
import Derived.WalkKit
import Derived.Test.YtpmlngcljbkchaaGreatM07
namespace Go.Proofs.YtpmlngcljbkchaaGreat
open Go.RowKit

def ShapeRes (ss : List Shp) (v : ByteArray) (e : Ending) : Prop :=
  (Gate.hasKind ss v = false → e = .returned (.int .i64 (-1))) ∧ (Gate.hasKind ss v = true → ∃ k, ∃ h : k < ss.length, e = .returned (.int .i64 (k : Nat)) ∧ Gate.shapeOf ss v = ss[k])

set_option maxHeartbeats 400000 in
theorem l1Shape_any (a : Option Addr) (cap : Nat) (ss : List Shp) (v : ByteArray) (w : World) (hw : ShpsAt w a ss) :
    Calls Tryz.prog 41 #[.slice a ss.length cap, .string v] w fun e w' => ShapeRes ss v e ∧ w' = w := by
  have hl := hw.len
  unfold maxLen at hl
  go_enter Tryz.func41, Tryz.ntmps41
  go_wp2
  go_loop [5] (fun i => ∃ k : Nat, k ≤ ss.length ∧ i = .int .i64 k ∧ Gate.hasKind (ss.take k) v = false) (fun i => ss.length - (intOf i).toNat)
  case atStart => exact ⟨0, Nat.zero_le _, rfl, rfl⟩
  case round =>
    obtain ⟨k, hk, rfl, hno⟩ := hrel
    by_cases hlt : k < ss.length
    · obtain ⟨b, off, rfl, hb, hr⟩ := hw.rows (by rintro rfl; simp at hlt)
      obtain ⟨fa, fcap, hs⟩ := hr k hlt
      have hck := hs.kind
      clear hw hr hs
      by_cases he : ss[k].kd = v
      · have hbe : (ss[k].kd.toList == v.toList) = true := by rw [Gate.beq_toList]; simpa using he
        have HA : Hid (Gate.hasKind ss v = true) := Gate.hasKind_at ss v k hlt he
        have HB : Hid (Gate.shapeOf ss v = ss[k]) := Gate.shapeOf_at ss v k hlt hno he
        clear he hno
        go_wp2
        go_ret
        exact ⟨⟨fun h => (by rw [HA.out] at h; cases h), fun _ => ⟨k, hlt, rfl, HB.out⟩⟩, rfl⟩
      · have hbe : (ss[k].kd.toList == v.toList) = false := by rw [Gate.beq_toList]; simpa using he
        have HS : Hid (Gate.hasKind (ss.take (k + 1)) v = false) := by unfold Hid; rw [Gate.hasKind_snoc ss v k hlt, hno, decide_eq_false he]; rfl
        clear he hno
        go_wp2
        go_round
        case rel => exact ⟨k + 1, by omega, by go_num, HS.out⟩
        case measure => simp [intOf]; omega
    · have HA : Hid (Gate.hasKind ss v = false) := by rw [← Gate.hasKind_all ss v k (by omega)]; exact hno
      clear hno hw
      go_wp2
      go_ret
      exact ⟨⟨fun _ => rfl, fun h => by rw [HA.out] at h; cases h⟩, rfl⟩

theorem l1Shape_no (a : Option Addr) (cap : Nat) (ss : List Shp) (v : ByteArray) (w : World) (hw : ShpsAt w a ss) (h : Gate.hasKind ss v = false) :
    Calls Tryz.prog 41 #[.slice a ss.length cap, .string v] w fun e w' => e = .returned (.int .i64 (-1)) ∧ w' = w := by
  refine (l1Shape_any a cap ss v w hw).mono ?_
  rintro e w' ⟨⟨h1, _⟩, rfl⟩
  exact ⟨h1 h, rfl⟩

theorem l1Shape_yes (a : Option Addr) (cap : Nat) (ss : List Shp) (v : ByteArray) (w : World) (hw : ShpsAt w a ss) (h : Gate.hasKind ss v = true) :
    Calls Tryz.prog 41 #[.slice a ss.length cap, .string v] w fun e w' => ∃ k, ∃ h : k < ss.length, e = .returned (.int .i64 (k : Nat)) ∧ Gate.shapeOf ss v = ss[k] ∧ w' = w := by
  refine (l1Shape_any a cap ss v w hw).mono ?_
  rintro e w' ⟨⟨_, h2⟩, rfl⟩
  obtain ⟨k, hk, he, hs⟩ := h2 h
  exact ⟨k, hk, he, hs, rfl⟩

end Go.Proofs.YtpmlngcljbkchaaGreat

namespace Go.Proofs.YtpmlngcljbkchaaGreat
open Go.RowKit

/-- A map from ints to ints that lies in a block. -/
structure IntMap (w : World) (r : Nat) (f : Int → Option Int) : Prop where
  ex : ∃ es clock, w.heap[r]? = some (.map es clock) ∧ (∀ x ∈ es.toList, ∃ k v, x.key = .int .i64 k ∧ x.val = .int .i64 v ∧ f k = some v) ∧ (∀ k v, f k = some v → ∃ x ∈ es.toList, x.key = .int .i64 k) ∧ ∀ (i j : Nat) (x y : MapEntry), es[i]? = some x → es[j]? = some y → x.key = y.key → i = j

theorem IntMap.mono {w w' : World} {r : Nat} {f : Int → Option Int} (h : IntMap w r f) (hb : w'.heap[r]? = w.heap[r]?) : IntMap w' r f := by
  obtain ⟨es, clock, h1, h2⟩ := h.ex
  exact ⟨es, clock, hb.trans h1, h2⟩

theorem IntMap.lt {w : World} {r : Nat} {f : Int → Option Int} (h : IntMap w r f) : r < w.heap.size := by
  obtain ⟨es, clock, h1, _⟩ := h.ex
  exact (Array.getElem?_eq_some_iff.1 h1).1

theorem isKey_int (k : Int) : MapKept.IsKey (.int .i64) (.int .i64 k) := by simp [MapKept.IsKey]

theorem IntMap.keys {es : Array MapEntry} {f : Int → Option Int} (h : ∀ x ∈ es.toList, ∃ k v, x.key = .int .i64 k ∧ x.val = .int .i64 v ∧ f k = some v) : ∀ x ∈ es.toList, MapKept.IsKey (.int .i64) x.key := by
  intro x hx
  obtain ⟨k, v, h1, _⟩ := h x hx
  rw [h1]; exact isKey_int k

theorem IntMap.look {w : World} {r : Nat} {f : Int → Option Int} (h : IntMap w r f) (k : Int) :
    (Instr.lookup 158 (.map (some r)) (.int .i64 k) true).run Tryz.prog w = .ok (.tuple #[.int .i64 ((f k).getD 0), .bool (f k).isSome]) w := by
  obtain ⟨es, clock, hb, h1, h2, h3⟩ := h.ex
  rcases MapKept.findNow_spec (isKey_int k) es.toList 0 (IntMap.keys h1) with ⟨g1, g2⟩ | ⟨j, e, g1, g2, g3⟩
  · have hn : f k = none := by
      cases hf : f k with
      | none => rfl
      | some v =>
        obtain ⟨x, hx, hk⟩ := h2 k v hf
        exact absurd hk (g2 x hx)
    rw [hn]
    exact run_lookup_miss Tryz.underlying158 Tryz.underlying3 (.int .i64 k) (.int .i64 0) (isKey_int k) es clock g1 w (by kernel_rfl) r hb
  · obtain ⟨k', v', e1, e2, e3⟩ := h1 e (List.mem_of_getElem? g2)
    rw [g3] at e1
    cases e1
    rw [e3]
    rw [e2] at g1
    exact run_lookup_hit Tryz.underlying158 Tryz.underlying3 (.int .i64 k) (.int .i64 v') (isKey_int k) es clock _ g1 w r hb

/-- What a write into the map leaves: all other blocks. -/
structure MapPut (r : Nat) (w w' : World) : Prop where
  os : w'.os = w.os
  tape : w'.tape = w.tape
  output : w'.output = w.output
  size : w'.heap.size = w.heap.size
  out : ∀ k, k ≠ r → w'.heap[k]? = w.heap[k]?

theorem IntMap.upd {w : World} {r : Nat} {f : Int → Option Int} (h : IntMap w r f) (k v : Int) :
    ∃ w', (Instr.mapUpdate 158 (.map (some r)) (.int .i64 k) (.int .i64 v)).run Tryz.prog w = .ok () w' ∧ IntMap w' r (fun q => if q = k then some v else f q) ∧ MapPut r w w' := by
  obtain ⟨es, clock, hb, h1, h2, h3⟩ := h.ex
  have hm := Tryz.underlying158
  have hd := Tryz.underlying3
  rcases MapKept.findNow_spec (isKey_int k) es.toList 0 (IntMap.keys h1) with ⟨g1, g2⟩ | ⟨j, e, g1, g2, g3⟩
  · refine ⟨{ w with heap := w.heap.setIfInBounds r (.map (es.push ⟨.int .i64 k, .int .i64 v, clock⟩) (clock + 1)) }, ?_, ⟨_, _, (MapKept.heap_set hb).1, ?_, ?_, ?_⟩, rfl, rfl, rfl, by simp, fun q hq => (MapKept.heap_set hb).2 q hq⟩
    · simp [Instr.mapUpdate, run_underlying hm, MapKept.run_getObj_map hb, MapKept.run_checkKey hd (isKey_int k), MapKept.run_findKey hd g1, MapKept.run_setObj_map _ hb, Result.andThen]
    · intro x hx
      rw [Array.toList_push, List.mem_append, List.mem_singleton] at hx
      rcases hx with hx | rfl
      · obtain ⟨k', v', e1, e2, e3⟩ := h1 x hx
        refine ⟨k', v', e1, e2, ?_⟩
        have : k' ≠ k := by rintro rfl; exact g2 x hx e1
        simp only [if_neg this]; exact e3
      · exact ⟨k, v, rfl, rfl, by simp⟩
    · intro q u hq
      by_cases e : q = k
      · subst e
        exact ⟨⟨.int .i64 q, .int .i64 v, clock⟩, by simp, rfl⟩
      · rw [if_neg e] at hq
        obtain ⟨x, hx, hk⟩ := h2 q u hq
        exact ⟨x, by simp [Array.toList_push]; exact Or.inl (by simpa using hx), hk⟩
    · intro i j' x y hx hy hxy
      rw [Array.getElem?_push] at hx hy
      by_cases e1 : i = es.size
      · by_cases e2 : j' = es.size
        · omega
        · rw [if_pos e1] at hx
          rw [if_neg e2] at hy
          have hm : y ∈ es.toList := by rw [← Array.mem_def]; exact Array.mem_of_getElem? hy
          cases hx
          exact absurd hxy.symm (g2 y hm)
      · by_cases e2 : j' = es.size
        · rw [if_neg e1] at hx
          rw [if_pos e2] at hy
          have hm : x ∈ es.toList := by rw [← Array.mem_def]; exact Array.mem_of_getElem? hx
          cases hy
          exact absurd hxy (g2 x hm)
        · rw [if_neg e1] at hx
          rw [if_neg e2] at hy
          exact h3 i j' x y hx hy hxy
  · have hj : es[j]? = some e := by simpa using g2
    refine ⟨{ w with heap := w.heap.setIfInBounds r (.map (es.modify j fun x => { x with key := .int .i64 k, val := .int .i64 v }) clock) }, ?_, ⟨_, _, (MapKept.heap_set hb).1, ?_, ?_, ?_⟩, rfl, rfl, rfl, by simp, fun q hq => (MapKept.heap_set hb).2 q hq⟩
    · simp [Instr.mapUpdate, run_underlying hm, MapKept.run_getObj_map hb, MapKept.run_checkKey hd (isKey_int k), MapKept.run_findKey hd g1, hj, g3, MapKept.run_keyThatStays (isKey_int k), MapKept.run_setObj_map _ hb, Result.andThen]
    · intro x hx
      obtain ⟨i, hi, rfl⟩ := List.mem_iff_getElem.1 hx
      have hi' : i < es.size := by simpa using hi
      simp only [Array.getElem_toList, Array.getElem_modify]
      by_cases e' : j = i
      · subst e'
        simp only [if_true]
        exact ⟨k, v, rfl, rfl, by simp⟩
      · simp only [if_neg e']
        obtain ⟨k', v', e1, e2, e3⟩ := h1 es[i] (by simp)
        have ek : k' ≠ k := by
          rintro rfl
          exact e' (h3 j i e es[i] hj (Array.getElem?_eq_getElem hi') (g3.trans e1.symm))
        exact ⟨k', v', e1, e2, by rw [if_neg ek]; exact e3⟩
    · intro q u hq
      have hj' : j < es.size := (Array.getElem?_eq_some_iff.1 hj).1
      by_cases e' : q = k
      · subst e'
        refine ⟨(es.modify j fun x => { x with key := .int .i64 q, val := .int .i64 v })[j]'(by simpa using hj'), ?_, ?_⟩
        · rw [← Array.mem_def]; exact Array.getElem_mem _
        · rw [Array.getElem_modify]; simp
      · rw [if_neg e'] at hq
        obtain ⟨x, hx, hk⟩ := h2 q u hq
        obtain ⟨i, hi, rfl⟩ := List.mem_iff_getElem.1 hx
        have hi' : i < es.size := by simpa using hi
        have hij : j ≠ i := by
          rintro rfl
          rw [Array.getElem_toList] at hk
          rw [Array.getElem?_eq_getElem hi'] at hj
          cases hj
          rw [g3] at hk
          cases hk
          exact e' rfl
        refine ⟨(es.modify j fun x => { x with key := .int .i64 k, val := .int .i64 v })[i]'(by simpa using hi'), ?_, ?_⟩
        · rw [← Array.mem_def]; exact Array.getElem_mem _
        · rw [Array.getElem_modify, if_neg hij]; simpa using hk
    · have hkey : ∀ (i : Nat) (x : MapEntry), (es.modify j fun x => { x with key := .int .i64 k, val := .int .i64 v })[i]? = some x → ∃ y, es[i]? = some y ∧ x.key = y.key := by
        intro i x hx
        obtain ⟨hi, rfl⟩ := Array.getElem?_eq_some_iff.1 hx
        have hi' : i < es.size := by simpa using hi
        refine ⟨es[i], Array.getElem?_eq_getElem hi', ?_⟩
        rw [Array.getElem_modify]
        by_cases e' : j = i
        · subst e'
          rw [Array.getElem?_eq_getElem hi'] at hj
          cases hj
          simp [g3]
        · rw [if_neg e']
      intro i j' x y hx hy hxy
      obtain ⟨x', hx', ex⟩ := hkey i x hx
      obtain ⟨y', hy', ey⟩ := hkey j' y hy
      exact h3 i j' x' y' hx' hy' (ex.symm.trans (hxy.trans ey))

end Go.Proofs.YtpmlngcljbkchaaGreat

namespace Go.Proofs.YtpmlngcljbkchaaGreat
open Go.RowKit

theorem Tryz.infoString : (Tryz.prog.info? 9).map (fun i => (i.zero, i.size, i.bytes)) = some (some (.string ByteArray.empty), 1, 16) := by kernel_rfl

theorem two_blocks (w : World) (o1 o2 : Obj) : ((w.alloc o1).alloc o2).heap[w.heap.size]? = some o1 ∧ ((w.alloc o1).alloc o2).heap[w.heap.size + 1]? = some o2 := by
  refine ⟨(Below.heap_alloc _ _ _ (by simp)).trans (alloc_at _ _), ?_⟩
  have h := alloc_at (w.alloc o1) o2
  simpa using h

end Go.Proofs.YtpmlngcljbkchaaGreat

namespace Go.Proofs.YtpmlngcljbkchaaGreat
open Go.RowKit

theorem ret_two {a b : Int} {p q : Bool} (h : a = b) (h2 : p = q) : Ending.returned (.tuple #[.int .i64 a, .bool p]) = .returned (.tuple #[.int .i64 b, .bool q]) := by rw [h, h2]
def decNum (s : ByteArray) : Int := if Gate.decOk s = true then Gate.decS s else 0

set_option maxHeartbeats 800000 in
theorem decimalOf_loop (s : ByteArray) (w : World) (h1 : 1 ≤ s.size) (h7 : s.size ≤ 7) (hz : s.size ≤ 1 ∨ ¬ (s[0].toNat : Int) = 48) :
    Calls Tryz.prog 157 #[.string s] w fun e w' => e = .returned (.tuple #[.int .i64 (decNum s), .bool (Gate.decOk s)]) ∧ w' = w := by
  have HF : Hid (Gate.decOk s = Gate.allDigit s) := Gate.decOk_all s h1 h7 hz
  have hne : s.toList.isEmpty = false := by rw [Gate.isEmpty_of_size]; exact decide_eq_false (by omega)
  rcases (show (¬ (s[0].toNat : Int) = 48) ∨ (s.size ≤ 1 ∧ (s[0].toNat : Int) = 48) by rcases hz with h | h <;> omega) with hz0 | ⟨hone, hz0⟩
  all_goals
    clear hz
    first
      | (have hz1 : ((s[0].toNat : Int) == 48) = true := by simpa using hz0)
      | (have hz1 : ((s[0].toNat : Int) == 48) = false := by simpa using hz0)
    clear hz0
    go_enter Tryz.func157, Tryz.ntmps157
    go_wp2
    go_loop [4, 25] (fun n i => ∃ k : Nat, k ≤ s.size ∧ i = .int .i64 k ∧ (s.data.toList.take k).all Gate.digit = true ∧ n = .int .i64 (Gate.dec (s.data.toList.take k))) (fun _ i => s.size - (intOf i).toNat)
    case atStart => exact ⟨0, Nat.zero_le _, rfl, rfl, rfl⟩
    case round =>
      obtain ⟨k, hk, rfl, hall, rfl⟩ := hrel
      have hlen : (s.data.toList.take k).length ≤ k := List.length_take_le _ _
      obtain ⟨hd0, hd1⟩ := Gate.dec_bound _ hall k hlen
      by_cases hlt : k < s.size
      · have hp := pow_small k (by omega)
        have hd2 : Gate.dec (s.data.toList.take k) < 10000000 := by omega
        clear hp hd1 hlen
        have HS : Hid ((s.data.toList.take (k + 1)).all Gate.digit = (true && Gate.digit s[k])) := by rw [Gate.all_snoc _ s k hlt, hall]; rfl
        have HD : Hid (Gate.dec (s.data.toList.take (k + 1)) = Gate.dec (s.data.toList.take k) * 10 + ((s[k].toNat : Int) - 48)) := by rw [Gate.take_snoc s k hlt]; exact Gate.dec_snoc _ _
        have HN : Hid (Gate.digit s[k] = false → Gate.allDigit s = false) := fun h => Gate.all_not Gate.digit s k hlt h
        clear hall
        by_cases hd : 48 ≤ (s[k].toNat : Int) ∧ (s[k].toNat : Int) ≤ 57
        · have HC : Hid (Gate.digit s[k] = true) := by simp [Gate.digit, Hid]; omega
          obtain ⟨h48, h57⟩ := hd
          go_wp2_with (go_at_call 100; refine (isDigit_yes _ _ h48 h57).mono ?_; rintro e w' ⟨rfl, rfl⟩)
          go_round
          case rel => exact ⟨k + 1, by omega, by go_num, by rw [HS.out, HC.out]; rfl, by rw [HD.out]⟩
          case measure => simp [intOf]; omega
        · have HC : Hid (Gate.digit s[k] = false) := by simp [Gate.digit, Hid]; omega
          have HDD : Hid (¬ (48 ≤ (s[k].toNat : Int) ∧ (s[k].toNat : Int) ≤ 57)) := hd
          clear hd
          go_wp2_with (go_at_call 100; refine (isDigit_no _ _ HDD.out).mono ?_; rintro e w' ⟨rfl, rfl⟩)
          go_ret2
          exact ⟨ret_two (by unfold decNum; rw [HF.out, HN.out HC.out]; rfl) (by rw [HF.out, HN.out HC.out]), rfl⟩
      · have HA : Hid (Gate.allDigit s = true) := by unfold Gate.allDigit Hid; rw [← Gate.take_all s k (by omega)]; exact hall
        have HB : Hid (Gate.dec (s.data.toList.take k) = Gate.decS s) := by rw [Gate.take_all s k (by omega)]; rfl
        clear hall hd0 hd1 hlen
        go_wp2
        go_ret2
        exact ⟨ret_two (by unfold decNum; rw [HF.out, HA.out, HB.out]; rfl) (by rw [HF.out, HA.out]), rfl⟩

set_option maxHeartbeats 400000 in
theorem decimalOf_any (s : ByteArray) (w : World) (hs : s.size ≤ maxLen) :
    Calls Tryz.prog 157 #[.string s] w fun e w' => e = .returned (.tuple #[.int .i64 (decNum s), .bool (Gate.decOk s)]) ∧ w' = w := by
  unfold maxLen at hs
  by_cases h0 : s.size = 0
  · rw [Gate.empty_of_size s h0]
    go_enter Tryz.func157, Tryz.ntmps157
    go_wp2
    go_ret2
    exact ⟨rfl, rfl⟩
  have hne : s.toList.isEmpty = false := by rw [Gate.isEmpty_of_size]; simp [h0]
  by_cases h7 : s.size ≤ 7
  · by_cases hz : 1 < s.size ∧ (s[0].toNat : Int) = 48
    · obtain ⟨hm, hz0⟩ := hz
      have HF : Hid (Gate.decOk s = false) := Gate.decOk_no_zero s hm hz0
      have hz1 : ((s[0].toNat : Int) == 48) = true := by simpa using hz0
      clear hz0
      go_enter Tryz.func157, Tryz.ntmps157
      go_wp2
      go_ret2
      exact ⟨ret_two (by unfold decNum; rw [HF.out]; rfl) HF.out.symm, rfl⟩
    · exact decimalOf_loop s w (by omega) h7 (by omega)
  · have HF : Hid (Gate.decOk s = false) := Gate.decOk_no_len s (by omega)
    go_enter Tryz.func157, Tryz.ntmps157
    go_wp2
    go_ret2
    exact ⟨ret_two (by unfold decNum; rw [HF.out]; rfl) HF.out.symm, rfl⟩

end Go.Proofs.YtpmlngcljbkchaaGreat

namespace Go.Proofs.YtpmlngcljbkchaaGreat
open Go.ChangeShapes Go.WideShapes Go.ChangeAt Go.RowKit

theorem Tryz.cellsShape : Tryz.prog.cellsOf 69 = 2 := by kernel_rfl
theorem Tryz.cellsFields : Tryz.prog.cellsOf 67 = 1 := by kernel_rfl

section
variable {H : Type} {enc : TypeId × Value → H} {w : World} {base : Nat} {spare : Nat → Bool} {held : Bool}

theorem read_fields {fuel : Nat} {cs : List Value} {x : DataW H × List MemPlace} (h : DataW.trod enc Tryz.prog w base spare held fuel 67 cs = some x) :
    ∃ a cap fs, cs = [.slice a (List.length fs) cap] ∧ FldsAt w a fs := by
  obtain ⟨a, len, cap, rfl, hm, hr⟩ := read_rows Tryz.underlying67 Tryz.cellsField (by omega) h
  rcases Nat.eq_zero_or_pos len with h0 | hp
  · subst h0
    exact ⟨a, cap, [], rfl, ⟨by simp [maxLen], fun h => absurd rfl h⟩⟩
  · obtain ⟨b, off, rfl, hb, hrow⟩ := hr hp
    have hf : ∀ i, i < len → ∃ f : Fld, ∃ wa wcap, FldIn w b (off + i * 11) f wa wcap := by
      intro i hi
      obtain ⟨es, n, y, hel, hcell, hy⟩ := hrow i hi
      obtain ⟨nm, kd, ls, ms, wa, wcap, ws, to, rl, mu, fx, df, wg, rfl, hS, s0, s5, s9, s10⟩ := read_field hy
      refine ⟨⟨nm, kd, ls, ms, ws, to, rl, mu, fx, df, wg⟩, wa, wcap, ⟨s0, s5, s9, s10⟩, hS, fun j hj => ?_⟩
      rw [hcell j hj]
      simp [Fld.cells]
    obtain ⟨fs, hl, hfs⟩ := list_of len hf
    refine ⟨_, cap, fs, by rw [hl], ⟨by omega, fun _ => ⟨b, off, rfl, hb, fun i hi => hfs i hi⟩⟩⟩

theorem read_shape {fuel : Nat} {cs : List Value} {x : DataW H × List MemPlace} (h : DataW.trod enc Tryz.prog w base spare held fuel 69 cs = some x) :
    ∃ kd a cap fs, cs = [.string kd, .slice a (List.length fs) cap] ∧ kd.size ≤ maxLen ∧ FldsAt w a fs := by
  have hlen : cs.length = 2 := by
    obtain ⟨_, _, _, _, hl, _, _⟩ := DataW.trod_struct Tryz.underlying69 h
    rw [hl]; exact Tryz.cellsShape
  match cs, hlen with
  | [c0, c1], _ =>
    have hf := field_one Tryz.underlying69 h
    obtain ⟨_, _, f0⟩ := hf 0 9 0 c0 rfl Tryz.cellsString rfl
    obtain ⟨_, _, f1⟩ := hf 1 67 1 c1 rfl Tryz.cellsFields rfl
    obtain ⟨kd, e0, _, s0⟩ := DataW.trod_string Tryz.underlying9 f0
    obtain ⟨a, cap, fs, e1, hF⟩ := read_fields f1
    simp only [List.cons.injEq, and_true] at e0 e1
    subst e0 e1
    exact ⟨kd, a, cap, fs, rfl, s0, hF⟩

theorem read_shapes {fuel : Nat} {cs : List Value} {x : DataW H × List MemPlace} (h : DataW.trod enc Tryz.prog w base spare held fuel 22 cs = some x) :
    ∃ a cap ss, cs = [.slice a (List.length ss) cap] ∧ ShpsAt w a ss := by
  obtain ⟨a, len, cap, rfl, hm, hr⟩ := read_rows Tryz.underlying22 Tryz.cellsShape (by omega) h
  rcases Nat.eq_zero_or_pos len with h0 | hp
  · subst h0
    exact ⟨a, cap, [], rfl, ⟨by simp [maxLen], fun h => absurd rfl h⟩⟩
  · obtain ⟨b, off, rfl, hb, hrow⟩ := hr hp
    have hf : ∀ i, i < len → ∃ s : Shp, ∃ fa fcap, ShpIn w b (off + i * 2) s fa fcap := by
      intro i hi
      obtain ⟨es, n, y, hel, hcell, hy⟩ := hrow i hi
      obtain ⟨kd, fa, fcap, fs, rfl, s0, hF⟩ := read_shape hy
      exact ⟨⟨kd, fs⟩, fa, fcap, s0, hF, hcell 0 (by omega), hcell 1 (by omega)⟩
    obtain ⟨ss, hl, hss⟩ := list_of len hf
    exact ⟨_, cap, ss, by rw [hl], ⟨by omega, fun _ => ⟨b, off, rfl, hb, fun i hi => hss i hi⟩⟩⟩

end

end Go.Proofs.YtpmlngcljbkchaaGreat
