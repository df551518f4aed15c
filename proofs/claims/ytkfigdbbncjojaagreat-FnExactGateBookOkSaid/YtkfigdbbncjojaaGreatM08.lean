import Derived.Test.YtkfigdbbncjojaaGreatM05
import Derived.Test.YtkfigdbbncjojaaGreatM03
import Derived.Test.YtkfigdbbncjojaaGreatM01
import Derived.Deep.OwnRows
import Derived.MapKept
import Derived.WalkKit
namespace Go.Proofs.YtkfigdbbncjojaaGreat
open Go.RowKit
structure zaS (fs : List Fld) : Prop where
  small : ∀ i (h : i < fs.length), fs[i].Small /\ fs[i].ws.length <= maxLen /\ ∀ s ∈ fs[i].ws, s.size <= maxLen
theorem zW.smalls {w : World} {a : Option Addr} {fs : List Fld} (h : zW w a fs) : zaS fs :=
  ⟨fun i hi => by
    obtain ⟨b, off, _, _, hr⟩ := h.rows (by rintro rfl; simp at hi)
    obtain ⟨wa, wcap, hf⟩ := hr i hi
    exact ⟨hf.small, hf.strs.len, hf.strs.small⟩⟩
structure zcf (ss : List Shp) : Prop where
  small : ∀ i (h : i < ss.length), ss[i].kd.size <= maxLen /\ ss[i].fs.length <= maxLen /\ zaS ss[i].fs
theorem yB.smalls {w : World} {a : Option Addr} {ss : List Shp} (h : yB w a ss) : zcf ss :=
  ⟨fun i hi => by
    obtain ⟨b, off, _, _, hr⟩ := h.rows (by rintro rfl; simp at hi)
    obtain ⟨fa, fcap, hs⟩ := hr i hi
    exact ⟨hs.small, hs.flds.len, hs.flds.smalls⟩⟩
end Go.Proofs.YtkfigdbbncjojaaGreat

namespace Go.Proofs.YtkfigdbbncjojaaGreat
open Go.RowKit
structure zan (w : World) (r : Nat) (f : Int -> Option Int) : Prop where
  ex : ∃ es clock, w.heap[r]? = some (.map es clock) /\ (∀ x ∈ es.toList, ∃ k v, x.key = .int .i64 k /\ x.val = .int .i64 v /\ f k = some v) /\ (∀ k v, f k = some v -> ∃ x ∈ es.toList, x.key = .int .i64 k) /\ ∀ (i j : Nat) (x y : MapEntry), es[i]? = some x -> es[j]? = some y -> x.key = y.key -> i = j
theorem zan.mono {w w' : World} {r : Nat} {f : Int -> Option Int} (h : zan w r f) (hb : w'.heap[r]? = w.heap[r]?) : zan w' r f := by
  obtain ⟨es, clock, h1, h2⟩ := h.ex
  exact ⟨es, clock, hb.trans h1, h2⟩
theorem zan.lt {w : World} {r : Nat} {f : Int -> Option Int} (h : zan w r f) : r < w.heap.size := by
  obtain ⟨es, clock, h1, _⟩ := h.ex
  exact (Array.getElem?_eq_some_iff.1 h1).1
theorem zau (k : Int) : MapKept.IsKey (.int .i64) (.int .i64 k) := by simp [MapKept.IsKey]
theorem zan.keys {es : Array MapEntry} {f : Int -> Option Int} (h : ∀ x ∈ es.toList, ∃ k v, x.key = .int .i64 k /\ x.val = .int .i64 v /\ f k = some v) : ∀ x ∈ es.toList, MapKept.IsKey (.int .i64) x.key := by
  intro x hx
  obtain ⟨k, v, h1, _⟩ := h x hx
  rw [h1]; exact zau k
theorem zan.look {w : World} {r : Nat} {f : Int -> Option Int} (h : zan w r f) (k : Int) :
    (Instr.lookup 240 (.map (some r)) (.int .i64 k) true).run Tryz.prog w = .ok (.tuple #[.int .i64 ((f k).getD 0), .bool (f k).isSome]) w := by
  obtain ⟨es, clock, hb, h1, h2, h3⟩ := h.ex
  rcases MapKept.findNow_spec (zau k) es.toList 0 (zan.keys h1) with ⟨g1, g2⟩ | ⟨j, e, g1, g2, g3⟩
  · have hn : f k = none := by
      cases hf : f k with
      | none => rfl
      | some v =>
        obtain ⟨x, hx, hk⟩ := h2 k v hf
        exact absurd hk (g2 x hx)
    rw [hn]
    exact zba Tryz.underlying240 Tryz.underlying3 (.int .i64 k) (.int .i64 0) (zau k) es clock g1 w (by kernel_rfl) r hb
  · obtain ⟨k', v', e1, e2, e3⟩ := h1 e (List.mem_of_getElem? g2)
    rw [g3] at e1
    cases e1
    rw [e3]
    rw [e2] at g1
    exact y7 Tryz.underlying240 Tryz.underlying3 (.int .i64 k) (.int .i64 v') (zau k) es clock _ g1 w r hb
structure zfi (r : Nat) (w w' : World) : Prop where
  os : w'.os = w.os
  tape : w'.tape = w.tape
  output : w'.output = w.output
  size : w'.heap.size = w.heap.size
  out : ∀ k, k ≠ r -> w'.heap[k]? = w.heap[k]?
theorem zan.upd {w : World} {r : Nat} {f : Int -> Option Int} (h : zan w r f) (k v : Int) :
    ∃ w', (Instr.mapUpdate 240 (.map (some r)) (.int .i64 k) (.int .i64 v)).run Tryz.prog w = .ok () w' /\ zan w' r (fun q => if q = k then some v else f q) /\ zfi r w w' := by
  obtain ⟨es, clock, hb, h1, h2, h3⟩ := h.ex
  have hm := Tryz.underlying240
  have hd := Tryz.underlying3
  rcases MapKept.findNow_spec (zau k) es.toList 0 (zan.keys h1) with ⟨g1, g2⟩ | ⟨j, e, g1, g2, g3⟩
  · refine ⟨{ w with heap := w.heap.setIfInBounds r (.map (es.push ⟨.int .i64 k, .int .i64 v, clock⟩) (clock + 1)) }, ?_, ⟨_, _, (MapKept.heap_set hb).1, ?_, ?_, ?_⟩, rfl, rfl, rfl, by simp, fun q hq => (MapKept.heap_set hb).2 q hq⟩
    · simp [Instr.mapUpdate, run_underlying hm, MapKept.run_getObj_map hb, MapKept.run_checkKey hd (zau k), MapKept.run_findKey hd g1, MapKept.run_setObj_map _ hb, Result.andThen]
    · intro x hx
      rw [Array.toList_push, List.mem_append, List.mem_singleton] at hx
      rcases hx with hx | rfl
      · obtain ⟨k', v', e1, e2, e3⟩ := h1 x hx
        refine ⟨k', v', e1, e2, ?_⟩
        have : k' ≠ k := by rintro rfl; exact g2 x hx e1
        simp only [if_neg this]; exact e3
      · exact ⟨k, v, rfl, rfl, by simp⟩
    · intro q u hq
      by_cases e : q = k
      · subst e
        exact ⟨⟨.int .i64 q, .int .i64 v, clock⟩, by simp, rfl⟩
      · rw [if_neg e] at hq
        obtain ⟨x, hx, hk⟩ := h2 q u hq
        exact ⟨x, by simp [Array.toList_push]; exact Or.inl (by simpa using hx), hk⟩
    · intro i j' x y hx hy hxy
      rw [Array.getElem?_push] at hx hy
      by_cases e1 : i = es.size
      · by_cases e2 : j' = es.size
        · omega
        · rw [if_pos e1] at hx
          rw [if_neg e2] at hy
          have hm : y ∈ es.toList := by rw [<- Array.mem_def]; exact Array.mem_of_getElem? hy
          cases hx
          exact absurd hxy.symm (g2 y hm)
      · by_cases e2 : j' = es.size
        · rw [if_neg e1] at hx
          rw [if_pos e2] at hy
          have hm : x ∈ es.toList := by rw [<- Array.mem_def]; exact Array.mem_of_getElem? hx
          cases hy
          exact absurd hxy (g2 x hm)
        · rw [if_neg e1] at hx
          rw [if_neg e2] at hy
          exact h3 i j' x y hx hy hxy
  · have hj : es[j]? = some e := by simpa using g2
    refine ⟨{ w with heap := w.heap.setIfInBounds r (.map (es.modify j fun x => { x with key := .int .i64 k, val := .int .i64 v }) clock) }, ?_, ⟨_, _, (MapKept.heap_set hb).1, ?_, ?_, ?_⟩, rfl, rfl, rfl, by simp, fun q hq => (MapKept.heap_set hb).2 q hq⟩
    · simp [Instr.mapUpdate, run_underlying hm, MapKept.run_getObj_map hb, MapKept.run_checkKey hd (zau k), MapKept.run_findKey hd g1, hj, g3, MapKept.run_keyThatStays (zau k), MapKept.run_setObj_map _ hb, Result.andThen]
    · intro x hx
      obtain ⟨i, hi, rfl⟩ := List.mem_iff_getElem.1 hx
      have hi' : i < es.size := by simpa using hi
      simp only [Array.getElem_toList, Array.getElem_modify]
      by_cases e' : j = i
      · subst e'
        simp only [if_true]
        exact ⟨k, v, rfl, rfl, by simp⟩
      · simp only [if_neg e']
        obtain ⟨k', v', e1, e2, e3⟩ := h1 es[i] (by simp)
        have ek : k' ≠ k := by
          rintro rfl
          exact e' (h3 j i e es[i] hj (Array.getElem?_eq_getElem hi') (g3.trans e1.symm))
        exact ⟨k', v', e1, e2, by rw [if_neg ek]; exact e3⟩
    · intro q u hq
      have hj' : j < es.size := (Array.getElem?_eq_some_iff.1 hj).1
      by_cases e' : q = k
      · subst e'
        refine ⟨(es.modify j fun x => { x with key := .int .i64 q, val := .int .i64 v })[j]'(by simpa using hj'), ?_, ?_⟩
        · rw [<- Array.mem_def]; exact Array.getElem_mem _
        · rw [Array.getElem_modify]; simp
      · rw [if_neg e'] at hq
        obtain ⟨x, hx, hk⟩ := h2 q u hq
        obtain ⟨i, hi, rfl⟩ := List.mem_iff_getElem.1 hx
        have hi' : i < es.size := by simpa using hi
        have hij : j ≠ i := by
          rintro rfl
          rw [Array.getElem_toList] at hk
          rw [Array.getElem?_eq_getElem hi'] at hj
          cases hj
          rw [g3] at hk
          cases hk
          exact e' rfl
        refine ⟨(es.modify j fun x => { x with key := .int .i64 k, val := .int .i64 v })[i]'(by simpa using hi'), ?_, ?_⟩
        · rw [<- Array.mem_def]; exact Array.getElem_mem _
        · rw [Array.getElem_modify, if_neg hij]; simpa using hk
    · have hkey : ∀ (i : Nat) (x : MapEntry), (es.modify j fun x => { x with key := .int .i64 k, val := .int .i64 v })[i]? = some x -> ∃ y, es[i]? = some y /\ x.key = y.key := by
        intro i x hx
        obtain ⟨hi, rfl⟩ := Array.getElem?_eq_some_iff.1 hx
        have hi' : i < es.size := by simpa using hi
        refine ⟨es[i], Array.getElem?_eq_getElem hi', ?_⟩
        rw [Array.getElem_modify]
        by_cases e' : j = i
        · subst e'
          rw [Array.getElem?_eq_getElem hi'] at hj
          cases hj
          simp [g3]
        · rw [if_neg e']
      intro i j' x y hx hy hxy
      obtain ⟨x', hx', ex⟩ := hkey i x hx
      obtain ⟨y', hy', ey⟩ := hkey j' y hy
      exact h3 i j' x' y' hx' hy' (ex.symm.trans (hxy.trans ey))
end Go.Proofs.YtkfigdbbncjojaaGreat

namespace Go.Proofs.YtkfigdbbncjojaaGreat
open Go.RowKit
theorem Tryz.zcm : (Tryz.prog.info? 9).map (fun i => (i.zero, i.size, i.bytes)) = some (some (.string ByteArray.empty), 1, 16) := by kernel_rfl
theorem zP (w : World) (o1 o2 : Obj) : ((w.alloc o1).alloc o2).heap[w.heap.size]? = some o1 /\ ((w.alloc o1).alloc o2).heap[w.heap.size + 1]? = some o2 := by
  refine ⟨(Below.heap_alloc _ _ _ (by simp)).trans (alloc_at _ _), ?_⟩
  have h := alloc_at (w.alloc o1) o2
  simpa using h
end Go.Proofs.YtkfigdbbncjojaaGreat

namespace Go.Proofs.YtkfigdbbncjojaaGreat
open Go.RowKit
set_option maxHeartbeats 1000000 in
theorem qj (a : Option Addr) (cap : Nat) (ss : List Shp) (v : ByteArray) (w : World) (hw : yB w a ss) :
    Calls Tryz.prog 105 #[.slice a ss.length cap, .string v] w fun e w' => ∃ fa fcap, e = .returned (.tuple #[.agg #[.string (Gate.shapeOf ss v).kd, .slice fa (Gate.shapeOf ss v).fs.length fcap], .bool (Gate.zC ss v)]) /\
      zW w fa (Gate.shapeOf ss v).fs /\ Below w.heap.size w w' := by
  have hl := hw.len
  unfold maxLen at hl
  go_enter Tryz.func105, Tryz.ntmps105
  go_wp2
  go_loopw [10] (fun i wr => ∃ k : Nat, k <= ss.length /\ i = .int .i64 k /\ Gate.zC (ss.take k) v = false /\ Below (w.heap.size + 1) (w.alloc (.cells #[.string ByteArray.empty, .slice none 0 0] 127)) wr) (fun i _ => ss.length - (intOf i).toNat)
  case atStart => exact ⟨0, Nat.zero_le _, rfl, rfl, Below.refl _ _⟩
  case round =>
    obtain ⟨k, hk, rfl, hno, hbl⟩ := hrel
    have hsz : w.heap.size < wr.heap.size := by have := hbl.size; simp at this; omega
    have hB0 : Below w.heap.size w wr := ((Below.refl _ _).alloc (Nat.le_refl _) _).trans (hbl.mono (by omega))
    have hX0 : wr.cell? ⟨w.heap.size, 0, none⟩ = some (.string ByteArray.empty) := (hbl.cell (p := ⟨w.heap.size, 0, none⟩) (by simp)).trans (by rw [World.cell?_alloc_at _ _ _ _ rfl]; rfl)
    have hX1 : wr.cell? ⟨w.heap.size, 1, none⟩ = some (.slice none 0 0) := (hbl.cell (p := ⟨w.heap.size, 1, none⟩) (by simp)).trans (by rw [World.cell?_alloc_at _ _ _ _ rfl]; rfl)
    have hF0 : wr.frozen? ⟨w.heap.size, 0, none⟩ = false := (hbl.frozen (p := ⟨w.heap.size, 0, none⟩) (by simp)).trans (by rw [World.frozen?_alloc_at _ _ _ _ rfl])
    have hF1 : wr.frozen? ⟨w.heap.size, 1, none⟩ = false := (hbl.frozen (p := ⟨w.heap.size, 1, none⟩) (by simp)).trans (by rw [World.frozen?_alloc_at _ _ _ _ rfl])
    by_cases hlt : k < ss.length
    · obtain ⟨b, off, rfl, hb, hr⟩ := hw.rows (by rintro rfl; simp at hlt)
      obtain ⟨fa, fcap, hs⟩ := hr k hlt
      have hck := (hB0.cell (p := ⟨b, off + k * 2, none⟩) hb).trans hs.kind
      have hcl := (hB0.cell (p := ⟨b, off + k * 2 + 1, none⟩) hb).trans hs.list
      have hfl := hs.flds
      clear hw hr hs
      by_cases he : ss[k].kd = v
      · have hbe : (ss[k].kd.toList == v.toList) = true := by rw [Gate.beq_toList]; simpa using he
        have HA : Hid (Gate.zC ss v = true) := Gate.zdT ss v k hlt he
        have HB : Hid (Gate.shapeOf ss v = ss[k]) := Gate.zco ss v k hlt hno he
        clear he hno
        go_wp2
        refine bodyPost_ret (v := .tuple #[.agg #[.string ss[k].kd, .slice fa ss[k].fs.length fcap], .bool true]) (by simp [results, Tryz.results105, go_sem, hX0, hX1, hsz]) rfl ⟨fa, fcap, by rw [HA.out, HB.out], by rw [HB.out]; exact hfl, ?_⟩
        exact ((hB0.setCell (Nat.le_refl _) _).setCell (Nat.le_refl _) _).alloc (by simp [World.setCell]; omega) _
      · have hbe : (ss[k].kd.toList == v.toList) = false := by rw [Gate.beq_toList]; simpa using he
        have HS : Hid (Gate.zC (ss.take (k + 1)) v = false) := by unfold Hid; rw [Gate.zcu ss v k hlt, hno, decide_eq_false he]; rfl
        clear he hno hX0 hX1 hF0 hF1
        go_wp2
        go_roundw
        case rel => exact ⟨k + 1, by omega, by go_num, HS.out, hbl.alloc (by omega) _⟩
        case measure => simp [intOf]; omega
    · have HA : Hid (Gate.zC ss v = false) := by rw [<- Gate.zc8 ss v k (by omega)]; exact hno
      have HB : Hid (Gate.shapeOf ss v = Gate.zaM) := Gate.zen ss v HA.out
      clear hno hw
      go_wp2
      refine bodyPost_ret (v := .tuple #[.agg #[.string ByteArray.empty, .slice none 0 0], .bool false]) (by simp [results, Tryz.results105, go_sem, hX0, hX1]; rfl) rfl ⟨none, 0, by rw [HA.out, HB.out]; rfl, by rw [HB.out]; exact ⟨by simp [Gate.zaM, maxLen], fun h => absurd rfl h⟩, ?_⟩
      exact (hB0.setCell (Nat.le_refl _) _).setCell (Nat.le_refl _) _
end Go.Proofs.YtkfigdbbncjojaaGreat

namespace Go.Proofs.YtkfigdbbncjojaaGreat
open Go.RowKit
set_option maxHeartbeats 400000 in
theorem zN (s : ByteArray) (w : World) (hs : s.size <= maxLen) :
    Calls Tryz.prog 56 #[.string s] w fun e w' => e = .returned (.bool (Gate.zy s)) /\ w' = w := by
  unfold maxLen at hs
  by_cases hb : 1 <= s.size /\ s.size <= 16
  · obtain ⟨hb1, hb2⟩ := hb
    go_enter Tryz.func56, Tryz.ntmps56
    go_wp2_with (go_at_call 20; refine (zbA _ _ _ _ (by omega) (by omega)).mono ?_; rintro e w' ⟨rfl, rfl⟩)
    go_loop [3] (fun i => ∃ k : Nat, k <= s.size /\ i = .int .i64 k /\ (s.data.toList.take k).all Gate.yc = true) (fun i => s.size - (intOf i).toNat)
    case atStart => exact ⟨0, Nat.zero_le _, rfl, rfl⟩
    case round =>
      obtain ⟨k, hk, rfl, hall⟩ := hrel
      by_cases hlt : k < s.size
      · have HS : Hid ((s.data.toList.take (k + 1)).all Gate.yc = (true && Gate.yc s[k])) := by rw [Gate.za3 _ s k hlt, hall]; rfl
        have HN := fun h => Gate.zcL Gate.yc s k hlt h
        have HN' : Hid (Gate.yc s[k] = false -> Gate.jr s = false) := HN
        clear HN hall
        by_cases hc : Gate.yc s[k] = true
        · go_wp2_with (go_at_call 97; refine (zcy _ _).mono ?_; rintro e w' ⟨rfl, rfl⟩)
          go_round
          case rel => exact ⟨k + 1, by omega, by go_num, by rw [HS.out, hc]; rfl⟩
          case measure => simp [intOf]; omega
        · have hc' : Gate.yc s[k] = false := by simpa using hc
          clear hc
          go_wp2_with (go_at_call 97; refine (zcy _ _).mono ?_; rintro e w' ⟨rfl, rfl⟩)
          go_ret
          refine ⟨ze ?_, rfl⟩
          simp [Gate.zy, HN'.out hc']
      · have HA : Hid (Gate.jr s = true) := by unfold Gate.jr Hid; rw [<- Gate.zaG s k (by omega)]; exact hall
        clear hall
        go_wp2
        go_ret
        refine ⟨ze ?_, rfl⟩
        simp only [Gate.zy, HA.out]; simp; omega
  · go_enter Tryz.func56, Tryz.ntmps56
    go_wp2_with (go_at_call 20; refine (zdA _ _ _ _ (by omega)).mono ?_; rintro e w' ⟨rfl, rfl⟩)
    go_ret
    refine ⟨ze ?_, rfl⟩
    simp [Gate.zy]; omega
set_option maxHeartbeats 400000 in
theorem za9 (s : ByteArray) (w : World) (hs : s.size <= maxLen) :
    Calls Tryz.prog 158 #[.string s] w fun e w' => e = .returned (.bool (Gate.jr s)) /\ w' = w := by
  unfold maxLen at hs
  go_enter Tryz.func158, Tryz.ntmps158
  go_wp2
  go_loop [7] (fun i => ∃ k : Nat, k <= s.size /\ i = .int .i64 k /\ (s.data.toList.take k).all Gate.yc = true) (fun i => s.size - (intOf i).toNat)
  case atStart => exact ⟨0, Nat.zero_le _, rfl, rfl⟩
  case round =>
    obtain ⟨k, hk, rfl, hall⟩ := hrel
    by_cases hlt : k < s.size
    · have HS : Hid ((s.data.toList.take (k + 1)).all Gate.yc = (true && Gate.yc s[k])) := by rw [Gate.za3 _ s k hlt, hall]; rfl
      have HN : Hid (Gate.yc s[k] = false -> Gate.jr s = false) := fun h => Gate.zcL Gate.yc s k hlt h
      clear hall
      by_cases hd : 48 <= (s[k].toNat : Int) /\ (s[k].toNat : Int) <= 57
      · have HC : Hid (Gate.yc s[k] = true) := by simp [Gate.yc, Hid]; omega
        obtain ⟨hd1, hd2⟩ := hd
        go_wp2_with (go_at_call 180; refine (zfz _ _ hd1 hd2).mono ?_; rintro e w' ⟨rfl, rfl⟩)
        go_round
        case rel => exact ⟨k + 1, by omega, by go_num, by rw [HS.out, HC.out]; rfl⟩
        case measure => simp [intOf]; omega
      · have HD : Hid (¬ (48 <= (s[k].toNat : Int) /\ (s[k].toNat : Int) <= 57)) := hd
        clear hd
        by_cases h45 : (s[k].toNat : Int) = 45
        · have HC : Hid (Gate.yc s[k] = true) := by simp [Gate.yc, Hid]; omega
          have h45' : ((s[k].toNat : Int) != 45) = false := by simp [h45]
          clear h45
          go_wp2_with (go_at_call 180; refine (zbG _ _ HD.out).mono ?_; rintro e w' ⟨rfl, rfl⟩)
          go_round
          case rel => exact ⟨k + 1, by omega, by go_num, by rw [HS.out, HC.out]; rfl⟩
          case measure => simp [intOf]; omega
        · have h45' : ((s[k].toNat : Int) != 45) = true := by simp [h45]
          by_cases h97 : (s[k].toNat : Int) < 97
          · have HC : Hid (Gate.yc s[k] = false) := by have := HD.out; simp [Gate.yc, Hid]; omega
            clear h45
            go_wp2_with (go_at_call 180; refine (zbG _ _ HD.out).mono ?_; rintro e w' ⟨rfl, rfl⟩)
            go_ret
            exact ⟨ze (HN.out HC.out).symm, rfl⟩
          · by_cases h122 : 122 < (s[k].toNat : Int)
            · have HC : Hid (Gate.yc s[k] = false) := by have := HD.out; simp [Gate.yc, Hid]; omega
              clear h45
              go_wp2_with (go_at_call 180; refine (zbG _ _ HD.out).mono ?_; rintro e w' ⟨rfl, rfl⟩)
              go_ret
              exact ⟨ze (HN.out HC.out).symm, rfl⟩
            · have HC : Hid (Gate.yc s[k] = true) := by simp [Gate.yc, Hid]; omega
              clear h45
              go_wp2_with (go_at_call 180; refine (zbG _ _ HD.out).mono ?_; rintro e w' ⟨rfl, rfl⟩)
              go_round
              case rel => exact ⟨k + 1, by omega, by go_num, by rw [HS.out, HC.out]; rfl⟩
              case measure => simp [intOf]; omega
    · have HA : Hid (Gate.jr s = true) := by unfold Gate.jr Hid; rw [<- Gate.zaG s k (by omega)]; exact hall
      clear hall
      go_wp2
      go_ret
      exact ⟨ze HA.out.symm, rfl⟩
set_option maxHeartbeats 400000 in
theorem zL (s : ByteArray) (w : World) (hs : s.size <= maxLen) :
    Calls Tryz.prog 108 #[.string s] w fun e w' => e = .returned (.bool (Gate.zy s)) /\ w' = w := by
  have hs' := hs
  unfold maxLen at hs'
  by_cases h0 : s.size = 0
  · rw [Gate.zbZ s h0]
    go_enter Tryz.func108, Tryz.ntmps108
    go_wp2
    go_ret
    exact ⟨rfl, rfl⟩
  · have hne : s.toList.isEmpty = false := by rw [Gate.zo]; simp [h0]
    by_cases h16 : s.size <= 16
    · have HF : Hid (Gate.zy s = Gate.jr s) := by
        simp only [Hid, Gate.zy]; rw [decide_eq_true (show 1 <= s.size by omega), decide_eq_true h16]; simp
      go_enter Tryz.func108, Tryz.ntmps108
      go_wp2_with (go_at_call 158; refine (za9 _ _ hs).mono ?_; rintro e w' ⟨rfl, rfl⟩)
      go_ret
      exact ⟨ze HF.out.symm, rfl⟩
    · go_enter Tryz.func108, Tryz.ntmps108
      go_wp2_with (go_at_call 158; refine (za9 _ _ hs).mono ?_; rintro e w' ⟨rfl, rfl⟩)
      go_ret
      refine ⟨ze ?_, rfl⟩
      simp only [Gate.zy]; rw [decide_eq_false h16]; simp
end Go.Proofs.YtkfigdbbncjojaaGreat
