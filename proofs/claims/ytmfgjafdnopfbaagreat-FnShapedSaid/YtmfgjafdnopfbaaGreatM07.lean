import Derived.Test.YtmfgjafdnopfbaaGreatM04
import Derived.Test.YtmfgjafdnopfbaaGreatM01
import Derived.Deep.OwnRows
import Derived.MapKept
import Derived.Test.YtmfgjafdnopfbaaGreatM06
import Derived.WalkKit
namespace Go.Proofs.YtmfgjafdnopfbaaGreat
open Go.RowKit
structure zad (w : World) (r : Nat) (f : Int -> Option Int) : Prop where
  ex : ∃ es clock, w.heap[r]? = some (.map es clock) /\ (∀ x ∈ es.toList, ∃ k v, x.key = .int .i64 k /\ x.val = .int .i64 v /\ f k = some v) /\ (∀ k v, f k = some v -> ∃ x ∈ es.toList, x.key = .int .i64 k) /\ ∀ (i j : Nat) (x y : MapEntry), es[i]? = some x -> es[j]? = some y -> x.key = y.key -> i = j
theorem zad.mono {w w' : World} {r : Nat} {f : Int -> Option Int} (h : zad w r f) (hb : w'.heap[r]? = w.heap[r]?) : zad w' r f := by
  obtain ⟨es, clock, h1, h2⟩ := h.ex
  exact ⟨es, clock, hb.trans h1, h2⟩
theorem zad.lt {w : World} {r : Nat} {f : Int -> Option Int} (h : zad w r f) : r < w.heap.size := by
  obtain ⟨es, clock, h1, _⟩ := h.ex
  exact (Array.getElem?_eq_some_iff.1 h1).1
theorem zai (k : Int) : MapKept.IsKey (.int .i64) (.int .i64 k) := by simp [MapKept.IsKey]
theorem zad.keys {es : Array MapEntry} {f : Int -> Option Int} (h : ∀ x ∈ es.toList, ∃ k v, x.key = .int .i64 k /\ x.val = .int .i64 v /\ f k = some v) : ∀ x ∈ es.toList, MapKept.IsKey (.int .i64) x.key := by
  intro x hx
  obtain ⟨k, v, h1, _⟩ := h x hx
  rw [h1]; exact zai k
theorem zad.look {w : World} {r : Nat} {f : Int -> Option Int} (h : zad w r f) (k : Int) :
    (Instr.lookup 117 (.map (some r)) (.int .i64 k) true).run Tryz.prog w = .ok (.tuple #[.int .i64 ((f k).getD 0), .bool (f k).isSome]) w := by
  obtain ⟨es, clock, hb, h1, h2, h3⟩ := h.ex
  rcases MapKept.findNow_spec (zai k) es.toList 0 (zad.keys h1) with ⟨g1, g2⟩ | ⟨j, e, g1, g2, g3⟩
  · have hn : f k = none := by
      cases hf : f k with
      | none => rfl
      | some v =>
        obtain ⟨x, hx, hk⟩ := h2 k v hf
        exact absurd hk (g2 x hx)
    rw [hn]
    exact zaQ Tryz.underlying117 Tryz.underlying3 (.int .i64 k) (.int .i64 0) (zai k) es clock g1 w (by kernel_rfl) r hb
  · obtain ⟨k', v', e1, e2, e3⟩ := h1 e (List.mem_of_getElem? g2)
    rw [g3] at e1
    cases e1
    rw [e3]
    rw [e2] at g1
    exact yT Tryz.underlying117 Tryz.underlying3 (.int .i64 k) (.int .i64 v') (zai k) es clock _ g1 w r hb
structure zi4 (r : Nat) (w w' : World) : Prop where
  os : w'.os = w.os
  tape : w'.tape = w.tape
  output : w'.output = w.output
  size : w'.heap.size = w.heap.size
  out : ∀ k, k ≠ r -> w'.heap[k]? = w.heap[k]?
theorem zad.upd {w : World} {r : Nat} {f : Int -> Option Int} (h : zad w r f) (k v : Int) :
    ∃ w', (Instr.mapUpdate 117 (.map (some r)) (.int .i64 k) (.int .i64 v)).run Tryz.prog w = .ok () w' /\ zad w' r (fun q => if q = k then some v else f q) /\ zi4 r w w' := by
  obtain ⟨es, clock, hb, h1, h2, h3⟩ := h.ex
  have hm := Tryz.underlying117
  have hd := Tryz.underlying3
  rcases MapKept.findNow_spec (zai k) es.toList 0 (zad.keys h1) with ⟨g1, g2⟩ | ⟨j, e, g1, g2, g3⟩
  · refine ⟨{ w with heap := w.heap.setIfInBounds r (.map (es.push ⟨.int .i64 k, .int .i64 v, clock⟩) (clock + 1)) }, ?_, ⟨_, _, (MapKept.heap_set hb).1, ?_, ?_, ?_⟩, rfl, rfl, rfl, by simp, fun q hq => (MapKept.heap_set hb).2 q hq⟩
    · simp [Instr.mapUpdate, run_underlying hm, MapKept.run_getObj_map hb, MapKept.run_checkKey hd (zai k), MapKept.run_findKey hd g1, MapKept.run_setObj_map _ hb, Result.andThen]
    · intro x hx
      rw [Array.toList_push, List.mem_append, List.mem_singleton] at hx
      rcases hx with hx | rfl
      · obtain ⟨k', v', e1, e2, e3⟩ := h1 x hx
        refine ⟨k', v', e1, e2, ?_⟩
        have : k' ≠ k := by rintro rfl; exact g2 x hx e1
        simp only [if_neg this]; exact e3
      · exact ⟨k, v, rfl, rfl, by simp⟩
    · intro q u hq
      by_cases e : q = k
      · subst e
        exact ⟨⟨.int .i64 q, .int .i64 v, clock⟩, by simp, rfl⟩
      · rw [if_neg e] at hq
        obtain ⟨x, hx, hk⟩ := h2 q u hq
        exact ⟨x, by simp [Array.toList_push]; exact Or.inl (by simpa using hx), hk⟩
    · intro i j' x y hx hy hxy
      rw [Array.getElem?_push] at hx hy
      by_cases e1 : i = es.size
      · by_cases e2 : j' = es.size
        · omega
        · rw [if_pos e1] at hx
          rw [if_neg e2] at hy
          have hm : y ∈ es.toList := by rw [<- Array.mem_def]; exact Array.mem_of_getElem? hy
          cases hx
          exact absurd hxy.symm (g2 y hm)
      · by_cases e2 : j' = es.size
        · rw [if_neg e1] at hx
          rw [if_pos e2] at hy
          have hm : x ∈ es.toList := by rw [<- Array.mem_def]; exact Array.mem_of_getElem? hx
          cases hy
          exact absurd hxy (g2 x hm)
        · rw [if_neg e1] at hx
          rw [if_neg e2] at hy
          exact h3 i j' x y hx hy hxy
  · have hj : es[j]? = some e := by simpa using g2
    refine ⟨{ w with heap := w.heap.setIfInBounds r (.map (es.modify j fun x => { x with key := .int .i64 k, val := .int .i64 v }) clock) }, ?_, ⟨_, _, (MapKept.heap_set hb).1, ?_, ?_, ?_⟩, rfl, rfl, rfl, by simp, fun q hq => (MapKept.heap_set hb).2 q hq⟩
    · simp [Instr.mapUpdate, run_underlying hm, MapKept.run_getObj_map hb, MapKept.run_checkKey hd (zai k), MapKept.run_findKey hd g1, hj, g3, MapKept.run_keyThatStays (zai k), MapKept.run_setObj_map _ hb, Result.andThen]
    · intro x hx
      obtain ⟨i, hi, rfl⟩ := List.mem_iff_getElem.1 hx
      have hi' : i < es.size := by simpa using hi
      simp only [Array.getElem_toList, Array.getElem_modify]
      by_cases e' : j = i
      · subst e'
        simp only [if_true]
        exact ⟨k, v, rfl, rfl, by simp⟩
      · simp only [if_neg e']
        obtain ⟨k', v', e1, e2, e3⟩ := h1 es[i] (by simp)
        have ek : k' ≠ k := by
          rintro rfl
          exact e' (h3 j i e es[i] hj (Array.getElem?_eq_getElem hi') (g3.trans e1.symm))
        exact ⟨k', v', e1, e2, by rw [if_neg ek]; exact e3⟩
    · intro q u hq
      have hj' : j < es.size := (Array.getElem?_eq_some_iff.1 hj).1
      by_cases e' : q = k
      · subst e'
        refine ⟨(es.modify j fun x => { x with key := .int .i64 q, val := .int .i64 v })[j]'(by simpa using hj'), ?_, ?_⟩
        · rw [<- Array.mem_def]; exact Array.getElem_mem _
        · rw [Array.getElem_modify]; simp
      · rw [if_neg e'] at hq
        obtain ⟨x, hx, hk⟩ := h2 q u hq
        obtain ⟨i, hi, rfl⟩ := List.mem_iff_getElem.1 hx
        have hi' : i < es.size := by simpa using hi
        have hij : j ≠ i := by
          rintro rfl
          rw [Array.getElem_toList] at hk
          rw [Array.getElem?_eq_getElem hi'] at hj
          cases hj
          rw [g3] at hk
          cases hk
          exact e' rfl
        refine ⟨(es.modify j fun x => { x with key := .int .i64 k, val := .int .i64 v })[i]'(by simpa using hi'), ?_, ?_⟩
        · rw [<- Array.mem_def]; exact Array.getElem_mem _
        · rw [Array.getElem_modify, if_neg hij]; simpa using hk
    · have hkey : ∀ (i : Nat) (x : MapEntry), (es.modify j fun x => { x with key := .int .i64 k, val := .int .i64 v })[i]? = some x -> ∃ y, es[i]? = some y /\ x.key = y.key := by
        intro i x hx
        obtain ⟨hi, rfl⟩ := Array.getElem?_eq_some_iff.1 hx
        have hi' : i < es.size := by simpa using hi
        refine ⟨es[i], Array.getElem?_eq_getElem hi', ?_⟩
        rw [Array.getElem_modify]
        by_cases e' : j = i
        · subst e'
          rw [Array.getElem?_eq_getElem hi'] at hj
          cases hj
          simp [g3]
        · rw [if_neg e']
      intro i j' x y hx hy hxy
      obtain ⟨x', hx', ex⟩ := hkey i x hx
      obtain ⟨y', hy', ey⟩ := hkey j' y hy
      exact h3 i j' x' y' hx' hy' (ex.symm.trans (hxy.trans ey))
end Go.Proofs.YtmfgjafdnopfbaaGreat

namespace Go.Proofs.YtmfgjafdnopfbaaGreat
open Go.RowKit
theorem Tryz.jC : (Tryz.prog.info? 9).map (fun i => (i.zero, i.size, i.bytes)) = some (some (.string ByteArray.empty), 1, 16) := by kernel_rfl
theorem zq (w : World) (o1 o2 : Obj) : ((w.alloc o1).alloc o2).heap[w.heap.size]? = some o1 /\ ((w.alloc o1).alloc o2).heap[w.heap.size + 1]? = some o2 := by
  refine ⟨(Below.heap_alloc _ _ _ (by simp)).trans (alloc_at _ _), ?_⟩
  have h := alloc_at (w.alloc o1) o2
  simpa using h
end Go.Proofs.YtmfgjafdnopfbaaGreat

namespace Go.Proofs.YtmfgjafdnopfbaaGreat
open Go.RowKit
set_option maxHeartbeats 1000000 in
theorem qN (a : Option Addr) (cap : Nat) (ss : List Shp) (v : ByteArray) (w : World) (hw : yG w a ss) :
    Calls Tryz.prog 26 #[.slice a ss.length cap, .string v] w fun e w' => ∃ fa fcap, e = .returned (.tuple #[.agg #[.string (Gate.shapeOf ss v).kd, .slice fa (Gate.shapeOf ss v).fs.length fcap], .bool (Gate.zy ss v)]) /\
      yc w fa (Gate.shapeOf ss v).fs /\ Below w.heap.size w w' := by
  have hl := hw.len
  unfold maxLen at hl
  go_enter Tryz.func26, Tryz.ntmps26
  go_wp2
  go_loopw [10] (fun i wr => ∃ k : Nat, k <= ss.length /\ i = .int .i64 k /\ Gate.zy (ss.take k) v = false /\ Below (w.heap.size + 1) (w.alloc (.cells #[.string ByteArray.empty, .slice none 0 0] 45)) wr) (fun i _ => ss.length - (intOf i).toNat)
  case atStart => exact ⟨0, Nat.zero_le _, rfl, rfl, Below.refl _ _⟩
  case round =>
    obtain ⟨k, hk, rfl, hno, hbl⟩ := hrel
    have hsz : w.heap.size < wr.heap.size := by have := hbl.size; simp at this; omega
    have hB0 : Below w.heap.size w wr := ((Below.refl _ _).alloc (Nat.le_refl _) _).trans (hbl.mono (by omega))
    have hX0 : wr.cell? ⟨w.heap.size, 0, none⟩ = some (.string ByteArray.empty) := (hbl.cell (p := ⟨w.heap.size, 0, none⟩) (by simp)).trans (by rw [World.cell?_alloc_at _ _ _ _ rfl]; rfl)
    have hX1 : wr.cell? ⟨w.heap.size, 1, none⟩ = some (.slice none 0 0) := (hbl.cell (p := ⟨w.heap.size, 1, none⟩) (by simp)).trans (by rw [World.cell?_alloc_at _ _ _ _ rfl]; rfl)
    have hF0 : wr.frozen? ⟨w.heap.size, 0, none⟩ = false := (hbl.frozen (p := ⟨w.heap.size, 0, none⟩) (by simp)).trans (by rw [World.frozen?_alloc_at _ _ _ _ rfl])
    have hF1 : wr.frozen? ⟨w.heap.size, 1, none⟩ = false := (hbl.frozen (p := ⟨w.heap.size, 1, none⟩) (by simp)).trans (by rw [World.frozen?_alloc_at _ _ _ _ rfl])
    by_cases hlt : k < ss.length
    · obtain ⟨b, off, rfl, hb, hr⟩ := hw.rows (by rintro rfl; simp at hlt)
      obtain ⟨fa, fcap, hs⟩ := hr k hlt
      have hck := (hB0.cell (p := ⟨b, off + k * 2, none⟩) hb).trans hs.kind
      have hcl := (hB0.cell (p := ⟨b, off + k * 2 + 1, none⟩) hb).trans hs.list
      have hfl := hs.flds
      clear hw hr hs
      by_cases he : ss[k].kd = v
      · have hbe : (ss[k].kd.toList == v.toList) = true := by rw [Gate.beq_toList]; simpa using he
        have HA : Hid (Gate.zy ss v = true) := Gate.zc7 ss v k hlt he
        have HB : Hid (Gate.shapeOf ss v = ss[k]) := Gate.zbh ss v k hlt hno he
        clear he hno
        go_wp2
        refine bodyPost_ret (v := .tuple #[.agg #[.string ss[k].kd, .slice fa ss[k].fs.length fcap], .bool true]) (by simp [results, Tryz.results26, go_sem, hX0, hX1, hsz]) rfl ⟨fa, fcap, by rw [HA.out, HB.out], by rw [HB.out]; exact hfl, ?_⟩
        exact ((hB0.setCell (Nat.le_refl _) _).setCell (Nat.le_refl _) _).alloc (by simp [World.setCell]; omega) _
      · have hbe : (ss[k].kd.toList == v.toList) = false := by rw [Gate.beq_toList]; simpa using he
        have HS : Hid (Gate.zy (ss.take (k + 1)) v = false) := by unfold Hid; rw [Gate.zaU ss v k hlt, hno, decide_eq_false he]; rfl
        clear he hno hX0 hX1 hF0 hF1
        go_wp2
        go_roundw
        case rel => exact ⟨k + 1, by omega, by go_num, HS.out, hbl.alloc (by omega) _⟩
        case measure => simp [intOf]; omega
    · have HA : Hid (Gate.zy ss v = false) := by rw [<- Gate.zbo ss v k (by omega)]; exact hno
      have HB : Hid (Gate.shapeOf ss v = Gate.jD) := Gate.za1 ss v HA.out
      clear hno hw
      go_wp2
      refine bodyPost_ret (v := .tuple #[.agg #[.string ByteArray.empty, .slice none 0 0], .bool false]) (by simp [results, Tryz.results26, go_sem, hX0, hX1]; rfl) rfl ⟨none, 0, by rw [HA.out, HB.out]; rfl, by rw [HB.out]; exact ⟨by simp [Gate.jD, maxLen], fun h => absurd rfl h⟩, ?_⟩
      exact (hB0.setCell (Nat.le_refl _) _).setCell (Nat.le_refl _) _
end Go.Proofs.YtmfgjafdnopfbaaGreat

namespace Go.Proofs.YtmfgjafdnopfbaaGreat
open Go.RowKit
set_option maxHeartbeats 400000 in
theorem zw (s : ByteArray) (w : World) (hs : s.size <= maxLen) :
    Calls Tryz.prog 63 #[.string s] w fun e w' => e = .returned (.bool (Gate.zL s)) /\ w' = w := by
  unfold maxLen at hs
  by_cases hb : 1 <= s.size /\ s.size <= 16
  · obtain ⟨hb1, hb2⟩ := hb
    go_enter Tryz.func63, Tryz.ntmps63
    go_wp2_with (go_at_call 86; refine (zaJ _ _ _ _ (by omega) (by omega)).mono ?_; rintro e w' ⟨rfl, rfl⟩)
    go_loop [3] (fun i => ∃ k : Nat, k <= s.size /\ i = .int .i64 k /\ (s.data.toList.take k).all Gate.yZ = true) (fun i => s.size - (intOf i).toNat)
    case atStart => exact ⟨0, Nat.zero_le _, rfl, rfl⟩
    case round =>
      obtain ⟨k, hk, rfl, hall⟩ := hrel
      by_cases hlt : k < s.size
      · have HS : Hid ((s.data.toList.take (k + 1)).all Gate.yZ = (true && Gate.yZ s[k])) := by rw [Gate.zbc _ s k hlt, hall]; rfl
        have HN := fun h => Gate.zcH Gate.yZ s k hlt h
        have HN' : Hid (Gate.yZ s[k] = false -> Gate.zaW s = false) := HN
        clear HN hall
        by_cases hc : Gate.yZ s[k] = true
        · go_wp2_with (go_at_call 87; refine (zex _ _).mono ?_; rintro e w' ⟨rfl, rfl⟩)
          go_round
          case rel => exact ⟨k + 1, by omega, by go_num, by rw [HS.out, hc]; rfl⟩
          case measure => simp [intOf]; omega
        · have hc' : Gate.yZ s[k] = false := by simpa using hc
          clear hc
          go_wp2_with (go_at_call 87; refine (zex _ _).mono ?_; rintro e w' ⟨rfl, rfl⟩)
          go_ret
          refine ⟨zh ?_, rfl⟩
          simp [Gate.zL, HN'.out hc']
      · have HA : Hid (Gate.zaW s = true) := by unfold Gate.zaW Hid; rw [<- Gate.zaL s k (by omega)]; exact hall
        clear hall
        go_wp2
        go_ret
        refine ⟨zh ?_, rfl⟩
        simp only [Gate.zL, HA.out]; simp; omega
  · go_enter Tryz.func63, Tryz.ntmps63
    go_wp2_with (go_at_call 86; refine (zbT _ _ _ _ (by omega)).mono ?_; rintro e w' ⟨rfl, rfl⟩)
    go_ret
    refine ⟨zh ?_, rfl⟩
    simp [Gate.zL]; omega
set_option maxHeartbeats 400000 in
theorem zcb (s : ByteArray) (w : World) (hs : s.size <= maxLen) :
    Calls Tryz.prog 73 #[.string s] w fun e w' => e = .returned (.bool (Gate.zaW s)) /\ w' = w := by
  unfold maxLen at hs
  go_enter Tryz.func73, Tryz.ntmps73
  go_wp2
  go_loop [7] (fun i => ∃ k : Nat, k <= s.size /\ i = .int .i64 k /\ (s.data.toList.take k).all Gate.yZ = true) (fun i => s.size - (intOf i).toNat)
  case atStart => exact ⟨0, Nat.zero_le _, rfl, rfl⟩
  case round =>
    obtain ⟨k, hk, rfl, hall⟩ := hrel
    by_cases hlt : k < s.size
    · have HS : Hid ((s.data.toList.take (k + 1)).all Gate.yZ = (true && Gate.yZ s[k])) := by rw [Gate.zbc _ s k hlt, hall]; rfl
      have HN : Hid (Gate.yZ s[k] = false -> Gate.zaW s = false) := fun h => Gate.zcH Gate.yZ s k hlt h
      clear hall
      by_cases hd : 48 <= (s[k].toNat : Int) /\ (s[k].toNat : Int) <= 57
      · have HC : Hid (Gate.yZ s[k] = true) := by simp [Gate.yZ, Hid]; omega
        obtain ⟨hd1, hd2⟩ := hd
        go_wp2_with (go_at_call 91; refine (zdO _ _ hd1 hd2).mono ?_; rintro e w' ⟨rfl, rfl⟩)
        go_round
        case rel => exact ⟨k + 1, by omega, by go_num, by rw [HS.out, HC.out]; rfl⟩
        case measure => simp [intOf]; omega
      · have HD : Hid (¬ (48 <= (s[k].toNat : Int) /\ (s[k].toNat : Int) <= 57)) := hd
        clear hd
        by_cases h45 : (s[k].toNat : Int) = 45
        · have HC : Hid (Gate.yZ s[k] = true) := by simp [Gate.yZ, Hid]; omega
          have h45' : ((s[k].toNat : Int) != 45) = false := by simp [h45]
          clear h45
          go_wp2_with (go_at_call 91; refine (zbb _ _ HD.out).mono ?_; rintro e w' ⟨rfl, rfl⟩)
          go_round
          case rel => exact ⟨k + 1, by omega, by go_num, by rw [HS.out, HC.out]; rfl⟩
          case measure => simp [intOf]; omega
        · have h45' : ((s[k].toNat : Int) != 45) = true := by simp [h45]
          by_cases h97 : (s[k].toNat : Int) < 97
          · have HC : Hid (Gate.yZ s[k] = false) := by have := HD.out; simp [Gate.yZ, Hid]; omega
            clear h45
            go_wp2_with (go_at_call 91; refine (zbb _ _ HD.out).mono ?_; rintro e w' ⟨rfl, rfl⟩)
            go_ret
            exact ⟨zh (HN.out HC.out).symm, rfl⟩
          · by_cases h122 : 122 < (s[k].toNat : Int)
            · have HC : Hid (Gate.yZ s[k] = false) := by have := HD.out; simp [Gate.yZ, Hid]; omega
              clear h45
              go_wp2_with (go_at_call 91; refine (zbb _ _ HD.out).mono ?_; rintro e w' ⟨rfl, rfl⟩)
              go_ret
              exact ⟨zh (HN.out HC.out).symm, rfl⟩
            · have HC : Hid (Gate.yZ s[k] = true) := by simp [Gate.yZ, Hid]; omega
              clear h45
              go_wp2_with (go_at_call 91; refine (zbb _ _ HD.out).mono ?_; rintro e w' ⟨rfl, rfl⟩)
              go_round
              case rel => exact ⟨k + 1, by omega, by go_num, by rw [HS.out, HC.out]; rfl⟩
              case measure => simp [intOf]; omega
    · have HA : Hid (Gate.zaW s = true) := by unfold Gate.zaW Hid; rw [<- Gate.zaL s k (by omega)]; exact hall
      clear hall
      go_wp2
      go_ret
      exact ⟨zh HA.out.symm, rfl⟩
set_option maxHeartbeats 400000 in
theorem qD (s : ByteArray) (w : World) (hs : s.size <= maxLen) :
    Calls Tryz.prog 40 #[.string s] w fun e w' => e = .returned (.bool (Gate.zL s)) /\ w' = w := by
  have hs' := hs
  unfold maxLen at hs'
  by_cases h0 : s.size = 0
  · rw [Gate.zc0 s h0]
    go_enter Tryz.func40, Tryz.ntmps40
    go_wp2
    go_ret
    exact ⟨rfl, rfl⟩
  · have hne : s.toList.isEmpty = false := by rw [Gate.zW]; simp [h0]
    by_cases h16 : s.size <= 16
    · have HF : Hid (Gate.zL s = Gate.zaW s) := by
        simp only [Hid, Gate.zL]; rw [decide_eq_true (show 1 <= s.size by omega), decide_eq_true h16]; simp
      go_enter Tryz.func40, Tryz.ntmps40
      go_wp2_with (go_at_call 73; refine (zcb _ _ hs).mono ?_; rintro e w' ⟨rfl, rfl⟩)
      go_ret
      exact ⟨zh HF.out.symm, rfl⟩
    · go_enter Tryz.func40, Tryz.ntmps40
      go_wp2_with (go_at_call 73; refine (zcb _ _ hs).mono ?_; rintro e w' ⟨rfl, rfl⟩)
      go_ret
      refine ⟨zh ?_, rfl⟩
      simp only [Gate.zL]; rw [decide_eq_false h16]; simp
end Go.Proofs.YtmfgjafdnopfbaaGreat

namespace Go.Proofs.YtmfgjafdnopfbaaGreat
open Go.RowKit
theorem zd9 {a b : Int} {p q : Bool} (h : a = b) (h2 : p = q) : Ending.returned (.tuple #[.int .i64 a, .bool p]) = .returned (.tuple #[.int .i64 b, .bool q]) := by rw [h, h2]
def zcs (s : ByteArray) : Int := if Gate.jQ s = true then Gate.zdB s else 0
set_option maxHeartbeats 800000 in
theorem zem (s : ByteArray) (w : World) (h1 : 1 <= s.size) (h7 : s.size <= 7) (hz : s.size <= 1 \/ ¬ (s[0].toNat : Int) = 48) :
    Calls Tryz.prog 112 #[.string s] w fun e w' => e = .returned (.tuple #[.int .i64 (zcs s), .bool (Gate.jQ s)]) /\ w' = w := by
  have HF : Hid (Gate.jQ s = Gate.j3 s) := Gate.zfq s h1 h7 hz
  have hne : s.toList.isEmpty = false := by rw [Gate.zW]; exact decide_eq_false (by omega)
  rcases (show (¬ (s[0].toNat : Int) = 48) \/ (s.size <= 1 /\ (s[0].toNat : Int) = 48) by rcases hz with h | h <;> omega) with hz0 | ⟨hone, hz0⟩
  all_goals
    clear hz
    first
      | (have hz1 : ((s[0].toNat : Int) == 48) = true := by simpa using hz0)
      | (have hz1 : ((s[0].toNat : Int) == 48) = false := by simpa using hz0)
    clear hz0
    go_enter Tryz.func112, Tryz.ntmps112
    go_wp2
    go_loop [4, 25] (fun n i => ∃ k : Nat, k <= s.size /\ i = .int .i64 k /\ (s.data.toList.take k).all Gate.digit = true /\ n = .int .i64 (Gate.dec (s.data.toList.take k))) (fun _ i => s.size - (intOf i).toNat)
    case atStart => exact ⟨0, Nat.zero_le _, rfl, rfl, rfl⟩
    case round =>
      obtain ⟨k, hk, rfl, hall, rfl⟩ := hrel
      have hlen : (s.data.toList.take k).length <= k := List.length_take_le _ _
      obtain ⟨hd0, hd1⟩ := Gate.zdH _ hall k hlen
      by_cases hlt : k < s.size
      · have hp := ze7 k (by omega)
        have hd2 : Gate.dec (s.data.toList.take k) < 10000000 := by omega
        clear hp hd1 hlen
        have HS : Hid ((s.data.toList.take (k + 1)).all Gate.digit = (true && Gate.digit s[k])) := by rw [Gate.zbc _ s k hlt, hall]; rfl
        have HD : Hid (Gate.dec (s.data.toList.take (k + 1)) = Gate.dec (s.data.toList.take k) * 10 + ((s[k].toNat : Int) - 48)) := by rw [Gate.zdD s k hlt]; exact Gate.zge _ _
        have HN : Hid (Gate.digit s[k] = false -> Gate.j3 s = false) := fun h => Gate.zcH Gate.digit s k hlt h
        clear hall
        by_cases hd : 48 <= (s[k].toNat : Int) /\ (s[k].toNat : Int) <= 57
        · have HC : Hid (Gate.digit s[k] = true) := by simp [Gate.digit, Hid]; omega
          obtain ⟨h48, h57⟩ := hd
          go_wp2_with (go_at_call 91; refine (zdO _ _ h48 h57).mono ?_; rintro e w' ⟨rfl, rfl⟩)
          go_round
          case rel => exact ⟨k + 1, by omega, by go_num, by rw [HS.out, HC.out]; rfl, by rw [HD.out]⟩
          case measure => simp [intOf]; omega
        · have HC : Hid (Gate.digit s[k] = false) := by simp [Gate.digit, Hid]; omega
          have HDD : Hid (¬ (48 <= (s[k].toNat : Int) /\ (s[k].toNat : Int) <= 57)) := hd
          clear hd
          go_wp2_with (go_at_call 91; refine (zbb _ _ HDD.out).mono ?_; rintro e w' ⟨rfl, rfl⟩)
          go_ret2
          exact ⟨zd9 (by unfold zcs; rw [HF.out, HN.out HC.out]; rfl) (by rw [HF.out, HN.out HC.out]), rfl⟩
      · have HA : Hid (Gate.j3 s = true) := by unfold Gate.j3 Hid; rw [<- Gate.zaL s k (by omega)]; exact hall
        have HB : Hid (Gate.dec (s.data.toList.take k) = Gate.zdB s) := by rw [Gate.zaL s k (by omega)]; rfl
        clear hall hd0 hd1 hlen
        go_wp2
        go_ret2
        exact ⟨zd9 (by unfold zcs; rw [HF.out, HA.out, HB.out]; rfl) (by rw [HF.out, HA.out]), rfl⟩
set_option maxHeartbeats 400000 in
theorem zcV (s : ByteArray) (w : World) (hs : s.size <= maxLen) :
    Calls Tryz.prog 112 #[.string s] w fun e w' => e = .returned (.tuple #[.int .i64 (zcs s), .bool (Gate.jQ s)]) /\ w' = w := by
  unfold maxLen at hs
  by_cases h0 : s.size = 0
  · rw [Gate.zc0 s h0]
    go_enter Tryz.func112, Tryz.ntmps112
    go_wp2
    go_ret2
    exact ⟨rfl, rfl⟩
  have hne : s.toList.isEmpty = false := by rw [Gate.zW]; simp [h0]
  by_cases h7 : s.size <= 7
  · by_cases hz : 1 < s.size /\ (s[0].toNat : Int) = 48
    · obtain ⟨hm, hz0⟩ := hz
      have HF : Hid (Gate.jQ s = false) := Gate.zcT s hm hz0
      have hz1 : ((s[0].toNat : Int) == 48) = true := by simpa using hz0
      clear hz0
      go_enter Tryz.func112, Tryz.ntmps112
      go_wp2
      go_ret2
      exact ⟨zd9 (by unfold zcs; rw [HF.out]; rfl) HF.out.symm, rfl⟩
    · exact zem s w (by omega) h7 (by omega)
  · have HF : Hid (Gate.jQ s = false) := Gate.zbR s (by omega)
    go_enter Tryz.func112, Tryz.ntmps112
    go_wp2
    go_ret2
    exact ⟨zd9 (by unfold zcs; rw [HF.out]; rfl) HF.out.symm, rfl⟩
end Go.Proofs.YtmfgjafdnopfbaaGreat
