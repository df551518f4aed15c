import Derived.Test.YtnbpglbbjnkhpaaGreatM04
import Derived.Test.YtnbpglbbjnkhpaaGreatM03
import Derived.WalkKit
namespace Go.Proofs.YtnbpglbbjnkhpaaGreat
open Go.RowKit
structure zaQ (w : World) (r : Nat) (f : Int -> Option Int) : Prop where
  ex : ∃ es clock, w.heap[r]? = some (.map es clock) /\ (∀ x ∈ es.toList, ∃ k v, x.key = .int .i64 k /\ x.val = .int .i64 v /\ f k = some v) /\ (∀ k v, f k = some v -> ∃ x ∈ es.toList, x.key = .int .i64 k) /\ ∀ (i j : Nat) (x y : MapEntry), es[i]? = some x -> es[j]? = some y -> x.key = y.key -> i = j
theorem zaQ.mono {w w' : World} {r : Nat} {f : Int -> Option Int} (h : zaQ w r f) (hb : w'.heap[r]? = w.heap[r]?) : zaQ w' r f := by
  obtain ⟨es, clock, h1, h2⟩ := h.ex
  exact ⟨es, clock, hb.trans h1, h2⟩
theorem zaQ.lt {w : World} {r : Nat} {f : Int -> Option Int} (h : zaQ w r f) : r < w.heap.size := by
  obtain ⟨es, clock, h1, _⟩ := h.ex
  exact (Array.getElem?_eq_some_iff.1 h1).1
theorem zaW (k : Int) : MapKept.IsKey (.int .i64) (.int .i64 k) := by simp [MapKept.IsKey]
theorem zaQ.keys {es : Array MapEntry} {f : Int -> Option Int} (h : ∀ x ∈ es.toList, ∃ k v, x.key = .int .i64 k /\ x.val = .int .i64 v /\ f k = some v) : ∀ x ∈ es.toList, MapKept.IsKey (.int .i64) x.key := by
  intro x hx
  obtain ⟨k, v, h1, _⟩ := h x hx
  rw [h1]; exact zaW k
theorem zaQ.look {w : World} {r : Nat} {f : Int -> Option Int} (h : zaQ w r f) (k : Int) :
    (Instr.lookup 240 (.map (some r)) (.int .i64 k) true).run Tryz.prog w = .ok (.tuple #[.int .i64 ((f k).getD 0), .bool (f k).isSome]) w := by
  obtain ⟨es, clock, hb, h1, h2, h3⟩ := h.ex
  rcases MapKept.findNow_spec (zaW k) es.toList 0 (zaQ.keys h1) with ⟨g1, g2⟩ | ⟨j, e, g1, g2, g3⟩
  · have hn : f k = none := by
      cases hf : f k with
      | none => rfl
      | some v =>
        obtain ⟨x, hx, hk⟩ := h2 k v hf
        exact absurd hk (g2 x hx)
    rw [hn]
    exact zbD Tryz.underlying240 Tryz.underlying3 (.int .i64 k) (.int .i64 0) (zaW k) es clock g1 w (by kernel_rfl) r hb
  · obtain ⟨k', v', e1, e2, e3⟩ := h1 e (List.mem_of_getElem? g2)
    rw [g3] at e1
    cases e1
    rw [e3]
    rw [e2] at g1
    exact yN Tryz.underlying240 Tryz.underlying3 (.int .i64 k) (.int .i64 v') (zaW k) es clock _ g1 w r hb
structure zfB (r : Nat) (w w' : World) : Prop where
  os : w'.os = w.os
  tape : w'.tape = w.tape
  output : w'.output = w.output
  size : w'.heap.size = w.heap.size
  out : ∀ k, k ≠ r -> w'.heap[k]? = w.heap[k]?
theorem zaQ.upd {w : World} {r : Nat} {f : Int -> Option Int} (h : zaQ w r f) (k v : Int) :
    ∃ w', (Instr.mapUpdate 240 (.map (some r)) (.int .i64 k) (.int .i64 v)).run Tryz.prog w = .ok () w' /\ zaQ w' r (fun q => if q = k then some v else f q) /\ zfB r w w' := by
  obtain ⟨es, clock, hb, h1, h2, h3⟩ := h.ex
  have hm := Tryz.underlying240
  have hd := Tryz.underlying3
  rcases MapKept.findNow_spec (zaW k) es.toList 0 (zaQ.keys h1) with ⟨g1, g2⟩ | ⟨j, e, g1, g2, g3⟩
  · refine ⟨{ w with heap := w.heap.setIfInBounds r (.map (es.push ⟨.int .i64 k, .int .i64 v, clock⟩) (clock + 1)) }, ?_, ⟨_, _, (MapKept.heap_set hb).1, ?_, ?_, ?_⟩, rfl, rfl, rfl, by simp, fun q hq => (MapKept.heap_set hb).2 q hq⟩
    · simp [Instr.mapUpdate, run_underlying hm, MapKept.run_getObj_map hb, MapKept.run_checkKey hd (zaW k), MapKept.run_findKey hd g1, MapKept.run_setObj_map _ hb, Result.andThen]
    · intro x hx
      rw [Array.toList_push, List.mem_append, List.mem_singleton] at hx
      rcases hx with hx | rfl
      · obtain ⟨k', v', e1, e2, e3⟩ := h1 x hx
        refine ⟨k', v', e1, e2, ?_⟩
        have : k' ≠ k := by rintro rfl; exact g2 x hx e1
        simp only [if_neg this]; exact e3
      · exact ⟨k, v, rfl, rfl, by simp⟩
    · intro q u hq
      by_cases e : q = k
      · subst e
        exact ⟨⟨.int .i64 q, .int .i64 v, clock⟩, by simp, rfl⟩
      · rw [if_neg e] at hq
        obtain ⟨x, hx, hk⟩ := h2 q u hq
        exact ⟨x, by simp [Array.toList_push]; exact Or.inl (by simpa using hx), hk⟩
    · intro i j' x y hx hy hxy
      rw [Array.getElem?_push] at hx hy
      by_cases e1 : i = es.size
      · by_cases e2 : j' = es.size
        · omega
        · rw [if_pos e1] at hx
          rw [if_neg e2] at hy
          have hm : y ∈ es.toList := by rw [<- Array.mem_def]; exact Array.mem_of_getElem? hy
          cases hx
          exact absurd hxy.symm (g2 y hm)
      · by_cases e2 : j' = es.size
        · rw [if_neg e1] at hx
          rw [if_pos e2] at hy
          have hm : x ∈ es.toList := by rw [<- Array.mem_def]; exact Array.mem_of_getElem? hx
          cases hy
          exact absurd hxy (g2 x hm)
        · rw [if_neg e1] at hx
          rw [if_neg e2] at hy
          exact h3 i j' x y hx hy hxy
  · have hj : es[j]? = some e := by simpa using g2
    refine ⟨{ w with heap := w.heap.setIfInBounds r (.map (es.modify j fun x => { x with key := .int .i64 k, val := .int .i64 v }) clock) }, ?_, ⟨_, _, (MapKept.heap_set hb).1, ?_, ?_, ?_⟩, rfl, rfl, rfl, by simp, fun q hq => (MapKept.heap_set hb).2 q hq⟩
    · simp [Instr.mapUpdate, run_underlying hm, MapKept.run_getObj_map hb, MapKept.run_checkKey hd (zaW k), MapKept.run_findKey hd g1, hj, g3, MapKept.run_keyThatStays (zaW k), MapKept.run_setObj_map _ hb, Result.andThen]
    · intro x hx
      obtain ⟨i, hi, rfl⟩ := List.mem_iff_getElem.1 hx
      have hi' : i < es.size := by simpa using hi
      simp only [Array.getElem_toList, Array.getElem_modify]
      by_cases e' : j = i
      · subst e'
        simp only [if_true]
        exact ⟨k, v, rfl, rfl, by simp⟩
      · simp only [if_neg e']
        obtain ⟨k', v', e1, e2, e3⟩ := h1 es[i] (by simp)
        have ek : k' ≠ k := by
          rintro rfl
          exact e' (h3 j i e es[i] hj (Array.getElem?_eq_getElem hi') (g3.trans e1.symm))
        exact ⟨k', v', e1, e2, by rw [if_neg ek]; exact e3⟩
    · intro q u hq
      have hj' : j < es.size := (Array.getElem?_eq_some_iff.1 hj).1
      by_cases e' : q = k
      · subst e'
        refine ⟨(es.modify j fun x => { x with key := .int .i64 q, val := .int .i64 v })[j]'(by simpa using hj'), ?_, ?_⟩
        · rw [<- Array.mem_def]; exact Array.getElem_mem _
        · rw [Array.getElem_modify]; simp
      · rw [if_neg e'] at hq
        obtain ⟨x, hx, hk⟩ := h2 q u hq
        obtain ⟨i, hi, rfl⟩ := List.mem_iff_getElem.1 hx
        have hi' : i < es.size := by simpa using hi
        have hij : j ≠ i := by
          rintro rfl
          rw [Array.getElem_toList] at hk
          rw [Array.getElem?_eq_getElem hi'] at hj
          cases hj
          rw [g3] at hk
          cases hk
          exact e' rfl
        refine ⟨(es.modify j fun x => { x with key := .int .i64 k, val := .int .i64 v })[i]'(by simpa using hi'), ?_, ?_⟩
        · rw [<- Array.mem_def]; exact Array.getElem_mem _
        · rw [Array.getElem_modify, if_neg hij]; simpa using hk
    · have hkey : ∀ (i : Nat) (x : MapEntry), (es.modify j fun x => { x with key := .int .i64 k, val := .int .i64 v })[i]? = some x -> ∃ y, es[i]? = some y /\ x.key = y.key := by
        intro i x hx
        obtain ⟨hi, rfl⟩ := Array.getElem?_eq_some_iff.1 hx
        have hi' : i < es.size := by simpa using hi
        refine ⟨es[i], Array.getElem?_eq_getElem hi', ?_⟩
        rw [Array.getElem_modify]
        by_cases e' : j = i
        · subst e'
          rw [Array.getElem?_eq_getElem hi'] at hj
          cases hj
          simp [g3]
        · rw [if_neg e']
      intro i j' x y hx hy hxy
      obtain ⟨x', hx', ex⟩ := hkey i x hx
      obtain ⟨y', hy', ey⟩ := hkey j' y hy
      exact h3 i j' x' y' hx' hy' (ex.symm.trans (hxy.trans ey))
end Go.Proofs.YtnbpglbbjnkhpaaGreat

namespace Go.Proofs.YtnbpglbbjnkhpaaGreat
structure Ob where
  kd : ByteArray
  nm : ByteArray
  tm : ByteArray
  vs : List ByteArray
  en : Bool
  hs : List ByteArray
  vr : Int
def Ob.cells (o : Ob) (a : Option Addr) (cap : Nat) (a' : Option Addr) (cap' : Nat) : Array Value :=
  #[.string o.kd, .string o.nm, .string o.tm, .slice a o.vs.length cap, .bool o.en, .slice a' o.hs.length cap', .int .i64 o.vr]
structure Ob.Small (o : Ob) : Prop where
  kd : o.kd.size <= maxLen
  nm : o.nm.size <= maxLen
  tm : o.tm.size <= maxLen
namespace Gate
def jL (f : Fld) (v : ByteArray) : Int := if v.size = 0 then (if f.mu then 2 else 0) else if zdP f v then 0 else 3
def zdj (fs : List Fld) (vs : List ByteArray) (i : Nat) : Int := jL (fs.getD i za1) (vs.getD i ByteArray.empty)
def zaL (fs : List Fld) (vs : List ByteArray) (i : Nat) : Bool := decide (zdj fs vs i = 0)
def jy (fs : List Fld) (vs : List ByteArray) : Int × Int := match (List.range fs.length).find? (fun i => !zaL fs vs i) with | some i => (zdj fs vs i, i) | none => (0, 0)
theorem find_range {P : Nat -> Bool} {n k : Nat} (hk : k < n) (hu : up P k = true) (hp : P k = false) : (List.range n).find? (fun i => !P i) = some k := by
  rw [List.find?_eq_some_iff_getElem]
  refine ⟨by simp [hp], k, by simpa using hk, by simp, fun j hj => ?_⟩
  have := zf4 hj hu
  simp [this]
theorem zgV {P : Nat -> Bool} {n : Nat} (hu : up P n = true) : (List.range n).find? (fun i => !P i) = none := by
  rw [List.find?_eq_none]
  intro x hx
  have := zf4 (List.mem_range.1 hx) hu
  simp [this]
theorem ziX {fs : List Fld} {vs : List ByteArray} {k : Nat} (hk : k < fs.length) (hu : up (zaL fs vs) k = true) (hp : zaL fs vs k = false) : jy fs vs = (zdj fs vs k, (k : Int)) := by
  unfold jy; rw [find_range hk hu hp]
theorem zf6 {fs : List Fld} {vs : List ByteArray} (hu : up (zaL fs vs) fs.length = true) : jy fs vs = (0, 0) := by
  unfold jy; rw [zgV hu]
theorem zib {fs : List Fld} {vs : List ByteArray} {k : Nat} (h1 : k < fs.length) (h2 : k < vs.length) : zdj fs vs k = jL fs[k] vs[k] := by
  unfold zdj; rw [getD_at fs k _ h1, getD_at vs k _ h2]
def qy (o : Ob) : Bool := zx o.nm && zx o.tm
def qL (o : Ob) : Bool := decide (o.hs.length <= 3) && asc o.hs
def y5 (o : Ob) : Bool := decide (0 <= o.vr) && decide (o.vr <= 1000000)
def zy (ss : List Shp) (o : Ob) : Bool := zG ss o.kd && decide (o.vs.length = (shapeOf ss o.kd).fs.length)
def whole (ss : List Shp) (o : Ob) : Bool := qy o && qL o && y5 o && zy ss o
def yC (ss : List Shp) (o : Ob) : Int × Int := if whole ss o = true then jy (shapeOf ss o.kd).fs o.vs else (1, 0)
def check (ss : List Shp) (o : Ob) : Int × Int := if zZ ss = true then yC ss o else (1, 0)
end Gate
end Go.Proofs.YtnbpglbbjnkhpaaGreat

namespace Go.Proofs.YtnbpglbbjnkhpaaGreat
open Go.RowKit
structure ql (w : World) (o : Ob) (a a' : Option Addr) : Prop where
  small : o.Small
  vals : zD w a o.vs
  holds : zD w a' o.hs
theorem ql.mono {w w' : World} {o : Ob} {a a' : Option Addr} (h : ql w o a a') (hb : Below w.heap.size w w') : ql w' o a a' :=
  ⟨h.small, h.vals.mono hb, h.holds.mono hb⟩
end Go.Proofs.YtnbpglbbjnkhpaaGreat

namespace Go.Proofs.YtnbpglbbjnkhpaaGreat
open Go.RowKit
theorem Tryz.zb1 : (Tryz.prog.info? 9).map (fun i => (i.zero, i.size, i.bytes)) = some (some (.string ByteArray.empty), 1, 16) := by kernel_rfl
set_option maxHeartbeats 1000000 in
theorem zd9 (b off cap : Nat) (ws : List ByteArray) (w : World) (hw : zD w (some ⟨b, off, none⟩) ws) (hl : ws.length <= 1048576) :
    Calls Tryz.prog 200 #[.slice (some ⟨b, off, none⟩) ws.length cap] w
      fun e w' => ∃ v, e = .returned v /\ w'.ownsRow w.heap.size 9 1 v ws.length (ws.map Value.string) /\ Below w.heap.size w w' := by
  obtain ⟨i0, hi, hz0, hz1, hz2⟩ := info_parts Tryz.zb1
  have hnews : ∀ j u, (ws.map Value.string)[j]? = some u -> w.cell? ((⟨b, off, none⟩ : Addr).add j) = some u := by
    intro j u hj
    have hlt : j < ws.length := by
      have := (List.getElem?_eq_some_iff.1 hj).1; simpa using this
    obtain ⟨b', off', he, hb, hc⟩ := hw.cells (by rintro rfl; simp at hlt)
    simp only [Option.some.injEq, Addr.mk.injEq] at he
    obtain ⟨rfl, rfl, _⟩ := he
    have h1 := hc j hlt
    have e1 : (⟨b, off, none⟩ : Addr).add j = ⟨b, off + j, none⟩ := by
      unfold Addr.add; split
      · rename_i h; subst h; simp
      · rfl
    rw [e1, h1]
    rw [List.getElem?_map, List.getElem?_eq_getElem hlt] at hj
    simpa using hj
  have hone : ∀ u ∈ ws.map Value.string, u.oneCell' = true := by
    intro u hu; simp only [List.mem_map] at hu; obtain ⟨s, _, rfl⟩ := hu; rfl
  go_enter Tryz.func200, Tryz.ntmps200
  go_wp2_with (at_builtin; refine wpList_append_own _ rfl _ _ 87 rfl w.heap.size 9 i0 (.string ByteArray.empty) 1 16 Tryz.underlying87 hi hz0 hz1 hz2 rfl (by decide) (.slice none 0 0) 0 [] rfl ⟨rfl, .inl ⟨rfl, rfl⟩⟩ ⟨b, off, none⟩ ws.length cap (ws.map Value.string) rfl (by simp) hnews hone (by unfold maxLen; omega) (by omega) (Nat.le_refl _) ?_; intro v' w1 hown hgr _)
  simp only [Nat.zero_add, List.nil_append] at hown
  go_ret
  exact ⟨v', rfl, hown, (Below.refl _ _).grown hgr (Nat.le_refl _) (by simp [Value.ownBlock])⟩
end Go.Proofs.YtnbpglbbjnkhpaaGreat
