import Derived.Test.YtkfigdbbncjojaaGreatM10
import Derived.Test.YtkfigdbbncjojaaGreatM05
import Derived.Test.YtkfigdbbncjojaaGreatM08
namespace Go.Proofs.YtkfigdbbncjojaaGreat
open Go.RowKit
def Tm.cells (m : Tm) : Array Value := #[.string m.nm, .string m.ov]
structure Tm.Small (m : Tm) : Prop where
  nm : m.nm.size <= maxLen
  ov : m.ov.size <= maxLen
structure qP (w : World) (a : Option Addr) (ts : List Tm) : Prop where
  len : ts.length <= maxLen
  small : ∀ i (h : i < ts.length), ts[i].Small
  rows : ts ≠ [] -> ∃ b off, a = some ⟨b, off, none⟩ /\ b < w.heap.size /\ ∀ i (h : i < ts.length), ∀ j, j < 2 -> w.cell? ⟨b, off + i * 2 + j, none⟩ = ts[i].cells[j]?
theorem qP.mono {w w' : World} {a : Option Addr} {ts : List Tm} (h : qP w a ts) (hl : Below w.heap.size w w') : qP w' a ts :=
  ⟨h.len, h.small, fun hne => by
    obtain ⟨b, off, ha, hb, hr⟩ := h.rows hne
    exact ⟨b, off, ha, Nat.lt_of_lt_of_le hb hl.size, fun i hi j hj => (hl.cell (p := ⟨b, off + i * 2 + j, none⟩) hb).trans (hr i hi j hj)⟩⟩
theorem qP.load {w w' : World} {a : Option Addr} {ts : List Tm} (h : qP w a ts) (hl : Below w.heap.size w w') (i : Nat) (hi : i < ts.length) : ∃ b off, a = some ⟨b, off, none⟩ /\ b < w.heap.size /\
    w'.cell? ⟨b, off + i * 2, none⟩ = some (.string ts[i].nm) /\ w'.cell? ⟨b, off + i * 2 + 1, none⟩ = some (.string ts[i].ov) := by
  obtain ⟨b, off, ha, hb, hr⟩ := h.rows (by rintro rfl; simp at hi)
  have hc : ∀ j, j < 2 -> w'.cell? ⟨b, off + i * 2 + j, none⟩ = ts[i].cells[j]? := fun j hj => (hl.cell (p := ⟨b, off + i * 2 + j, none⟩) hb).trans (hr i hi j hj)
  exact ⟨b, off, ha, hb, hc 0 (by omega), hc 1 (by omega)⟩
def Tm.sz (m : Tm) : Nat := m.nm.size + m.ov.size
def zgj (ts : List Tm) : Nat := (ts.map Tm.sz).sum
def zbQ (ts : List Tm) : Nat := ts.length + zgj ts
def zn2 (w : World) (b o : Nat) (v0 v1 : Value) : World := (w.setCell ⟨b, o, none⟩ v0).setCell ⟨b, o + 1, none⟩ v1
def set2 (C : Array Value) (o : Nat) (v0 v1 : Value) : Array Value := (C.setIfInBounds o v0).setIfInBounds (o + 1) v1
theorem zle {w : World} {b o : Nat} {C : Array Value} {t : TypeId} (h : w.heap[b]? = some (.cells C t)) (v0 v1 : Value) : (zn2 w b o v0 v1).heap[b]? = some (.cells (set2 C o v0 v1) t) :=
  zf (zf h v0) v1
theorem zla {B : Nat} {a w : World} (h : Below B a w) {b : Nat} (hb : B <= b) (o : Nat) (v0 v1 : Value) : Below B a (zn2 w b o v0 v1) :=
  (h.setCell hb v0).setCell hb v1
theorem zmz (C : Array Value) (o : Nat) (v0 v1 : Value) : (set2 C o v0 v1).size = C.size := by simp [set2]
theorem zm0 (C : Array Value) (o i : Nat) (v0 v1 : Value) (h : i < o \/ o + 2 <= i) : (set2 C o v0 v1)[i]? = C[i]? := by
  unfold set2
  iterate 2 rw [Array.getElem?_setIfInBounds, if_neg (by omega)]
theorem znQ (C : Array Value) (o j : Nat) (v0 v1 : Value) (hj : j < 2) (ho : o + 2 <= C.size) : (set2 C o v0 v1)[o + j]? = (#[v0, v1] : Array Value)[j]? := by
  have hc : j = 0 \/ j = 1 := by omega
  unfold set2
  rcases hc with h | h <;> subst h <;> simp [Array.getElem?_setIfInBounds] <;> omega
structure jI (ty : TypeId) (lo : Nat) (w : World) (bo : Nat) (ts : List Tm) (k : Nat) : Prop where
  low : lo <= bo
  rows : ∃ C, w.heap[bo]? = some (.cells C ty) /\ C.size = ts.length * 2 /\ ∀ i (h : i < ts.length), i < k -> ∀ j, j < 2 -> C[i * 2 + j]? = ts[i].cells[j]?
theorem jI.at {ty : TypeId} {lo : Nat} {w : World} {bo : Nat} {ts : List Tm} (h : jI ty lo w bo ts ts.length) (hs : ∀ i (h : i < ts.length), ts[i].Small) (hl : ts.length <= maxLen) : qP w (some ⟨bo, 0, none⟩) ts := by
  obtain ⟨C, hC, hsz, hr⟩ := h.rows
  refine ⟨hl, hs, fun _ => ⟨bo, 0, rfl, (Array.getElem?_eq_some_iff.1 hC).1, fun i hi j hj => ?_⟩⟩
  rw [cell_of_block hC, Nat.zero_add]
  exact hr i hi hi j hj
theorem jI.later {ty : TypeId} {lo : Nat} {w w' : World} {bo : Nat} {ts : List Tm} {k : Nat} (h : jI ty lo w bo ts k) (hb : Below w.heap.size w w') : jI ty lo w' bo ts k := by
  obtain ⟨C, hC, hsz, hr⟩ := h.rows
  exact ⟨h.low, C, (hb.block bo (Array.getElem?_eq_some_iff.1 hC).1).trans hC, hsz, hr⟩
theorem jI.put {ty : TypeId} {lo : Nat} {w : World} {bo : Nat} {ts : List Tm} {k : Nat} (h : jI ty lo w bo ts k) (hk : k < ts.length) :
    jI ty lo (zn2 w bo (k * 2) (.string ts[k].nm) (.string ts[k].ov)) bo ts (k + 1) := by
  obtain ⟨C, hC, hsz, hr⟩ := h.rows
  refine ⟨h.low, _, zle hC _ _, by rw [zmz]; exact hsz, fun i hi hik j hj => ?_⟩
  rcases Nat.lt_or_ge i k with hlt | hge
  · rw [zm0 _ _ _ _ _ (by omega)]
    exact hr i hi hlt j hj
  · have e : i = k := by omega
    subst e
    rw [znQ _ _ _ _ _ hj (by omega)]
    rfl
def znb : Array Value := #[.string ByteArray.empty, .string ByteArray.empty]
def zl6 (n : Nat) : Array Value := madeCells znb (n * 2)
end Go.Proofs.YtkfigdbbncjojaaGreat

namespace Go.Proofs.YtkfigdbbncjojaaGreat
structure Rl where
  vs : List Int
  kd : ByteArray
  tm : ByteArray
  px : ByteArray
structure Ac where
  vb : Int
  kd : ByteArray
  tm : ByteArray
  nm : ByteArray
namespace Gate
def zbY (v : Int) : Bool := decide (1 <= v) && decide (v <= 5)
def jG (vs : List Int) (i : Nat) : Bool := zbY (vs.getD i 0) && (decide (i = 0) || decide (vs.getD (i - 1) 0 < vs.getD i 0))
def za1 (vs : List Int) : Bool := decide (0 < vs.length) && up (jG vs) vs.length
def zcv (r : Rl) : Bool := (r.kd.toList.isEmpty || zy r.kd) && (r.tm.toList.isEmpty || zy r.tm)
def jJ (r : Rl) : Bool := zcv r && (za1 r.vs && (decide (r.px.size <= 16) && jr r.px))
def begins (s p : ByteArray) : Bool := decide (p.size <= s.size) && ((s.extract 0 p.size).toList == p.toList)
def meets (ts : List Tm) (r : Rl) (kd tm nm : ByteArray) : Bool := (r.kd.toList.isEmpty || decide (r.kd = kd)) && ((r.tm.toList.isEmpty || under ts 4 tm r.tm) && begins nm r.px)
end Gate
end Go.Proofs.YtkfigdbbncjojaaGreat

namespace Go.Proofs.YtkfigdbbncjojaaGreat
open Go.RowKit
set_option maxHeartbeats 1000000 in
theorem zjz (w0 : World) (a : Option Addr) (cap : Nat) (ss : List Shp) (v : ByteArray) (w : World) (hw : yB w0 a ss) (hbb : Below w0.heap.size w0 w) :
    Calls Tryz.prog 105 #[.slice a ss.length cap, .string v] w fun e w' => ∃ fa fcap, e = .returned (.tuple #[.agg #[.string (Gate.shapeOf ss v).kd, .slice fa (Gate.shapeOf ss v).fs.length fcap], .bool (Gate.zC ss v)]) /\
      zW w0 fa (Gate.shapeOf ss v).fs /\ Below w.heap.size w w' := by
  have hl := hw.len
  unfold maxLen at hl
  go_enter Tryz.func105, Tryz.ntmps105
  go_wp2
  go_loopw [10] (fun i wr => ∃ k : Nat, k <= ss.length /\ i = .int .i64 k /\ Gate.zC (ss.take k) v = false /\ Below (w.heap.size + 1) (w.alloc (.cells #[.string ByteArray.empty, .slice none 0 0] 127)) wr) (fun i _ => ss.length - (intOf i).toNat)
  case atStart => exact ⟨0, Nat.zero_le _, rfl, rfl, Below.refl _ _⟩
  case round =>
    obtain ⟨k, hk, rfl, hno, hbl⟩ := hrel
    have hsz : w.heap.size < wr.heap.size := by have := hbl.size; simp at this; omega
    have hB0 : Below w.heap.size w wr := ((Below.refl _ _).alloc (Nat.le_refl _) _).trans (hbl.mono (by omega))
    have hX0 : wr.cell? ⟨w.heap.size, 0, none⟩ = some (.string ByteArray.empty) := (hbl.cell (p := ⟨w.heap.size, 0, none⟩) (by simp)).trans (by rw [World.cell?_alloc_at _ _ _ _ rfl]; rfl)
    have hX1 : wr.cell? ⟨w.heap.size, 1, none⟩ = some (.slice none 0 0) := (hbl.cell (p := ⟨w.heap.size, 1, none⟩) (by simp)).trans (by rw [World.cell?_alloc_at _ _ _ _ rfl]; rfl)
    have hF0 : wr.frozen? ⟨w.heap.size, 0, none⟩ = false := (hbl.frozen (p := ⟨w.heap.size, 0, none⟩) (by simp)).trans (by rw [World.frozen?_alloc_at _ _ _ _ rfl])
    have hF1 : wr.frozen? ⟨w.heap.size, 1, none⟩ = false := (hbl.frozen (p := ⟨w.heap.size, 1, none⟩) (by simp)).trans (by rw [World.frozen?_alloc_at _ _ _ _ rfl])
    by_cases hlt : k < ss.length
    · obtain ⟨b, off, rfl, hb, hr⟩ := hw.rows (by rintro rfl; simp at hlt)
      obtain ⟨fa, fcap, hs⟩ := hr k hlt
      have hb0 : b < w.heap.size := Nat.lt_of_lt_of_le hb hbb.size
      have hck := ((hB0.cell (p := ⟨b, off + k * 2, none⟩) hb0).trans (hbb.cell (p := ⟨b, off + k * 2, none⟩) hb)).trans hs.kind
      have hcl := ((hB0.cell (p := ⟨b, off + k * 2 + 1, none⟩) hb0).trans (hbb.cell (p := ⟨b, off + k * 2 + 1, none⟩) hb)).trans hs.list
      have hfl := hs.flds
      clear hw hr hs
      by_cases he : ss[k].kd = v
      · have hbe : (ss[k].kd.toList == v.toList) = true := by rw [Gate.beq_toList]; simpa using he
        have HA : Hid (Gate.zC ss v = true) := Gate.zdT ss v k hlt he
        have HB : Hid (Gate.shapeOf ss v = ss[k]) := Gate.zco ss v k hlt hno he
        clear he hno
        go_wp2
        refine bodyPost_ret (v := .tuple #[.agg #[.string ss[k].kd, .slice fa ss[k].fs.length fcap], .bool true]) (by simp [results, Tryz.results105, go_sem, hX0, hX1, hsz]) rfl ⟨fa, fcap, by rw [HA.out, HB.out], by rw [HB.out]; exact hfl, ?_⟩
        exact ((hB0.setCell (Nat.le_refl _) _).setCell (Nat.le_refl _) _).alloc (by simp [World.setCell]; omega) _
      · have hbe : (ss[k].kd.toList == v.toList) = false := by rw [Gate.beq_toList]; simpa using he
        have HS : Hid (Gate.zC (ss.take (k + 1)) v = false) := by unfold Hid; rw [Gate.zcu ss v k hlt, hno, decide_eq_false he]; rfl
        clear he hno hX0 hX1 hF0 hF1
        go_wp2
        go_roundw
        case rel => exact ⟨k + 1, by omega, by go_num, HS.out, hbl.alloc (by omega) _⟩
        case measure => simp [intOf]; omega
    · have HA : Hid (Gate.zC ss v = false) := by rw [<- Gate.zc8 ss v k (by omega)]; exact hno
      have HB : Hid (Gate.shapeOf ss v = Gate.zaM) := Gate.zen ss v HA.out
      clear hno hw
      go_wp2
      refine bodyPost_ret (v := .tuple #[.agg #[.string ByteArray.empty, .slice none 0 0], .bool false]) (by simp [results, Tryz.results105, go_sem, hX0, hX1]; rfl) rfl ⟨none, 0, by rw [HA.out, HB.out]; rfl, by rw [HB.out]; exact ⟨by simp [Gate.zaM, maxLen], fun h => absurd rfl h⟩, ?_⟩
      exact (hB0.setCell (Nat.le_refl _) _).setCell (Nat.le_refl _) _
end Go.Proofs.YtkfigdbbncjojaaGreat

namespace Go.Proofs.YtkfigdbbncjojaaGreat
open Go.ChangeShapes Go.WideShapes Go.ChangeAt Go.RowKit
theorem Tryz.ziG : Tryz.prog.cellsOf 82 = 6 := by kernel_rfl
section
variable {H : Type} {enc : TypeId × Value -> H} {w : World} {base : Nat} {spare : Nat -> Bool} {held : Bool}
theorem zmW {fuel : Nat} {cs : List Value} {x : DataW H × List MemPlace} (h : DataW.trod enc Tryz.prog w base spare held fuel 82 cs = some x) :
    ∃ m : Mnd, cs = m.cells.toList /\ m.Small := by
  have hlen : cs.length = 6 := by
    obtain ⟨_, _, _, _, hl, _, _⟩ := DataW.trod_struct Tryz.underlying82 h
    rw [hl]; exact Tryz.ziG
  match cs, hlen with
  | [c0, c1, c2, c3, c4, c5], _ =>
    have hf := jk Tryz.underlying82 h
    obtain ⟨_, _, f0⟩ := hf 0 9 0 c0 rfl Tryz.zJ rfl
    obtain ⟨_, _, f1⟩ := hf 1 9 1 c1 rfl Tryz.zJ rfl
    obtain ⟨_, _, f2⟩ := hf 2 9 2 c2 rfl Tryz.zJ rfl
    obtain ⟨_, _, f3⟩ := hf 3 9 3 c3 rfl Tryz.zJ rfl
    obtain ⟨_, _, f4⟩ := hf 4 9 4 c4 rfl Tryz.zJ rfl
    obtain ⟨_, _, f5⟩ := hf 5 9 5 c5 rfl Tryz.zJ rfl
    obtain ⟨x0, e0, _, s0⟩ := DataW.trod_string Tryz.underlying9 f0
    obtain ⟨x1, e1, _, s1⟩ := DataW.trod_string Tryz.underlying9 f1
    obtain ⟨x2, e2, _, s2⟩ := DataW.trod_string Tryz.underlying9 f2
    obtain ⟨x3, e3, _, s3⟩ := DataW.trod_string Tryz.underlying9 f3
    obtain ⟨x4, e4, _, s4⟩ := DataW.trod_string Tryz.underlying9 f4
    obtain ⟨x5, e5, _, s5⟩ := DataW.trod_string Tryz.underlying9 f5
    simp only [List.cons.injEq, and_true] at e0 e1 e2 e3 e4 e5
    subst e0 e1 e2 e3 e4 e5
    exact ⟨⟨x0, x1, x2, x3, x4, x5⟩, rfl, s0, s1, s2, s3, s4, s5⟩
theorem zk9 {fuel : Nat} {cs : List Value} {x : DataW H × List MemPlace} (h : DataW.trod enc Tryz.prog w base spare held fuel 23 cs = some x) :
    ∃ a cap ms, cs = [.slice a (List.length ms) cap] /\ y5 w a ms := by
  obtain ⟨a, len, cap, rfl, hm, hr⟩ := jY Tryz.underlying23 Tryz.ziG (by omega) h
  rcases Nat.eq_zero_or_pos len with h0 | hp
  · subst h0
    exact ⟨a, cap, [], rfl, ⟨by simp [maxLen], fun i h => absurd h (by simp), fun h => absurd rfl h⟩⟩
  · obtain ⟨b, off, rfl, hb, hrow⟩ := hr hp
    have hf : ∀ i, i < len -> ∃ m : Mnd, m.Small /\ ∀ j, j < 6 -> w.cell? ⟨b, off + i * 6 + j, none⟩ = m.cells[j]? := by
      intro i hi
      obtain ⟨es, n, y, hel, hcell, hy⟩ := hrow i hi
      obtain ⟨m, rfl, hs⟩ := zmW hy
      exact ⟨m, hs, fun j hj => by rw [hcell j hj]; simp⟩
    obtain ⟨ms, hl, hms⟩ := zaW len hf
    exact ⟨_, cap, ms, by rw [hl], ⟨by omega, fun i hi => (hms i hi).1, fun _ => ⟨b, off, rfl, hb, fun i hi => (hms i hi).2⟩⟩⟩
end
end Go.Proofs.YtkfigdbbncjojaaGreat
