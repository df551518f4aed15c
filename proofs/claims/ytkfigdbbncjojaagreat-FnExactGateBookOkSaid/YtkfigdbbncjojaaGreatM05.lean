import Derived.Test.YtkfigdbbncjojaaGreatM03
import Derived.Test.YtkfigdbbncjojaaGreatM01
namespace Go.Proofs.YtkfigdbbncjojaaGreat
open Go.RowKit
theorem zdK.load {w : World} {b off : Nat} {f : Fld} {a : Option Addr} {cap : Nat} (h : zdK w b off f a cap) :
    w.cell? ⟨b, off, none⟩ = some (.string f.nm) /\ w.cell? ⟨b, off + 1, none⟩ = some (.int .i64 f.kd) /\ w.cell? ⟨b, off + 2, none⟩ = some (.int .i64 f.ls) /\ w.cell? ⟨b, off + 3, none⟩ = some (.int .i64 f.ms) /\
    w.cell? ⟨b, off + 4, none⟩ = some (.slice a f.ws.length cap) /\ w.cell? ⟨b, off + 5, none⟩ = some (.string f.to) /\ w.cell? ⟨b, off + 6, none⟩ = some (.int .i64 f.rl) /\ w.cell? ⟨b, off + 7, none⟩ = some (.bool f.mu) /\
    w.cell? ⟨b, off + 8, none⟩ = some (.bool f.fx) /\ w.cell? ⟨b, off + 9, none⟩ = some (.string f.df) /\ w.cell? ⟨b, off + 10, none⟩ = some (.string f.wg) :=
  ⟨h.cell 0 (by omega), h.cell 1 (by omega), h.cell 2 (by omega), h.cell 3 (by omega), h.cell 4 (by omega), h.cell 5 (by omega), h.cell 6 (by omega), h.cell 7 (by omega), h.cell 8 (by omega), h.cell 9 (by omega), h.cell 10 (by omega)⟩
end Go.Proofs.YtkfigdbbncjojaaGreat

namespace Go.Proofs.YtkfigdbbncjojaaGreat
open Go.RowKit
structure Mnd where
  kd : ByteArray
  fd : ByteArray
  wh : ByteArray
  wi : ByteArray
  pt : ByteArray
  fr : ByteArray
def Mnd.cells (m : Mnd) : Array Value := #[.string m.kd, .string m.fd, .string m.wh, .string m.wi, .string m.pt, .string m.fr]
structure Mnd.Small (m : Mnd) : Prop where
  kd : m.kd.size <= maxLen
  fd : m.fd.size <= maxLen
  wh : m.wh.size <= maxLen
  wi : m.wi.size <= maxLen
  pt : m.pt.size <= maxLen
  fr : m.fr.size <= maxLen
structure y5 (w : World) (a : Option Addr) (ms : List Mnd) : Prop where
  len : ms.length <= maxLen
  small : ∀ i (h : i < ms.length), ms[i].Small
  rows : ms ≠ [] -> ∃ b off, a = some ⟨b, off, none⟩ /\ b < w.heap.size /\ ∀ i (h : i < ms.length), ∀ j, j < 6 -> w.cell? ⟨b, off + i * 6 + j, none⟩ = ms[i].cells[j]?
theorem y5.mono {w w' : World} {a : Option Addr} {ms : List Mnd} (h : y5 w a ms) (hl : Below w.heap.size w w') : y5 w' a ms :=
  ⟨h.len, h.small, fun hne => by
    obtain ⟨b, off, ha, hb, hr⟩ := h.rows hne
    exact ⟨b, off, ha, Nat.lt_of_lt_of_le hb hl.size, fun i hi j hj => (hl.cell (p := ⟨b, off + i * 6 + j, none⟩) hb).trans (hr i hi j hj)⟩⟩
theorem y5.load {w w' : World} {a : Option Addr} {ms : List Mnd} (h : y5 w a ms) (hl : Below w.heap.size w w') (i : Nat) (hi : i < ms.length) : ∃ b off, a = some ⟨b, off, none⟩ /\ b < w.heap.size /\
    w'.cell? ⟨b, off + i * 6, none⟩ = some (.string ms[i].kd) /\ w'.cell? ⟨b, off + i * 6 + 1, none⟩ = some (.string ms[i].fd) /\ w'.cell? ⟨b, off + i * 6 + 2, none⟩ = some (.string ms[i].wh) /\ w'.cell? ⟨b, off + i * 6 + 3, none⟩ = some (.string ms[i].wi) /\ w'.cell? ⟨b, off + i * 6 + 4, none⟩ = some (.string ms[i].pt) /\ w'.cell? ⟨b, off + i * 6 + 5, none⟩ = some (.string ms[i].fr) := by
  obtain ⟨b, off, ha, hb, hr⟩ := h.rows (by rintro rfl; simp at hi)
  have hc : ∀ j, j < 6 -> w'.cell? ⟨b, off + i * 6 + j, none⟩ = ms[i].cells[j]? := fun j hj => (hl.cell (p := ⟨b, off + i * 6 + j, none⟩) hb).trans (hr i hi j hj)
  exact ⟨b, off, ha, hb, hc 0 (by omega), hc 1 (by omega), hc 2 (by omega), hc 3 (by omega), hc 4 (by omega), hc 5 (by omega)⟩
end Go.Proofs.YtkfigdbbncjojaaGreat

namespace Go.Proofs.YtkfigdbbncjojaaGreat.Gate
def up (P : Nat -> Bool) (n : Nat) : Bool := (List.range n).all P
theorem je (P : Nat -> Bool) (n : Nat) : up P (n + 1) = (up P n && P n) := by simp [up, List.range_succ, List.all_append]
theorem zaF {P : Nat -> Bool} {k n : Nat} (h : k < n) (hk : P k = false) : up P n = false := by
  unfold up; rw [List.all_eq_false]; exact ⟨k, List.mem_range.2 h, by simp [hk]⟩
theorem zfN {P : Nat -> Bool} {k n : Nat} (h : k < n) (hu : up P n = true) : P k = true := by
  unfold up at hu; rw [List.all_eq_true] at hu; exact hu k (List.mem_range.2 h)
def less (a b : ByteArray) : Bool := Op.bytesLess a.toList b.toList
def zci (ws : List ByteArray) (i : Nat) : Bool := zy (ws.getD i ByteArray.empty) && (decide (i = 0) || less (ws.getD (i - 1) ByteArray.empty) (ws.getD i ByteArray.empty))
def asc (ws : List ByteArray) : Bool := up (zci ws) ws.length
theorem getD_at {α : Type} (l : List α) (i : Nat) (d : α) (h : i < l.length) : l.getD i d = l[i] := by
  rw [List.getD_eq_getElem?_getD, List.getElem?_eq_getElem h]; rfl
theorem zho {ws : List ByteArray} {k : Nat} (h : k < ws.length) (hn : zy ws[k] = false) : zci ws k = false := by
  unfold zci; rw [getD_at ws k _ h, hn]; rfl
theorem zfF {ws : List ByteArray} (h : 0 < ws.length) (hn : zy ws[0] = true) : zci ws 0 = true := by
  unfold zci; rw [getD_at ws 0 _ h, hn]; rfl
theorem zcM {ws : List ByteArray} {k : Nat} (h : k + 1 < ws.length) (hn : zy ws[k + 1] = true) : zci ws (k + 1) = less ws[k] ws[k + 1] := by
  unfold zci; rw [getD_at ws (k + 1) _ h, Nat.add_sub_cancel, getD_at ws k _ (by omega), hn]; simp
def qE (kd ls ms : Int) (n : Nat) (to : ByteArray) (rl : Int) (wg : ByteArray) : Bool :=
  if kd = 1 then decide (n = 0) && to.toList.isEmpty && decide (rl = 0)
  else if kd = 2 then decide (ls = 0) && decide (ms = 0) && to.toList.isEmpty && decide (rl = 0) && wg.toList.isEmpty
  else if kd = 3 then decide (n = 0) && to.toList.isEmpty && decide (rl = 0) && wg.toList.isEmpty
  else if kd = 4 then decide (ls = 0) && decide (ms = 0) && decide (n = 0) && wg.toList.isEmpty
  else false
def qV (ls ms lo hi : Int) : Bool := decide (lo <= ls) && decide (ls <= ms) && decide (ms <= hi)
def zC (ss : List Shp) (k : ByteArray) : Bool := ss.any fun s => decide (s.kd = k)
def yP (ss : List Shp) (f : Fld) : Bool :=
  if f.kd = 1 then qV f.ls f.ms 0 1000000 && (f.wg.toList.isEmpty || zy f.wg)
  else if f.kd = 2 then decide (1 <= f.ws.length) && decide (f.ws.length <= 6) && asc f.ws
  else if f.kd = 3 then qV f.ls f.ms 1 40
  else if f.kd = 4 then zC ss f.to && (decide (1 <= f.rl) && decide (f.rl <= 3)) && f.df.toList.isEmpty && (decide (f.rl ≠ 2) || !f.mu)
  else false
def bare (f : Fld) : Bool := qE f.kd f.ls f.ms f.ws.length f.to f.rl f.wg
def zdO (f : Fld) (v : ByteArray) : Bool := fits f.kd f.ls f.ms f.ws v
def zoa (f : Fld) : Bool := f.df.toList.isEmpty || zdO f f.df
def jN (ss : List Shp) (f : Fld) : Bool := bare f && yP ss f && zoa f
def zaM : Shp := ⟨ByteArray.empty, []⟩
def shapeOf (ss : List Shp) (k : ByteArray) : Shp := (ss.find? fun s => decide (s.kd = k)).getD zaM
theorem zcu (ss : List Shp) (v : ByteArray) (k : Nat) (h : k < ss.length) : zC (ss.take (k + 1)) v = (zC (ss.take k) v || decide (ss[k].kd = v)) := by
  unfold zC; rw [List.take_succ_eq_append_getElem h, List.any_append]; simp
theorem zdT (ss : List Shp) (v : ByteArray) (k : Nat) (h : k < ss.length) (e : ss[k].kd = v) : zC ss v = true := by
  unfold zC; rw [List.any_eq_true]; exact ⟨ss[k], List.getElem_mem h, by simpa using e⟩
theorem zc8 (ss : List Shp) (v : ByteArray) (k : Nat) (h : ss.length <= k) : zC (ss.take k) v = zC ss v := by rw [List.take_of_length_le h]
theorem zco (ss : List Shp) (v : ByteArray) (k : Nat) (h : k < ss.length) (hb : zC (ss.take k) v = false) (e : ss[k].kd = v) : shapeOf ss v = ss[k] := by
  unfold shapeOf
  have hn : (ss.take k).find? (fun s => decide (s.kd = v)) = none := by
    rw [List.find?_eq_none]; intro x hx; unfold zC at hb; rw [List.any_eq_false] at hb; exact hb x hx
  conv => lhs; rw [<- List.take_append_drop k ss]
  rw [List.find?_append, hn, List.drop_eq_getElem_cons h, List.find?_cons_of_pos (by simpa using e)]; rfl
theorem zen (ss : List Shp) (v : ByteArray) (hb : zC ss v = false) : shapeOf ss v = zaM := by
  unfold shapeOf
  have hn : ss.find? (fun s => decide (s.kd = v)) = none := by
    rw [List.find?_eq_none]; intro x hx; unfold zC at hb; rw [List.any_eq_false] at hb; exact hb x hx
  rw [hn]; rfl
def hasName (fs : List Fld) (v : ByteArray) : Bool := fs.any fun f => decide (f.nm = v)
def zQ (fs : List Fld) (v : ByteArray) : Int := match fs.findIdx? (fun f => decide (f.nm = v)) with | some i => i | none => -1
theorem zcl (fs : List Fld) (v : ByteArray) (k : Nat) (h : k < fs.length) : hasName (fs.take (k + 1)) v = (hasName (fs.take k) v || decide (fs[k].nm = v)) := by
  unfold hasName; rw [List.take_succ_eq_append_getElem h, List.any_append]; simp
theorem zfB (fs : List Fld) (v : ByteArray) (k : Nat) (h : fs.length <= k) : hasName (fs.take k) v = hasName fs v := by rw [List.take_of_length_le h]
theorem zcr (fs : List Fld) (v : ByteArray) (k : Nat) (h : k < fs.length) (hb : hasName (fs.take k) v = false) (e : fs[k].nm = v) : zQ fs v = k := by
  unfold zQ
  have hf : fs.findIdx? (fun f => decide (f.nm = v)) = some k := by
    rw [List.findIdx?_eq_some_iff_getElem]
    refine ⟨h, by simpa using e, fun j hj => ?_⟩
    unfold hasName at hb
    rw [List.any_eq_false] at hb
    have hm : fs[j] ∈ fs.take k := by
      rw [List.mem_iff_getElem]
      exact ⟨j, by simp; omega, by simp⟩
    exact hb _ hm
  rw [hf]
theorem zeM (fs : List Fld) (v : ByteArray) (hb : hasName fs v = false) : zQ fs v = -1 := by
  unfold zQ
  have hf : fs.findIdx? (fun f => decide (f.nm = v)) = none := by
    rw [List.findIdx?_eq_none_iff]
    intro x hx
    unfold hasName at hb
    rw [List.any_eq_false] at hb
    simpa using hb x hx
  rw [hf]
theorem zib (fs : List Fld) (v : ByteArray) (k : Nat) (h : k < fs.length) (hh : hasName (fs.take k) v = true) : ∃ j, j < k /\ zQ fs v = j := by
  unfold hasName at hh
  rw [List.any_eq_true] at hh
  obtain ⟨x, hx, he⟩ := hh
  obtain ⟨j, hj, rfl⟩ := List.mem_iff_getElem.1 hx
  have hjk : j < k := by simp at hj; omega
  have hjl : j < fs.length := by omega
  have hv : fs[j].nm = v := by simpa using he
  cases hf : fs.findIdx? (fun f => decide (f.nm = v)) with
  | none =>
    rw [List.findIdx?_eq_none_iff] at hf
    have := hf fs[j] (List.getElem_mem hjl)
    simp [hv] at this
  | some i =>
    refine ⟨i, ?_, by unfold zQ; rw [hf]⟩
    rw [List.findIdx?_eq_some_iff_getElem] at hf
    obtain ⟨hi, _, hmin⟩ := hf
    rcases Nat.lt_or_ge i k with h1 | h1
    · exact h1
    · exfalso
      have := hmin j (by omega)
      simp [hv] at this
def zaA : Fld := ⟨ByteArray.empty, 0, 0, 0, [], ByteArray.empty, 0, false, false, ByteArray.empty, ByteArray.empty⟩
def zdp (ss : List Shp) (fs : List Fld) (i : Nat) : Bool :=
  zy (fs.getD i zaA).nm && !hasName (fs.take i) (fs.getD i zaA).nm && jN ss (fs.getD i zaA)
def yC (ss : List Shp) (fs : List Fld) : Bool := decide (fs.length <= 6) && up (zdp ss fs) fs.length
theorem zgD (ss : List Shp) (fs : List Fld) (i : Nat) (h : i < fs.length) : zdp ss fs i = (zy fs[i].nm && !hasName (fs.take i) fs[i].nm && jN ss fs[i]) := by
  unfold zdp; rw [getD_at fs i _ h]
def yA (ss : List Shp) (i : Nat) : Bool :=
  zy (ss.getD i zaM).kd && (decide (i = 0) || less (ss.getD (i - 1) zaM).kd (ss.getD i zaM).kd) && yC ss (ss.getD i zaM).fs
def zM (ss : List Shp) : Bool := decide (ss.length <= 6) && up (yA ss) ss.length
theorem zdP (ss : List Shp) (h : 0 < ss.length) : yA ss 0 = (zy ss[0].kd && yC ss ss[0].fs) := by
  unfold yA; rw [getD_at ss 0 _ h]; simp
theorem zeI (ss : List Shp) (k : Nat) (h : k + 1 < ss.length) : yA ss (k + 1) = (zy ss[k + 1].kd && less ss[k].kd ss[k + 1].kd && yC ss ss[k + 1].fs) := by
  unfold yA; rw [getD_at ss (k + 1) _ h, Nat.add_sub_cancel, getD_at ss k _ (by omega)]; simp
theorem zaU : ∀ x : List UInt8, Op.bytesLess x x = false
  | [] => rfl
  | a :: x => by
    simp only [Op.bytesLess, Bool.or_eq_false_iff, decide_eq_false_iff_not, Bool.and_eq_false_iff]
    exact ⟨fun h => by simp at h, Or.inr (zaU x)⟩
theorem zai : ∀ x y z : List UInt8, Op.bytesLess x y = true -> Op.bytesLess y z = true -> Op.bytesLess x z = true
  | _, [], _, h, _ => by simp [Op.bytesLess] at h
  | [], _ :: _, [], _, h => by simp [Op.bytesLess] at h
  | [], _ :: _, _ :: _, _, _ => rfl
  | _ :: _, _ :: _, [], _, h => by simp [Op.bytesLess] at h
  | a :: x, b :: y, c :: z, h, k => by
    simp only [Op.bytesLess, Bool.or_eq_true, decide_eq_true_eq, Bool.and_eq_true, beq_iff_eq] at h k ⊢
    rcases h with h | ⟨rfl, h⟩
    · rcases k with k | ⟨rfl, k⟩
      · exact Or.inl (UInt8.lt_trans h k)
      · exact Or.inl h
    · rcases k with k | ⟨rfl, k⟩
      · exact Or.inl k
      · exact Or.inr ⟨rfl, zai x y z h k⟩
end Go.Proofs.YtkfigdbbncjojaaGreat.Gate

namespace Go.Proofs.YtkfigdbbncjojaaGreat
open Go.RowKit
theorem zf {w : World} {b o : Nat} {C : Array Value} {t : TypeId} (h : w.heap[b]? = some (.cells C t)) (v : Value) : (w.setCell ⟨b, o, none⟩ v).heap[b]? = some (.cells (C.setIfInBounds o v) t) := by
  simp [World.setCell, Array.getElem?_modify, h]
theorem cell_of_block {w : World} {b o : Nat} {C : Array Value} {t : TypeId} (h : w.heap[b]? = some (.cells C t)) : w.cell? ⟨b, o, none⟩ = C[o]? := by simp [World.cell?, h]
theorem zi {w : World} {b o : Nat} {C : Array Value} {t : TypeId} (h : w.heap[b]? = some (.cells C t)) : w.frozen? ⟨b, o, none⟩ = false := by simp [World.frozen?, h]
def zjT (w : World) (b o : Nat) (v0 v1 v2 v3 v4 v5 v6 v7 v8 v9 v10 : Value) : World := ((((((((((w.setCell ⟨b, o, none⟩ v0).setCell ⟨b, o + 1, none⟩ v1).setCell ⟨b, o + 2, none⟩ v2).setCell ⟨b, o + 3, none⟩ v3).setCell ⟨b, o + 4, none⟩ v4).setCell ⟨b, o + 5, none⟩ v5).setCell ⟨b, o + 6, none⟩ v6).setCell ⟨b, o + 7, none⟩ v7).setCell ⟨b, o + 8, none⟩ v8).setCell ⟨b, o + 9, none⟩ v9).setCell ⟨b, o + 10, none⟩ v10
def zhH (C : Array Value) (o : Nat) (v0 v1 v2 v3 v4 v5 v6 v7 v8 v9 v10 : Value) : Array Value := ((((((((((C.setIfInBounds o v0).setIfInBounds (o + 1) v1).setIfInBounds (o + 2) v2).setIfInBounds (o + 3) v3).setIfInBounds (o + 4) v4).setIfInBounds (o + 5) v5).setIfInBounds (o + 6) v6).setIfInBounds (o + 7) v7).setIfInBounds (o + 8) v8).setIfInBounds (o + 9) v9).setIfInBounds (o + 10) v10
theorem zkp {w : World} {b o : Nat} {C : Array Value} {t : TypeId} (h : w.heap[b]? = some (.cells C t)) (v0 v1 v2 v3 v4 v5 v6 v7 v8 v9 v10 : Value) : (zjT w b o v0 v1 v2 v3 v4 v5 v6 v7 v8 v9 v10).heap[b]? = some (.cells (zhH C o v0 v1 v2 v3 v4 v5 v6 v7 v8 v9 v10) t) :=
  zf (zf (zf (zf (zf (zf (zf (zf (zf (zf (zf h v0) v1) v2) v3) v4) v5) v6) v7) v8) v9) v10
theorem zkO {B : Nat} {a w : World} (h : Below B a w) {b : Nat} (hb : B <= b) (o : Nat) (v0 v1 v2 v3 v4 v5 v6 v7 v8 v9 v10 : Value) : Below B a (zjT w b o v0 v1 v2 v3 v4 v5 v6 v7 v8 v9 v10) :=
  ((((((((((h.setCell hb v0).setCell hb v1).setCell hb v2).setCell hb v3).setCell hb v4).setCell hb v5).setCell hb v6).setCell hb v7).setCell hb v8).setCell hb v9).setCell hb v10
theorem zfv (w : World) (b o b' : Nat) (hb : b' ≠ b) (v0 v1 v2 v3 v4 v5 v6 v7 v8 v9 v10 : Value) : (zjT w b o v0 v1 v2 v3 v4 v5 v6 v7 v8 v9 v10).heap[b']? = w.heap[b']? := by
  unfold zjT
  iterate 11 rw [Below.heap_setCell _ _ _ _ hb]
theorem zlv (C : Array Value) (o : Nat) (v0 v1 v2 v3 v4 v5 v6 v7 v8 v9 v10 : Value) : (zhH C o v0 v1 v2 v3 v4 v5 v6 v7 v8 v9 v10).size = C.size := by simp [zhH]
theorem zmQ (C : Array Value) (o i : Nat) (v0 v1 v2 v3 v4 v5 v6 v7 v8 v9 v10 : Value) (h : i < o \/ o + 11 <= i) : (zhH C o v0 v1 v2 v3 v4 v5 v6 v7 v8 v9 v10)[i]? = C[i]? := by
  unfold zhH
  iterate 11 rw [Array.getElem?_setIfInBounds, if_neg (by omega)]
theorem znr (C : Array Value) (o j : Nat) (v0 v1 v2 v3 v4 v5 v6 v7 v8 v9 v10 : Value) (hj : j < 11) (ho : o + 11 <= C.size) : (zhH C o v0 v1 v2 v3 v4 v5 v6 v7 v8 v9 v10)[o + j]? = (#[v0, v1, v2, v3, v4, v5, v6, v7, v8, v9, v10] : Array Value)[j]? := by
  have hc : j = 0 \/ j = 1 \/ j = 2 \/ j = 3 \/ j = 4 \/ j = 5 \/ j = 6 \/ j = 7 \/ j = 8 \/ j = 9 \/ j = 10 := by omega
  unfold zhH
  rcases hc with h | h | h | h | h | h | h | h | h | h | h <;> subst h <;> simp [Array.getElem?_setIfInBounds] <;> omega
end Go.Proofs.YtkfigdbbncjojaaGreat

namespace Go.Proofs.YtkfigdbbncjojaaGreat
open Go.RowKit
set_option maxHeartbeats 400000 in
theorem zcy (c : UInt8) (w : World) :
    Calls Tryz.prog 97 #[.int .u8 c.toNat] w fun e w' => e = .returned (.bool (Gate.yc c)) /\ w' = w := by
  go_enter Tryz.func97, Tryz.ntmps97
  go_wp2
  all_goals
    go_ret
    refine ⟨ze ?_, rfl⟩
    rw [Bool.eq_iff_iff]; simp [Gate.yc]; try omega
end Go.Proofs.YtkfigdbbncjojaaGreat
