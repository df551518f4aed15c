import Derived.WalkKit
import Derived.Laws.NewBlocks
import Derived.Laws.MakeOwn
import Derived.Laws.OwnMore
import Derived.Deep.Draws
import Derived.Deep.OwnRows
import Derived.MapKept
namespace Go.Proofs.YtmfgjafdnopfbaaGreat
open Go.RowKit
theorem hid {p : Prop} (h : p) : Hid p := h
theorem qO {a b : Prop} (x : a) (y : b) : Hid (a /\ b) := ⟨x, y⟩
theorem yK {a b c : Prop} (x : a) (y : b) (z : c) : Hid (a /\ b /\ c) := ⟨x, y, z⟩
theorem zae {a b c d : Prop} (x : a) (y : b) (z : c) (u : d) : Hid (a /\ b /\ c /\ d) := ⟨x, y, z, u⟩
theorem zeY {a b c d e : Prop} (x : a) (y : b) (z : c) (u : d) (v : e) : Hid (a /\ b /\ c /\ d /\ e) := ⟨x, y, z, u, v⟩
theorem zin {a b c d e f : Prop} (x : a) (y : b) (z : c) (u : d) (v : e) (t : f) : Hid (a /\ b /\ c /\ d /\ e /\ f) := ⟨x, y, z, u, v, t⟩
structure zZ (w : World) (a : Option Addr) (ws : List ByteArray) : Prop where
  len : ws.length <= maxLen
  small : ∀ s ∈ ws, s.size <= maxLen
  cells : ws ≠ [] -> ∃ b off, a = some ⟨b, off, none⟩ /\ b < w.heap.size /\ ∀ i (h : i < ws.length), w.cell? ⟨b, off + i, none⟩ = some (.string ws[i])
theorem zZ.mono {w w' : World} {a : Option Addr} {ws : List ByteArray} (h : zZ w a ws) (hb : Below w.heap.size w w') : zZ w' a ws :=
  ⟨h.len, h.small, fun hne => by
    obtain ⟨b, off, ha, hbs, hc⟩ := h.cells hne
    exact ⟨b, off, ha, Nat.lt_of_lt_of_le hbs hb.size, fun i hi => (hb.cell (p := ⟨b, off + i, none⟩) hbs).trans (hc i hi)⟩⟩
def jJ (ws : List ByteArray) : Array Value := (ws.map Value.string).toArray
theorem ze {wk wl : World} {b : Nat} {X : Array Value} (h : ∀ o, wk.cell? ⟨b, o, none⟩ = X[o]?) (hb : b < wk.heap.size) (hl : Below wk.heap.size wk wl) : ∀ o, wl.cell? ⟨b, o, none⟩ = X[o]? :=
  fun o => (hl.cell (p := ⟨b, o, none⟩) hb).trans (h o)
theorem zo (w : World) (X : Array Value) (t : TypeId) : ∀ o, (w.alloc (.cells X t)).cell? ⟨w.heap.size, o, none⟩ = X[o]? := fun _ => World.cell?_alloc_at _ _ _ _ rfl
theorem below_drewN {B : Nat} {a w : World} (h : Below B a w) (n : Nat) : Below B a (w.drewN n) := h.trans ⟨rfl, rfl, rfl, Nat.le_refl _, fun _ _ => rfl⟩
theorem yC (w : World) (o o' : Obj) : Below w.heap.size w ((w.alloc o).alloc o') := ((Below.refl _ _).alloc (Nat.le_refl _) _).alloc (by simp) _
theorem zl {P : Program} {f : FuncId} {args : Array Value} {w : World} {b c : Bool} {R : World -> Prop} (hb : b = c) (h : Calls P f args w fun e w' => e = .returned (.bool b) /\ R w') : Calls P f args w fun e w' => e = .returned (.bool c) /\ R w' := by
  subst hb; exact h
end Go.Proofs.YtmfgjafdnopfbaaGreat

namespace Go.Proofs.YtmfgjafdnopfbaaGreat.Gate
def yZ (c : UInt8) : Bool := decide (97 <= c.toNat /\ c.toNat <= 122) || decide (48 <= c.toNat /\ c.toNat <= 57) || decide (c.toNat = 45)
def digit (c : UInt8) : Bool := decide (48 <= c.toNat /\ c.toNat <= 57)
def y7 (c : UInt8) : Bool := decide (33 <= c.toNat /\ c.toNat <= 126)
def zaW (s : ByteArray) : Bool := s.data.toList.all yZ
def zax (s : ByteArray) : Bool := s.data.toList.all y7
def j3 (s : ByteArray) : Bool := s.data.toList.all digit
def zL (s : ByteArray) : Bool := decide (1 <= s.size) && decide (s.size <= 16) && zaW s
def dec (l : List UInt8) : Int := l.foldl (fun n c => n * 10 + ((c.toNat : Int) - 48)) 0
def jQ (s : ByteArray) : Bool := decide (1 <= s.size) && decide (s.size <= 7) && (decide (s.size <= 1) || decide ((s.data.toList.headD 0).toNat ≠ 48)) && j3 s
def zaq (ls ms : Int) (s : ByteArray) : Bool := decide (ls <= s.size) && decide ((s.size : Int) <= ms) && zax s
def zdB (s : ByteArray) : Int := dec s.data.toList
def jP (ls ms : Int) (s : ByteArray) : Bool := jQ s && decide (ls <= zdB s) && decide (zdB s <= ms)
theorem zge (l : List UInt8) (c : UInt8) : dec (l ++ [c]) = dec l * 10 + ((c.toNat : Int) - 48) := by simp [dec]
theorem zeE (l : List UInt8) (h : l.all digit = true) : ∀ a : Int, 0 <= a -> 0 <= l.foldl (fun n c => n * 10 + ((c.toNat : Int) - 48)) a /\ l.foldl (fun n c => n * 10 + ((c.toNat : Int) - 48)) a < (a + 1) * 10 ^ l.length := by
  induction l with
  | nil => intro a ha; simp; omega
  | cons c l ih =>
    intro a ha
    rw [List.all_cons, Bool.and_eq_true] at h
    have hc : 48 <= c.toNat /\ c.toNat <= 57 := by simpa [digit] using h.1
    obtain ⟨h1, h2⟩ := ih h.2 (a * 10 + ((c.toNat : Int) - 48)) (by omega)
    simp only [List.foldl_cons, List.length_cons, Int.pow_succ]
    refine ⟨h1, Int.lt_of_lt_of_le h2 ?_⟩
    have hp : (0 : Int) <= 10 ^ l.length := Int.pow_nonneg (by decide)
    have := Int.mul_le_mul_of_nonneg_right (show a * 10 + ((c.toNat : Int) - 48) + 1 <= (a + 1) * 10 by omega) hp
    rw [Int.mul_comm (10 ^ l.length) 10, <- Int.mul_assoc]
    exact this
theorem zdH (l : List UInt8) (h : l.all digit = true) (n : Nat) (hn : l.length <= n) : 0 <= dec l /\ dec l < 10 ^ n := by
  have := zeE l h 0 (by decide)
  refine ⟨this.1, Int.lt_of_lt_of_le this.2 ?_⟩
  simp only [Int.zero_add, Int.one_mul]
  exact_mod_cast Nat.pow_le_pow_right (by decide) hn
theorem zdD (s : ByteArray) (k : Nat) (h : k < s.size) : s.data.toList.take (k + 1) = s.data.toList.take k ++ [s[k]] := by
  rw [List.take_succ_eq_append_getElem (by simpa using h)]; rfl
theorem zaL (s : ByteArray) (k : Nat) (h : s.size <= k) : s.data.toList.take k = s.data.toList := List.take_of_length_le (by simpa using h)
theorem zbc (p : UInt8 -> Bool) (s : ByteArray) (k : Nat) (h : k < s.size) : (s.data.toList.take (k + 1)).all p = ((s.data.toList.take k).all p && p s[k]) := by
  rw [zdD s k h, List.all_append]; simp
theorem zcH (p : UInt8 -> Bool) (s : ByteArray) (k : Nat) (h : k < s.size) (hp : p s[k] = false) : s.data.toList.all p = false := by
  rw [<- List.take_append_drop (k + 1) s.data.toList, List.all_append, zbc p s k h, hp]; simp
theorem zW (s : ByteArray) : s.toList.isEmpty = decide (s.size = 0) := by
  rw [ByteArray.toList_eq, Bool.eq_iff_iff, List.isEmpty_iff, decide_eq_true_eq, <- List.length_eq_zero_iff, Array.length_toList]
  exact Iff.rfl
theorem zc0 (s : ByteArray) (h : s.size = 0) : s = ByteArray.empty := by
  apply ByteArray.ext; apply Array.eq_empty_of_size_eq_zero; exact h
theorem beq_toList (a b : ByteArray) : (a.toList == b.toList) = decide (a = b) := by
  rw [ByteArray.toList_eq, ByteArray.toList_eq, Bool.eq_iff_iff]
  simp only [beq_iff_eq, decide_eq_true_eq, Array.toList_inj]
  constructor
  · intro h; exact ByteArray.ext h
  · rintro rfl; rfl
def has (ws : List ByteArray) (v : ByteArray) : Bool := ws.any fun x => decide (x = v)
theorem zgI (ws : List ByteArray) (v : ByteArray) (k : Nat) (h : k < ws.length) : has (ws.take (k + 1)) v = (has (ws.take k) v || decide (ws[k] = v)) := by
  unfold has; rw [List.take_succ_eq_append_getElem h, List.any_append]; simp
theorem zif (ws : List ByteArray) (v : ByteArray) (k : Nat) (h : k < ws.length) (e : ws[k] = v) : has ws v = true := by
  unfold has; rw [List.any_eq_true]; exact ⟨ws[k], List.getElem_mem h, by simpa using e⟩
theorem zhj (ws : List ByteArray) (v : ByteArray) (k : Nat) (h : ws.length <= k) : has (ws.take k) v = has ws v := by rw [List.take_of_length_le h]
theorem zgb (s : ByteArray) (h : 0 < s.size) : s.data.toList.headD 0 = s[0] := by
  obtain ⟨⟨l⟩⟩ := s
  cases l with
  | nil => simp [ByteArray.size] at h
  | cons a l => rfl
theorem zbR (s : ByteArray) (h : ¬ (1 <= s.size /\ s.size <= 7)) : jQ s = false := by
  unfold jQ
  by_cases h1 : 1 <= s.size
  · rw [decide_eq_false (show ¬ s.size <= 7 by omega)]; simp
  · rw [decide_eq_false h1]; simp
theorem zcT (s : ByteArray) (h : 1 < s.size) (hz : (s[0].toNat : Int) = 48) : jQ s = false := by
  unfold jQ
  rw [zgb s (by omega), decide_eq_false (show ¬ s.size <= 1 by omega), decide_eq_false (show ¬ s[0].toNat ≠ 48 by omega)]; simp
theorem zfq (s : ByteArray) (h1 : 1 <= s.size) (h7 : s.size <= 7) (hz : s.size <= 1 \/ ¬ (s[0].toNat : Int) = 48) : jQ s = j3 s := by
  unfold jQ
  rw [zgb s (by omega), decide_eq_true h1, decide_eq_true h7]
  rcases hz with h | h
  · rw [decide_eq_true h]; simp
  · rw [decide_eq_true (show s[0].toNat ≠ 48 by omega)]; simp
def fits (kd ls ms : Int) (ws : List ByteArray) (v : ByteArray) : Bool :=
  if v.size = 0 then false else if kd = 1 then jP ls ms v else if kd = 2 then has ws v else if kd = 3 then zaq ls ms v else if kd = 4 then zL v else false
theorem jK (kd ls ms : Int) (ws : List ByteArray) (v : ByteArray) (h : v.size = 0) : fits kd ls ms ws v = false := by simp [fits, h]
theorem zgX (ls ms : Int) (ws : List ByteArray) (v : ByteArray) (h : ¬ v.size = 0) : fits 1 ls ms ws v = jP ls ms v := by simp [fits, h]
theorem zg5 (ls ms : Int) (ws : List ByteArray) (v : ByteArray) (h : ¬ v.size = 0) : fits 2 ls ms ws v = has ws v := by simp [fits, h]
theorem zfu (ls ms : Int) (ws : List ByteArray) (v : ByteArray) (h : ¬ v.size = 0) : fits 3 ls ms ws v = zaq ls ms v := by simp [fits, h]
theorem zgN (ls ms : Int) (ws : List ByteArray) (v : ByteArray) (h : ¬ v.size = 0) : fits 4 ls ms ws v = zL v := by simp [fits, h]
theorem zda (kd ls ms : Int) (ws : List ByteArray) (v : ByteArray) (h1 : kd ≠ 1) (h2 : kd ≠ 2) (h3 : kd ≠ 3) (h4 : kd ≠ 4) : fits kd ls ms ws v = false := by simp [fits, h1, h2, h3, h4]
theorem zgj (s : ByteArray) (h : jQ s = true) : 0 <= zdB s := by
  unfold jQ at h
  rw [Bool.and_eq_true] at h
  exact (zdH _ h.2 _ (Nat.le_refl _)).1
theorem zeo (ls ms : Int) (s : ByteArray) (h : jQ s = false) : jP ls ms s = false := by simp [jP, h]
theorem zgK (ls ms : Int) (s : ByteArray) (h : jQ s = true) : jP ls ms s = (decide (ls <= zdB s) && decide (zdB s <= ms)) := by simp [jP, h]
theorem zf4 (s : ByteArray) (h : s.size = 0) : jQ s = false := zbR s (by omega)
theorem zfX (s : ByteArray) (h : s.size = 0) : zL s = false := by simp [zL, h]
theorem zic (ls ms : Int) (ws : List ByteArray) (v : ByteArray) : fits 1 ls ms ws v = jP ls ms v := by
  by_cases h : v.size = 0
  · rw [jK _ _ _ _ _ h, zeo _ _ _ (zf4 v h)]
  · exact zgX ls ms ws v h
theorem zhI (ls ms : Int) (ws : List ByteArray) (v : ByteArray) : fits 4 ls ms ws v = zL v := by
  by_cases h : v.size = 0
  · rw [jK _ _ _ _ _ h, zfX v h]
  · exact zgN ls ms ws v h
theorem zeO (ls ms : Int) (ws : List ByteArray) (v : ByteArray) (h : zax v = false) : fits 3 ls ms ws v = false := by
  by_cases hz : v.size = 0
  · exact jK _ _ _ _ _ hz
  · rw [zfu ls ms ws v hz, zaq, h]; simp
theorem zeR (ls ms : Int) (ws : List ByteArray) (v : ByteArray) (h : zax v = true) (hz : ¬ v.size = 0) : fits 3 ls ms ws v = (decide (ls <= v.size) && decide ((v.size : Int) <= ms)) := by
  rw [zfu ls ms ws v hz, zaq, h]; simp
end Go.Proofs.YtmfgjafdnopfbaaGreat.Gate

namespace Go.Proofs.YtmfgjafdnopfbaaGreat
open Go.RowKit
theorem zh {a b : Bool} (h : a = b) : Ending.returned (.bool a) = .returned (.bool b) := by rw [h]
theorem za2 {k : IntKind} {a b : Int} (h : a = b) : Ending.returned (.int k a) = .returned (.int k b) := by rw [h]
end Go.Proofs.YtmfgjafdnopfbaaGreat

namespace Go.Proofs.YtmfgjafdnopfbaaGreat
open Go.RowKit
theorem zhT (w : World) (o o' : Obj) : { (w.alloc o) with heap := (w.alloc o).heap.setIfInBounds w.heap.size o' } = w.alloc o' := by
  show ({ w with heap := (w.heap.push o).setIfInBounds w.heap.size o' } : World) = { w with heap := w.heap.push o' }
  congr 1
  apply Array.ext_getElem?
  intro i
  simp only [Array.getElem?_setIfInBounds, Array.getElem?_push, Array.size_push]
  by_cases h : w.heap.size = i
  · subst h; simp
  · rw [if_neg h, if_neg (fun e => h e.symm), if_neg (fun e => h e.symm)]
theorem alloc_at (w : World) (o : Obj) : (w.alloc o).heap[w.heap.size]? = some o := by
  show (w.heap.push o)[w.heap.size]? = some o
  simp
theorem zaa {P : Program} {mty kt et : TypeId} {d : TypeDesc} (hm : P.underlying mty = some (.map kt et)) (hd : P.underlying kt = some d) (key val : Value) (hk : MapKept.IsKey d key)
    (es : Array MapEntry) (clock : Nat) (hf : Instr.findNow d key es.toList 0 = some none) (w : World) :
    (Instr.mapUpdate mty (.map (some w.heap.size)) key val).run P (w.alloc (.map es clock)) = .ok () (w.alloc (.map (es.push ⟨key, val, clock⟩) (clock + 1))) := by
  have hb := alloc_at w (.map es clock)
  have hc := MapKept.run_checkKey (P := P) (w := w.alloc (.map es clock)) hd hk false 9999
  simp [Instr.mapUpdate, run_underlying hm, MapKept.run_getObj_map hb, hc, MapKept.run_findKey hd hf, MapKept.run_setObj_map _ hb, Result.andThen, <- zhT w (.map es clock) (.map (es.push ⟨key, val, clock⟩) (clock + 1))]
theorem yT {P : Program} {mty kt et : TypeId} {d : TypeDesc} (hm : P.underlying mty = some (.map kt et)) (hd : P.underlying kt = some d) (key val : Value) (hk : MapKept.IsKey d key)
    (es : Array MapEntry) (clock i : Nat) (hf : Instr.findNow d key es.toList 0 = some (some (i, val))) (w : World) (r : Nat) (hb : w.heap[r]? = some (.map es clock)) :
    (Instr.lookup mty (.map (some r)) key true).run P w = .ok (.tuple #[val, .bool true]) w := by
  have hc := MapKept.run_checkKey (P := P) (w := w) hd hk es.isEmpty 9999
  simp [Instr.lookup, run_underlying hm, MapKept.run_getObj_map hb, hc, MapKept.run_findKey hd hf, Result.andThen]
theorem zaQ {P : Program} {mty kt et : TypeId} {d : TypeDesc} (hm : P.underlying mty = some (.map kt et)) (hd : P.underlying kt = some d) (key z : Value) (hk : MapKept.IsKey d key)
    (es : Array MapEntry) (clock : Nat) (hf : Instr.findNow d key es.toList 0 = some none) (w : World) (hz : (zeroValue et).run P w = .ok z w) (r : Nat) (hb : w.heap[r]? = some (.map es clock)) :
    (Instr.lookup mty (.map (some r)) key true).run P w = .ok (.tuple #[z, .bool false]) w := by
  have hc := MapKept.run_checkKey (P := P) (w := w) hd hk es.isEmpty 9999
  simp [Instr.lookup, run_underlying hm, MapKept.run_getObj_map hb, hc, MapKept.run_findKey hd hf, hz, Result.andThen]
end Go.Proofs.YtmfgjafdnopfbaaGreat

namespace Go.Proofs.YtmfgjafdnopfbaaGreat
open Go.RowKit
theorem z8 {n i : Nat} (h : i < n) : n - (intOf (Value.int IntKind.i64 ((i : Int) + 1))).toNat < n - (intOf (Value.int IntKind.i64 (i : Int))).toNat := by
  show n - ((i + 1 : Nat) : Int).toNat < n - ((i : Nat) : Int).toNat
  rw [Int.toNat_natCast, Int.toNat_natCast]
  omega
theorem ziL (n : Int) (h : -9223372036854775808 <= n /\ n <= 9223372036854775807) : wrap64 n = n := by unfold wrap64; omega
theorem wrap_one {i : Nat} (h : i < 9000000000000000000) : wrap64 ((i : Int) + 1) = ((i + 1 : Nat) : Int) := by
  rw [ziL _ ⟨by omega, by omega⟩]; omega
theorem zcJ {n i : Nat} (h : i < n) (hi : i < 9000000000000000000) : n - (intOf (Value.int IntKind.i64 (wrap64 ((i : Int) + 1)))).toNat < n - (intOf (Value.int IntKind.i64 (i : Int))).toNat := by
  rw [wrap_one hi]
  show n - ((i + 1 : Nat) : Int).toNat < n - ((i : Nat) : Int).toNat
  rw [Int.toNat_natCast, Int.toNat_natCast]
  omega
end Go.Proofs.YtmfgjafdnopfbaaGreat
