import Derived.WalkKit
import Derived.Laws.NewBlocks
import Derived.Laws.MakeOwn
import Derived.Laws.OwnMore
import Derived.Deep.Draws
import Derived.Deep.OwnRows
import Derived.MapKept
import Derived.Test.YtfpeplbmfbepcaaGreatRows
import Derived.WalkSpells
import Derived.WalkLawsBesides
import Derived.Deep.RegionHeld3
import Derived.Maps.AppendAt
import Derived.ProofKit
import Derived.SliceStrings
namespace Go.Proofs.YtfpeplbmfbepcaaGreat
open Go.RowKit
theorem hid {p : Prop} (h : p) : Hid p := h
theorem qJ {a b : Prop} (x : a) (y : b) : Hid (a /\ b) := ⟨x, y⟩
theorem zdB {a b c : Prop} (x : a) (y : b) (z : c) : Hid (a /\ b /\ c) := ⟨x, y, z⟩
theorem zia {a b c d : Prop} (x : a) (y : b) (z : c) (u : d) : Hid (a /\ b /\ c /\ d) := ⟨x, y, z, u⟩
theorem zoB {a b c d e : Prop} (x : a) (y : b) (z : c) (u : d) (v : e) : Hid (a /\ b /\ c /\ d /\ e) := ⟨x, y, z, u, v⟩
theorem zbh {P : Program} {c : Code} {Q : Exit -> Act -> World -> Prop} {a : Act} {w : World} (R : World -> Prop) (hR : R w) (h : ∀ w', R w' -> Code.wp P c Q a w') : Code.wp P c Q a w := h w hR
structure zA (w : World) (a : Option Addr) (ws : List ByteArray) : Prop where
  len : ws.length <= maxLen
  small : ∀ s ∈ ws, s.size <= maxLen
  cells : ws ≠ [] -> ∃ b off, a = some ⟨b, off, none⟩ /\ b < w.heap.size /\ ∀ i (h : i < ws.length), w.cell? ⟨b, off + i, none⟩ = some (.string ws[i])
theorem zA.mono {w w' : World} {a : Option Addr} {ws : List ByteArray} (h : zA w a ws) (hb : Below w.heap.size w w') : zA w' a ws :=
  ⟨h.len, h.small, fun hne => by
    obtain ⟨b, off, ha, hbs, hc⟩ := h.cells hne
    exact ⟨b, off, ha, Nat.lt_of_lt_of_le hbs hb.size, fun i hi => (hb.cell (p := ⟨b, off + i, none⟩) hbs).trans (hc i hi)⟩⟩
theorem zqq {W w1 : World} (hb : Below W.heap.size W w1) : (∀ b o, b < W.heap.size -> w1.cell? ⟨b, o, none⟩ = W.cell? ⟨b, o, none⟩) /\ (∀ b o, b < W.heap.size -> w1.frozen? ⟨b, o, none⟩ = W.frozen? ⟨b, o, none⟩) :=
  ⟨fun b o h => hb.cell (p := ⟨b, o, none⟩) h, fun b o h => hb.frozen (p := ⟨b, o, none⟩) h⟩
def jk (ws : List ByteArray) : Array Value := (ws.map Value.string).toArray
def strCells (ws : List ByteArray) (k : Nat) : Array Value := ((ws.take k).map Value.string ++ List.replicate (ws.length - k) (Value.string ByteArray.empty)).toArray
theorem zmw (ws : List ByteArray) (k : Nat) (h : k < ws.length) : (strCells ws k)[k]? = some (.string ByteArray.empty) := by
  unfold strCells
  have hl : ((ws.take k).map Value.string).length = k := by simp; omega
  rw [List.getElem?_toArray, List.getElem?_append_right (by omega), hl, Nat.sub_self]
  obtain ⟨m, hm⟩ : ∃ m, ws.length - k = m + 1 := ⟨ws.length - k - 1, by omega⟩
  rw [hm, List.replicate_succ]; rfl
theorem zli (ws : List ByteArray) (k : Nat) (h : k < ws.length) : (strCells ws k).setIfInBounds k (.string ws[k]) = strCells ws (k + 1) := by
  unfold strCells
  rw [List.setIfInBounds_toArray, List.set_append_right _ _ (by simp; omega)]
  congr 1
  rw [List.take_succ_eq_append_getElem h, List.map_append, List.append_assoc]
  congr 1
  obtain ⟨m, hm⟩ : ∃ m, ws.length - k = m + 1 := ⟨ws.length - k - 1, by omega⟩
  rw [hm, show ws.length - (k + 1) = m by omega]
  have : k - ((ws.take k).map Value.string).length = 0 := by simp; omega
  rw [this, List.replicate_succ]
  rfl
theorem zkK (ws : List ByteArray) (k : Nat) (h : ws.length <= k) : strCells ws k = jk ws := by
  unfold strCells jk
  rw [List.take_of_length_le h, show ws.length - k = 0 by omega]; simp
theorem zjT (ws : List ByteArray) : madeCells #[Value.string ByteArray.empty] ws.length = strCells ws 0 := by
  apply Array.toList_inj.1
  rw [toList_madeCells_one]
  simp [strCells]
theorem zcU {w : World} {bk : Nat} {ws : List ByteArray} {t : TypeId} (h : w.heap[bk]? = some (.cells (jk ws) t)) (hl : ws.length <= maxLen) (hs : ∀ s ∈ ws, s.size <= maxLen) : zA w (some ⟨bk, 0, none⟩) ws :=
  ⟨hl, hs, fun _ => ⟨bk, 0, rfl, (Array.getElem?_eq_some_iff.1 h).1, fun i hi => by
    simp [World.cell?, h, jk, hi]⟩⟩
theorem za {wk wl : World} {b : Nat} {X : Array Value} (h : ∀ o, wk.cell? ⟨b, o, none⟩ = X[o]?) (hb : b < wk.heap.size) (hl : Below wk.heap.size wk wl) : ∀ o, wl.cell? ⟨b, o, none⟩ = X[o]? :=
  fun o => (hl.cell (p := ⟨b, o, none⟩) hb).trans (h o)
theorem zG (w : World) (X : Array Value) (t : TypeId) : ∀ o, (w.alloc (.cells X t)).cell? ⟨w.heap.size, o, none⟩ = X[o]? := fun _ => World.cell?_alloc_at _ _ _ _ rfl
theorem below_drewN {B : Nat} {a w : World} (h : Below B a w) (n : Nat) : Below B a (w.drewN n) := h.trans ⟨rfl, rfl, rfl, Nat.le_refl _, fun _ _ => rfl⟩
theorem zn (w : World) (o o' : Obj) : Below w.heap.size w ((w.alloc o).alloc o') := ((Below.refl _ _).alloc (Nat.le_refl _) _).alloc (by simp) _
theorem zw {P : Program} {f : FuncId} {args : Array Value} {w : World} {b c : Bool} {R : World -> Prop} (hb : b = c) (h : Calls P f args w fun e w' => e = .returned (.bool b) /\ R w') : Calls P f args w fun e w' => e = .returned (.bool c) /\ R w' := by
  subst hb; exact h
end Go.Proofs.YtfpeplbmfbepcaaGreat

namespace Go.Proofs.YtfpeplbmfbepcaaGreat
open Go.RowKit
structure Fld where
  nm : ByteArray
  kd : Int
  ls : Int
  ms : Int
  ws : List ByteArray
  to : ByteArray
  rl : Int
  mu : Bool
  fx : Bool
  df : ByteArray
  wg : ByteArray
structure Shp where
  kd : ByteArray
  fs : List Fld
def Fld.cells (f : Fld) (a : Option Addr) (cap : Nat) : Array Value :=
  #[.string f.nm, .int .i64 f.kd, .int .i64 f.ls, .int .i64 f.ms, .slice a f.ws.length cap, .string f.to, .int .i64 f.rl, .bool f.mu, .bool f.fx, .string f.df, .string f.wg]
structure Fld.Small (f : Fld) : Prop where
  nm : f.nm.size <= maxLen
  to : f.to.size <= maxLen
  df : f.df.size <= maxLen
  wg : f.wg.size <= maxLen
structure zeC (w : World) (b off : Nat) (f : Fld) (a : Option Addr) (cap : Nat) : Prop where
  small : f.Small
  strs : zA w a f.ws
  cell : ∀ j, j < 11 -> w.cell? ⟨b, off + j, none⟩ = (f.cells a cap)[j]?
structure zW (w : World) (a : Option Addr) (fs : List Fld) : Prop where
  len : fs.length <= maxLen
  rows : fs ≠ [] -> ∃ b off, a = some ⟨b, off, none⟩ /\ b < w.heap.size /\ ∀ i (h : i < fs.length), ∃ wa wcap, zeC w b (off + i * 11) fs[i] wa wcap
structure zko (w : World) (b off : Nat) (s : Shp) (a : Option Addr) (cap : Nat) : Prop where
  small : s.kd.size <= maxLen
  zcE : zW w a s.fs
  kind : w.cell? ⟨b, off, none⟩ = some (.string s.kd)
  list : w.cell? ⟨b, off + 1, none⟩ = some (.slice a s.fs.length cap)
structure yI (w : World) (a : Option Addr) (ss : List Shp) : Prop where
  len : ss.length <= maxLen
  rows : ss ≠ [] -> ∃ b off, a = some ⟨b, off, none⟩ /\ b < w.heap.size /\ ∀ i (h : i < ss.length), ∃ fa fcap, zko w b (off + i * 2) ss[i] fa fcap
theorem zeC.mono {w w' : World} {b off : Nat} {f : Fld} {a : Option Addr} {cap : Nat} (h : zeC w b off f a cap) (hb : b < w.heap.size) (hl : Below w.heap.size w w') : zeC w' b off f a cap :=
  ⟨h.small, h.strs.mono hl, fun j hj => (hl.cell (p := ⟨b, off + j, none⟩) hb).trans (h.cell j hj)⟩
theorem zW.mono {w w' : World} {a : Option Addr} {fs : List Fld} (h : zW w a fs) (hl : Below w.heap.size w w') : zW w' a fs :=
  ⟨h.len, fun hne => by
    obtain ⟨b, off, ha, hb, hr⟩ := h.rows hne
    refine ⟨b, off, ha, Nat.lt_of_lt_of_le hb hl.size, fun i hi => ?_⟩
    obtain ⟨wa, wcap, hf⟩ := hr i hi
    exact ⟨wa, wcap, hf.mono hb hl⟩⟩
theorem zko.mono {w w' : World} {b off : Nat} {s : Shp} {a : Option Addr} {cap : Nat} (h : zko w b off s a cap) (hb : b < w.heap.size) (hl : Below w.heap.size w w') : zko w' b off s a cap :=
  ⟨h.small, h.zcE.mono hl, (hl.cell (p := ⟨b, off, none⟩) hb).trans h.kind, (hl.cell (p := ⟨b, off + 1, none⟩) hb).trans h.list⟩
theorem yI.mono {w w' : World} {a : Option Addr} {ss : List Shp} (h : yI w a ss) (hl : Below w.heap.size w w') : yI w' a ss :=
  ⟨h.len, fun hne => by
    obtain ⟨b, off, ha, hb, hr⟩ := h.rows hne
    refine ⟨b, off, ha, Nat.lt_of_lt_of_le hb hl.size, fun i hi => ?_⟩
    obtain ⟨fa, fcap, hs⟩ := hr i hi
    exact ⟨fa, fcap, hs.mono hb hl⟩⟩
end Go.Proofs.YtfpeplbmfbepcaaGreat

namespace Go.Proofs.YtfpeplbmfbepcaaGreat
open Go.RowKit
theorem zeC.load {w : World} {b off : Nat} {f : Fld} {a : Option Addr} {cap : Nat} (h : zeC w b off f a cap) :
    w.cell? ⟨b, off, none⟩ = some (.string f.nm) /\ w.cell? ⟨b, off + 1, none⟩ = some (.int .i64 f.kd) /\ w.cell? ⟨b, off + 2, none⟩ = some (.int .i64 f.ls) /\ w.cell? ⟨b, off + 3, none⟩ = some (.int .i64 f.ms) /\
    w.cell? ⟨b, off + 4, none⟩ = some (.slice a f.ws.length cap) /\ w.cell? ⟨b, off + 5, none⟩ = some (.string f.to) /\ w.cell? ⟨b, off + 6, none⟩ = some (.int .i64 f.rl) /\ w.cell? ⟨b, off + 7, none⟩ = some (.bool f.mu) /\
    w.cell? ⟨b, off + 8, none⟩ = some (.bool f.fx) /\ w.cell? ⟨b, off + 9, none⟩ = some (.string f.df) /\ w.cell? ⟨b, off + 10, none⟩ = some (.string f.wg) :=
  ⟨h.cell 0 (by omega), h.cell 1 (by omega), h.cell 2 (by omega), h.cell 3 (by omega), h.cell 4 (by omega), h.cell 5 (by omega), h.cell 6 (by omega), h.cell 7 (by omega), h.cell 8 (by omega), h.cell 9 (by omega), h.cell 10 (by omega)⟩
end Go.Proofs.YtfpeplbmfbepcaaGreat

namespace Go.Proofs.YtfpeplbmfbepcaaGreat.Gate
def yj (c : UInt8) : Bool := decide (97 <= c.toNat /\ c.toNat <= 122) || decide (48 <= c.toNat /\ c.toNat <= 57) || decide (c.toNat = 45)
def digit (c : UInt8) : Bool := decide (48 <= c.toNat /\ c.toNat <= 57)
def yL (c : UInt8) : Bool := decide (33 <= c.toNat /\ c.toNat <= 126)
def jU (s : ByteArray) : Bool := s.data.toList.all yj
def zbf (s : ByteArray) : Bool := s.data.toList.all yL
def zaE (s : ByteArray) : Bool := s.data.toList.all digit
def zy (s : ByteArray) : Bool := decide (1 <= s.size) && decide (s.size <= 16) && jU s
def dec (l : List UInt8) : Int := l.foldl (fun n c => n * 10 + ((c.toNat : Int) - 48)) 0
def jZ (s : ByteArray) : Bool := decide (1 <= s.size) && decide (s.size <= 7) && (decide (s.size <= 1) || decide ((s.data.toList.headD 0).toNat ≠ 48)) && zaE s
def zbb (ls ms : Int) (s : ByteArray) : Bool := decide (ls <= s.size) && decide ((s.size : Int) <= ms) && zbf s
def zfj (s : ByteArray) : Int := dec s.data.toList
def zae (ls ms : Int) (s : ByteArray) : Bool := jZ s && decide (ls <= zfj s) && decide (zfj s <= ms)
theorem zmA (l : List UInt8) (c : UInt8) : dec (l ++ [c]) = dec l * 10 + ((c.toNat : Int) - 48) := by simp [dec]
theorem zjl (l : List UInt8) (h : l.all digit = true) : ∀ a : Int, 0 <= a -> 0 <= l.foldl (fun n c => n * 10 + ((c.toNat : Int) - 48)) a /\ l.foldl (fun n c => n * 10 + ((c.toNat : Int) - 48)) a < (a + 1) * 10 ^ l.length := by
  induction l with
  | nil => intro a ha; simp; omega
  | cons c l ih =>
    intro a ha
    rw [List.all_cons, Bool.and_eq_true] at h
    have hc : 48 <= c.toNat /\ c.toNat <= 57 := by simpa [digit] using h.1
    obtain ⟨h1, h2⟩ := ih h.2 (a * 10 + ((c.toNat : Int) - 48)) (by omega)
    simp only [List.foldl_cons, List.length_cons, Int.pow_succ]
    refine ⟨h1, Int.lt_of_lt_of_le h2 ?_⟩
    have hp : (0 : Int) <= 10 ^ l.length := Int.pow_nonneg (by decide)
    have := Int.mul_le_mul_of_nonneg_right (show a * 10 + ((c.toNat : Int) - 48) + 1 <= (a + 1) * 10 by omega) hp
    rw [Int.mul_comm (10 ^ l.length) 10, <- Int.mul_assoc]
    exact this
theorem zeu (l : List UInt8) (h : l.all digit = true) (n : Nat) (hn : l.length <= n) : 0 <= dec l /\ dec l < 10 ^ n := by
  have := zjl l h 0 (by decide)
  refine ⟨this.1, Int.lt_of_lt_of_le this.2 ?_⟩
  simp only [Int.zero_add, Int.one_mul]
  exact_mod_cast Nat.pow_le_pow_right (by decide) hn
theorem zgd (s : ByteArray) (k : Nat) (h : k < s.size) : s.data.toList.take (k + 1) = s.data.toList.take k ++ [s[k]] := by
  rw [List.take_succ_eq_append_getElem (by simpa using h)]; rfl
theorem zba (s : ByteArray) (k : Nat) (h : s.size <= k) : s.data.toList.take k = s.data.toList := List.take_of_length_le (by simpa using h)
theorem zbP (p : UInt8 -> Bool) (s : ByteArray) (k : Nat) (h : k < s.size) : (s.data.toList.take (k + 1)).all p = ((s.data.toList.take k).all p && p s[k]) := by
  rw [zgd s k h, List.all_append]; simp
theorem zdu (p : UInt8 -> Bool) (s : ByteArray) (k : Nat) (h : k < s.size) (hp : p s[k] = false) : s.data.toList.all p = false := by
  rw [<- List.take_append_drop (k + 1) s.data.toList, List.all_append, zbP p s k h, hp]; simp
theorem zu (s : ByteArray) : s.toList.isEmpty = decide (s.size = 0) := by
  rw [ByteArray.toList_eq, Bool.eq_iff_iff, List.isEmpty_iff, decide_eq_true_eq, <- List.length_eq_zero_iff, Array.length_toList]
  exact Iff.rfl
theorem zcG (s : ByteArray) (h : s.size = 0) : s = ByteArray.empty := by
  apply ByteArray.ext; apply Array.eq_empty_of_size_eq_zero; exact h
theorem beq_toList (a b : ByteArray) : (a.toList == b.toList) = decide (a = b) := by
  rw [ByteArray.toList_eq, ByteArray.toList_eq, Bool.eq_iff_iff]
  simp only [beq_iff_eq, decide_eq_true_eq, Array.toList_inj]
  constructor
  · intro h; exact ByteArray.ext h
  · rintro rfl; rfl
def has (ws : List ByteArray) (v : ByteArray) : Bool := ws.any fun x => decide (x = v)
theorem zlP (ws : List ByteArray) (v : ByteArray) (k : Nat) (h : k < ws.length) : has (ws.take (k + 1)) v = (has (ws.take k) v || decide (ws[k] = v)) := by
  unfold has; rw [List.take_succ_eq_append_getElem h, List.any_append]; simp
theorem zpu (ws : List ByteArray) (v : ByteArray) (k : Nat) (h : k < ws.length) (e : ws[k] = v) : has ws v = true := by
  unfold has; rw [List.any_eq_true]; exact ⟨ws[k], List.getElem_mem h, by simpa using e⟩
theorem zoi (ws : List ByteArray) (v : ByteArray) (k : Nat) (h : ws.length <= k) : has (ws.take k) v = has ws v := by rw [List.take_of_length_le h]
theorem zm4 (s : ByteArray) (h : 0 < s.size) : s.data.toList.headD 0 = s[0] := by
  obtain ⟨⟨l⟩⟩ := s
  cases l with
  | nil => simp [ByteArray.size] at h
  | cons a l => rfl
theorem zdk (s : ByteArray) (h : ¬ (1 <= s.size /\ s.size <= 7)) : jZ s = false := by
  unfold jZ
  by_cases h1 : 1 <= s.size
  · rw [decide_eq_false (show ¬ s.size <= 7 by omega)]; simp
  · rw [decide_eq_false h1]; simp
theorem zeF (s : ByteArray) (h : 1 < s.size) (hz : (s[0].toNat : Int) = 48) : jZ s = false := by
  unfold jZ
  rw [zm4 s (by omega), decide_eq_false (show ¬ s.size <= 1 by omega), decide_eq_false (show ¬ s[0].toNat ≠ 48 by omega)]; simp
theorem zkE (s : ByteArray) (h1 : 1 <= s.size) (h7 : s.size <= 7) (hz : s.size <= 1 \/ ¬ (s[0].toNat : Int) = 48) : jZ s = zaE s := by
  unfold jZ
  rw [zm4 s (by omega), decide_eq_true h1, decide_eq_true h7]
  rcases hz with h | h
  · rw [decide_eq_true h]; simp
  · rw [decide_eq_true (show s[0].toNat ≠ 48 by omega)]; simp
def fits (kd ls ms : Int) (ws : List ByteArray) (v : ByteArray) : Bool :=
  if v.size = 0 then false else if kd = 1 then zae ls ms v else if kd = 2 then has ws v else if kd = 3 then zbb ls ms v else if kd = 4 then zy v else false
theorem jS (kd ls ms : Int) (ws : List ByteArray) (v : ByteArray) (h : v.size = 0) : fits kd ls ms ws v = false := by simp [fits, h]
theorem znz (ls ms : Int) (ws : List ByteArray) (v : ByteArray) (h : ¬ v.size = 0) : fits 1 ls ms ws v = zae ls ms v := by simp [fits, h]
theorem znM (ls ms : Int) (ws : List ByteArray) (v : ByteArray) (h : ¬ v.size = 0) : fits 2 ls ms ws v = has ws v := by simp [fits, h]
theorem zkH (ls ms : Int) (ws : List ByteArray) (v : ByteArray) (h : ¬ v.size = 0) : fits 3 ls ms ws v = zbb ls ms v := by simp [fits, h]
theorem zn8 (ls ms : Int) (ws : List ByteArray) (v : ByteArray) (h : ¬ v.size = 0) : fits 4 ls ms ws v = zy v := by simp [fits, h]
theorem zio (kd ls ms : Int) (ws : List ByteArray) (v : ByteArray) (h1 : kd ≠ 1) (h2 : kd ≠ 2) (h3 : kd ≠ 3) (h4 : kd ≠ 4) : fits kd ls ms ws v = false := by simp [fits, h1, h2, h3, h4]
theorem zcq (s : ByteArray) (h : jZ s = true) : 0 <= zfj s := by
  unfold jZ at h
  rw [Bool.and_eq_true] at h
  exact (zeu _ h.2 _ (Nat.le_refl _)).1
theorem zi8 (ls ms : Int) (s : ByteArray) (h : jZ s = false) : zae ls ms s = false := by simp [zae, h]
theorem zmz (ls ms : Int) (s : ByteArray) (h : jZ s = true) : zae ls ms s = (decide (ls <= zfj s) && decide (zfj s <= ms)) := by simp [zae, h]
theorem zlV (s : ByteArray) (h : s.size = 0) : jZ s = false := zdk s (by omega)
theorem zfx (s : ByteArray) (h : s.size = 0) : zy s = false := by simp [zy, h]
theorem zpS (ls ms : Int) (ws : List ByteArray) (v : ByteArray) : fits 1 ls ms ws v = zae ls ms v := by
  by_cases h : v.size = 0
  · rw [jS _ _ _ _ _ h, zi8 _ _ _ (zlV v h)]
  · exact znz ls ms ws v h
theorem zoE (ls ms : Int) (ws : List ByteArray) (v : ByteArray) : fits 4 ls ms ws v = zy v := by
  by_cases h : v.size = 0
  · rw [jS _ _ _ _ _ h, zfx v h]
  · exact zn8 ls ms ws v h
theorem zjB (ls ms : Int) (ws : List ByteArray) (v : ByteArray) (h : zbf v = false) : fits 3 ls ms ws v = false := by
  by_cases hz : v.size = 0
  · exact jS _ _ _ _ _ hz
  · rw [zkH ls ms ws v hz, zbb, h]; simp
theorem zjX (ls ms : Int) (ws : List ByteArray) (v : ByteArray) (h : zbf v = true) (hz : ¬ v.size = 0) : fits 3 ls ms ws v = (decide (ls <= v.size) && decide ((v.size : Int) <= ms)) := by
  rw [zkH ls ms ws v hz, zbb, h]; simp
end Go.Proofs.YtfpeplbmfbepcaaGreat.Gate

namespace Go.Proofs.YtfpeplbmfbepcaaGreat
open Go.RowKit
theorem ze {a b : Bool} (h : a = b) : Ending.returned (.bool a) = .returned (.bool b) := by rw [h]
theorem zl {k : IntKind} {a b : Int} (h : a = b) : Ending.returned (.int k a) = .returned (.int k b) := by rw [h]
def zF (t : Nat) (left : Int) : Int := if (t : Int) <= left then left - t else -1
theorem zH {t : Nat} {left : Int} (h : (t : Int) <= left) : zF t left = left - t := by simp [zF, h]
theorem zx {t : Nat} {left : Int} (h : ¬ (t : Int) <= left) : zF t left = -1 := by simp [zF, h]
theorem zaH {α : Type} (g : α -> Nat) (l : List α) (k : Nat) (h : k < l.length) : ((l.take (k + 1)).map g).sum = ((l.take k).map g).sum + g l[k] := by
  rw [List.take_succ_eq_append_getElem h, List.map_append, List.sum_append]; simp
theorem zce {α : Type} (g : α -> Nat) (l : List α) (k : Nat) : ((l.take k).map g).sum <= (l.map g).sum := by
  conv => rhs; rw [<- List.take_append_drop k l]
  rw [List.map_append, List.sum_append]; omega
theorem zh0 {α : Type} (g : α -> Nat) (l : List α) (k : Nat) (h : k < l.length) : g l[k] <= (l.map g).sum := by
  have h1 := zaH g l k h
  have h2 := zce g l (k + 1)
  omega
theorem qP {P : Program} (t e : TypeId) (z : Value) (size bytes : Nat) (ht : P.underlying t = some (.slice e)) (hinfo : (P.info? e).map (fun i => (i.zero, i.size, i.bytes)) = some (some z, size, bytes))
    (n : Nat) (hbytes : bytes * n <= 281474976710656) (h63 : n <= 9223372036854775807) (w : World) :
    (Instr.makeSlice t (.int .i64 (n : Int)) (.int .i64 (n : Int))).run P w = .ok (.slice (some ⟨w.heap.size, 0, none⟩) n n) (w.alloc (.cells (madeCells z.cells (n * size)) e)) := by
  obtain ⟨i, hi, hzz⟩ := Option.map_eq_some_iff.1 hinfo
  simp only [Prod.mk.injEq] at hzz
  obtain ⟨hz, hs, hb⟩ := hzz
  have hb' : (i.bytes : Int) * (n : Int) <= 281474976710656 := by
    have h : ((i.bytes * n : Nat) : Int) <= 281474976710656 := by rw [hb]; omega
    rwa [Int.natCast_mul] at h
  have hr := run_make (P := P) w t e i z ht hi hz .i64 .i64 n n (by omega) (Int.le_refl _) hb' (by omega)
  simp only [Int.toNat_natCast, hs] at hr
  exact hr
end Go.Proofs.YtfpeplbmfbepcaaGreat

namespace Go.Proofs.YtfpeplbmfbepcaaGreat
open Go.RowKit
set_option maxHeartbeats 400000 in
theorem jJ (n lo hi : Int) (w : World) :
    Calls Tryz.prog 59 #[.int .i64 n, .int .i64 lo, .int .i64 hi] w fun e w' => e = .returned (.bool (decide (lo <= n) && decide (n <= hi))) /\ w' = w := by
  go_enter Tryz.func59, Tryz.ntmps59
  go_wp2
  all_goals
    go_ret
    refine ⟨ze ?_, rfl⟩
    simp; try omega
theorem zci (n lo hi : Int) (w : World) (h1 : lo <= n) (h2 : n <= hi) :
    Calls Tryz.prog 59 #[.int .i64 n, .int .i64 lo, .int .i64 hi] w fun e w' => e = .returned (.bool true) /\ w' = w := by
  refine (jJ n lo hi w).mono ?_
  rintro e w' ⟨rfl, rfl⟩
  exact ⟨ze (by simp; omega), rfl⟩
theorem zet (n lo hi : Int) (w : World) (h1 : ¬ (lo <= n /\ n <= hi)) :
    Calls Tryz.prog 59 #[.int .i64 n, .int .i64 lo, .int .i64 hi] w fun e w' => e = .returned (.bool false) /\ w' = w := by
  refine (jJ n lo hi w).mono ?_
  rintro e w' ⟨rfl, rfl⟩
  exact ⟨ze (by simp; omega), rfl⟩
set_option maxHeartbeats 400000 in
theorem zhe (c : UInt8) (w : World) :
    Calls Tryz.prog 207 #[.int .u8 c.toNat] w fun e w' => e = .returned (.bool (Gate.digit c)) /\ w' = w := by
  go_enter Tryz.func207, Tryz.ntmps207
  go_wp2
  all_goals
    go_ret
    refine ⟨ze ?_, rfl⟩
    rw [Bool.eq_iff_iff]; simp [Gate.digit]; try omega
theorem zgW (c : UInt8) (w : World) (h : 48 <= (c.toNat : Int)) (h2 : (c.toNat : Int) <= 57) :
    Calls Tryz.prog 207 #[.int .u8 c.toNat] w fun e w' => e = .returned (.bool true) /\ w' = w := by
  refine (zhe c w).mono ?_
  rintro e w' ⟨rfl, rfl⟩
  exact ⟨ze (by simp [Gate.digit]; omega), rfl⟩
theorem zcp (c : UInt8) (w : World) (h : ¬ (48 <= (c.toNat : Int) /\ (c.toNat : Int) <= 57)) :
    Calls Tryz.prog 207 #[.int .u8 c.toNat] w fun e w' => e = .returned (.bool false) /\ w' = w := by
  refine (zhe c w).mono ?_
  rintro e w' ⟨rfl, rfl⟩
  exact ⟨ze (by simp [Gate.digit]; omega), rfl⟩
end Go.Proofs.YtfpeplbmfbepcaaGreat

namespace Go.Proofs.YtfpeplbmfbepcaaGreat.Gate
def up (P : Nat -> Bool) (n : Nat) : Bool := (List.range n).all P
theorem jG (P : Nat -> Bool) (n : Nat) : up P (n + 1) = (up P n && P n) := by simp [up, List.range_succ, List.all_append]
theorem zbg {P : Nat -> Bool} {k n : Nat} (h : k < n) (hk : P k = false) : up P n = false := by
  unfold up; rw [List.all_eq_false]; exact ⟨k, List.mem_range.2 h, by simp [hk]⟩
theorem zeO {P : Nat -> Bool} {k n : Nat} (h : k < n) (hu : up P n = true) : P k = true := by
  unfold up at hu; rw [List.all_eq_true] at hu; exact hu k (List.mem_range.2 h)
def less (a b : ByteArray) : Bool := Op.bytesLess a.toList b.toList
def zc3 (ws : List ByteArray) (i : Nat) : Bool := zy (ws.getD i ByteArray.empty) && (decide (i = 0) || less (ws.getD (i - 1) ByteArray.empty) (ws.getD i ByteArray.empty))
def asc (ws : List ByteArray) : Bool := up (zc3 ws) ws.length
theorem getD_at {α : Type} (l : List α) (i : Nat) (d : α) (h : i < l.length) : l.getD i d = l[i] := by
  rw [List.getD_eq_getElem?_getD, List.getElem?_eq_getElem h]; rfl
theorem ziS {ws : List ByteArray} {k : Nat} (h : k < ws.length) (hn : zy ws[k] = false) : zc3 ws k = false := by
  unfold zc3; rw [getD_at ws k _ h, hn]; rfl
theorem zhb {ws : List ByteArray} (h : 0 < ws.length) (hn : zy ws[0] = true) : zc3 ws 0 = true := by
  unfold zc3; rw [getD_at ws 0 _ h, hn]; rfl
theorem zdv {ws : List ByteArray} {k : Nat} (h : k + 1 < ws.length) (hn : zy ws[k + 1] = true) : zc3 ws (k + 1) = less ws[k] ws[k + 1] := by
  unfold zc3; rw [getD_at ws (k + 1) _ h, Nat.add_sub_cancel, getD_at ws k _ (by omega), hn]; simp
def qO (kd ls ms : Int) (n : Nat) (to : ByteArray) (rl : Int) (wg : ByteArray) : Bool :=
  if kd = 1 then decide (n = 0) && to.toList.isEmpty && decide (rl = 0)
  else if kd = 2 then decide (ls = 0) && decide (ms = 0) && to.toList.isEmpty && decide (rl = 0) && wg.toList.isEmpty
  else if kd = 3 then decide (n = 0) && to.toList.isEmpty && decide (rl = 0) && wg.toList.isEmpty
  else if kd = 4 then decide (ls = 0) && decide (ms = 0) && decide (n = 0) && wg.toList.isEmpty
  else false
def jq (ls ms lo hi : Int) : Bool := decide (lo <= ls) && decide (ls <= ms) && decide (ms <= hi)
def zC (ss : List Shp) (k : ByteArray) : Bool := ss.any fun s => decide (s.kd = k)
def yX (ss : List Shp) (f : Fld) : Bool :=
  if f.kd = 1 then jq f.ls f.ms 0 1000000 && (f.wg.toList.isEmpty || zy f.wg)
  else if f.kd = 2 then decide (1 <= f.ws.length) && decide (f.ws.length <= 6) && asc f.ws
  else if f.kd = 3 then jq f.ls f.ms 1 40
  else if f.kd = 4 then zC ss f.to && (decide (1 <= f.rl) && decide (f.rl <= 3)) && f.df.toList.isEmpty && (decide (f.rl ≠ 2) || !f.mu)
  else false
def bare (f : Fld) : Bool := qO f.kd f.ls f.ms f.ws.length f.to f.rl f.wg
def zeT (f : Fld) (v : ByteArray) : Bool := fits f.kd f.ls f.ms f.ws v
def zqt (f : Fld) : Bool := f.df.toList.isEmpty || zeT f f.df
def jT (ss : List Shp) (f : Fld) : Bool := bare f && yX ss f && zqt f
def zaS : Shp := ⟨ByteArray.empty, []⟩
def shapeOf (ss : List Shp) (k : ByteArray) : Shp := (ss.find? fun s => decide (s.kd = k)).getD zaS
theorem zde (ss : List Shp) (v : ByteArray) (k : Nat) (h : k < ss.length) : zC (ss.take (k + 1)) v = (zC (ss.take k) v || decide (ss[k].kd = v)) := by
  unfold zC; rw [List.take_succ_eq_append_getElem h, List.any_append]; simp
theorem zeZ (ss : List Shp) (v : ByteArray) (k : Nat) (h : k < ss.length) (e : ss[k].kd = v) : zC ss v = true := by
  unfold zC; rw [List.any_eq_true]; exact ⟨ss[k], List.getElem_mem h, by simpa using e⟩
theorem zef (ss : List Shp) (v : ByteArray) (k : Nat) (h : ss.length <= k) : zC (ss.take k) v = zC ss v := by rw [List.take_of_length_le h]
theorem zc5 (ss : List Shp) (v : ByteArray) (k : Nat) (h : k < ss.length) (hb : zC (ss.take k) v = false) (e : ss[k].kd = v) : shapeOf ss v = ss[k] := by
  unfold shapeOf
  have hn : (ss.take k).find? (fun s => decide (s.kd = v)) = none := by
    rw [List.find?_eq_none]; intro x hx; unfold zC at hb; rw [List.any_eq_false] at hb; exact hb x hx
  conv => lhs; rw [<- List.take_append_drop k ss]
  rw [List.find?_append, hn, List.drop_eq_getElem_cons h, List.find?_cons_of_pos (by simpa using e)]; rfl
theorem zc8 (ss : List Shp) (v : ByteArray) (hb : zC ss v = false) : shapeOf ss v = zaS := by
  unfold shapeOf
  have hn : ss.find? (fun s => decide (s.kd = v)) = none := by
    rw [List.find?_eq_none]; intro x hx; unfold zC at hb; rw [List.any_eq_false] at hb; exact hb x hx
  rw [hn]; rfl
def hasName (fs : List Fld) (v : ByteArray) : Bool := fs.any fun f => decide (f.nm = v)
def zT (fs : List Fld) (v : ByteArray) : Int := match fs.findIdx? (fun f => decide (f.nm = v)) with | some i => i | none => -1
theorem zdx (fs : List Fld) (v : ByteArray) (k : Nat) (h : k < fs.length) : hasName (fs.take (k + 1)) v = (hasName (fs.take k) v || decide (fs[k].nm = v)) := by
  unfold hasName; rw [List.take_succ_eq_append_getElem h, List.any_append]; simp
theorem zg3 (fs : List Fld) (v : ByteArray) (k : Nat) (h : fs.length <= k) : hasName (fs.take k) v = hasName fs v := by rw [List.take_of_length_le h]
theorem zdz (fs : List Fld) (v : ByteArray) (k : Nat) (h : k < fs.length) (hb : hasName (fs.take k) v = false) (e : fs[k].nm = v) : zT fs v = k := by
  unfold zT
  have hf : fs.findIdx? (fun f => decide (f.nm = v)) = some k := by
    rw [List.findIdx?_eq_some_iff_getElem]
    refine ⟨h, by simpa using e, fun j hj => ?_⟩
    unfold hasName at hb
    rw [List.any_eq_false] at hb
    have hm : fs[j] ∈ fs.take k := by
      rw [List.mem_iff_getElem]
      exact ⟨j, by simp; omega, by simp⟩
    exact hb _ hm
  rw [hf]
theorem zfF (fs : List Fld) (v : ByteArray) (hb : hasName fs v = false) : zT fs v = -1 := by
  unfold zT
  have hf : fs.findIdx? (fun f => decide (f.nm = v)) = none := by
    rw [List.findIdx?_eq_none_iff]
    intro x hx
    unfold hasName at hb
    rw [List.any_eq_false] at hb
    simpa using hb x hx
  rw [hf]
theorem zjJ (fs : List Fld) (v : ByteArray) (k : Nat) (h : k < fs.length) (hh : hasName (fs.take k) v = true) : ∃ j, j < k /\ zT fs v = j := by
  unfold hasName at hh
  rw [List.any_eq_true] at hh
  obtain ⟨x, hx, he⟩ := hh
  obtain ⟨j, hj, rfl⟩ := List.mem_iff_getElem.1 hx
  have hjk : j < k := by simp at hj; omega
  have hjl : j < fs.length := by omega
  have hv : fs[j].nm = v := by simpa using he
  cases hf : fs.findIdx? (fun f => decide (f.nm = v)) with
  | none =>
    rw [List.findIdx?_eq_none_iff] at hf
    have := hf fs[j] (List.getElem_mem hjl)
    simp [hv] at this
  | some i =>
    refine ⟨i, ?_, by unfold zT; rw [hf]⟩
    rw [List.findIdx?_eq_some_iff_getElem] at hf
    obtain ⟨hi, _, hmin⟩ := hf
    rcases Nat.lt_or_ge i k with h1 | h1
    · exact h1
    · exfalso
      have := hmin j (by omega)
      simp [hv] at this
def za9 : Fld := ⟨ByteArray.empty, 0, 0, 0, [], ByteArray.empty, 0, false, false, ByteArray.empty, ByteArray.empty⟩
def zea (ss : List Shp) (fs : List Fld) (i : Nat) : Bool :=
  zy (fs.getD i za9).nm && !hasName (fs.take i) (fs.getD i za9).nm && jT ss (fs.getD i za9)
def yH (ss : List Shp) (fs : List Fld) : Bool := decide (fs.length <= 6) && up (zea ss fs) fs.length
theorem zfB (ss : List Shp) (fs : List Fld) (i : Nat) (h : i < fs.length) : zea ss fs i = (zy fs[i].nm && !hasName (fs.take i) fs[i].nm && jT ss fs[i]) := by
  unfold zea; rw [getD_at fs i _ h]
def yD (ss : List Shp) (i : Nat) : Bool :=
  zy (ss.getD i zaS).kd && (decide (i = 0) || less (ss.getD (i - 1) zaS).kd (ss.getD i zaS).kd) && yH ss (ss.getD i zaS).fs
def zJ (ss : List Shp) : Bool := decide (ss.length <= 6) && up (yD ss) ss.length
theorem zeU (ss : List Shp) (h : 0 < ss.length) : yD ss 0 = (zy ss[0].kd && yH ss ss[0].fs) := by
  unfold yD; rw [getD_at ss 0 _ h]; simp
theorem zfl (ss : List Shp) (k : Nat) (h : k + 1 < ss.length) : yD ss (k + 1) = (zy ss[k + 1].kd && less ss[k].kd ss[k + 1].kd && yH ss ss[k + 1].fs) := by
  unfold yD; rw [getD_at ss (k + 1) _ h, Nat.add_sub_cancel, getD_at ss k _ (by omega)]; simp
theorem zbA : ∀ x : List UInt8, Op.bytesLess x x = false
  | [] => rfl
  | a :: x => by
    simp only [Op.bytesLess, Bool.or_eq_false_iff, decide_eq_false_iff_not, Bool.and_eq_false_iff]
    exact ⟨fun h => by simp at h, Or.inr (zbA x)⟩
theorem zaU : ∀ x y z : List UInt8, Op.bytesLess x y = true -> Op.bytesLess y z = true -> Op.bytesLess x z = true
  | _, [], _, h, _ => by simp [Op.bytesLess] at h
  | [], _ :: _, [], _, h => by simp [Op.bytesLess] at h
  | [], _ :: _, _ :: _, _, _ => rfl
  | _ :: _, _ :: _, [], _, h => by simp [Op.bytesLess] at h
  | a :: x, b :: y, c :: z, h, k => by
    simp only [Op.bytesLess, Bool.or_eq_true, decide_eq_true_eq, Bool.and_eq_true, beq_iff_eq] at h k ⊢
    rcases h with h | ⟨rfl, h⟩
    · rcases k with k | ⟨rfl, k⟩
      · exact Or.inl (UInt8.lt_trans h k)
      · exact Or.inl h
    · rcases k with k | ⟨rfl, k⟩
      · exact Or.inl k
      · exact Or.inr ⟨rfl, zaU x y z h k⟩
end Go.Proofs.YtfpeplbmfbepcaaGreat.Gate

namespace Go.Proofs.YtfpeplbmfbepcaaGreat
open Go.RowKit
theorem zf {w : World} {b o : Nat} {C : Array Value} {t : TypeId} (h : w.heap[b]? = some (.cells C t)) (v : Value) : (w.setCell ⟨b, o, none⟩ v).heap[b]? = some (.cells (C.setIfInBounds o v) t) := by
  simp [World.setCell, Array.getElem?_modify, h]
theorem cell_of_block {w : World} {b o : Nat} {C : Array Value} {t : TypeId} (h : w.heap[b]? = some (.cells C t)) : w.cell? ⟨b, o, none⟩ = C[o]? := by simp [World.cell?, h]
theorem zh {w : World} {b o : Nat} {C : Array Value} {t : TypeId} (h : w.heap[b]? = some (.cells C t)) : w.frozen? ⟨b, o, none⟩ = false := by simp [World.frozen?, h]
def zmo (w : World) (b o : Nat) (v0 v1 v2 v3 v4 v5 v6 v7 v8 v9 v10 : Value) : World := ((((((((((w.setCell ⟨b, o, none⟩ v0).setCell ⟨b, o + 1, none⟩ v1).setCell ⟨b, o + 2, none⟩ v2).setCell ⟨b, o + 3, none⟩ v3).setCell ⟨b, o + 4, none⟩ v4).setCell ⟨b, o + 5, none⟩ v5).setCell ⟨b, o + 6, none⟩ v6).setCell ⟨b, o + 7, none⟩ v7).setCell ⟨b, o + 8, none⟩ v8).setCell ⟨b, o + 9, none⟩ v9).setCell ⟨b, o + 10, none⟩ v10
def ziJ (C : Array Value) (o : Nat) (v0 v1 v2 v3 v4 v5 v6 v7 v8 v9 v10 : Value) : Array Value := ((((((((((C.setIfInBounds o v0).setIfInBounds (o + 1) v1).setIfInBounds (o + 2) v2).setIfInBounds (o + 3) v3).setIfInBounds (o + 4) v4).setIfInBounds (o + 5) v5).setIfInBounds (o + 6) v6).setIfInBounds (o + 7) v7).setIfInBounds (o + 8) v8).setIfInBounds (o + 9) v9).setIfInBounds (o + 10) v10
theorem zmW {w : World} {b o : Nat} {C : Array Value} {t : TypeId} (h : w.heap[b]? = some (.cells C t)) (v0 v1 v2 v3 v4 v5 v6 v7 v8 v9 v10 : Value) : (zmo w b o v0 v1 v2 v3 v4 v5 v6 v7 v8 v9 v10).heap[b]? = some (.cells (ziJ C o v0 v1 v2 v3 v4 v5 v6 v7 v8 v9 v10) t) :=
  zf (zf (zf (zf (zf (zf (zf (zf (zf (zf (zf h v0) v1) v2) v3) v4) v5) v6) v7) v8) v9) v10
theorem zm3 {B : Nat} {a w : World} (h : Below B a w) {b : Nat} (hb : B <= b) (o : Nat) (v0 v1 v2 v3 v4 v5 v6 v7 v8 v9 v10 : Value) : Below B a (zmo w b o v0 v1 v2 v3 v4 v5 v6 v7 v8 v9 v10) :=
  ((((((((((h.setCell hb v0).setCell hb v1).setCell hb v2).setCell hb v3).setCell hb v4).setCell hb v5).setCell hb v6).setCell hb v7).setCell hb v8).setCell hb v9).setCell hb v10
theorem zgM (w : World) (b o b' : Nat) (hb : b' ≠ b) (v0 v1 v2 v3 v4 v5 v6 v7 v8 v9 v10 : Value) : (zmo w b o v0 v1 v2 v3 v4 v5 v6 v7 v8 v9 v10).heap[b']? = w.heap[b']? := by
  unfold zmo
  iterate 11 rw [Below.heap_setCell _ _ _ _ hb]
theorem zn4 (C : Array Value) (o : Nat) (v0 v1 v2 v3 v4 v5 v6 v7 v8 v9 v10 : Value) : (ziJ C o v0 v1 v2 v3 v4 v5 v6 v7 v8 v9 v10).size = C.size := by simp [ziJ]
theorem zoD (C : Array Value) (o i : Nat) (v0 v1 v2 v3 v4 v5 v6 v7 v8 v9 v10 : Value) (h : i < o \/ o + 11 <= i) : (ziJ C o v0 v1 v2 v3 v4 v5 v6 v7 v8 v9 v10)[i]? = C[i]? := by
  unfold ziJ
  iterate 11 rw [Array.getElem?_setIfInBounds, if_neg (by omega)]
theorem zpE (C : Array Value) (o j : Nat) (v0 v1 v2 v3 v4 v5 v6 v7 v8 v9 v10 : Value) (hj : j < 11) (ho : o + 11 <= C.size) : (ziJ C o v0 v1 v2 v3 v4 v5 v6 v7 v8 v9 v10)[o + j]? = (#[v0, v1, v2, v3, v4, v5, v6, v7, v8, v9, v10] : Array Value)[j]? := by
  have hc : j = 0 \/ j = 1 \/ j = 2 \/ j = 3 \/ j = 4 \/ j = 5 \/ j = 6 \/ j = 7 \/ j = 8 \/ j = 9 \/ j = 10 := by omega
  unfold ziJ
  rcases hc with h | h | h | h | h | h | h | h | h | h | h <;> subst h <;> simp [Array.getElem?_setIfInBounds] <;> omega
end Go.Proofs.YtfpeplbmfbepcaaGreat

namespace Go.Proofs.YtfpeplbmfbepcaaGreat
open Go.RowKit
structure Mnd where
  kd : ByteArray
  fd : ByteArray
  wh : ByteArray
  wi : ByteArray
  pt : ByteArray
  fr : ByteArray
def Mnd.cells (m : Mnd) : Array Value := #[.string m.kd, .string m.fd, .string m.wh, .string m.wi, .string m.pt, .string m.fr]
structure Mnd.Small (m : Mnd) : Prop where
  kd : m.kd.size <= maxLen
  fd : m.fd.size <= maxLen
  wh : m.wh.size <= maxLen
  wi : m.wi.size <= maxLen
  pt : m.pt.size <= maxLen
  fr : m.fr.size <= maxLen
structure qy (w : World) (a : Option Addr) (ms : List Mnd) : Prop where
  len : ms.length <= maxLen
  small : ∀ i (h : i < ms.length), ms[i].Small
  rows : ms ≠ [] -> ∃ b off, a = some ⟨b, off, none⟩ /\ b < w.heap.size /\ ∀ i (h : i < ms.length), ∀ j, j < 6 -> w.cell? ⟨b, off + i * 6 + j, none⟩ = ms[i].cells[j]?
theorem qy.mono {w w' : World} {a : Option Addr} {ms : List Mnd} (h : qy w a ms) (hl : Below w.heap.size w w') : qy w' a ms :=
  ⟨h.len, h.small, fun hne => by
    obtain ⟨b, off, ha, hb, hr⟩ := h.rows hne
    exact ⟨b, off, ha, Nat.lt_of_lt_of_le hb hl.size, fun i hi j hj => (hl.cell (p := ⟨b, off + i * 6 + j, none⟩) hb).trans (hr i hi j hj)⟩⟩
theorem qy.load {w w' : World} {a : Option Addr} {ms : List Mnd} (h : qy w a ms) (hl : Below w.heap.size w w') (i : Nat) (hi : i < ms.length) : ∃ b off, a = some ⟨b, off, none⟩ /\ b < w.heap.size /\
    w'.cell? ⟨b, off + i * 6, none⟩ = some (.string ms[i].kd) /\ w'.cell? ⟨b, off + i * 6 + 1, none⟩ = some (.string ms[i].fd) /\ w'.cell? ⟨b, off + i * 6 + 2, none⟩ = some (.string ms[i].wh) /\ w'.cell? ⟨b, off + i * 6 + 3, none⟩ = some (.string ms[i].wi) /\ w'.cell? ⟨b, off + i * 6 + 4, none⟩ = some (.string ms[i].pt) /\ w'.cell? ⟨b, off + i * 6 + 5, none⟩ = some (.string ms[i].fr) := by
  obtain ⟨b, off, ha, hb, hr⟩ := h.rows (by rintro rfl; simp at hi)
  have hc : ∀ j, j < 6 -> w'.cell? ⟨b, off + i * 6 + j, none⟩ = ms[i].cells[j]? := fun j hj => (hl.cell (p := ⟨b, off + i * 6 + j, none⟩) hb).trans (hr i hi j hj)
  exact ⟨b, off, ha, hb, hc 0 (by omega), hc 1 (by omega), hc 2 (by omega), hc 3 (by omega), hc 4 (by omega), hc 5 (by omega)⟩
end Go.Proofs.YtfpeplbmfbepcaaGreat

namespace Go.Proofs.YtfpeplbmfbepcaaGreat
open Go.RowKit
def nth : List Oper -> Nat -> Option Oper
  | [], _ => none
  | o :: _, 0 => some o
  | _ :: l, n + 1 => nth l n
theorem zpJ : ∀ (l : List Oper) (i : Nat), nth l i = l[i]?
  | [], _ => by simp [nth]
  | _ :: _, 0 => by simp [nth]
  | _ :: l, n + 1 => by simp [nth, zpJ l n]
section
variable {P : Program} {ops : Array Oper} {Q : Exit -> Act -> World -> Prop} {md : Region.Mode} {S : World -> Prop}
theorem znh {i : Nat} {oi : Oper} (hi : nth ops.toList i = some oi) : ops[i]? = some oi := by
  rw [zpJ] at hi; simpa using hi
theorem zpq {i : Nat} {oi : Oper} {v : Value} {fuel : Nat} {listed : Array Bool} {a : Act} {w : World} (hi : nth ops.toList i = some oi)
    (hs : Region.noSelect ops = true) (hf : Region.free md ops listed i = true) (hr : (Region.ready md ops listed).contains i = true)
    (hQ : ∀ c a w, Q (.panic c) (a.put oi.dst v) w -> Q (.panic c) a w) (hw : Region.wanted oi (yielded ops a.tmps) = true) (hS : S w)
    (hy : ∀ w, S w -> (execOp a.eval oi).run P w = .ok (.value v) w)
    (h : wpAnyH P md ops Q S fuel (listed.setIfInBounds i true) (a.put oi.dst v) w) : wpAnyH P md ops Q S (fuel + 1) listed a w :=
  wpAnyH_take (znh hi) hs hf hr hQ (Or.inl ⟨hw, hy⟩) hS h
theorem zop {i : Nat} {oi : Oper} {fuel : Nat} {listed : Array Bool} {a : Act} {w : World} (hi : nth ops.toList i = some oi)
    (hs : Region.noSelect ops = true) (hf : Region.free md ops listed i = true) (hr : (Region.ready md ops listed).contains i = true)
    (hQ : ∀ c a w, Q (.panic c) (a.put oi.dst undef) w -> Q (.panic c) a w) (hw : Region.wanted oi (yielded ops a.tmps) = false) (hS : S w)
    (h : wpAnyH P md ops Q S fuel (listed.setIfInBounds i true) (a.put oi.dst undef) w) : wpAnyH P md ops Q S (fuel + 1) listed a w :=
  wpAnyH_take (znh hi) hs hf hr hQ (Or.inr ⟨hw, rfl⟩) hS h
theorem zqh {i : Nat} {oi : Oper} {fuel : Nat} {listed : Array Bool} {a : Act} {w : World} (hi : nth ops.toList i = some oi)
    (hr : Region.ready md ops listed = [i]) (hw : Region.wanted oi (yielded ops a.tmps) = true)
    (h : ∀ K : Act -> World -> Prop, Shut (∀ a w, S w -> (S w -> wpAnyH P md ops Q S fuel (listed.setIfInBounds i true) a w) -> K a w) -> Oper.wp P oi a w K Q) : wpAnyH P md ops Q S (fuel + 1) listed a w :=
  wpAnyH_ready hr (by simp) (AllReadyH.cons (znh hi) (fun K hK => by rw [if_pos hw]; exact h K hK) AllReadyH.nil)
end
end Go.Proofs.YtfpeplbmfbepcaaGreat

namespace Go.Proofs.YtfpeplbmfbepcaaGreat
open Go.RowKit
theorem sA {α : Type} (l : List α) (i : Nat) (x : α) : l.toArray.setIfInBounds i x = (l.set i x).toArray := List.setIfInBounds_toArray ..
theorem s0 {α : Type} (x y : α) (l : List α) : (x :: l).set 0 y = y :: l := rfl
theorem sS {α : Type} (x y : α) (l : List α) (n : Nat) : (x :: l).set (n + 1) y = x :: l.set n y := rfl
section
variable {P : Program} {ops : Array Oper} {Q : Exit -> Act -> World -> Prop} {md : Region.Mode} {S : World -> Prop}
theorem tH (i : Nat) {oi : Oper} {v : Value} {fuel : Nat} {listed : Array Bool} {a a' : Act} {w : World} (hi : nth ops.toList i = some oi) (hS : S w)
    (h : wpAnyH P md ops Q S fuel (listed.setIfInBounds i true) a' w) (hs : Region.noSelect ops = true := by kernel_rfl) (hf : Region.free md ops listed i = true := by kernel_rfl) (hr : (Region.ready md ops listed).contains i = true := by kernel_rfl)
    (hw : Region.wanted oi (yielded ops a.tmps) = true := by rfl)
    (hy : ∀ w, S w -> (execOp a.eval oi).run P w = .ok (.value v) w := by (intro w hSw; (try dsimp only at hSw); go_simp; try with_reducible rfl))
    (ha : a.put oi.dst v = a' := by ((try simp only [Act.put, sA, s0, sS]); rfl))
    (hQ : ∀ c a w, Q (.panic c) (a.put oi.dst v) w -> Q (.panic c) a w := by exact fun _ _ _ h => h) : wpAnyH P md ops Q S (fuel + 1) listed a w :=
  zpq hi hs hf hr hQ hw hS hy (ha ▸ h)
theorem kH (i : Nat) {oi : Oper} {fuel : Nat} {listed : Array Bool} {a a' : Act} {w : World} (hi : nth ops.toList i = some oi) (hS : S w)
    (h : wpAnyH P md ops Q S fuel (listed.setIfInBounds i true) a' w) (hs : Region.noSelect ops = true := by kernel_rfl) (hf : Region.free md ops listed i = true := by kernel_rfl) (hr : (Region.ready md ops listed).contains i = true := by kernel_rfl)
    (hw : Region.wanted oi (yielded ops a.tmps) = false := by rfl)
    (ha : a.put oi.dst undef = a' := by ((try simp only [Act.put, sA, s0, sS]); rfl))
    (hQ : ∀ c a w, Q (.panic c) (a.put oi.dst undef) w -> Q (.panic c) a w := by exact fun _ _ _ h => h) : wpAnyH P md ops Q S (fuel + 1) listed a w :=
  zop hi hs hf hr hQ hw hS (ha ▸ h)
theorem tG (i : Nat) {oi : Oper} {v : Value} {fuel : Nat} {listed : Array Bool} {a a' : Act} {w : World} (h : wpAnyH P md ops Q S fuel (listed.setIfInBounds i true) a' w)
    (hS : S w := by assumption) (hi : nth ops.toList i = some oi := by rfl) (hs : Region.noSelect ops = true := by kernel_rfl) (hf : Region.free md ops listed i = true := by kernel_rfl) (hr : (Region.ready md ops listed).contains i = true := by kernel_rfl)
    (hw : Region.wanted oi (yielded ops a.tmps) = true := by rfl)
    (hy : ∀ w, S w -> (execOp a.eval oi).run P w = .ok (.value v) w := by (intro w hSw; (try dsimp only at hSw); go_simp; try with_reducible rfl))
    (ha : a.put oi.dst v = a' := by ((try simp only [Act.put, sA, s0, sS]); rfl))
    (hQ : ∀ c a w, Q (.panic c) (a.put oi.dst v) w -> Q (.panic c) a w := by exact fun _ _ _ h => h) : wpAnyH P md ops Q S (fuel + 1) listed a w :=
  zpq hi hs hf hr hQ hw hS hy (ha ▸ h)
theorem kG (i : Nat) {oi : Oper} {fuel : Nat} {listed : Array Bool} {a a' : Act} {w : World} (h : wpAnyH P md ops Q S fuel (listed.setIfInBounds i true) a' w)
    (hS : S w := by assumption) (hi : nth ops.toList i = some oi := by rfl) (hs : Region.noSelect ops = true := by kernel_rfl) (hf : Region.free md ops listed i = true := by kernel_rfl) (hr : (Region.ready md ops listed).contains i = true := by kernel_rfl)
    (hw : Region.wanted oi (yielded ops a.tmps) = false := by rfl)
    (ha : a.put oi.dst undef = a' := by ((try simp only [Act.put, sA, s0, sS]); rfl))
    (hQ : ∀ c a w, Q (.panic c) (a.put oi.dst undef) w -> Q (.panic c) a w := by exact fun _ _ _ h => h) : wpAnyH P md ops Q S (fuel + 1) listed a w :=
  zop hi hs hf hr hQ hw hS (ha ▸ h)
theorem cH (i : Nat) {oi : Oper} {fuel : Nat} {listed : Array Bool} {a : Act} {w : World} (hi : nth ops.toList i = some oi)
    (h : ∀ K : Act -> World -> Prop, Shut (∀ a w, S w -> (S w -> wpAnyH P md ops Q S fuel (listed.setIfInBounds i true) a w) -> K a w) -> Oper.wp P oi a w K Q)
    (hr : Region.ready md ops listed = [i] := by kernel_rfl) (hw : Region.wanted oi (yielded ops a.tmps) = true := by rfl) : wpAnyH P md ops Q S (fuel + 1) listed a w :=
  zqh hi hr hw h
end
end Go.Proofs.YtfpeplbmfbepcaaGreat

namespace Go.Proofs.YtfpeplbmfbepcaaGreat
open Go.RowKit
theorem ziW {o : Oper} {ops : Array Oper} {tmps : Array Value} {j : Nat} {want g x : Bool} (hgd : o.guard = some (j, want)) (hv : ((ops[j]?).bind (·.dst)).bind (tmps[·]?) = some (bif g then Value.bool x else undef)) : Region.wanted o (yielded ops tmps) = (g && (x == want)) := by
  unfold Region.wanted yielded
  simp only [hgd, hv]
  cases g <;> cases x <;> cases want <;> rfl
section
variable {P : Program} {ops : Array Oper} {Q : Exit -> Act -> World -> Prop} {md : Region.Mode} {S : World -> Prop} {oi : Oper} {v : Value} {j : Nat} {want g x q : Bool} {fuel : Nat} {listed : Array Bool} {a a' : Act} {w : World}
theorem sG0 (i : Nat) (hq : (g && (x == want)) = q) (h : wpAnyH P md ops Q S fuel (listed.setIfInBounds i true) a' w) (hS : S w) (hi : nth ops.toList i = some oi) (hgd : oi.guard = some (j, want)) (hv : ((ops[j]?).bind (·.dst)).bind (a.tmps[·]?) = some (bif g then Value.bool x else undef))
    (hs : Region.noSelect ops = true) (hf : Region.free md ops listed i = true) (hr : (Region.ready md ops listed).contains i = true)
    (hy : q = true -> ∀ w, S w -> (execOp a.eval oi).run P w = .ok (.value v) w) (ha : a.put oi.dst (bif q then v else undef) = a')
    (hQ : ∀ c u a w, Q (.panic c) (a.put oi.dst u) w -> Q (.panic c) a w) : wpAnyH P md ops Q S (fuel + 1) listed a w := by
  have hw := ziW (o := oi) hgd hv
  rw [hq] at hw
  cases q with
  | true => exact zpq hi hs hf hr (fun c a w => hQ c _ a w) hw hS (hy rfl) (ha ▸ h)
  | false => exact zop hi hs hf hr (fun c a w => hQ c _ a w) hw hS (ha ▸ h)
theorem sF (i : Nat) (h : wpAnyH P md ops Q S fuel (listed.setIfInBounds i true) a' w)
    (hS : S w := by assumption) (hi : nth ops.toList i = some oi := by rfl) (hgd : oi.guard = some (j, false) := by rfl) (hv : ((ops[j]?).bind (·.dst)).bind (a.tmps[·]?) = some (Value.bool x) := by rfl)
    (hs : Region.noSelect ops = true := by kernel_rfl) (hf : Region.free md ops listed i = true := by kernel_rfl) (hr : (Region.ready md ops listed).contains i = true := by kernel_rfl)
    (hy : x = false -> ∀ w, S w -> (execOp a.eval oi).run P w = .ok (.value v) w := by (intro hg w hSw; (try dsimp only at hSw); go_simp; try with_reducible rfl))
    (ha : a.put oi.dst (bif !x then v else undef) = a' := by ((try simp only [Act.put, sA, s0, sS]); rfl))
    (hQ : ∀ c u a w, Q (.panic c) (a.put oi.dst u) w -> Q (.panic c) a w := by exact fun _ _ _ _ h => h) : wpAnyH P md ops Q S (fuel + 1) listed a w :=
  sG0 (g := true) i (by cases x <;> rfl) h hS hi hgd hv hs hf hr (fun h => hy (by simpa using h)) ha hQ
theorem sT (i : Nat) (h : wpAnyH P md ops Q S fuel (listed.setIfInBounds i true) a' w)
    (hS : S w := by assumption) (hi : nth ops.toList i = some oi := by rfl) (hgd : oi.guard = some (j, true) := by rfl) (hv : ((ops[j]?).bind (·.dst)).bind (a.tmps[·]?) = some (Value.bool x) := by rfl)
    (hs : Region.noSelect ops = true := by kernel_rfl) (hf : Region.free md ops listed i = true := by kernel_rfl) (hr : (Region.ready md ops listed).contains i = true := by kernel_rfl)
    (hy : x = true -> ∀ w, S w -> (execOp a.eval oi).run P w = .ok (.value v) w := by (intro hg w hSw; (try dsimp only at hSw); go_simp; try with_reducible rfl))
    (ha : a.put oi.dst (bif x then v else undef) = a' := by ((try simp only [Act.put, sA, s0, sS]); rfl))
    (hQ : ∀ c u a w, Q (.panic c) (a.put oi.dst u) w -> Q (.panic c) a w := by exact fun _ _ _ _ h => h) : wpAnyH P md ops Q S (fuel + 1) listed a w :=
  sG0 (g := true) i (by cases x <;> rfl) h hS hi hgd hv hs hf hr hy ha hQ
theorem sFT (i : Nat) (h : wpAnyH P md ops Q S fuel (listed.setIfInBounds i true) a' w)
    (hS : S w := by assumption) (hi : nth ops.toList i = some oi := by rfl) (hgd : oi.guard = some (j, true) := by rfl) (hv : ((ops[j]?).bind (·.dst)).bind (a.tmps[·]?) = some (bif !g then Value.bool x else undef) := by rfl)
    (hs : Region.noSelect ops = true := by kernel_rfl) (hf : Region.free md ops listed i = true := by kernel_rfl) (hr : (Region.ready md ops listed).contains i = true := by kernel_rfl)
    (hy : g = false -> x = true -> ∀ w, S w -> (execOp a.eval oi).run P w = .ok (.value v) w := by (intro hg hx w hSw; (try dsimp only at hSw); go_simp; try with_reducible rfl))
    (ha : a.put oi.dst (bif !g && x then v else undef) = a' := by ((try simp only [Act.put, sA, s0, sS]); rfl))
    (hQ : ∀ c u a w, Q (.panic c) (a.put oi.dst u) w -> Q (.panic c) a w := by exact fun _ _ _ _ h => h) : wpAnyH P md ops Q S (fuel + 1) listed a w :=
  sG0 (g := !g) i (by cases g <;> cases x <;> rfl) h hS hi hgd hv hs hf hr (fun h => by cases g <;> cases x <;> first | exact hy rfl rfl | cases h) ha hQ
theorem cS0 (i : Nat) (hq : (g && (x == want)) = q) (v : Value) (R : World -> Prop)
    (hc : q = true -> ∀ K : World -> Prop, Shut (∀ w', S w' -> R w' -> K w') -> Oper.wp P oi a w (fun a' w' => a' = a.put oi.dst v /\ K w') Q)
    (h : ∀ w', R w' -> S w' -> wpAnyH P md ops Q S fuel (listed.setIfInBounds i true) (a.put oi.dst (bif q then v else undef)) w')
    (h0 : R w) (hS : S w) (hi : nth ops.toList i = some oi) (hgd : oi.guard = some (j, want)) (hv : ((ops[j]?).bind (·.dst)).bind (a.tmps[·]?) = some (bif g then Value.bool x else undef))
    (hs : Region.noSelect ops = true) (hf : Region.free md ops listed i = true) (hr : Region.ready md ops listed = [i])
    (hQ : ∀ c u a w, Q (.panic c) (a.put oi.dst u) w -> Q (.panic c) a w) : wpAnyH P md ops Q S (fuel + 1) listed a w := by
  have hw := ziW (o := oi) hgd hv
  rw [hq] at hw
  cases q with
  | true => exact zqh hi hr hw fun K hK => Oper.wp_mono (fun a1 w1 ⟨e, h1⟩ => by rw [e]; exact h1) (hc rfl (fun w' => K (a.put oi.dst v) w') fun w' hs' hr' => hK.out _ _ hs' fun _ => h w' hr' hs')
  | false => exact zop hi hs hf (by rw [hr]; simp) (fun c a w => hQ c _ a w) hw hS (h w h0 hS)
theorem cF (i : Nat) (v : Value) (R : World -> Prop) (hc : x = false -> ∀ K : World -> Prop, Shut (∀ w', S w' -> R w' -> K w') -> Oper.wp P oi a w (fun a' w' => a' = a.put oi.dst v /\ K w') Q)
    (h : ∀ w', R w' -> S w' -> wpAnyH P md ops Q S fuel (listed.setIfInBounds i true) (a.put oi.dst (bif !x then v else undef)) w')
    (h0 : R w) (hS : S w := by assumption) (hi : nth ops.toList i = some oi := by rfl) (hgd : oi.guard = some (j, false) := by rfl) (hv : ((ops[j]?).bind (·.dst)).bind (a.tmps[·]?) = some (Value.bool x) := by rfl)
    (hs : Region.noSelect ops = true := by kernel_rfl) (hf : Region.free md ops listed i = true := by kernel_rfl) (hr : Region.ready md ops listed = [i] := by kernel_rfl)
    (hQ : ∀ c u a w, Q (.panic c) (a.put oi.dst u) w -> Q (.panic c) a w := by exact fun _ _ _ _ h => h) : wpAnyH P md ops Q S (fuel + 1) listed a w :=
  cS0 (g := true) i (by cases x <;> rfl) v R (fun h => hc (by simpa using h)) h h0 hS hi hgd hv hs hf hr hQ
theorem cT (i : Nat) (v : Value) (R : World -> Prop) (hc : x = true -> ∀ K : World -> Prop, Shut (∀ w', S w' -> R w' -> K w') -> Oper.wp P oi a w (fun a' w' => a' = a.put oi.dst v /\ K w') Q)
    (h : ∀ w', R w' -> S w' -> wpAnyH P md ops Q S fuel (listed.setIfInBounds i true) (a.put oi.dst (bif x then v else undef)) w')
    (h0 : R w) (hS : S w := by assumption) (hi : nth ops.toList i = some oi := by rfl) (hgd : oi.guard = some (j, true) := by rfl) (hv : ((ops[j]?).bind (·.dst)).bind (a.tmps[·]?) = some (Value.bool x) := by rfl)
    (hs : Region.noSelect ops = true := by kernel_rfl) (hf : Region.free md ops listed i = true := by kernel_rfl) (hr : Region.ready md ops listed = [i] := by kernel_rfl)
    (hQ : ∀ c u a w, Q (.panic c) (a.put oi.dst u) w -> Q (.panic c) a w := by exact fun _ _ _ _ h => h) : wpAnyH P md ops Q S (fuel + 1) listed a w :=
  cS0 (g := true) i (by cases x <;> rfl) v R hc h h0 hS hi hgd hv hs hf hr hQ
theorem cFT (i : Nat) (v : Value) (R : World -> Prop) (hc : g = false -> x = true -> ∀ K : World -> Prop, Shut (∀ w', S w' -> R w' -> K w') -> Oper.wp P oi a w (fun a' w' => a' = a.put oi.dst v /\ K w') Q)
    (h : ∀ w', R w' -> S w' -> wpAnyH P md ops Q S fuel (listed.setIfInBounds i true) (a.put oi.dst (bif !g && x then v else undef)) w')
    (h0 : R w) (hS : S w := by assumption) (hi : nth ops.toList i = some oi := by rfl) (hgd : oi.guard = some (j, true) := by rfl) (hv : ((ops[j]?).bind (·.dst)).bind (a.tmps[·]?) = some (bif !g then Value.bool x else undef) := by rfl)
    (hs : Region.noSelect ops = true := by kernel_rfl) (hf : Region.free md ops listed i = true := by kernel_rfl) (hr : Region.ready md ops listed = [i] := by kernel_rfl)
    (hQ : ∀ c u a w, Q (.panic c) (a.put oi.dst u) w -> Q (.panic c) a w := by exact fun _ _ _ _ h => h) : wpAnyH P md ops Q S (fuel + 1) listed a w :=
  cS0 (g := !g) i (by cases g <;> cases x <;> rfl) v R (fun h => by cases g <;> cases x <;> first | exact hc rfl rfl | cases h) h h0 hS hi hgd hv hs hf hr hQ
end
end Go.Proofs.YtfpeplbmfbepcaaGreat

namespace Go.Proofs.YtfpeplbmfbepcaaGreat
open Go.RowKit
theorem jX {w w' : World} {base : Nat} {e : TypeId} {size : Nat} {v : Value} {n : Nat} {xs : List Value} (h : w.ownsRow base e size v n xs) (hb : ∀ g, v.ownBlock = some g -> w'.heap[g]? = w.heap[g]?) : w'.ownsRow base e size v n xs := by
  obtain ⟨h0, h1 | ⟨g, cap, cur, rfl, h2, h3, h4⟩⟩ := h
  · exact ⟨h0, Or.inl h1⟩
  · exact ⟨h0, Or.inr ⟨g, cap, cur, rfl, h2, (hb g rfl).trans h3, h4⟩⟩
theorem yA {w w' : World} {base : Nat} {e : TypeId} {size : Nat} {v : Value} {n : Nat} {xs : List Value} (h : w.ownsRow base e size v n xs) (hb : Below w.heap.size w w') : w'.ownsRow base e size v n xs :=
  jX h fun g hg => hb.block g (h.lt g hg).2
theorem jo {w : World} {base base' : Nat} {e : TypeId} {size : Nat} {v : Value} {n : Nat} {xs : List Value} (h : w.ownsRow base e size v n xs) (hb : base' <= base) : w.ownsRow base' e size v n xs := by
  obtain ⟨h0, h1 | ⟨g, cap, cur, rfl, h2, h3, h4⟩⟩ := h
  · exact ⟨h0, Or.inl h1⟩
  · exact ⟨h0, Or.inr ⟨g, cap, cur, rfl, Nat.le_trans hb h2, h3, h4⟩⟩
theorem zbI (w : World) (x : Value) (t : TypeId) : ∀ j u, [x][j]? = some u -> (w.alloc (.cells #[x] t)).cell? ((⟨w.heap.size, 0, none⟩ : Addr).add j) = some u := by
  intro j u hj
  rcases j with _ | j
  · have e : (⟨w.heap.size, 0, none⟩ : Addr).add 0 = ⟨w.heap.size, 0, none⟩ := rfl
    rw [e, World.cell?_alloc_at (hn := rfl)]
    simpa using hj
  · simp at hj
theorem zan {w w1 : World} {row : Option Nat} {b : Nat} (hg : w.grownBy w1 row) (hb : b < w.heap.size) (h : ∀ g, row = some g -> b ≠ g) : w1.heap[b]? = w.heap[b]? :=
  hg.block b hb (fun e => h b e.symm rfl)
theorem zam {B : Nat} {w0 w w1 : World} {v x : Value} {t : TypeId} (h : Below B w0 w) (hB : B <= w.heap.size) (hg : (w.alloc (.cells #[x] t)).grownBy w1 v.ownBlock) (hr : ∀ k, v.ownBlock = some k -> B <= k) : Below B w0 w1 :=
  (h.alloc hB _).grown hg (by simp; omega) hr
theorem Tryz.zfe : (Tryz.prog.info? 3).map (fun i => (i.zero, i.size, i.bytes)) = some (some (.int .i64 0), 1, 8) := by kernel_rfl
theorem yE {w : World} {lo : Nat} {e : TypeId} {v : Value} {n : Nat} {xs : List Value} (h : w.ownsRow lo e 1 v n xs) : ∃ a cap, v = .slice a n cap := by
  obtain ⟨_, ⟨rfl, h0⟩ | ⟨b, cap, cur, rfl, _⟩⟩ := h
  · exact ⟨none, 0, by rw [h0]⟩
  · exact ⟨_, cap, rfl⟩
end Go.Proofs.YtfpeplbmfbepcaaGreat

namespace Go.Proofs.YtfpeplbmfbepcaaGreat
open Go.RowKit
theorem zoT (w : World) (o o' : Obj) : { (w.alloc o) with heap := (w.alloc o).heap.setIfInBounds w.heap.size o' } = w.alloc o' := by
  show ({ w with heap := (w.heap.push o).setIfInBounds w.heap.size o' } : World) = { w with heap := w.heap.push o' }
  congr 1
  apply Array.ext_getElem?
  intro i
  simp only [Array.getElem?_setIfInBounds, Array.getElem?_push, Array.size_push]
  by_cases h : w.heap.size = i
  · subst h; simp
  · rw [if_neg h, if_neg (fun e => h e.symm), if_neg (fun e => h e.symm)]
theorem alloc_at (w : World) (o : Obj) : (w.alloc o).heap[w.heap.size]? = some o := by
  show (w.heap.push o)[w.heap.size]? = some o
  simp
theorem zaO {P : Program} {mty kt et : TypeId} {d : TypeDesc} (hm : P.underlying mty = some (.map kt et)) (hd : P.underlying kt = some d) (key val : Value) (hk : MapKept.IsKey d key)
    (es : Array MapEntry) (clock : Nat) (hf : Instr.findNow d key es.toList 0 = some none) (w : World) :
    (Instr.mapUpdate mty (.map (some w.heap.size)) key val).run P (w.alloc (.map es clock)) = .ok () (w.alloc (.map (es.push ⟨key, val, clock⟩) (clock + 1))) := by
  have hb := alloc_at w (.map es clock)
  have hc := MapKept.run_checkKey (P := P) (w := w.alloc (.map es clock)) hd hk false 9999
  simp [Instr.mapUpdate, run_underlying hm, MapKept.run_getObj_map hb, hc, MapKept.run_findKey hd hf, MapKept.run_setObj_map _ hb, Result.andThen, <- zoT w (.map es clock) (.map (es.push ⟨key, val, clock⟩) (clock + 1))]
theorem qz {P : Program} {mty kt et : TypeId} {d : TypeDesc} (hm : P.underlying mty = some (.map kt et)) (hd : P.underlying kt = some d) (key val : Value) (hk : MapKept.IsKey d key)
    (es : Array MapEntry) (clock i : Nat) (hf : Instr.findNow d key es.toList 0 = some (some (i, val))) (w : World) (r : Nat) (hb : w.heap[r]? = some (.map es clock)) :
    (Instr.lookup mty (.map (some r)) key true).run P w = .ok (.tuple #[val, .bool true]) w := by
  have hc := MapKept.run_checkKey (P := P) (w := w) hd hk es.isEmpty 9999
  simp [Instr.lookup, run_underlying hm, MapKept.run_getObj_map hb, hc, MapKept.run_findKey hd hf, Result.andThen]
theorem zbR {P : Program} {mty kt et : TypeId} {d : TypeDesc} (hm : P.underlying mty = some (.map kt et)) (hd : P.underlying kt = some d) (key z : Value) (hk : MapKept.IsKey d key)
    (es : Array MapEntry) (clock : Nat) (hf : Instr.findNow d key es.toList 0 = some none) (w : World) (hz : (zeroValue et).run P w = .ok z w) (r : Nat) (hb : w.heap[r]? = some (.map es clock)) :
    (Instr.lookup mty (.map (some r)) key true).run P w = .ok (.tuple #[z, .bool false]) w := by
  have hc := MapKept.run_checkKey (P := P) (w := w) hd hk es.isEmpty 9999
  simp [Instr.lookup, run_underlying hm, MapKept.run_getObj_map hb, hc, MapKept.run_findKey hd hf, hz, Result.andThen]
end Go.Proofs.YtfpeplbmfbepcaaGreat

namespace Go.Proofs.YtfpeplbmfbepcaaGreat
open Go.RowKit
theorem zi {n i : Nat} (h : i < n) : n - (intOf (Value.int IntKind.i64 ((i : Int) + 1))).toNat < n - (intOf (Value.int IntKind.i64 (i : Int))).toNat := by
  show n - ((i + 1 : Nat) : Int).toNat < n - ((i : Nat) : Int).toNat
  rw [Int.toNat_natCast, Int.toNat_natCast]
  omega
theorem z8 (n : Int) (h : -9223372036854775808 <= n /\ n <= 9223372036854775807) : wrap64 n = n := by unfold wrap64; omega
theorem wrap_one {i : Nat} (h : i < 9000000000000000000) : wrap64 ((i : Int) + 1) = ((i + 1 : Nat) : Int) := by
  rw [z8 _ ⟨by omega, by omega⟩]; omega
theorem qK {n i : Nat} (h : i < n) (hi : i < 9000000000000000000) : n - (intOf (Value.int IntKind.i64 (wrap64 ((i : Int) + 1)))).toNat < n - (intOf (Value.int IntKind.i64 (i : Int))).toNat := by
  rw [wrap_one hi]
  show n - ((i + 1 : Nat) : Int).toNat < n - ((i : Nat) : Int).toNat
  rw [Int.toNat_natCast, Int.toNat_natCast]
  omega
end Go.Proofs.YtfpeplbmfbepcaaGreat

namespace Go.Proofs.YtfpeplbmfbepcaaGreat
open Go.RowKit
def qA (s : ByteArray) : Int := if Gate.jZ s = true then Gate.zfj s else -1
theorem zkz (k : Nat) (h : k <= 7) : (10 : Int) ^ k <= 10000000 := by
  have : k = 0 \/ k = 1 \/ k = 2 \/ k = 3 \/ k = 4 \/ k = 5 \/ k = 6 \/ k = 7 := by omega
  rcases this with h | h | h | h | h | h | h | h <;> subst h <;> decide
set_option maxHeartbeats 800000 in
theorem zjI (s : ByteArray) (w : World) (h1 : 1 <= s.size) (h7 : s.size <= 7) (hz : s.size <= 1 \/ ¬ (s[0].toNat : Int) = 48) :
    Calls Tryz.prog 174 #[.string s] w fun e w' => e = .returned (.int .i64 (qA s)) /\ w' = w := by
  have HF : Hid (Gate.jZ s = Gate.zaE s) := Gate.zkE s h1 h7 hz
  rcases (show (s.size <= 1) \/ (1 < s.size /\ ¬ (s[0].toNat : Int) = 48) by rcases hz with h | h <;> omega) with hone | ⟨hmore, hz0⟩
  all_goals
    clear hz
    try have hz1 : ((s[0].toNat : Int) == 48) = false := by simpa using hz0
    try clear hz0
    go_enter Tryz.func174, Tryz.ntmps174
    go_wp2_with (go_at_call 59; refine (zci _ _ _ _ (by omega) (by omega)).mono ?_; rintro e w' ⟨rfl, rfl⟩)
    go_loop [3, 4] (fun n i => ∃ k : Nat, k <= s.size /\ i = .int .i64 k /\ (s.data.toList.take k).all Gate.digit = true /\ n = .int .i64 (Gate.dec (s.data.toList.take k))) (fun _ i => s.size - (intOf i).toNat)
    case atStart => exact ⟨0, Nat.zero_le _, rfl, rfl, rfl⟩
    case round =>
      obtain ⟨k, hk, rfl, hall, rfl⟩ := hrel
      have hlen : (s.data.toList.take k).length <= k := List.length_take_le _ _
      obtain ⟨hd0, hd1⟩ := Gate.zeu _ hall k hlen
      by_cases hlt : k < s.size
      · have hp := zkz k (by omega)
        have hd2 : Gate.dec (s.data.toList.take k) < 10000000 := by omega
        clear hp hd1 hlen
        have HS : Hid ((s.data.toList.take (k + 1)).all Gate.digit = (true && Gate.digit s[k])) := by rw [Gate.zbP _ s k hlt, hall]; rfl
        have HD : Hid (Gate.dec (s.data.toList.take (k + 1)) = Gate.dec (s.data.toList.take k) * 10 + ((s[k].toNat : Int) - 48)) := by rw [Gate.zgd s k hlt]; exact Gate.zmA _ _
        have HN : Hid (Gate.digit s[k] = false -> Gate.zaE s = false) := fun h => Gate.zdu Gate.digit s k hlt h
        clear hall
        by_cases h48 : (s[k].toNat : Int) < 48
        · have HC : Hid (Gate.digit s[k] = false) := by simp [Gate.digit, Hid]; omega
          go_wp2
          go_ret
          exact ⟨zl (by unfold qA; rw [HF.out, HN.out HC.out]; rfl), rfl⟩
        · by_cases h57 : 57 < (s[k].toNat : Int)
          · have HC : Hid (Gate.digit s[k] = false) := by simp [Gate.digit, Hid]; omega
            go_wp2
            go_ret
            exact ⟨zl (by unfold qA; rw [HF.out, HN.out HC.out]; rfl), rfl⟩
          · have HC : Hid (Gate.digit s[k] = true) := by simp [Gate.digit, Hid]; omega
            go_wp2
            go_round
            case rel => exact ⟨k + 1, by omega, by go_num, by rw [HS.out, HC.out]; rfl, by rw [HD.out]; go_num⟩
            case measure => simp [intOf]; omega
      · have HA : Hid (Gate.zaE s = true) := by unfold Gate.zaE Hid; rw [<- Gate.zba s k (by omega)]; exact hall
        have HB : Hid (Gate.dec (s.data.toList.take k) = Gate.zfj s) := by rw [Gate.zba s k (by omega)]; rfl
        clear hall hd0 hd1 hlen
        go_wp2
        go_ret
        exact ⟨zl (by unfold qA; rw [HF.out, HA.out, HB.out]; rfl), rfl⟩
set_option maxHeartbeats 400000 in
theorem zdA (s : ByteArray) (w : World) (hs : s.size <= maxLen) :
    Calls Tryz.prog 174 #[.string s] w fun e w' => e = .returned (.int .i64 (qA s)) /\ w' = w := by
  unfold maxLen at hs
  by_cases h17 : 1 <= s.size /\ s.size <= 7
  · obtain ⟨h1, h7⟩ := h17
    by_cases hz : 1 < s.size /\ (s[0].toNat : Int) = 48
    · obtain ⟨hm, hz0⟩ := hz
      have HF : Hid (qA s = -1) := by unfold qA Hid; rw [Gate.zeF s hm hz0]; rfl
      have hz1 : ((s[0].toNat : Int) == 48) = true := by simpa using hz0
      clear hz0
      go_enter Tryz.func174, Tryz.ntmps174
      go_wp2_with (go_at_call 59; refine (zci _ _ _ _ (by omega) (by omega)).mono ?_; rintro e w' ⟨rfl, rfl⟩)
      go_ret
      exact ⟨zl HF.out.symm, rfl⟩
    · exact zjI s w h1 h7 (by omega)
  · have HF : Hid (qA s = -1) := by unfold qA Hid; rw [Gate.zdk s h17]; rfl
    go_enter Tryz.func174, Tryz.ntmps174
    go_wp2_with (go_at_call 59; refine (zet _ _ _ _ (by omega)).mono ?_; rintro e w' ⟨rfl, rfl⟩)
    go_ret
    exact ⟨zl HF.out.symm, rfl⟩
end Go.Proofs.YtfpeplbmfbepcaaGreat

namespace Go.Proofs.YtfpeplbmfbepcaaGreat
open Go.RowKit
theorem zlc {w : World} {lo : Nat} {a : Option Addr} {n cap : Nat} {row : List ByteArray} (h : w.ownsRow lo 9 1 (.slice a n cap) row.length (row.map Value.string)) (hl : row.length <= maxLen) (hs : ∀ s ∈ row, s.size <= maxLen) : zA w a row := by
  refine ⟨hl, hs, fun hne => ?_⟩
  obtain ⟨_, ⟨h0, h1⟩ | ⟨g, cp, cur, h0, h1⟩⟩ := id h
  · exact absurd (List.length_eq_zero_iff.1 h1) hne
  · cases h0
    refine ⟨g, 0, rfl, (h.lt g rfl).2, fun i hi => ?_⟩
    rw [Nat.zero_add, h.cellAt i (by omega)]
    simp [hi]
end Go.Proofs.YtfpeplbmfbepcaaGreat

namespace Go.Proofs.YtfpeplbmfbepcaaGreat
open Go.RowKit
theorem zi9 {P : Program} {id : Nat} {ops : Array Oper} {b : Bool} {Q : Exit -> Act -> World -> Prop} {a : Act} {w : World} (R : Act -> Act -> World -> Prop) (h1 : (Code.region id ops b).wp P (fun e a' w' => e = .normal /\ R a a' w') a w) (h2 : ∀ a' w', R a a' w' -> Q .normal a' w') : (Code.region id ops b).wp P Q a w :=
  Code.wp_mono (fun e a' w' ⟨he, hr⟩ => by subst he; exact h2 a' w' hr) h1
end Go.Proofs.YtfpeplbmfbepcaaGreat

namespace Go.Proofs.YtfpeplbmfbepcaaGreat
open Go.ChangeShapes Go.WideShapes Go.ChangeAt Go.RowKit
section
variable {H : Type} {enc : TypeId × Value -> H} {P : Program} {w : World} {base : Nat} {spare : Nat -> Bool} {held : Bool}
theorem zfc {a : Addr} {v : Value} (h : w.cell? a = some v) : a = ⟨a.block, a.off, none⟩ /\ a.block < w.heap.size := by
  obtain ⟨b, o, s⟩ := a
  unfold World.cell? at h
  cases hb : w.heap[b]? with
  | none => simp [hb] at h
  | some x =>
    have hlt := (Array.getElem?_eq_some_iff.1 hb).1
    cases s with
    | none => exact ⟨rfl, hlt⟩
    | some k => cases x <;> simp [hb] at h
theorem zgz {t e : TypeId} {fuel : Nat} {cs : List Value} {x : DataW H × List MemPlace} (ht : P.underlying t = some (.slice e)) (he : P.underlying e = some .string) (hc : P.cellsOf e = 1)
    (h : DataW.trod enc P w base spare held fuel t cs = some x) : ∃ a cap ws, cs = [.slice a ws.length cap] /\ zA w a ws := by
  rcases open_strings ht he hc h with ⟨rfl, _⟩ | ⟨a, len, cap, ss, rfl, _, hl, hm, hz, _, hcell, hws⟩
  · exact ⟨none, 0, [], rfl, ⟨by simp [maxLen], by simp, fun h => absurd rfl h⟩⟩
  · have hle : len <= ss.length := by rw [hz]; split <;> omega
    have hlen : (ss.take len).length = len := by rw [List.length_take]; omega
    refine ⟨some a, cap, ss.take len, by rw [hlen], ⟨by rw [hlen]; omega, fun s hs => hws s (List.mem_of_mem_take hs), fun hne => ?_⟩⟩
    have hpos : 0 < len := by
      rcases Nat.eq_zero_or_pos len with h0 | h0
      · rw [h0] at hne; simp at hne
      · exact h0
    have h0 := hcell 0 (by omega)
    obtain ⟨ha, hb⟩ := zfc h0
    simp only [Addr.add, if_true] at ha hb
    refine ⟨a.block, a.off, by rw [<- ha], hb, fun i hi => ?_⟩
    have hi' : i < len := by omega
    have h1 := hcell i (by omega)
    have e1 : a.add i = ⟨a.block, a.off + i, none⟩ := by
      unfold Addr.add; split
      · rename_i h; subst h; simpa using ha
      · rfl
    rw [e1] at h1
    rw [h1, List.getElem_take, List.getD_eq_getElem?_getD, List.getElem?_eq_getElem (by omega)]
    rfl
theorem zh8 {t : TypeId} {fs : Array Field} {fuel : Nat} {cs : List Value} {x : DataW H × List MemPlace} (ht : P.underlying t = some (.struct fs)) (h : DataW.trod enc P w base spare held fuel t cs = some x)
    (i : Nat) (f : Field) (hf : fs[i]? = some f) : ∃ n y, DataW.trod enc P w base spare held n f.type ((cs.drop f.offset).take (P.cellsOf f.type)) = some y := by
  obtain ⟨xs, n, _, _, _, hxl, hall⟩ := DataW.trod_struct ht h
  have hi : i < fs.size := (Array.getElem?_eq_some_iff.1 hf).1
  exact ⟨n, xs[i]'(by omega), by rw [hall i f hf, List.getElem?_eq_getElem (by omega)]⟩
theorem jL {t : TypeId} {fs : Array Field} {fuel : Nat} {cs : List Value} {x : DataW H × List MemPlace} (ht : P.underlying t = some (.struct fs)) (h : DataW.trod enc P w base spare held fuel t cs = some x)
    (i tf off : Nat) (c : Value) (hf : (fs[i]?).map (fun f => (f.type, f.offset)) = some (tf, off)) (hone : P.cellsOf tf = 1) (hc : cs[off]? = some c) : ∃ n y, DataW.trod enc P w base spare held n tf [c] = some y := by
  obtain ⟨f, hf1, hf2⟩ := Option.map_eq_some_iff.1 hf
  simp only [Prod.mk.injEq] at hf2
  obtain ⟨rfl, rfl⟩ := hf2
  obtain ⟨n, y, hy⟩ := zh8 ht h i f hf1
  rw [hone] at hy
  obtain ⟨hlt, hget⟩ := List.getElem?_eq_some_iff.1 hc
  rw [List.drop_eq_getElem_cons hlt, hget] at hy
  exact ⟨n, y, hy⟩
end
theorem zbG {α : Type} {P : Nat -> α -> Prop} : ∀ n : Nat, (∀ i, i < n -> ∃ x, P i x) -> ∃ l : List α, l.length = n /\ ∀ i (h : i < l.length), P i l[i]
  | 0, _ => ⟨[], rfl, fun i h => absurd h (by simp)⟩
  | n + 1, h => by
    obtain ⟨l, hl, hP⟩ := zbG n (fun i hi => h i (by omega))
    obtain ⟨x, hx⟩ := h n (by omega)
    refine ⟨l ++ [x], by simp [hl], fun i hi => ?_⟩
    rcases Nat.lt_or_ge i n with h1 | h1
    · rw [List.getElem_append_left (by omega)]; exact hP i (by omega)
    · have e : i = n := by simp at hi; omega
      subst e
      rw [List.getElem_append_right (by omega)]
      simpa [hl] using hx
theorem add_add (b o m j : Nat) : ((⟨b, o, none⟩ : Addr).add m).add j = ⟨b, o + m + j, none⟩ := by
  unfold Addr.add
  by_cases h1 : m = 0 <;> by_cases h2 : j = 0 <;> simp [h1, h2]
section
variable {H : Type} {enc : TypeId × Value -> H} {P : Program} {w : World} {base : Nat} {spare : Nat -> Bool} {held : Bool}
theorem zax {t e : TypeId} {sz fuel : Nat} {cs : List Value} {x : DataW H × List MemPlace} (ht : P.underlying t = some (.slice e)) (hsz : P.cellsOf e = sz) (hpos : 0 < sz)
    (h : DataW.trod enc P w base spare held fuel t cs = some x) :
    ∃ a len cap, cs = [.slice a len cap] /\ len <= maxLen /\ (0 < len -> ∃ b off, a = some ⟨b, off, none⟩ /\ b < w.heap.size /\
      ∀ i, i < len -> ∃ es n y, es.length = sz /\ (∀ j, j < sz -> w.cell? ⟨b, off + i * sz + j, none⟩ = es[j]?) /\ DataW.trod enc P w base spare held n e es = some y) := by
  rcases DataW.trod_slice ht h with ⟨rfl, _⟩ | ⟨a, len, cap, elems, rest, n, _, rfl, _, hb, hl, hm, hlen, hel, _, _⟩
  · exact ⟨none, 0, 0, rfl, by simp [maxLen], fun h => absurd h (by omega)⟩
  · refine ⟨some a, len, cap, rfl, by omega, fun hp => ?_⟩
    have each : ∀ i, i < len -> ∃ es y, w.cells? base (a.add (i * sz)) sz = some es /\ DataW.trod enc P w base spare held n e es = some y := by
      intro i hi
      have h1 := hel i hi
      rw [hsz, List.getElem?_eq_getElem (by omega), Option.bind_eq_some_iff] at h1
      obtain ⟨es, h2, h3⟩ := h1
      exact ⟨es, _, h2, h3⟩
    obtain ⟨es0, y0, hc0, _⟩ := each 0 hp
    obtain ⟨_, _, hcell0⟩ := World.cells?_some hc0
    have h00 := hcell0 0 hpos
    have hes0 : ∃ v, w.cell? a = some v := by
      have hl0 := (World.cells?_some hc0).2.1
      refine ⟨es0[0]'(by omega), ?_⟩
      have := h00
      simp only [Nat.zero_mul, Addr.add, if_true] at this
      rw [this, List.getElem?_eq_getElem (by omega)]
    obtain ⟨v0, hv0⟩ := hes0
    obtain ⟨ha, hbl⟩ := zfc hv0
    refine ⟨a.block, a.off, by rw [<- ha], hbl, fun i hi => ?_⟩
    obtain ⟨es, y, hc, hy⟩ := each i hi
    obtain ⟨_, hlen', hcell⟩ := World.cells?_some hc
    refine ⟨es, n, y, hlen', fun j hj => ?_, hy⟩
    have e1 : (a.add (i * sz)).add j = ⟨a.block, a.off + i * sz + j, none⟩ := by
      have := add_add a.block a.off (i * sz) j
      rwa [<- ha] at this
    rw [<- e1]
    exact hcell j hj
end
theorem Tryz.zM : Tryz.prog.cellsOf 9 = 1 := by kernel_rfl
theorem Tryz.jm : Tryz.prog.cellsOf 3 = 1 := by kernel_rfl
theorem Tryz.zf6 : Tryz.prog.cellsOf 4 = 1 := by kernel_rfl
end Go.Proofs.YtfpeplbmfbepcaaGreat
