import Derived.Test.YtfapkhgallmkdaaGreatM04
import Derived.Deep.OwnRows
import Derived.MapKept
import Derived.WalkKit
namespace Go.Proofs.YtfapkhgallmkdaaGreat
structure Rl where
  vs : List Int
  kd : ByteArray
  tm : ByteArray
  px : ByteArray
structure Ac where
  vb : Int
  kd : ByteArray
  tm : ByteArray
  nm : ByteArray
namespace Gate
def jM (v : Int) : Bool := decide (1 <= v) && decide (v <= 5)
def jI (vs : List Int) (i : Nat) : Bool := jM (vs.getD i 0) && (decide (i = 0) || decide (vs.getD (i - 1) 0 < vs.getD i 0))
def qD (vs : List Int) : Bool := decide (0 < vs.length) && up (jI vs) vs.length
def zcR (r : Rl) : Bool := (r.kd.toList.isEmpty || zy r.kd) && (r.tm.toList.isEmpty || zy r.tm)
def jF (r : Rl) : Bool := zcR r && (qD r.vs && (decide (r.px.size <= 16) && jP r.px))
def begins (s p : ByteArray) : Bool := decide (p.size <= s.size) && ((s.extract 0 p.size).toList == p.toList)
def meets (ts : List Tm) (r : Rl) (kd tm nm : ByteArray) : Bool := (r.kd.toList.isEmpty || decide (r.kd = kd)) && ((r.tm.toList.isEmpty || under ts 4 tm r.tm) && begins nm r.px)
def yD (vs : List Int) (v : Int) : Bool := vs.any fun x => decide (x = v)
def yP (ts : List Tm) (r : Rl) (a : Ac) : Bool := yD r.vs a.vb && meets ts r a.kd a.tm a.nm
theorem zeU (vs : List Int) (v : Int) (k : Nat) (h : k < vs.length) : yD (vs.take (k + 1)) v = (yD (vs.take k) v || decide (vs[k] = v)) := by
  unfold yD; rw [List.take_succ_eq_append_getElem h, List.any_append]; simp
theorem zmo (vs : List Int) (v : Int) (k : Nat) (h : k < vs.length) (e : vs[k] = v) : yD vs v = true := by
  unfold yD; rw [List.any_eq_true]; exact ⟨vs[k], List.getElem_mem h, by simpa using e⟩
theorem zlk (vs : List Int) (v : Int) (k : Nat) (h : vs.length <= k) : yD (vs.take k) v = yD vs v := by rw [List.take_of_length_le h]
theorem zio {vs : List Int} (h : qD vs = true) (i : Nat) (hi : i < vs.length) : 1 <= vs[i] /\ vs[i] <= 5 := by
  unfold qD at h
  rw [Bool.and_eq_true] at h
  have h1 := zfa hi h.2
  unfold jI at h1
  rw [getD_at vs i _ hi, Bool.and_eq_true] at h1
  have h2 := h1.1
  simpa [jM] using h2
theorem ziV {vs : List Int} (h : qD vs = true) (v : Int) (hv : yD vs v = true) : 1 <= v /\ v <= 5 := by
  unfold yD at hv
  rw [List.any_eq_true] at hv
  obtain ⟨x, hx, he⟩ := hv
  obtain ⟨i, hi, rfl⟩ := List.mem_iff_getElem.1 hx
  have := zio h i hi
  have e : vs[i] = v := by simpa using he
  rw [e] at this; exact this
def zbz (a b c d e : Bool) : Int := (cond a 2 0) + (cond b 4 0) + (cond c 8 0) + (cond d 16 0) + (cond e 32 0)
def bitsOf (f : Int -> Bool) : Int := zbz (f 1) (f 2) (f 3) (f 4) (f 5)
def orI (x y : Int) : Int := bits BinOp.or IntKind.u8 x y
def zkE (x y : Int) : Int := bits BinOp.and IntKind.u8 x y
def zbB (v : Int) : Int := 2 ^ v.toNat % 256
theorem five (P : Int -> Prop) (h1 : P 1) (h2 : P 2) (h3 : P 3) (h4 : P 4) (h5 : P 5) (v : Int) (hv : 1 <= v /\ v <= 5) : P v := by
  have hc : v = 1 \/ v = 2 \/ v = 3 \/ v = 4 \/ v = 5 := by omega
  rcases hc with rfl | rfl | rfl | rfl | rfl <;> assumption
theorem zmV {f g : Int -> Bool} (h : ∀ v, 1 <= v /\ v <= 5 -> f v = g v) : bitsOf f = bitsOf g := by
  unfold bitsOf; rw [h 1 (by omega), h 2 (by omega), h 3 (by omega), h 4 (by omega), h 5 (by omega)]
theorem zo6 : ∀ a b c d e : Bool, orI (zbz a b c d e) (zbB 1) = zbz (a || true) (b || false) (c || false) (d || false) (e || false) /\ orI (zbz a b c d e) (zbB 2) = zbz (a || false) (b || true) (c || false) (d || false) (e || false) /\
    orI (zbz a b c d e) (zbB 3) = zbz (a || false) (b || false) (c || true) (d || false) (e || false) /\ orI (zbz a b c d e) (zbB 4) = zbz (a || false) (b || false) (c || false) (d || true) (e || false) /\ orI (zbz a b c d e) (zbB 5) = zbz (a || false) (b || false) (c || false) (d || false) (e || true) := by decide +kernel
theorem zoN : ∀ a b c d e : Bool, (zkE (zbz a b c d e) (zbB 1) != 0) = a /\ (zkE (zbz a b c d e) (zbB 2) != 0) = b /\ (zkE (zbz a b c d e) (zbB 3) != 0) = c /\ (zkE (zbz a b c d e) (zbB 4) != 0) = d /\ (zkE (zbz a b c d e) (zbB 5) != 0) = e := by decide +kernel
theorem zoM (f : Int -> Bool) (v : Int) (hv : 1 <= v /\ v <= 5) : orI (bitsOf f) (zbB v) = bitsOf (fun u => f u || decide (v = u)) := by
  obtain ⟨h1, h2, h3, h4, h5⟩ := zo6 (f 1) (f 2) (f 3) (f 4) (f 5)
  exact five (fun v => orI (bitsOf f) (zbB v) = bitsOf (fun u => f u || decide (v = u))) h1 h2 h3 h4 h5 v hv
theorem zow (f : Int -> Bool) (v : Int) (hv : 1 <= v /\ v <= 5) : (zkE (bitsOf f) (zbB v) != 0) = f v := by
  obtain ⟨h1, h2, h3, h4, h5⟩ := zoN (f 1) (f 2) (f 3) (f 4) (f 5)
  exact five (fun v => (zkE (bitsOf f) (zbB v) != 0) = f v) h1 h2 h3 h4 h5 v hv
end Gate
end Go.Proofs.YtfapkhgallmkdaaGreat

namespace Go.Proofs.YtfapkhgallmkdaaGreat
open Go.RowKit
def Tm.cells (m : Tm) : Array Value := #[.string m.nm, .string m.ov]
structure Tm.Small (m : Tm) : Prop where
  nm : m.nm.size <= maxLen
  ov : m.ov.size <= maxLen
structure qF (w : World) (a : Option Addr) (ts : List Tm) : Prop where
  len : ts.length <= maxLen
  small : ∀ i (h : i < ts.length), ts[i].Small
  rows : ts ≠ [] -> ∃ b off, a = some ⟨b, off, none⟩ /\ b < w.heap.size /\ ∀ i (h : i < ts.length), ∀ j, j < 2 -> w.cell? ⟨b, off + i * 2 + j, none⟩ = ts[i].cells[j]?
theorem qF.mono {w w' : World} {a : Option Addr} {ts : List Tm} (h : qF w a ts) (hl : Below w.heap.size w w') : qF w' a ts :=
  ⟨h.len, h.small, fun hne => by
    obtain ⟨b, off, ha, hb, hr⟩ := h.rows hne
    exact ⟨b, off, ha, Nat.lt_of_lt_of_le hb hl.size, fun i hi j hj => (hl.cell (p := ⟨b, off + i * 2 + j, none⟩) hb).trans (hr i hi j hj)⟩⟩
theorem qF.load {w w' : World} {a : Option Addr} {ts : List Tm} (h : qF w a ts) (hl : Below w.heap.size w w') (i : Nat) (hi : i < ts.length) : ∃ b off, a = some ⟨b, off, none⟩ /\ b < w.heap.size /\
    w'.cell? ⟨b, off + i * 2, none⟩ = some (.string ts[i].nm) /\ w'.cell? ⟨b, off + i * 2 + 1, none⟩ = some (.string ts[i].ov) := by
  obtain ⟨b, off, ha, hb, hr⟩ := h.rows (by rintro rfl; simp at hi)
  have hc : ∀ j, j < 2 -> w'.cell? ⟨b, off + i * 2 + j, none⟩ = ts[i].cells[j]? := fun j hj => (hl.cell (p := ⟨b, off + i * 2 + j, none⟩) hb).trans (hr i hi j hj)
  exact ⟨b, off, ha, hb, hc 0 (by omega), hc 1 (by omega)⟩
def Tm.sz (m : Tm) : Nat := m.nm.size + m.ov.size
def zgv (ts : List Tm) : Nat := (ts.map Tm.sz).sum
def zcd (ts : List Tm) : Nat := ts.length + zgv ts
def zo3 (w : World) (b o : Nat) (v0 v1 : Value) : World := (w.setCell ⟨b, o, none⟩ v0).setCell ⟨b, o + 1, none⟩ v1
def set2 (C : Array Value) (o : Nat) (v0 v1 : Value) : Array Value := (C.setIfInBounds o v0).setIfInBounds (o + 1) v1
theorem zmr {w : World} {b o : Nat} {C : Array Value} {t : TypeId} (h : w.heap[b]? = some (.cells C t)) (v0 v1 : Value) : (zo3 w b o v0 v1).heap[b]? = some (.cells (set2 C o v0 v1) t) :=
  zf (zf h v0) v1
theorem zmq {B : Nat} {a w : World} (h : Below B a w) {b : Nat} (hb : B <= b) (o : Nat) (v0 v1 : Value) : Below B a (zo3 w b o v0 v1) :=
  (h.setCell hb v0).setCell hb v1
theorem znv (C : Array Value) (o : Nat) (v0 v1 : Value) : (set2 C o v0 v1).size = C.size := by simp [set2]
theorem zn2 (C : Array Value) (o i : Nat) (v0 v1 : Value) (h : i < o \/ o + 2 <= i) : (set2 C o v0 v1)[i]? = C[i]? := by
  unfold set2
  iterate 2 rw [Array.getElem?_setIfInBounds, if_neg (by omega)]
theorem zoJ (C : Array Value) (o j : Nat) (v0 v1 : Value) (hj : j < 2) (ho : o + 2 <= C.size) : (set2 C o v0 v1)[o + j]? = (#[v0, v1] : Array Value)[j]? := by
  have hc : j = 0 \/ j = 1 := by omega
  unfold set2
  rcases hc with h | h <;> subst h <;> simp [Array.getElem?_setIfInBounds] <;> omega
structure jW (ty : TypeId) (lo : Nat) (w : World) (bo : Nat) (ts : List Tm) (k : Nat) : Prop where
  low : lo <= bo
  rows : ∃ C, w.heap[bo]? = some (.cells C ty) /\ C.size = ts.length * 2 /\ ∀ i (h : i < ts.length), i < k -> ∀ j, j < 2 -> C[i * 2 + j]? = ts[i].cells[j]?
theorem jW.at {ty : TypeId} {lo : Nat} {w : World} {bo : Nat} {ts : List Tm} (h : jW ty lo w bo ts ts.length) (hs : ∀ i (h : i < ts.length), ts[i].Small) (hl : ts.length <= maxLen) : qF w (some ⟨bo, 0, none⟩) ts := by
  obtain ⟨C, hC, hsz, hr⟩ := h.rows
  refine ⟨hl, hs, fun _ => ⟨bo, 0, rfl, (Array.getElem?_eq_some_iff.1 hC).1, fun i hi j hj => ?_⟩⟩
  rw [cell_of_block hC, Nat.zero_add]
  exact hr i hi hi j hj
theorem jW.later {ty : TypeId} {lo : Nat} {w w' : World} {bo : Nat} {ts : List Tm} {k : Nat} (h : jW ty lo w bo ts k) (hb : Below w.heap.size w w') : jW ty lo w' bo ts k := by
  obtain ⟨C, hC, hsz, hr⟩ := h.rows
  exact ⟨h.low, C, (hb.block bo (Array.getElem?_eq_some_iff.1 hC).1).trans hC, hsz, hr⟩
theorem jW.put {ty : TypeId} {lo : Nat} {w : World} {bo : Nat} {ts : List Tm} {k : Nat} (h : jW ty lo w bo ts k) (hk : k < ts.length) :
    jW ty lo (zo3 w bo (k * 2) (.string ts[k].nm) (.string ts[k].ov)) bo ts (k + 1) := by
  obtain ⟨C, hC, hsz, hr⟩ := h.rows
  refine ⟨h.low, _, zmr hC _ _, by rw [znv]; exact hsz, fun i hi hik j hj => ?_⟩
  rcases Nat.lt_or_ge i k with hlt | hge
  · rw [zn2 _ _ _ _ _ (by omega)]
    exact hr i hi hlt j hj
  · have e : i = k := by omega
    subst e
    rw [zoJ _ _ _ _ _ hj (by omega)]
    rfl
def zoc : Array Value := #[.string ByteArray.empty, .string ByteArray.empty]
def zm9 (n : Nat) : Array Value := madeCells zoc (n * 2)
end Go.Proofs.YtfapkhgallmkdaaGreat

namespace Go.Proofs.YtfapkhgallmkdaaGreat
open Go.RowKit
structure yw (w : World) (a : Option Addr) (vs : List Int) : Prop where
  len : vs.length <= maxLen
  cells : vs ≠ [] -> ∃ b off, a = some ⟨b, off, none⟩ /\ b < w.heap.size /\ ∀ i (h : i < vs.length), w.cell? ⟨b, off + i, none⟩ = some (.int .i64 vs[i])
theorem yw.mono {w w' : World} {a : Option Addr} {vs : List Int} (h : yw w a vs) (hb : Below w.heap.size w w') : yw w' a vs :=
  ⟨h.len, fun hne => by
    obtain ⟨b, off, ha, hbs, hc⟩ := h.cells hne
    exact ⟨b, off, ha, Nat.lt_of_lt_of_le hbs hb.size, fun i hi => (hb.cell (p := ⟨b, off + i, none⟩) hbs).trans (hc i hi)⟩⟩
theorem yw.load {w w' : World} {a : Option Addr} {vs : List Int} (h : yw w a vs) (hl : Below w.heap.size w w') (i : Nat) (hi : i < vs.length) : ∃ b off, a = some ⟨b, off, none⟩ /\ b < w.heap.size /\ w'.cell? ⟨b, off + i, none⟩ = some (.int .i64 vs[i]) := by
  obtain ⟨b, off, ha, hb, hc⟩ := h.cells (by rintro rfl; simp at hi)
  exact ⟨b, off, ha, hb, (hl.cell (p := ⟨b, off + i, none⟩) hb).trans (hc i hi)⟩
def zbu (vs : List Int) : Array Value := (vs.map (Value.int .i64)).toArray
def intCells (vs : List Int) (k : Nat) : Array Value := ((vs.take k).map (Value.int .i64) ++ List.replicate (vs.length - k) (Value.int .i64 0)).toArray
theorem zkV (vs : List Int) (k : Nat) (h : k < vs.length) : (intCells vs k)[k]? = some (.int .i64 0) := by
  unfold intCells
  have hl : ((vs.take k).map (Value.int .i64)).length = k := by simp; omega
  rw [List.getElem?_toArray, List.getElem?_append_right (by omega), hl, Nat.sub_self]
  obtain ⟨m, hm⟩ : ∃ m, vs.length - k = m + 1 := ⟨vs.length - k - 1, by omega⟩
  rw [hm, List.replicate_succ]; rfl
theorem zkn (vs : List Int) (k : Nat) (h : k < vs.length) : (intCells vs k).setIfInBounds k (.int .i64 vs[k]) = intCells vs (k + 1) := by
  unfold intCells
  rw [List.setIfInBounds_toArray, List.set_append_right _ _ (by simp; omega)]
  congr 1
  rw [List.take_succ_eq_append_getElem h, List.map_append, List.append_assoc]
  congr 1
  obtain ⟨m, hm⟩ : ∃ m, vs.length - k = m + 1 := ⟨vs.length - k - 1, by omega⟩
  rw [hm, show vs.length - (k + 1) = m by omega]
  have : k - ((vs.take k).map (Value.int .i64)).length = 0 := by simp; omega
  rw [this, List.replicate_succ]
  rfl
theorem zjQ (vs : List Int) (k : Nat) (h : vs.length <= k) : intCells vs k = zbu vs := by
  unfold intCells zbu
  rw [List.take_of_length_le h, show vs.length - k = 0 by omega]; simp
theorem ziX (vs : List Int) : madeCells #[Value.int .i64 0] vs.length = intCells vs 0 := by
  apply Array.toList_inj.1
  rw [toList_madeCells_one]
  simp [intCells]
theorem zd3 {w : World} {bk : Nat} {vs : List Int} {t : TypeId} (h : w.heap[bk]? = some (.cells (zbu vs) t)) (hl : vs.length <= maxLen) : yw w (some ⟨bk, 0, none⟩) vs :=
  ⟨hl, fun _ => ⟨bk, 0, rfl, (Array.getElem?_eq_some_iff.1 h).1, fun i hi => by
    simp [World.cell?, h, zbu, hi]⟩⟩
def Rl.cells (r : Rl) (a : Option Addr) (cap : Nat) : Array Value := #[.slice a r.vs.length cap, .string r.kd, .string r.tm, .string r.px]
def Ac.cells (x : Ac) : Array Value := #[.int .i64 x.vb, .string x.kd, .string x.tm, .string x.nm]
structure Rl.Small (r : Rl) : Prop where
  kd : r.kd.size <= maxLen
  tm : r.tm.size <= maxLen
  px : r.px.size <= maxLen
structure Ac.Small (r : Ac) : Prop where
  kd : r.kd.size <= maxLen
  tm : r.tm.size <= maxLen
  nm : r.nm.size <= maxLen
structure zoL (w : World) (b off : Nat) (r : Rl) (a : Option Addr) (cap : Nat) : Prop where
  small : r.Small
  ints : yw w a r.vs
  cell : ∀ j, j < 4 -> w.cell? ⟨b, off + j, none⟩ = (r.cells a cap)[j]?
structure zbC (w : World) (a : Option Addr) (rs : List Rl) : Prop where
  len : rs.length <= maxLen
  rows : rs ≠ [] -> ∃ b off, a = some ⟨b, off, none⟩ /\ b < w.heap.size /\ ∀ i (h : i < rs.length), ∃ va vcap, zoL w b (off + i * 4) rs[i] va vcap
theorem zoL.mono {w w' : World} {b off : Nat} {r : Rl} {a : Option Addr} {cap : Nat} (h : zoL w b off r a cap) (hb : b < w.heap.size) (hl : Below w.heap.size w w') : zoL w' b off r a cap :=
  ⟨h.small, h.ints.mono hl, fun j hj => (hl.cell (p := ⟨b, off + j, none⟩) hb).trans (h.cell j hj)⟩
theorem zbC.mono {w w' : World} {a : Option Addr} {rs : List Rl} (h : zbC w a rs) (hl : Below w.heap.size w w') : zbC w' a rs :=
  ⟨h.len, fun hne => by
    obtain ⟨b, off, ha, hb, hr⟩ := h.rows hne
    refine ⟨b, off, ha, Nat.lt_of_lt_of_le hb hl.size, fun i hi => ?_⟩
    obtain ⟨va, vcap, hf⟩ := hr i hi
    exact ⟨va, vcap, hf.mono hb hl⟩⟩
theorem zbC.load {w w' : World} {a : Option Addr} {rs : List Rl} (h : zbC w a rs) (hl : Below w.heap.size w w') (i : Nat) (hi : i < rs.length) : ∃ b off va vcap, a = some ⟨b, off, none⟩ /\ b < w.heap.size /\ rs[i].Small /\ yw w' va rs[i].vs /\
    w'.cell? ⟨b, off + i * 4, none⟩ = some (.slice va rs[i].vs.length vcap) /\ w'.cell? ⟨b, off + i * 4 + 1, none⟩ = some (.string rs[i].kd) /\ w'.cell? ⟨b, off + i * 4 + 2, none⟩ = some (.string rs[i].tm) /\ w'.cell? ⟨b, off + i * 4 + 3, none⟩ = some (.string rs[i].px) := by
  obtain ⟨b, off, ha, hb, hr⟩ := h.rows (by rintro rfl; simp at hi)
  obtain ⟨va, vcap, hf0⟩ := hr i hi
  have hf := hf0.mono hb hl
  exact ⟨b, off, va, vcap, ha, hb, hf.small, hf.ints, hf.cell 0 (by omega), hf.cell 1 (by omega), hf.cell 2 (by omega), hf.cell 3 (by omega)⟩
def Rl.sz (r : Rl) : Nat := r.vs.length + r.kd.size + r.tm.size + r.px.size
def Ac.sz (r : Ac) : Nat := r.kd.size + r.tm.size + r.nm.size
def zoR (w : World) (b o : Nat) (v0 v1 v2 v3 : Value) : World := (((w.setCell ⟨b, o, none⟩ v0).setCell ⟨b, o + 1, none⟩ v1).setCell ⟨b, o + 2, none⟩ v2).setCell ⟨b, o + 3, none⟩ v3
def zmy (C : Array Value) (o : Nat) (v0 v1 v2 v3 : Value) : Array Value := (((C.setIfInBounds o v0).setIfInBounds (o + 1) v1).setIfInBounds (o + 2) v2).setIfInBounds (o + 3) v3
theorem zmO {w : World} {b o : Nat} {C : Array Value} {t : TypeId} (h : w.heap[b]? = some (.cells C t)) (v0 v1 v2 v3 : Value) : (zoR w b o v0 v1 v2 v3).heap[b]? = some (.cells (zmy C o v0 v1 v2 v3) t) :=
  zf (zf (zf (zf h v0) v1) v2) v3
theorem zB {w : World} {b o : Nat} {v : Value} {b' : Nat} (h : b' ≠ b) : (w.setCell ⟨b, o, none⟩ v).heap[b']? = w.heap[b']? := by
  simp only [World.setCell, Array.getElem?_modify]
  rw [if_neg (fun e => h (Eq.symm e))]
theorem zht (w : World) (b o : Nat) (v0 v1 v2 v3 : Value) {b' : Nat} (h : b' ≠ b) : (zoR w b o v0 v1 v2 v3).heap[b']? = w.heap[b']? := by
  unfold zoR; rw [zB h, zB h, zB h, zB h]
theorem znO (C : Array Value) (o : Nat) (v0 v1 v2 v3 : Value) : (zmy C o v0 v1 v2 v3).size = C.size := by simp [zmy]
theorem zok (C : Array Value) (o i : Nat) (v0 v1 v2 v3 : Value) (h : i < o \/ o + 4 <= i) : (zmy C o v0 v1 v2 v3)[i]? = C[i]? := by
  unfold zmy
  iterate 4 rw [Array.getElem?_setIfInBounds, if_neg (by omega)]
theorem zoG (C : Array Value) (o j : Nat) (v0 v1 v2 v3 : Value) (hj : j < 4) (ho : o + 4 <= C.size) : (zmy C o v0 v1 v2 v3)[o + j]? = (#[v0, v1, v2, v3] : Array Value)[j]? := by
  have hc : j = 0 \/ j = 1 \/ j = 2 \/ j = 3 := by omega
  unfold zmy
  rcases hc with h | h | h | h <;> subst h <;> simp [Array.getElem?_setIfInBounds] <;> omega
structure zdI (ty ti : TypeId) (lo : Nat) (w : World) (bo : Nat) (rs : List Rl) (k : Nat) : Prop where
  low : lo <= bo
  rows : ∃ C, w.heap[bo]? = some (.cells C ty) /\ C.size = rs.length * 4 /\
    ∀ i (h : i < rs.length), i < k -> ∃ bk, lo <= bk /\ bk ≠ bo /\ w.heap[bk]? = some (.cells (zbu rs[i].vs) ti) /\ ∀ j, j < 4 -> C[i * 4 + j]? = (rs[i].cells (some ⟨bk, 0, none⟩) rs[i].vs.length)[j]?
structure zkH (rs : List Rl) : Prop where
  small : ∀ i (h : i < rs.length), rs[i].Small /\ rs[i].vs.length <= maxLen
theorem zbC.smalls {w : World} {a : Option Addr} {rs : List Rl} (h : zbC w a rs) : zkH rs :=
  ⟨fun i hi => by
    obtain ⟨_, _, _, _, _, _, h1, h2, _⟩ := h.load (Below.refl _ _) i hi
    exact ⟨h1, h2.len⟩⟩
theorem zdI.at {ty ti : TypeId} {lo : Nat} {w : World} {bo : Nat} {rs : List Rl} (h : zdI ty ti lo w bo rs rs.length) (hs : zkH rs) (hl : rs.length <= maxLen) : zbC w (some ⟨bo, 0, none⟩) rs := by
  obtain ⟨C, hC, hsz, hr⟩ := h.rows
  refine ⟨hl, fun _ => ⟨bo, 0, rfl, (Array.getElem?_eq_some_iff.1 hC).1, fun i hi => ?_⟩⟩
  obtain ⟨bk, _, _, hk, hc⟩ := hr i hi hi
  obtain ⟨s1, s2⟩ := hs.small i hi
  refine ⟨some ⟨bk, 0, none⟩, rs[i].vs.length, s1, zd3 hk s2, fun j hj => ?_⟩
  rw [cell_of_block hC, Nat.zero_add]
  exact hc j hj
theorem zdI.later {ty ti : TypeId} {lo : Nat} {w w' : World} {bo : Nat} {rs : List Rl} {k : Nat} (h : zdI ty ti lo w bo rs k) (hb : Below w.heap.size w w') : zdI ty ti lo w' bo rs k := by
  obtain ⟨C, hC, hsz, hr⟩ := h.rows
  refine ⟨h.low, C, (hb.block bo (Array.getElem?_eq_some_iff.1 hC).1).trans hC, hsz, fun i hi hk => ?_⟩
  obtain ⟨bk, h1, h2, h3, h4⟩ := hr i hi hk
  exact ⟨bk, h1, h2, (hb.block bk (Array.getElem?_eq_some_iff.1 h3).1).trans h3, h4⟩
theorem zdI.put {ty ti : TypeId} {lo : Nat} {w : World} {bo : Nat} {rs : List Rl} {k : Nat} (h : zdI ty ti lo w bo rs k) (hk : k < rs.length) (bk : Nat) (h1 : lo <= bk) (h2 : bk ≠ bo) (h3 : w.heap[bk]? = some (.cells (zbu rs[k].vs) ti)) :
    zdI ty ti lo (zoR w bo (k * 4) (.slice (some ⟨bk, 0, none⟩) rs[k].vs.length rs[k].vs.length) (.string rs[k].kd) (.string rs[k].tm) (.string rs[k].px)) bo rs (k + 1) := by
  obtain ⟨C, hC, hsz, hr⟩ := h.rows
  refine ⟨h.low, _, zmO hC _ _ _ _, by rw [znO]; exact hsz, fun i hi hik => ?_⟩
  rcases Nat.lt_or_ge i k with hlt | hge
  · obtain ⟨bi, g1, g2, g3, g4⟩ := hr i hi hlt
    refine ⟨bi, g1, g2, by rw [zht _ _ _ _ _ _ _ g2]; exact g3, fun j hj => ?_⟩
    rw [zok _ _ _ _ _ _ _ (by omega)]
    exact g4 j hj
  · have e : i = k := by omega
    subst e
    refine ⟨bk, h1, h2, by rw [zht _ _ _ _ _ _ _ h2]; exact h3, fun j hj => ?_⟩
    rw [zoG _ _ _ _ _ _ _ hj (by omega)]
    rfl
theorem zbq (w : World) (o1 : Obj) (X : Array Value) (t : TypeId) : ∀ o, ((w.alloc o1).alloc (.cells X t)).cell? ⟨w.heap.size + 1, o, none⟩ = X[o]? := by
  intro o
  have h := zG (w.alloc o1) X t o
  have e : (w.alloc o1).heap.size = w.heap.size + 1 := by simp
  rw [e] at h; exact h
end Go.Proofs.YtfapkhgallmkdaaGreat

namespace Go.Proofs.YtfapkhgallmkdaaGreat
open Go.RowKit
set_option maxHeartbeats 400000 in
theorem zR (s : ByteArray) (w : World) (hs : s.size <= maxLen) :
    Calls Tryz.prog 86 #[.string s] w fun e w' => e = .returned (.bool (Gate.zy s)) /\ w' = w := by
  unfold maxLen at hs
  by_cases hb : 1 <= s.size /\ s.size <= 16
  · obtain ⟨hb1, hb2⟩ := hb
    go_enter Tryz.func86, Tryz.ntmps86
    go_wp2_with (go_at_call 47; refine (zb2 _ _ _ _ (by omega) (by omega)).mono ?_; rintro e w' ⟨rfl, rfl⟩)
    go_loop [3] (fun i => ∃ k : Nat, k <= s.size /\ i = .int .i64 k /\ (s.data.toList.take k).all Gate.yu = true) (fun i => s.size - (intOf i).toNat)
    case atStart => exact ⟨0, Nat.zero_le _, rfl, rfl⟩
    case round =>
      obtain ⟨k, hk, rfl, hall⟩ := hrel
      by_cases hlt : k < s.size
      · have HS : Hid ((s.data.toList.take (k + 1)).all Gate.yu = (true && Gate.yu s[k])) := by rw [Gate.zbr _ s k hlt, hall]; rfl
        have HN := fun h => Gate.zc2 Gate.yu s k hlt h
        have HN' : Hid (Gate.yu s[k] = false -> Gate.jP s = false) := HN
        clear HN hall
        by_cases hc : Gate.yu s[k] = true
        · go_wp2_with (go_at_call 125; refine (zcT _ _).mono ?_; rintro e w' ⟨rfl, rfl⟩)
          go_round
          case rel => exact ⟨k + 1, by omega, by go_num, by rw [HS.out, hc]; rfl⟩
          case measure => simp [intOf]; omega
        · have hc' : Gate.yu s[k] = false := by simpa using hc
          clear hc
          go_wp2_with (go_at_call 125; refine (zcT _ _).mono ?_; rintro e w' ⟨rfl, rfl⟩)
          go_ret
          refine ⟨ze ?_, rfl⟩
          simp [Gate.zy, HN'.out hc']
      · have HA : Hid (Gate.jP s = true) := by unfold Gate.jP Hid; rw [<- Gate.zaS s k (by omega)]; exact hall
        clear hall
        go_wp2
        go_ret
        refine ⟨ze ?_, rfl⟩
        simp only [Gate.zy, HA.out]; simp; omega
  · go_enter Tryz.func86, Tryz.ntmps86
    go_wp2_with (go_at_call 47; refine (zdZ _ _ _ _ (by omega)).mono ?_; rintro e w' ⟨rfl, rfl⟩)
    go_ret
    refine ⟨ze ?_, rfl⟩
    simp [Gate.zy]; omega
set_option maxHeartbeats 400000 in
theorem zbw (s : ByteArray) (w : World) (hs : s.size <= maxLen) :
    Calls Tryz.prog 181 #[.string s] w fun e w' => e = .returned (.bool (Gate.jP s)) /\ w' = w := by
  unfold maxLen at hs
  go_enter Tryz.func181, Tryz.ntmps181
  go_wp2
  go_loop [7] (fun i => ∃ k : Nat, k <= s.size /\ i = .int .i64 k /\ (s.data.toList.take k).all Gate.yu = true) (fun i => s.size - (intOf i).toNat)
  case atStart => exact ⟨0, Nat.zero_le _, rfl, rfl⟩
  case round =>
    obtain ⟨k, hk, rfl, hall⟩ := hrel
    by_cases hlt : k < s.size
    · have HS : Hid ((s.data.toList.take (k + 1)).all Gate.yu = (true && Gate.yu s[k])) := by rw [Gate.zbr _ s k hlt, hall]; rfl
      have HN : Hid (Gate.yu s[k] = false -> Gate.jP s = false) := fun h => Gate.zc2 Gate.yu s k hlt h
      clear hall
      by_cases hd : 48 <= (s[k].toNat : Int) /\ (s[k].toNat : Int) <= 57
      · have HC : Hid (Gate.yu s[k] = true) := by simp [Gate.yu, Hid]; omega
        obtain ⟨hd1, hd2⟩ := hd
        go_wp2_with (go_at_call 202; refine (zgb _ _ hd1 hd2).mono ?_; rintro e w' ⟨rfl, rfl⟩)
        go_round
        case rel => exact ⟨k + 1, by omega, by go_num, by rw [HS.out, HC.out]; rfl⟩
        case measure => simp [intOf]; omega
      · have HD : Hid (¬ (48 <= (s[k].toNat : Int) /\ (s[k].toNat : Int) <= 57)) := hd
        clear hd
        by_cases h45 : (s[k].toNat : Int) = 45
        · have HC : Hid (Gate.yu s[k] = true) := by simp [Gate.yu, Hid]; omega
          have h45' : ((s[k].toNat : Int) != 45) = false := by simp [h45]
          clear h45
          go_wp2_with (go_at_call 202; refine (zb7 _ _ HD.out).mono ?_; rintro e w' ⟨rfl, rfl⟩)
          go_round
          case rel => exact ⟨k + 1, by omega, by go_num, by rw [HS.out, HC.out]; rfl⟩
          case measure => simp [intOf]; omega
        · have h45' : ((s[k].toNat : Int) != 45) = true := by simp [h45]
          by_cases h97 : (s[k].toNat : Int) < 97
          · have HC : Hid (Gate.yu s[k] = false) := by have := HD.out; simp [Gate.yu, Hid]; omega
            clear h45
            go_wp2_with (go_at_call 202; refine (zb7 _ _ HD.out).mono ?_; rintro e w' ⟨rfl, rfl⟩)
            go_ret
            exact ⟨ze (HN.out HC.out).symm, rfl⟩
          · by_cases h122 : 122 < (s[k].toNat : Int)
            · have HC : Hid (Gate.yu s[k] = false) := by have := HD.out; simp [Gate.yu, Hid]; omega
              clear h45
              go_wp2_with (go_at_call 202; refine (zb7 _ _ HD.out).mono ?_; rintro e w' ⟨rfl, rfl⟩)
              go_ret
              exact ⟨ze (HN.out HC.out).symm, rfl⟩
            · have HC : Hid (Gate.yu s[k] = true) := by simp [Gate.yu, Hid]; omega
              clear h45
              go_wp2_with (go_at_call 202; refine (zb7 _ _ HD.out).mono ?_; rintro e w' ⟨rfl, rfl⟩)
              go_round
              case rel => exact ⟨k + 1, by omega, by go_num, by rw [HS.out, HC.out]; rfl⟩
              case measure => simp [intOf]; omega
    · have HA : Hid (Gate.jP s = true) := by unfold Gate.jP Hid; rw [<- Gate.zaS s k (by omega)]; exact hall
      clear hall
      go_wp2
      go_ret
      exact ⟨ze HA.out.symm, rfl⟩
set_option maxHeartbeats 400000 in
theorem zN (s : ByteArray) (w : World) (hs : s.size <= maxLen) :
    Calls Tryz.prog 134 #[.string s] w fun e w' => e = .returned (.bool (Gate.zy s)) /\ w' = w := by
  have hs' := hs
  unfold maxLen at hs'
  by_cases h0 : s.size = 0
  · rw [Gate.zck s h0]
    go_enter Tryz.func134, Tryz.ntmps134
    go_wp2
    go_ret
    exact ⟨rfl, rfl⟩
  · have hne : s.toList.isEmpty = false := by rw [Gate.zq]; simp [h0]
    by_cases h16 : s.size <= 16
    · have HF : Hid (Gate.zy s = Gate.jP s) := by
        simp only [Hid, Gate.zy]; rw [decide_eq_true (show 1 <= s.size by omega), decide_eq_true h16]; simp
      go_enter Tryz.func134, Tryz.ntmps134
      go_wp2_with (go_at_call 181; refine (zbw _ _ hs).mono ?_; rintro e w' ⟨rfl, rfl⟩)
      go_ret
      exact ⟨ze HF.out.symm, rfl⟩
    · go_enter Tryz.func134, Tryz.ntmps134
      go_wp2_with (go_at_call 181; refine (zbw _ _ hs).mono ?_; rintro e w' ⟨rfl, rfl⟩)
      go_ret
      refine ⟨ze ?_, rfl⟩
      simp only [Gate.zy]; rw [decide_eq_false h16]; simp
end Go.Proofs.YtfapkhgallmkdaaGreat

namespace Go.Proofs.YtfapkhgallmkdaaGreat
open Go.RowKit
structure jg (w : World) (o : Ob) (a a' : Option Addr) : Prop where
  small : o.Small
  vals : zC w a o.vs
  holds : zC w a' o.hs
theorem jg.mono {w w' : World} {o : Ob} {a a' : Option Addr} (h : jg w o a a') (hb : Below w.heap.size w w') : jg w' o a a' :=
  ⟨h.small, h.vals.mono hb, h.holds.mono hb⟩
end Go.Proofs.YtfapkhgallmkdaaGreat

namespace Go.Proofs.YtfapkhgallmkdaaGreat
open Go.RowKit
set_option maxHeartbeats 1000000 in
theorem qC (a : Option Addr) (cap : Nat) (ss : List Shp) (v : ByteArray) (w : World) (hw : yH w a ss) :
    Calls Tryz.prog 131 #[.slice a ss.length cap, .string v] w fun e w' => ∃ fa fcap, e = .returned (.tuple #[.agg #[.string (Gate.shapeOf ss v).kd, .slice fa (Gate.shapeOf ss v).fs.length fcap], .bool (Gate.zF ss v)]) /\
      yc w fa (Gate.shapeOf ss v).fs /\ Below w.heap.size w w' := by
  have hl := hw.len
  unfold maxLen at hl
  go_enter Tryz.func131, Tryz.ntmps131
  go_wp2
  go_loopw [10] (fun i wr => ∃ k : Nat, k <= ss.length /\ i = .int .i64 k /\ Gate.zF (ss.take k) v = false /\ Below (w.heap.size + 1) (w.alloc (.cells #[.string ByteArray.empty, .slice none 0 0] 115)) wr) (fun i _ => ss.length - (intOf i).toNat)
  case atStart => exact ⟨0, Nat.zero_le _, rfl, rfl, Below.refl _ _⟩
  case round =>
    obtain ⟨k, hk, rfl, hno, hbl⟩ := hrel
    have hsz : w.heap.size < wr.heap.size := by have := hbl.size; simp at this; omega
    have hB0 : Below w.heap.size w wr := ((Below.refl _ _).alloc (Nat.le_refl _) _).trans (hbl.mono (by omega))
    have hX0 : wr.cell? ⟨w.heap.size, 0, none⟩ = some (.string ByteArray.empty) := (hbl.cell (p := ⟨w.heap.size, 0, none⟩) (by simp)).trans (by rw [World.cell?_alloc_at _ _ _ _ rfl]; rfl)
    have hX1 : wr.cell? ⟨w.heap.size, 1, none⟩ = some (.slice none 0 0) := (hbl.cell (p := ⟨w.heap.size, 1, none⟩) (by simp)).trans (by rw [World.cell?_alloc_at _ _ _ _ rfl]; rfl)
    have hF0 : wr.frozen? ⟨w.heap.size, 0, none⟩ = false := (hbl.frozen (p := ⟨w.heap.size, 0, none⟩) (by simp)).trans (by rw [World.frozen?_alloc_at _ _ _ _ rfl])
    have hF1 : wr.frozen? ⟨w.heap.size, 1, none⟩ = false := (hbl.frozen (p := ⟨w.heap.size, 1, none⟩) (by simp)).trans (by rw [World.frozen?_alloc_at _ _ _ _ rfl])
    by_cases hlt : k < ss.length
    · obtain ⟨b, off, rfl, hb, hr⟩ := hw.rows (by rintro rfl; simp at hlt)
      obtain ⟨fa, fcap, hs⟩ := hr k hlt
      have hck := (hB0.cell (p := ⟨b, off + k * 2, none⟩) hb).trans hs.kind
      have hcl := (hB0.cell (p := ⟨b, off + k * 2 + 1, none⟩) hb).trans hs.list
      have hfl := hs.flds
      clear hw hr hs
      by_cases he : ss[k].kd = v
      · have hbe : (ss[k].kd.toList == v.toList) = true := by rw [Gate.beq_toList]; simpa using he
        have HA : Hid (Gate.zF ss v = true) := Gate.zeo ss v k hlt he
        have HB : Hid (Gate.shapeOf ss v = ss[k]) := Gate.zcI ss v k hlt hno he
        clear he hno
        go_wp2
        refine bodyPost_ret (v := .tuple #[.agg #[.string ss[k].kd, .slice fa ss[k].fs.length fcap], .bool true]) (by simp [results, Tryz.results131, go_sem, hX0, hX1, hsz]) rfl ⟨fa, fcap, by rw [HA.out, HB.out], by rw [HB.out]; exact hfl, ?_⟩
        exact ((hB0.setCell (Nat.le_refl _) _).setCell (Nat.le_refl _) _).alloc (by simp [World.setCell]; omega) _
      · have hbe : (ss[k].kd.toList == v.toList) = false := by rw [Gate.beq_toList]; simpa using he
        have HS : Hid (Gate.zF (ss.take (k + 1)) v = false) := by unfold Hid; rw [Gate.zcQ ss v k hlt, hno, decide_eq_false he]; rfl
        clear he hno hX0 hX1 hF0 hF1
        go_wp2
        go_roundw
        case rel => exact ⟨k + 1, by omega, by go_num, HS.out, hbl.alloc (by omega) _⟩
        case measure => simp [intOf]; omega
    · have HA : Hid (Gate.zF ss v = false) := by rw [<- Gate.zdL ss v k (by omega)]; exact hno
      have HB : Hid (Gate.shapeOf ss v = Gate.za2) := Gate.zey ss v HA.out
      clear hno hw
      go_wp2
      refine bodyPost_ret (v := .tuple #[.agg #[.string ByteArray.empty, .slice none 0 0], .bool false]) (by simp [results, Tryz.results131, go_sem, hX0, hX1]; rfl) rfl ⟨none, 0, by rw [HA.out, HB.out]; rfl, by rw [HB.out]; exact ⟨by simp [Gate.za2, maxLen], fun h => absurd rfl h⟩, ?_⟩
      exact (hB0.setCell (Nat.le_refl _) _).setCell (Nat.le_refl _) _
end Go.Proofs.YtfapkhgallmkdaaGreat

namespace Go.Proofs.YtfapkhgallmkdaaGreat
open Go.RowKit
set_option maxHeartbeats 400000 in
theorem zbL (a : Option Addr) (cap : Nat) (ws : List ByteArray) (v : ByteArray) (w : World) (hw : zC w a ws) :
    Calls Tryz.prog 164 #[.slice a ws.length cap, .string v] w fun e w' => e = .returned (.bool (Gate.has ws v)) /\ w' = w := by
  have hl := hw.len
  unfold maxLen at hl
  by_cases hne : ws = []
  · subst hne
    go_enter Tryz.func164, Tryz.ntmps164
    go_wp2
    go_loop [5] (fun i => i = .int .i64 0) (fun i => 0)
    case atStart => rfl
    case round =>
      subst hrel
      go_wp2
      go_ret
      exact ⟨rfl, rfl⟩
  · obtain ⟨b, off, rfl, hb, hc⟩ := hw.cells hne
    clear hw
    have HL : Hid (0 < ws.length) := List.length_pos_iff.2 hne
    clear hne
    go_enter Tryz.func164, Tryz.ntmps164
    go_wp2
    go_loop [5] (fun i => ∃ k : Nat, k <= ws.length /\ i = .int .i64 k /\ Gate.has (ws.take k) v = false) (fun i => ws.length - (intOf i).toNat)
    case atStart => exact ⟨0, Nat.zero_le _, rfl, rfl⟩
    case round =>
      obtain ⟨k, hk, rfl, hall⟩ := hrel
      by_cases hlt : k < ws.length
      · have hck := hc k hlt
        clear hc
        have HS : Hid (Gate.has (ws.take (k + 1)) v = (false || decide (ws[k] = v))) := by rw [Gate.zkB ws v k hlt, hall]; rfl
        have HN : Hid (ws[k] = v -> Gate.has ws v = true) := fun h => Gate.zn8 ws v k hlt h
        clear hall
        by_cases he : ws[k] = v
        · have hbe : (ws[k].toList == v.toList) = true := by rw [Gate.beq_toList]; simpa using he
          have HE : Hid (ws[k] = v) := he
          clear he
          go_wp2
          go_ret
          exact ⟨ze (HN.out HE.out).symm, rfl⟩
        · have hbe : (ws[k].toList == v.toList) = false := by rw [Gate.beq_toList]; simpa using he
          have HE : Hid (¬ ws[k] = v) := he
          clear he
          go_wp2
          go_round
          case rel => exact ⟨k + 1, by omega, by go_num, by rw [HS.out, decide_eq_false HE.out]; rfl⟩
          case measure => simp [intOf]; omega
      · have HA : Hid (Gate.has ws v = false) := by rw [<- Gate.zm4 ws v k (by omega)]; exact hall
        clear hall hc
        go_wp2
        go_ret
        exact ⟨ze HA.out.symm, rfl⟩
end Go.Proofs.YtfapkhgallmkdaaGreat

namespace Go.Proofs.YtfapkhgallmkdaaGreat
open Go.RowKit
set_option maxHeartbeats 1000000 in
theorem ziq (a : Option Addr) (cap : Nat) (ws : List ByteArray) (w : World) (hw : zC w a ws) :
    Calls Tryz.prog 216 #[.slice a ws.length cap] w fun e w' => e = .returned (.bool (Gate.asc ws)) /\ w' = w := by
  have hl := hw.len
  unfold maxLen at hl
  go_enter Tryz.func216, Tryz.ntmps216
  go_wp2
  go_loop [7] (fun i => ∃ k : Nat, k <= ws.length /\ i = .int .i64 k /\ Gate.up (Gate.zcG ws) k = true) (fun i => ws.length - (intOf i).toNat)
  case atStart => exact ⟨0, Nat.zero_le _, rfl, rfl⟩
  case round =>
    obtain ⟨k, hk, rfl, hup⟩ := hrel
    by_cases hlt : k < ws.length
    · obtain ⟨b, off, rfl, hb, hc⟩ := hw.cells (by rintro rfl; simp at hlt)
      have hsm := hw.small _ (List.getElem_mem hlt)
      clear hw
      have hck := hc k hlt
      by_cases hn : Gate.zy ws[k] = true
      · by_cases hk0 : k = 0
        · have HF : Hid (Gate.up (Gate.zcG ws) (k + 1) = true) := by subst hk0; unfold Hid; rw [Gate.jA, Gate.zgl hlt hn]; rfl
          have hg : decide (0 < k) = false := by simp; omega
          have HN : Hid (Gate.zy ws[k] = true) := hn
          clear hn hc hup hk0
          go_wp2_with (go_at_call 134; refine (zk HN.out (zN _ _ hsm)).mono ?_; rintro e w' ⟨rfl, rfl⟩)
          go_round
          case rel => exact ⟨k + 1, by omega, by go_num, HF.out⟩
          case measure => simp [intOf]; omega
        · obtain ⟨m, rfl⟩ : ∃ m, k = m + 1 := ⟨k - 1, by omega⟩
          have hcm := hc m (by omega)
          have HU : Hid (Gate.up (Gate.zcG ws) (m + 1 + 1) = Gate.less ws[m] ws[m + 1]) := by unfold Hid; rw [Gate.jA, hup, Gate.zc3 hlt hn]; rfl
          have HNN : Hid (Gate.less ws[m] ws[m + 1] = false -> Gate.asc ws = false) := fun h => Gate.zaV hlt (by rw [Gate.zc3 hlt hn]; exact h)
          have HN : Hid (Gate.zy ws[m + 1] = true) := hn
          clear hn hc hup hk0
          by_cases hls : Gate.less ws[m] ws[m + 1] = true
          · have hls' : Op.bytesLess ws[m].toList ws[m + 1].toList = true := hls
            have HLS : Hid (Gate.less ws[m] ws[m + 1] = true) := hls
            clear hls
            go_wp2_with (go_at_call 134; refine (zk HN.out (zN _ _ hsm)).mono ?_; rintro e w' ⟨rfl, rfl⟩)
            go_round
            case rel => exact ⟨m + 1 + 1, by omega, by go_num, by rw [HU.out, HLS.out]⟩
            case measure => simp [intOf]; omega
          · have hls' : Op.bytesLess ws[m].toList ws[m + 1].toList = false := by simpa [Gate.less] using hls
            have HLS : Hid (Gate.less ws[m] ws[m + 1] = false) := hls'
            clear hls
            go_wp2_with (go_at_call 134; refine (zk HN.out (zN _ _ hsm)).mono ?_; rintro e w' ⟨rfl, rfl⟩)
            go_ret
            exact ⟨ze (HNN.out HLS.out).symm, rfl⟩
      · have hn' : Gate.zy ws[k] = false := by simpa using hn
        have HF : Hid (Gate.asc ws = false) := Gate.zaV hlt (Gate.zhU hlt hn')
        have HN : Hid (Gate.zy ws[k] = false) := hn'
        clear hn hn' hc hup
        go_wp2_with (go_at_call 134; refine (zk HN.out (zN _ _ hsm)).mono ?_; rintro e w' ⟨rfl, rfl⟩)
        go_ret
        exact ⟨ze HF.out.symm, rfl⟩
    · have HF : Hid (Gate.asc ws = true) := by
        have e : k = ws.length := by omega
        subst e; exact hup
      clear hw hup
      go_wp2
      go_ret
      exact ⟨ze HF.out.symm, rfl⟩
end Go.Proofs.YtfapkhgallmkdaaGreat

namespace Go.Proofs.YtfapkhgallmkdaaGreat
namespace Gate
theorem y7 {α : Type} (p : α -> Bool) (l : List α) (k : Nat) (h : k < l.length) : (l.take (k + 1)).all p = ((l.take k).all p && p l[k]) := by
  rw [List.take_succ_eq_append_getElem h, List.all_append]; simp
theorem jT {α : Type} (p : α -> Bool) (l : List α) (k : Nat) (h : k < l.length) (hp : p l[k] = false) : l.all p = false := by
  rw [List.all_eq_false]; exact ⟨l[k], List.getElem_mem h, by simp [hp]⟩
end Gate
end Go.Proofs.YtfapkhgallmkdaaGreat

namespace Go.Proofs.YtfapkhgallmkdaaGreat
open Go.RowKit
set_option maxHeartbeats 400000 in
theorem znK (a : Option Addr) (cap : Nat) (ws : List ByteArray) (v : ByteArray) (w : World) (hw : zC w a ws) :
    Calls Tryz.prog 247 #[.slice a ws.length cap, .string v] w fun e w' => ∃ r : Int, e = .returned (.int .i64 r) /\ decide (0 <= r) = Gate.has ws v /\ w' = w := by
  have hl := hw.len
  unfold maxLen at hl
  by_cases hne : ws = []
  · subst hne
    go_enter Tryz.func247, Tryz.ntmps247
    go_wp2
    go_loop [8] (fun i => i = .int .i64 0) (fun i => 0)
    case atStart => rfl
    case round =>
      subst hrel
      go_wp2
      go_ret
      exact ⟨_, rfl, rfl, rfl⟩
  · obtain ⟨b, off, rfl, hb, hc⟩ := hw.cells hne
    clear hw
    have HL : Hid (0 < ws.length) := List.length_pos_iff.2 hne
    clear hne
    go_enter Tryz.func247, Tryz.ntmps247
    go_wp2
    go_loop [8] (fun i => ∃ k : Nat, k <= ws.length /\ i = .int .i64 k /\ Gate.has (ws.take k) v = false) (fun i => ws.length - (intOf i).toNat)
    case atStart => exact ⟨0, Nat.zero_le _, rfl, rfl⟩
    case round =>
      obtain ⟨k, hk, rfl, hall⟩ := hrel
      by_cases hlt : k < ws.length
      · have hck := hc k hlt
        clear hc
        have HS : Hid (Gate.has (ws.take (k + 1)) v = (false || decide (ws[k] = v))) := by rw [Gate.zkB ws v k hlt, hall]; rfl
        have HN : Hid (ws[k] = v -> Gate.has ws v = true) := fun h => Gate.zn8 ws v k hlt h
        clear hall
        by_cases he : ws[k] = v
        · have hbe : (v.toList == ws[k].toList) = true := by rw [Gate.beq_toList]; simpa using he.symm
          have HE : Hid (ws[k] = v) := he
          clear he
          go_wp2
          go_ret
          exact ⟨_, rfl, by rw [HN.out HE.out]; simp, rfl⟩
        · have hbe : (v.toList == ws[k].toList) = false := by rw [Gate.beq_toList]; simpa using fun h => he h.symm
          have HE : Hid (¬ ws[k] = v) := he
          clear he
          go_wp2
          go_round
          case rel => exact ⟨k + 1, by omega, by go_num, by rw [HS.out, decide_eq_false HE.out]; rfl⟩
          case measure => simp [intOf]; omega
      · have HA : Hid (Gate.has ws v = false) := by rw [<- Gate.zm4 ws v k (by omega)]; exact hall
        clear hall hc
        go_wp2
        go_ret
        exact ⟨_, rfl, by rw [HA.out]; rfl, rfl⟩
set_option maxHeartbeats 400000 in
theorem zkw (a : Option Addr) (cap : Nat) (ws : List ByteArray) (v : ByteArray) (w : World) (hw : zC w a ws) :
    Calls Tryz.prog 246 #[.slice a ws.length cap, .string v] w fun e w' => e = .returned (.bool (Gate.has ws v)) /\ w' = w := by
  go_enter Tryz.func246, Tryz.ntmps246
  go_wp2_with (go_at_call 247; refine (znK _ _ _ _ _ hw).mono ?_; rintro e w' ⟨r, rfl, hr, rfl⟩)
  go_ret
  exact ⟨rfl, rfl⟩
set_option maxHeartbeats 400000 in
theorem zeQ (nm : ByteArray) (kd ls ms : Int) (a : Option Addr) (cap : Nat) (ws : List ByteArray) (to : ByteArray) (rl : Int) (mu fx : Bool) (df wg : ByteArray) (v : ByteArray) (w : World) (hw : zC w a ws) :
    Calls Tryz.prog 244 #[.agg #[.string nm, .int .i64 kd, .int .i64 ls, .int .i64 ms, .slice a ws.length cap, .string to, .int .i64 rl, .bool mu, .bool fx, .string df, .string wg], .string v] w
      fun e w' => e = .returned (.bool (Gate.has ws v)) /\ Below w.heap.size w w' := by
  go_enter Tryz.func244, Tryz.ntmps244
  go_wp2_with (go_at_call 246; refine (zkw _ _ _ _ _ (hw.mono (by exact (Below.refl _ _).alloc (Nat.le_refl _) _))).mono ?_; rintro e w' ⟨rfl, rfl⟩)
  go_ret
  exact ⟨rfl, (Below.refl _ _).alloc (Nat.le_refl _) _⟩
set_option maxHeartbeats 400000 in
theorem zeW (nm : ByteArray) (kd ls ms : Int) (sl : Value) (to : ByteArray) (rl : Int) (mu fx : Bool) (df wg : ByteArray) (v : ByteArray) (w : World) (hs : v.size <= maxLen) :
    Calls Tryz.prog 252 #[.agg #[.string nm, .int .i64 kd, .int .i64 ls, .int .i64 ms, sl, .string to, .int .i64 rl, .bool mu, .bool fx, .string df, .string wg], .string v] w
      fun e w' => e = .returned (.bool (Gate.zy v)) /\ Below w.heap.size w w' := by
  go_enter Tryz.func252, Tryz.ntmps252
  go_wp2_with (go_at_call 134; refine (zN _ _ hs).mono ?_; rintro e w' ⟨rfl, rfl⟩)
  go_ret
  exact ⟨rfl, (Below.refl _ _).alloc (Nat.le_refl _) _⟩
set_option maxHeartbeats 400000 in
theorem zeF (nm : ByteArray) (kd ls ms : Int) (sl : Value) (to : ByteArray) (rl : Int) (mu fx : Bool) (df wg : ByteArray) (s : ByteArray) (w : World) (hs : s.size <= maxLen) :
    Calls Tryz.prog 249 #[.agg #[.string nm, .int .i64 kd, .int .i64 ls, .int .i64 ms, sl, .string to, .int .i64 rl, .bool mu, .bool fx, .string df, .string wg], .string s] w
      fun e w' => e = .returned (.bool (Gate.zaT ls ms s)) /\ Below w.heap.size w w' := by
  unfold maxLen at hs
  by_cases h1 : (s.size : Int) < ls
  · go_enter Tryz.func249, Tryz.ntmps249
    go_wp2
    go_ret
    refine ⟨ze ?_, (Below.refl _ _).alloc (Nat.le_refl _) _⟩
    unfold Gate.zaT; rw [decide_eq_false (by omega)]; rfl
  · by_cases h2 : ms < (s.size : Int)
    · go_enter Tryz.func249, Tryz.ntmps249
      go_wp2
      go_ret
      refine ⟨ze ?_, (Below.refl _ _).alloc (Nat.le_refl _) _⟩
      unfold Gate.zaT; rw [decide_eq_false (show ¬ (s.size : Int) <= ms by omega)]; simp
    · have HF : Hid (Gate.zaT ls ms s = Gate.zaU s) := by
        unfold Gate.zaT
        rw [decide_eq_true (show ls <= s.size by omega), decide_eq_true (show (s.size : Int) <= ms by omega)]; simp [Hid]
      go_enter Tryz.func249, Tryz.ntmps249
      go_wp2
      go_loop [20] (fun i => ∃ k : Nat, k <= s.size /\ i = .int .i64 k /\ (s.data.toList.take k).all Gate.yL = true) (fun i => s.size - (intOf i).toNat)
      case atStart => exact ⟨0, Nat.zero_le _, rfl, rfl⟩
      case round =>
        obtain ⟨k, hk, rfl, hall⟩ := hrel
        by_cases hlt : k < s.size
        · have HS : Hid ((s.data.toList.take (k + 1)).all Gate.yL = (true && Gate.yL s[k])) := by rw [Gate.zbr _ s k hlt, hall]; rfl
          have HN : Hid (Gate.yL s[k] = false -> Gate.zaU s = false) := fun h => Gate.zc2 Gate.yL s k hlt h
          clear hall
          by_cases h33 : (s[k].toNat : Int) < 33
          · have HC : Hid (Gate.yL s[k] = false) := by simp [Gate.yL, Hid]; omega
            go_wp2
            go_ret
            exact ⟨ze (HF.out.trans (HN.out HC.out)).symm, (Below.refl _ _).alloc (Nat.le_refl _) _⟩
          · by_cases h126 : 126 < (s[k].toNat : Int)
            · have HC : Hid (Gate.yL s[k] = false) := by simp [Gate.yL, Hid]; omega
              go_wp2
              go_ret
              exact ⟨ze (HF.out.trans (HN.out HC.out)).symm, (Below.refl _ _).alloc (Nat.le_refl _) _⟩
            · have HC : Hid (Gate.yL s[k] = true) := by simp [Gate.yL, Hid]; omega
              go_wp2
              go_round
              case rel => exact ⟨k + 1, by omega, by go_num, by rw [HS.out, HC.out]; rfl⟩
              case measure => simp [intOf]; omega
        · have HA : Hid (Gate.zaU s = true) := by unfold Gate.zaU Hid; rw [<- Gate.zaS s k (by omega)]; exact hall
          clear hall
          go_wp2
          go_ret
          exact ⟨ze (HF.out.trans HA.out).symm, (Below.refl _ _).alloc (Nat.le_refl _) _⟩
end Go.Proofs.YtfapkhgallmkdaaGreat

namespace Go.Proofs.YtfapkhgallmkdaaGreat
open Go.RowKit
set_option maxHeartbeats 1000000 in
theorem zd9 (b off cap : Nat) (ws : List ByteArray) (w : World) (hw : zC w (some ⟨b, off, none⟩) ws) (hl : ws.length <= 1048576) :
    Calls Tryz.prog 220 #[.slice (some ⟨b, off, none⟩) ws.length cap] w
      fun e w' => ∃ v, e = .returned v /\ w'.ownsRow w.heap.size 9 1 v ws.length (ws.map Value.string) /\ Below w.heap.size w w' := by
  obtain ⟨i0, hi, hz0, hz1, hz2⟩ := info_parts Tryz.zcX
  have hnews : ∀ j u, (ws.map Value.string)[j]? = some u -> w.cell? ((⟨b, off, none⟩ : Addr).add j) = some u := by
    intro j u hj
    have hlt : j < ws.length := by
      have := (List.getElem?_eq_some_iff.1 hj).1; simpa using this
    obtain ⟨b', off', he, hb, hc⟩ := hw.cells (by rintro rfl; simp at hlt)
    simp only [Option.some.injEq, Addr.mk.injEq] at he
    obtain ⟨rfl, rfl, _⟩ := he
    have h1 := hc j hlt
    have e1 : (⟨b, off, none⟩ : Addr).add j = ⟨b, off + j, none⟩ := by
      unfold Addr.add; split
      · rename_i h; subst h; simp
      · rfl
    rw [e1, h1]
    rw [List.getElem?_map, List.getElem?_eq_getElem hlt] at hj
    simpa using hj
  have hone : ∀ u ∈ ws.map Value.string, u.oneCell' = true := by
    intro u hu; simp only [List.mem_map] at hu; obtain ⟨s, _, rfl⟩ := hu; rfl
  go_enter Tryz.func220, Tryz.ntmps220
  go_wp2_with (at_builtin; refine wpList_append_own _ rfl _ _ 91 rfl w.heap.size 9 i0 (.string ByteArray.empty) 1 16 Tryz.underlying91 hi hz0 hz1 hz2 rfl (by decide) (.slice none 0 0) 0 [] rfl ⟨rfl, .inl ⟨rfl, rfl⟩⟩ ⟨b, off, none⟩ ws.length cap (ws.map Value.string) rfl (by simp) hnews hone (by unfold maxLen; omega) (by omega) (Nat.le_refl _) ?_; intro v' w1 hown hgr _)
  simp only [Nat.zero_add, List.nil_append] at hown
  go_ret
  exact ⟨v', rfl, hown, (Below.refl _ _).grown hgr (Nat.le_refl _) (by simp [Value.ownBlock])⟩
end Go.Proofs.YtfapkhgallmkdaaGreat

namespace Go.Proofs.YtfapkhgallmkdaaGreat
open Go.RowKit
set_option maxHeartbeats 1000000 in
theorem zj1 (w0 : World) (a : Option Addr) (cap : Nat) (ss : List Shp) (v : ByteArray) (w : World) (hw : yH w0 a ss) (hbb : Below w0.heap.size w0 w) :
    Calls Tryz.prog 131 #[.slice a ss.length cap, .string v] w fun e w' => ∃ fa fcap, e = .returned (.tuple #[.agg #[.string (Gate.shapeOf ss v).kd, .slice fa (Gate.shapeOf ss v).fs.length fcap], .bool (Gate.zF ss v)]) /\
      yc w0 fa (Gate.shapeOf ss v).fs /\ Below w.heap.size w w' := by
  have hl := hw.len
  unfold maxLen at hl
  go_enter Tryz.func131, Tryz.ntmps131
  go_wp2
  go_loopw [10] (fun i wr => ∃ k : Nat, k <= ss.length /\ i = .int .i64 k /\ Gate.zF (ss.take k) v = false /\ Below (w.heap.size + 1) (w.alloc (.cells #[.string ByteArray.empty, .slice none 0 0] 115)) wr) (fun i _ => ss.length - (intOf i).toNat)
  case atStart => exact ⟨0, Nat.zero_le _, rfl, rfl, Below.refl _ _⟩
  case round =>
    obtain ⟨k, hk, rfl, hno, hbl⟩ := hrel
    have hsz : w.heap.size < wr.heap.size := by have := hbl.size; simp at this; omega
    have hB0 : Below w.heap.size w wr := ((Below.refl _ _).alloc (Nat.le_refl _) _).trans (hbl.mono (by omega))
    have hX0 : wr.cell? ⟨w.heap.size, 0, none⟩ = some (.string ByteArray.empty) := (hbl.cell (p := ⟨w.heap.size, 0, none⟩) (by simp)).trans (by rw [World.cell?_alloc_at _ _ _ _ rfl]; rfl)
    have hX1 : wr.cell? ⟨w.heap.size, 1, none⟩ = some (.slice none 0 0) := (hbl.cell (p := ⟨w.heap.size, 1, none⟩) (by simp)).trans (by rw [World.cell?_alloc_at _ _ _ _ rfl]; rfl)
    have hF0 : wr.frozen? ⟨w.heap.size, 0, none⟩ = false := (hbl.frozen (p := ⟨w.heap.size, 0, none⟩) (by simp)).trans (by rw [World.frozen?_alloc_at _ _ _ _ rfl])
    have hF1 : wr.frozen? ⟨w.heap.size, 1, none⟩ = false := (hbl.frozen (p := ⟨w.heap.size, 1, none⟩) (by simp)).trans (by rw [World.frozen?_alloc_at _ _ _ _ rfl])
    by_cases hlt : k < ss.length
    · obtain ⟨b, off, rfl, hb, hr⟩ := hw.rows (by rintro rfl; simp at hlt)
      obtain ⟨fa, fcap, hs⟩ := hr k hlt
      have hb0 : b < w.heap.size := Nat.lt_of_lt_of_le hb hbb.size
      have hck := ((hB0.cell (p := ⟨b, off + k * 2, none⟩) hb0).trans (hbb.cell (p := ⟨b, off + k * 2, none⟩) hb)).trans hs.kind
      have hcl := ((hB0.cell (p := ⟨b, off + k * 2 + 1, none⟩) hb0).trans (hbb.cell (p := ⟨b, off + k * 2 + 1, none⟩) hb)).trans hs.list
      have hfl := hs.flds
      clear hw hr hs
      by_cases he : ss[k].kd = v
      · have hbe : (ss[k].kd.toList == v.toList) = true := by rw [Gate.beq_toList]; simpa using he
        have HA : Hid (Gate.zF ss v = true) := Gate.zeo ss v k hlt he
        have HB : Hid (Gate.shapeOf ss v = ss[k]) := Gate.zcI ss v k hlt hno he
        clear he hno
        go_wp2
        refine bodyPost_ret (v := .tuple #[.agg #[.string ss[k].kd, .slice fa ss[k].fs.length fcap], .bool true]) (by simp [results, Tryz.results131, go_sem, hX0, hX1, hsz]) rfl ⟨fa, fcap, by rw [HA.out, HB.out], by rw [HB.out]; exact hfl, ?_⟩
        exact ((hB0.setCell (Nat.le_refl _) _).setCell (Nat.le_refl _) _).alloc (by simp [World.setCell]; omega) _
      · have hbe : (ss[k].kd.toList == v.toList) = false := by rw [Gate.beq_toList]; simpa using he
        have HS : Hid (Gate.zF (ss.take (k + 1)) v = false) := by unfold Hid; rw [Gate.zcQ ss v k hlt, hno, decide_eq_false he]; rfl
        clear he hno hX0 hX1 hF0 hF1
        go_wp2
        go_roundw
        case rel => exact ⟨k + 1, by omega, by go_num, HS.out, hbl.alloc (by omega) _⟩
        case measure => simp [intOf]; omega
    · have HA : Hid (Gate.zF ss v = false) := by rw [<- Gate.zdL ss v k (by omega)]; exact hno
      have HB : Hid (Gate.shapeOf ss v = Gate.za2) := Gate.zey ss v HA.out
      clear hno hw
      go_wp2
      refine bodyPost_ret (v := .tuple #[.agg #[.string ByteArray.empty, .slice none 0 0], .bool false]) (by simp [results, Tryz.results131, go_sem, hX0, hX1]; rfl) rfl ⟨none, 0, by rw [HA.out, HB.out]; rfl, by rw [HB.out]; exact ⟨by simp [Gate.za2, maxLen], fun h => absurd rfl h⟩, ?_⟩
      exact (hB0.setCell (Nat.le_refl _) _).setCell (Nat.le_refl _) _
end Go.Proofs.YtfapkhgallmkdaaGreat

namespace Go.Proofs.YtfapkhgallmkdaaGreat
open Go.ChangeShapes Go.WideShapes Go.ChangeAt Go.RowKit
theorem Tryz.zje : Tryz.prog.cellsOf 89 = 2 := by kernel_rfl
section
variable {H : Type} {enc : TypeId × Value -> H} {w : World} {base : Nat} {spare : Nat -> Bool} {held : Bool}
theorem znJ {fuel : Nat} {cs : List Value} {x : DataW H × List MemPlace} (h : DataW.trod enc Tryz.prog w base spare held fuel 89 cs = some x) :
    ∃ m : Tm, cs = m.cells.toList /\ m.Small := by
  have hlen : cs.length = 2 := by
    obtain ⟨_, _, _, _, hl, _, _⟩ := DataW.trod_struct Tryz.underlying89 h
    rw [hl]; exact Tryz.zje
  match cs, hlen with
  | [c0, c1], _ =>
    have hf := jh Tryz.underlying89 h
    obtain ⟨_, _, f0⟩ := hf 0 9 0 c0 rfl Tryz.zJ rfl
    obtain ⟨_, _, f1⟩ := hf 1 9 1 c1 rfl Tryz.zJ rfl
    obtain ⟨x0, e0, _, s0⟩ := DataW.trod_string Tryz.underlying9 f0
    obtain ⟨x1, e1, _, s1⟩ := DataW.trod_string Tryz.underlying9 f1
    simp only [List.cons.injEq, and_true] at e0 e1
    subst e0 e1
    exact ⟨⟨x0, x1⟩, rfl, s0, s1⟩
theorem zmH {fuel : Nat} {cs : List Value} {x : DataW H × List MemPlace} (h : DataW.trod enc Tryz.prog w base spare held fuel 24 cs = some x) :
    ∃ a cap ts, cs = [.slice a (List.length ts) cap] /\ qF w a ts := by
  obtain ⟨a, len, cap, rfl, hm, hr⟩ := zai Tryz.underlying24 Tryz.zje (by omega) h
  rcases Nat.eq_zero_or_pos len with h0 | hp
  · subst h0
    exact ⟨a, cap, [], rfl, ⟨by simp [maxLen], fun i h => absurd h (by simp), fun h => absurd rfl h⟩⟩
  · obtain ⟨b, off, rfl, hb, hrow⟩ := hr hp
    have hf : ∀ i, i < len -> ∃ m : Tm, m.Small /\ ∀ j, j < 2 -> w.cell? ⟨b, off + i * 2 + j, none⟩ = m.cells[j]? := by
      intro i hi
      obtain ⟨es, n, y, hel, hcell, hy⟩ := hrow i hi
      obtain ⟨m, rfl, hs⟩ := znJ hy
      exact ⟨m, hs, fun j hj => by rw [hcell j hj]; simp⟩
    obtain ⟨ms, hl, hms⟩ := zbk len hf
    exact ⟨_, cap, ms, by rw [hl], ⟨by omega, fun i hi => (hms i hi).1, fun _ => ⟨b, off, rfl, hb, fun i hi => (hms i hi).2⟩⟩⟩
end
end Go.Proofs.YtfapkhgallmkdaaGreat

namespace Go.Proofs.YtfapkhgallmkdaaGreat
open Go.ChangeShapes Go.WideShapes Go.ChangeAt Go.RowKit
theorem Tryz.zf8 : Tryz.prog.cellsOf 93 = 7 := by kernel_rfl
theorem zlI {H : Type} {enc : TypeId × Value -> H} {w : World} {base : Nat} {spare : Nat -> Bool} {held : Bool} {fuel : Nat} {cs : List Value} {x : DataW H × List MemPlace}
    (h : DataW.trod enc Tryz.prog w base spare held fuel 93 cs = some x) :
    ∃ (o : Ob) (a a' : Option Addr) (cap cap' : Nat), cs = [.string o.kd, .string o.nm, .string o.tm, .slice a o.vs.length cap, .bool o.en, .slice a' o.hs.length cap', .int .i64 o.vr] /\ jg w o a a' := by
  have hlen : cs.length = 7 := by
    obtain ⟨_, _, _, _, hl, _, _⟩ := DataW.trod_struct Tryz.underlying93 h
    rw [hl]; exact Tryz.zf8
  match cs, hlen with
  | [c0, c1, c2, c3, c4, c5, c6], _ =>
    have hf := jh Tryz.underlying93 h
    obtain ⟨_, _, f0⟩ := hf 0 9 0 c0 rfl Tryz.zJ rfl
    obtain ⟨_, _, f1⟩ := hf 1 9 1 c1 rfl Tryz.zJ rfl
    obtain ⟨_, _, f2⟩ := hf 2 9 2 c2 rfl Tryz.zJ rfl
    obtain ⟨_, _, f3⟩ := hf 3 91 3 c3 rfl Tryz.zcN rfl
    obtain ⟨_, _, f4⟩ := hf 4 4 4 c4 rfl Tryz.zfn rfl
    obtain ⟨_, _, f5⟩ := hf 5 91 5 c5 rfl Tryz.zcN rfl
    obtain ⟨_, _, f6⟩ := hf 6 3 6 c6 rfl Tryz.qW rfl
    obtain ⟨kd, e0, _, s0⟩ := DataW.trod_string Tryz.underlying9 f0
    obtain ⟨nm, e1, _, s1⟩ := DataW.trod_string Tryz.underlying9 f1
    obtain ⟨tm, e2, _, s2⟩ := DataW.trod_string Tryz.underlying9 f2
    obtain ⟨a, cap, vs, e3, hV⟩ := zfR Tryz.underlying91 Tryz.underlying9 Tryz.zJ f3
    obtain ⟨en, e4, _⟩ := DataW.trod_bool Tryz.underlying4 f4
    obtain ⟨a', cap', hs, e5, hH⟩ := zfR Tryz.underlying91 Tryz.underlying9 Tryz.zJ f5
    obtain ⟨vr, e6, _, _⟩ := DataW.trod_int Tryz.underlying3 f6
    simp only [List.cons.injEq, and_true] at e0 e1 e2 e3 e4 e5 e6
    subst e0 e1 e2 e3 e4 e5 e6
    exact ⟨⟨kd, nm, tm, vs, en, hs, vr⟩, a, a', cap, cap', rfl, ⟨⟨s0, s1, s2⟩, hV, hH⟩⟩
end Go.Proofs.YtfapkhgallmkdaaGreat
