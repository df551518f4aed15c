import Derived.Test.YtfpeplbmfbepcaaGreatM03
import Derived.Test.YtfpeplbmfbepcaaGreatRows
import Derived.ProofKit
import Derived.SliceStrings
namespace Go.Proofs.YtfpeplbmfbepcaaGreat
structure Tm where
  nm : ByteArray
  ov : ByteArray
namespace Gate
def za1 : Tm := ⟨ByteArray.empty, ByteArray.empty⟩
def yh (ts : List Tm) (v : ByteArray) : Bool := ts.any fun t => decide (t.nm = v)
def over (ts : List Tm) (v : ByteArray) : ByteArray := ((ts.find? fun t => decide (t.nm = v)).getD za1).ov
theorem zdE (ts : List Tm) (v : ByteArray) (k : Nat) (h : k < ts.length) : yh (ts.take (k + 1)) v = (yh (ts.take k) v || decide (ts[k].nm = v)) := by
  unfold yh; rw [List.take_succ_eq_append_getElem h, List.any_append]; simp
theorem znm (ts : List Tm) (v : ByteArray) (k : Nat) (h : k < ts.length) (e : ts[k].nm = v) : yh ts v = true := by
  unfold yh; rw [List.any_eq_true]; exact ⟨ts[k], List.getElem_mem h, by simpa using e⟩
theorem zeq (ts : List Tm) (v : ByteArray) (k : Nat) (h : ts.length <= k) : yh (ts.take k) v = yh ts v := by rw [List.take_of_length_le h]
theorem zkL (ts : List Tm) (v : ByteArray) (k : Nat) (h : k < ts.length) (hb : yh (ts.take k) v = false) (e : ts[k].nm = v) : over ts v = ts[k].ov := by
  unfold over
  have hn : (ts.take k).find? (fun s => decide (s.nm = v)) = none := by
    rw [List.find?_eq_none]; intro x hx; unfold yh at hb; rw [List.any_eq_false] at hb; exact hb x hx
  have hf : ts.find? (fun s => decide (s.nm = v)) = some ts[k] := by
    conv => lhs; rw [<- List.take_append_drop k ts]
    rw [List.find?_append, hn, List.drop_eq_getElem_cons h, List.find?_cons_of_pos (by simpa using e)]; rfl
  rw [hf]; rfl
theorem zgA (ts : List Tm) (v : ByteArray) (hb : yh ts v = false) : over ts v = ByteArray.empty := by
  unfold over
  have hn : ts.find? (fun s => decide (s.nm = v)) = none := by
    rw [List.find?_eq_none]; intro x hx; unfold yh at hb; rw [List.any_eq_false] at hb; exact hb x hx
  rw [hn]; rfl
def under (ts : List Tm) : Nat -> ByteArray -> ByteArray -> Bool
  | 0, a, b => decide (a = b)
  | n + 1, a, b => decide (a = b) || (decide (¬ (over ts a).size = 0) && under ts n (over ts a) b)
theorem zdC (ts : List Tm) (n : Nat) (a b : ByteArray) (h : a = b) : under ts n a b = true := by
  cases n <;> simp [under, h]
theorem zkh (ts : List Tm) {a b : ByteArray} (h : ¬ a = b) : under ts 0 a b = false := by simp [under, h]
theorem ziu (ts : List Tm) (n : Nat) {a b : ByteArray} (h : ¬ a = b) (h0 : (over ts a).size = 0) : under ts (n + 1) a b = false := by simp [under, h, h0]
theorem zmi (ts : List Tm) (n : Nat) {a b : ByteArray} (h : ¬ a = b) (h0 : ¬ (over ts a).size = 0) : under ts (n + 1) a b = under ts n (over ts a) b := by simp [under, h, h0]
def yV (ts : List Tm) (i : Nat) : Bool :=
  zy (ts.getD i za1).nm && (decide (i = 0) || less (ts.getD (i - 1) za1).nm (ts.getD i za1).nm) && ((ts.getD i za1).ov.toList.isEmpty || yh ts (ts.getD i za1).ov)
def zen (ts : List Tm) : Nat -> ByteArray -> ByteArray
  | 0, a => a
  | n + 1, a => zen ts n (over ts a)
def ji (ts : List Tm) : Nat -> ByteArray -> ByteArray
  | 0, a => a
  | n + 1, a => if a.size = 0 then a else ji ts n (over ts a)
def zdy (ts : List Tm) (t : Tm) : Bool := decide ((zen ts 4 t.ov).size = 0)
def ze1 (ts : List Tm) (i : Nat) : Bool := zdy ts (ts.getD i za1)
def zcQ (ts : List Tm) (i : Nat) : Bool := decide ((ji ts 5 (ts.getD i za1).nm).size = 0)
def zbk (ts : List Tm) : Bool := decide (ts.length <= 12) && (up (yV ts) ts.length && up (ze1 ts) ts.length)
def zbC (ts : List Tm) (i : Nat) : Bool := yV ts i && zcQ ts i
def zas (ts : List Tm) : Bool := decide (ts.length <= 12) && up (zbC ts) ts.length
theorem zcj {P : Nat -> Bool} {n : Nat} : up P n = true ↔ ∀ i, i < n -> P i = true := by
  unfold up; rw [List.all_eq_true]; simp
theorem zoC {ts : List Tm} {i : Nat} (hi : i < ts.length) (h : yV ts i = true) : zy ts[i].nm = true := by
  unfold yV at h; rw [getD_at ts i _ hi] at h; simp only [Bool.and_eq_true] at h; exact h.1.1
theorem zo3 {ts : List Tm} {i : Nat} (hi : i + 1 < ts.length) (h : yV ts (i + 1) = true) : less ts[i].nm ts[i + 1].nm = true := by
  unfold yV at h; rw [getD_at ts (i + 1) _ hi, Nat.add_sub_cancel, getD_at ts i _ (by omega)] at h; simp only [Bool.and_eq_true] at h
  simpa using h.1.2
theorem znY {ts : List Tm} (h : up (yV ts) ts.length = true) : ∀ (j : Nat) (hj : j < ts.length) (i : Nat) (hi : i < j), less (ts[i]'(by omega)).nm ts[j].nm = true := by
  intro j
  induction j with
  | zero => intro _ i hi; omega
  | succ j ih =>
    intro hj i hi
    have h2 := zo3 hj (zeO hj h)
    rcases Nat.lt_or_ge i j with hlt | hge
    · exact zaU _ _ _ (ih (by omega) i hlt) h2
    · have e : i = j := by omega
      subst e; exact h2
theorem over_self {ts : List Tm} (h : up (yV ts) ts.length = true) (i : Nat) (hi : i < ts.length) : over ts ts[i].nm = ts[i].ov := by
  refine zkL ts _ i hi ?_ rfl
  unfold yh
  rw [List.any_eq_false]
  intro x hx
  obtain ⟨k, hk, rfl⟩ := List.mem_iff_getElem.1 hx
  have hk' : k < i := by simp at hk; omega
  have h1 := znY h i hi k hk'
  simp only [List.getElem_take, decide_eq_true_eq]
  intro e
  unfold less at h1
  rw [e, zbA] at h1
  cases h1
theorem znQ {ts : List Tm} (h : up (yV ts) ts.length = true) : over ts ByteArray.empty = ByteArray.empty := by
  apply zgA
  unfold yh
  rw [List.any_eq_false]
  intro x hx
  obtain ⟨k, hk, rfl⟩ := List.mem_iff_getElem.1 hx
  have h1 := zoC hk (zeO hk h)
  simp only [decide_eq_true_eq]
  intro e
  rw [e, zfx _ rfl] at h1
  cases h1
theorem zg0 {ts : List Tm} (h : over ts ByteArray.empty = ByteArray.empty) : ∀ n, zen ts n ByteArray.empty = ByteArray.empty
  | 0 => rfl
  | n + 1 => by unfold zen; rw [h]; exact zg0 h n
theorem ziX {ts : List Tm} (h : over ts ByteArray.empty = ByteArray.empty) : ∀ n a, ji ts n a = zen ts n a
  | 0, _ => rfl
  | n + 1, a => by
    unfold ji
    by_cases h0 : a.size = 0
    · rw [if_pos h0, zcG a h0, zg0 h]
    · rw [if_neg h0, ziX h n]; rfl
theorem zkx {ts : List Tm} (h : up (yV ts) ts.length = true) (i : Nat) (hi : i < ts.length) : zcQ ts i = ze1 ts i := by
  unfold zcQ ze1 zdy
  rw [getD_at ts i _ hi, ziX (znQ h), show zen ts 5 ts[i].nm = zen ts 4 (over ts ts[i].nm) from rfl, over_self h i hi]
theorem zk9 (ts : List Tm) : zbk ts = zas ts := by
  unfold zbk zas
  congr 1
  rw [Bool.eq_iff_iff, Bool.and_eq_true]
  constructor
  · rintro ⟨h1, h2⟩
    rw [zcj]
    intro i hi
    unfold zbC
    rw [zeO hi h1, zkx h1 i hi, zeO hi h2]; rfl
  · intro h
    rw [zcj] at h
    have h1 : up (yV ts) ts.length = true := by
      rw [zcj]; intro i hi; have := h i hi; unfold zbC at this; rw [Bool.and_eq_true] at this; exact this.1
    refine ⟨h1, ?_⟩
    rw [zcj]; intro i hi; have := h i hi; unfold zbC at this; rw [Bool.and_eq_true, zkx h1 i hi] at this; exact this.2
end Gate
end Go.Proofs.YtfpeplbmfbepcaaGreat

namespace Go.Proofs.YtfpeplbmfbepcaaGreat
open Go.RowKit
def Tm.cells (m : Tm) : Array Value := #[.string m.nm, .string m.ov]
structure Tm.Small (m : Tm) : Prop where
  nm : m.nm.size <= maxLen
  ov : m.ov.size <= maxLen
structure jh (w : World) (a : Option Addr) (ts : List Tm) : Prop where
  len : ts.length <= maxLen
  small : ∀ i (h : i < ts.length), ts[i].Small
  rows : ts ≠ [] -> ∃ b off, a = some ⟨b, off, none⟩ /\ b < w.heap.size /\ ∀ i (h : i < ts.length), ∀ j, j < 2 -> w.cell? ⟨b, off + i * 2 + j, none⟩ = ts[i].cells[j]?
theorem jh.mono {w w' : World} {a : Option Addr} {ts : List Tm} (h : jh w a ts) (hl : Below w.heap.size w w') : jh w' a ts :=
  ⟨h.len, h.small, fun hne => by
    obtain ⟨b, off, ha, hb, hr⟩ := h.rows hne
    exact ⟨b, off, ha, Nat.lt_of_lt_of_le hb hl.size, fun i hi j hj => (hl.cell (p := ⟨b, off + i * 2 + j, none⟩) hb).trans (hr i hi j hj)⟩⟩
theorem jh.load {w w' : World} {a : Option Addr} {ts : List Tm} (h : jh w a ts) (hl : Below w.heap.size w w') (i : Nat) (hi : i < ts.length) : ∃ b off, a = some ⟨b, off, none⟩ /\ b < w.heap.size /\
    w'.cell? ⟨b, off + i * 2, none⟩ = some (.string ts[i].nm) /\ w'.cell? ⟨b, off + i * 2 + 1, none⟩ = some (.string ts[i].ov) := by
  obtain ⟨b, off, ha, hb, hr⟩ := h.rows (by rintro rfl; simp at hi)
  have hc : ∀ j, j < 2 -> w'.cell? ⟨b, off + i * 2 + j, none⟩ = ts[i].cells[j]? := fun j hj => (hl.cell (p := ⟨b, off + i * 2 + j, none⟩) hb).trans (hr i hi j hj)
  exact ⟨b, off, ha, hb, hc 0 (by omega), hc 1 (by omega)⟩
def Tm.sz (m : Tm) : Nat := m.nm.size + m.ov.size
def zhm (ts : List Tm) : Nat := (ts.map Tm.sz).sum
def zcv (ts : List Tm) : Nat := ts.length + zhm ts
def zqk (w : World) (b o : Nat) (v0 v1 : Value) : World := (w.setCell ⟨b, o, none⟩ v0).setCell ⟨b, o + 1, none⟩ v1
def set2 (C : Array Value) (o : Nat) (v0 v1 : Value) : Array Value := (C.setIfInBounds o v0).setIfInBounds (o + 1) v1
theorem znH {w : World} {b o : Nat} {C : Array Value} {t : TypeId} (h : w.heap[b]? = some (.cells C t)) (v0 v1 : Value) : (zqk w b o v0 v1).heap[b]? = some (.cells (set2 C o v0 v1) t) :=
  zf (zf h v0) v1
theorem znG {B : Nat} {a w : World} (h : Below B a w) {b : Nat} (hb : B <= b) (o : Nat) (v0 v1 : Value) : Below B a (zqk w b o v0 v1) :=
  (h.setCell hb v0).setCell hb v1
theorem zoM (C : Array Value) (o : Nat) (v0 v1 : Value) : (set2 C o v0 v1).size = C.size := by simp [set2]
theorem zpl (C : Array Value) (o i : Nat) (v0 v1 : Value) (h : i < o \/ o + 2 <= i) : (set2 C o v0 v1)[i]? = C[i]? := by
  unfold set2
  iterate 2 rw [Array.getElem?_setIfInBounds, if_neg (by omega)]
theorem zp2 (C : Array Value) (o j : Nat) (v0 v1 : Value) (hj : j < 2) (ho : o + 2 <= C.size) : (set2 C o v0 v1)[o + j]? = (#[v0, v1] : Array Value)[j]? := by
  have hc : j = 0 \/ j = 1 := by omega
  unfold set2
  rcases hc with h | h <;> subst h <;> simp [Array.getElem?_setIfInBounds] <;> omega
structure jP (ty : TypeId) (lo : Nat) (w : World) (bo : Nat) (ts : List Tm) (k : Nat) : Prop where
  low : lo <= bo
  rows : ∃ C, w.heap[bo]? = some (.cells C ty) /\ C.size = ts.length * 2 /\ ∀ i (h : i < ts.length), i < k -> ∀ j, j < 2 -> C[i * 2 + j]? = ts[i].cells[j]?
theorem jP.at {ty : TypeId} {lo : Nat} {w : World} {bo : Nat} {ts : List Tm} (h : jP ty lo w bo ts ts.length) (hs : ∀ i (h : i < ts.length), ts[i].Small) (hl : ts.length <= maxLen) : jh w (some ⟨bo, 0, none⟩) ts := by
  obtain ⟨C, hC, hsz, hr⟩ := h.rows
  refine ⟨hl, hs, fun _ => ⟨bo, 0, rfl, (Array.getElem?_eq_some_iff.1 hC).1, fun i hi j hj => ?_⟩⟩
  rw [cell_of_block hC, Nat.zero_add]
  exact hr i hi hi j hj
theorem jP.later {ty : TypeId} {lo : Nat} {w w' : World} {bo : Nat} {ts : List Tm} {k : Nat} (h : jP ty lo w bo ts k) (hb : Below w.heap.size w w') : jP ty lo w' bo ts k := by
  obtain ⟨C, hC, hsz, hr⟩ := h.rows
  exact ⟨h.low, C, (hb.block bo (Array.getElem?_eq_some_iff.1 hC).1).trans hC, hsz, hr⟩
theorem jP.put {ty : TypeId} {lo : Nat} {w : World} {bo : Nat} {ts : List Tm} {k : Nat} (h : jP ty lo w bo ts k) (hk : k < ts.length) :
    jP ty lo (zqk w bo (k * 2) (.string ts[k].nm) (.string ts[k].ov)) bo ts (k + 1) := by
  obtain ⟨C, hC, hsz, hr⟩ := h.rows
  refine ⟨h.low, _, znH hC _ _, by rw [zoM]; exact hsz, fun i hi hik j hj => ?_⟩
  rcases Nat.lt_or_ge i k with hlt | hge
  · rw [zpl _ _ _ _ _ (by omega)]
    exact hr i hi hlt j hj
  · have e : i = k := by omega
    subst e
    rw [zp2 _ _ _ _ _ hj (by omega)]
    rfl
def zpz : Array Value := #[.string ByteArray.empty, .string ByteArray.empty]
def zon (n : Nat) : Array Value := madeCells zpz (n * 2)
end Go.Proofs.YtfpeplbmfbepcaaGreat

namespace Go.Proofs.YtfpeplbmfbepcaaGreat
structure Rl where
  vs : List Int
  kd : ByteArray
  tm : ByteArray
  px : ByteArray
structure Ac where
  vb : Int
  kd : ByteArray
  tm : ByteArray
  nm : ByteArray
namespace Gate
def zcF (v : Int) : Bool := decide (1 <= v) && decide (v <= 5)
def zab (vs : List Int) (i : Nat) : Bool := zcF (vs.getD i 0) && (decide (i = 0) || decide (vs.getD (i - 1) 0 < vs.getD i 0))
def zbF (vs : List Int) : Bool := decide (0 < vs.length) && up (zab vs) vs.length
def zdf (r : Rl) : Bool := (r.kd.toList.isEmpty || zy r.kd) && (r.tm.toList.isEmpty || zy r.tm)
def zac (r : Rl) : Bool := zdf r && (zbF r.vs && (decide (r.px.size <= 16) && jU r.px))
def begins (s p : ByteArray) : Bool := decide (p.size <= s.size) && ((s.extract 0 p.size).toList == p.toList)
def meets (ts : List Tm) (r : Rl) (kd tm nm : ByteArray) : Bool := (r.kd.toList.isEmpty || decide (r.kd = kd)) && ((r.tm.toList.isEmpty || under ts 4 tm r.tm) && begins nm r.px)
end Gate
end Go.Proofs.YtfpeplbmfbepcaaGreat

namespace Go.Proofs.YtfpeplbmfbepcaaGreat
open Go.RowKit
structure yM (w : World) (a : Option Addr) (vs : List Int) : Prop where
  len : vs.length <= maxLen
  cells : vs ≠ [] -> ∃ b off, a = some ⟨b, off, none⟩ /\ b < w.heap.size /\ ∀ i (h : i < vs.length), w.cell? ⟨b, off + i, none⟩ = some (.int .i64 vs[i])
theorem yM.mono {w w' : World} {a : Option Addr} {vs : List Int} (h : yM w a vs) (hb : Below w.heap.size w w') : yM w' a vs :=
  ⟨h.len, fun hne => by
    obtain ⟨b, off, ha, hbs, hc⟩ := h.cells hne
    exact ⟨b, off, ha, Nat.lt_of_lt_of_le hbs hb.size, fun i hi => (hb.cell (p := ⟨b, off + i, none⟩) hbs).trans (hc i hi)⟩⟩
theorem yM.load {w w' : World} {a : Option Addr} {vs : List Int} (h : yM w a vs) (hl : Below w.heap.size w w') (i : Nat) (hi : i < vs.length) : ∃ b off, a = some ⟨b, off, none⟩ /\ b < w.heap.size /\ w'.cell? ⟨b, off + i, none⟩ = some (.int .i64 vs[i]) := by
  obtain ⟨b, off, ha, hb, hc⟩ := h.cells (by rintro rfl; simp at hi)
  exact ⟨b, off, ha, hb, (hl.cell (p := ⟨b, off + i, none⟩) hb).trans (hc i hi)⟩
def zaY (vs : List Int) : Array Value := (vs.map (Value.int .i64)).toArray
def intCells (vs : List Int) (k : Nat) : Array Value := ((vs.take k).map (Value.int .i64) ++ List.replicate (vs.length - k) (Value.int .i64 0)).toArray
theorem zl7 (vs : List Int) (k : Nat) (h : k < vs.length) : (intCells vs k)[k]? = some (.int .i64 0) := by
  unfold intCells
  have hl : ((vs.take k).map (Value.int .i64)).length = k := by simp; omega
  rw [List.getElem?_toArray, List.getElem?_append_right (by omega), hl, Nat.sub_self]
  obtain ⟨m, hm⟩ : ∃ m, vs.length - k = m + 1 := ⟨vs.length - k - 1, by omega⟩
  rw [hm, List.replicate_succ]; rfl
theorem zlz (vs : List Int) (k : Nat) (h : k < vs.length) : (intCells vs k).setIfInBounds k (.int .i64 vs[k]) = intCells vs (k + 1) := by
  unfold intCells
  rw [List.setIfInBounds_toArray, List.set_append_right _ _ (by simp; omega)]
  congr 1
  rw [List.take_succ_eq_append_getElem h, List.map_append, List.append_assoc]
  congr 1
  obtain ⟨m, hm⟩ : ∃ m, vs.length - k = m + 1 := ⟨vs.length - k - 1, by omega⟩
  rw [hm, show vs.length - (k + 1) = m by omega]
  have : k - ((vs.take k).map (Value.int .i64)).length = 0 := by simp; omega
  rw [this, List.replicate_succ]
  rfl
theorem zkT (vs : List Int) (k : Nat) (h : vs.length <= k) : intCells vs k = zaY vs := by
  unfold intCells zaY
  rw [List.take_of_length_le h, show vs.length - k = 0 by omega]; simp
theorem zj0 (vs : List Int) : madeCells #[Value.int .i64 0] vs.length = intCells vs 0 := by
  apply Array.toList_inj.1
  rw [toList_madeCells_one]
  simp [intCells]
theorem zey {w : World} {bk : Nat} {vs : List Int} {t : TypeId} (h : w.heap[bk]? = some (.cells (zaY vs) t)) (hl : vs.length <= maxLen) : yM w (some ⟨bk, 0, none⟩) vs :=
  ⟨hl, fun _ => ⟨bk, 0, rfl, (Array.getElem?_eq_some_iff.1 h).1, fun i hi => by
    simp [World.cell?, h, zaY, hi]⟩⟩
def Rl.cells (r : Rl) (a : Option Addr) (cap : Nat) : Array Value := #[.slice a r.vs.length cap, .string r.kd, .string r.tm, .string r.px]
def Ac.cells (x : Ac) : Array Value := #[.int .i64 x.vb, .string x.kd, .string x.tm, .string x.nm]
structure Rl.Small (r : Rl) : Prop where
  kd : r.kd.size <= maxLen
  tm : r.tm.size <= maxLen
  px : r.px.size <= maxLen
structure Ac.Small (r : Ac) : Prop where
  kd : r.kd.size <= maxLen
  tm : r.tm.size <= maxLen
  nm : r.nm.size <= maxLen
structure zp4 (w : World) (b off : Nat) (r : Rl) (a : Option Addr) (cap : Nat) : Prop where
  small : r.Small
  ints : yM w a r.vs
  cell : ∀ j, j < 4 -> w.cell? ⟨b, off + j, none⟩ = (r.cells a cap)[j]?
structure zg6 (w : World) (a : Option Addr) (rs : List Rl) : Prop where
  len : rs.length <= maxLen
  rows : rs ≠ [] -> ∃ b off, a = some ⟨b, off, none⟩ /\ b < w.heap.size /\ ∀ i (h : i < rs.length), ∃ va vcap, zp4 w b (off + i * 4) rs[i] va vcap
theorem zp4.mono {w w' : World} {b off : Nat} {r : Rl} {a : Option Addr} {cap : Nat} (h : zp4 w b off r a cap) (hb : b < w.heap.size) (hl : Below w.heap.size w w') : zp4 w' b off r a cap :=
  ⟨h.small, h.ints.mono hl, fun j hj => (hl.cell (p := ⟨b, off + j, none⟩) hb).trans (h.cell j hj)⟩
theorem zg6.mono {w w' : World} {a : Option Addr} {rs : List Rl} (h : zg6 w a rs) (hl : Below w.heap.size w w') : zg6 w' a rs :=
  ⟨h.len, fun hne => by
    obtain ⟨b, off, ha, hb, hr⟩ := h.rows hne
    refine ⟨b, off, ha, Nat.lt_of_lt_of_le hb hl.size, fun i hi => ?_⟩
    obtain ⟨va, vcap, hf⟩ := hr i hi
    exact ⟨va, vcap, hf.mono hb hl⟩⟩
theorem zg6.load {w w' : World} {a : Option Addr} {rs : List Rl} (h : zg6 w a rs) (hl : Below w.heap.size w w') (i : Nat) (hi : i < rs.length) : ∃ b off va vcap, a = some ⟨b, off, none⟩ /\ b < w.heap.size /\ rs[i].Small /\ yM w' va rs[i].vs /\
    w'.cell? ⟨b, off + i * 4, none⟩ = some (.slice va rs[i].vs.length vcap) /\ w'.cell? ⟨b, off + i * 4 + 1, none⟩ = some (.string rs[i].kd) /\ w'.cell? ⟨b, off + i * 4 + 2, none⟩ = some (.string rs[i].tm) /\ w'.cell? ⟨b, off + i * 4 + 3, none⟩ = some (.string rs[i].px) := by
  obtain ⟨b, off, ha, hb, hr⟩ := h.rows (by rintro rfl; simp at hi)
  obtain ⟨va, vcap, hf0⟩ := hr i hi
  have hf := hf0.mono hb hl
  exact ⟨b, off, va, vcap, ha, hb, hf.small, hf.ints, hf.cell 0 (by omega), hf.cell 1 (by omega), hf.cell 2 (by omega), hf.cell 3 (by omega)⟩
def Rl.sz (r : Rl) : Nat := r.vs.length + r.kd.size + r.tm.size + r.px.size
def Ac.sz (r : Ac) : Nat := r.kd.size + r.tm.size + r.nm.size
def zp8 (w : World) (b o : Nat) (v0 v1 v2 v3 : Value) : World := (((w.setCell ⟨b, o, none⟩ v0).setCell ⟨b, o + 1, none⟩ v1).setCell ⟨b, o + 2, none⟩ v2).setCell ⟨b, o + 3, none⟩ v3
def znO (C : Array Value) (o : Nat) (v0 v1 v2 v3 : Value) : Array Value := (((C.setIfInBounds o v0).setIfInBounds (o + 1) v1).setIfInBounds (o + 2) v2).setIfInBounds (o + 3) v3
theorem zn2 {w : World} {b o : Nat} {C : Array Value} {t : TypeId} (h : w.heap[b]? = some (.cells C t)) (v0 v1 v2 v3 : Value) : (zp8 w b o v0 v1 v2 v3).heap[b]? = some (.cells (znO C o v0 v1 v2 v3) t) :=
  zf (zf (zf (zf h v0) v1) v2) v3
theorem zB {w : World} {b o : Nat} {v : Value} {b' : Nat} (h : b' ≠ b) : (w.setCell ⟨b, o, none⟩ v).heap[b']? = w.heap[b']? := by
  simp only [World.setCell, Array.getElem?_modify]
  rw [if_neg (fun e => h (Eq.symm e))]
theorem ziq (w : World) (b o : Nat) (v0 v1 v2 v3 : Value) {b' : Nat} (h : b' ≠ b) : (zp8 w b o v0 v1 v2 v3).heap[b']? = w.heap[b']? := by
  unfold zp8; rw [zB h, zB h, zB h, zB h]
theorem zo5 (C : Array Value) (o : Nat) (v0 v1 v2 v3 : Value) : (znO C o v0 v1 v2 v3).size = C.size := by simp [znO]
theorem zpH (C : Array Value) (o i : Nat) (v0 v1 v2 v3 : Value) (h : i < o \/ o + 4 <= i) : (znO C o v0 v1 v2 v3)[i]? = C[i]? := by
  unfold znO
  iterate 4 rw [Array.getElem?_setIfInBounds, if_neg (by omega)]
theorem zp1 (C : Array Value) (o j : Nat) (v0 v1 v2 v3 : Value) (hj : j < 4) (ho : o + 4 <= C.size) : (znO C o v0 v1 v2 v3)[o + j]? = (#[v0, v1, v2, v3] : Array Value)[j]? := by
  have hc : j = 0 \/ j = 1 \/ j = 2 \/ j = 3 := by omega
  unfold znO
  rcases hc with h | h | h | h <;> subst h <;> simp [Array.getElem?_setIfInBounds] <;> omega
structure zed (ty ti : TypeId) (lo : Nat) (w : World) (bo : Nat) (rs : List Rl) (k : Nat) : Prop where
  low : lo <= bo
  rows : ∃ C, w.heap[bo]? = some (.cells C ty) /\ C.size = rs.length * 4 /\
    ∀ i (h : i < rs.length), i < k -> ∃ bk, lo <= bk /\ bk ≠ bo /\ w.heap[bk]? = some (.cells (zaY rs[i].vs) ti) /\ ∀ j, j < 4 -> C[i * 4 + j]? = (rs[i].cells (some ⟨bk, 0, none⟩) rs[i].vs.length)[j]?
structure zlT (rs : List Rl) : Prop where
  small : ∀ i (h : i < rs.length), rs[i].Small /\ rs[i].vs.length <= maxLen
theorem zg6.smalls {w : World} {a : Option Addr} {rs : List Rl} (h : zg6 w a rs) : zlT rs :=
  ⟨fun i hi => by
    obtain ⟨_, _, _, _, _, _, h1, h2, _⟩ := h.load (Below.refl _ _) i hi
    exact ⟨h1, h2.len⟩⟩
theorem zed.at {ty ti : TypeId} {lo : Nat} {w : World} {bo : Nat} {rs : List Rl} (h : zed ty ti lo w bo rs rs.length) (hs : zlT rs) (hl : rs.length <= maxLen) : zg6 w (some ⟨bo, 0, none⟩) rs := by
  obtain ⟨C, hC, hsz, hr⟩ := h.rows
  refine ⟨hl, fun _ => ⟨bo, 0, rfl, (Array.getElem?_eq_some_iff.1 hC).1, fun i hi => ?_⟩⟩
  obtain ⟨bk, _, _, hk, hc⟩ := hr i hi hi
  obtain ⟨s1, s2⟩ := hs.small i hi
  refine ⟨some ⟨bk, 0, none⟩, rs[i].vs.length, s1, zey hk s2, fun j hj => ?_⟩
  rw [cell_of_block hC, Nat.zero_add]
  exact hc j hj
theorem zed.later {ty ti : TypeId} {lo : Nat} {w w' : World} {bo : Nat} {rs : List Rl} {k : Nat} (h : zed ty ti lo w bo rs k) (hb : Below w.heap.size w w') : zed ty ti lo w' bo rs k := by
  obtain ⟨C, hC, hsz, hr⟩ := h.rows
  refine ⟨h.low, C, (hb.block bo (Array.getElem?_eq_some_iff.1 hC).1).trans hC, hsz, fun i hi hk => ?_⟩
  obtain ⟨bk, h1, h2, h3, h4⟩ := hr i hi hk
  exact ⟨bk, h1, h2, (hb.block bk (Array.getElem?_eq_some_iff.1 h3).1).trans h3, h4⟩
theorem zed.put {ty ti : TypeId} {lo : Nat} {w : World} {bo : Nat} {rs : List Rl} {k : Nat} (h : zed ty ti lo w bo rs k) (hk : k < rs.length) (bk : Nat) (h1 : lo <= bk) (h2 : bk ≠ bo) (h3 : w.heap[bk]? = some (.cells (zaY rs[k].vs) ti)) :
    zed ty ti lo (zp8 w bo (k * 4) (.slice (some ⟨bk, 0, none⟩) rs[k].vs.length rs[k].vs.length) (.string rs[k].kd) (.string rs[k].tm) (.string rs[k].px)) bo rs (k + 1) := by
  obtain ⟨C, hC, hsz, hr⟩ := h.rows
  refine ⟨h.low, _, zn2 hC _ _ _ _, by rw [zo5]; exact hsz, fun i hi hik => ?_⟩
  rcases Nat.lt_or_ge i k with hlt | hge
  · obtain ⟨bi, g1, g2, g3, g4⟩ := hr i hi hlt
    refine ⟨bi, g1, g2, by rw [ziq _ _ _ _ _ _ _ g2]; exact g3, fun j hj => ?_⟩
    rw [zpH _ _ _ _ _ _ _ (by omega)]
    exact g4 j hj
  · have e : i = k := by omega
    subst e
    refine ⟨bk, h1, h2, by rw [ziq _ _ _ _ _ _ _ h2]; exact h3, fun j hj => ?_⟩
    rw [zp1 _ _ _ _ _ _ _ hj (by omega)]
    rfl
theorem zpI (w : World) (o1 : Obj) (X : Array Value) (t : TypeId) : ∀ o, ((w.alloc o1).alloc (.cells X t)).cell? ⟨w.heap.size + 1, o, none⟩ = X[o]? := by
  intro o
  have h := zG (w.alloc o1) X t o
  have e : (w.alloc o1).heap.size = w.heap.size + 1 := by simp
  rw [e] at h; exact h
end Go.Proofs.YtfpeplbmfbepcaaGreat

namespace Go.Proofs.YtfpeplbmfbepcaaGreat
structure Ob where
  kd : ByteArray
  nm : ByteArray
  tm : ByteArray
  vs : List ByteArray
  en : Bool
  hs : List ByteArray
  vr : Int
abbrev oC (o : Ob) (a a' : Option Addr) (c c' : Nat) : Array Value := #[.string o.kd, .string o.nm, .string o.tm, .slice a o.vs.length c, .bool o.en, .slice a' o.hs.length c', .int .i64 o.vr]
abbrev oZ : Array Value := #[.string ByteArray.empty, .string ByteArray.empty, .string ByteArray.empty, .slice none 0 0, .bool false, .slice none 0 0, .int .i64 0]
def Ob.cells (o : Ob) (a : Option Addr) (cap : Nat) (a' : Option Addr) (cap' : Nat) : Array Value :=
  (oC o a a' cap cap')
structure Ob.Small (o : Ob) : Prop where
  kd : o.kd.size <= maxLen
  nm : o.nm.size <= maxLen
  tm : o.tm.size <= maxLen
namespace Gate
def zah (f : Fld) (v : ByteArray) : Int := if v.size = 0 then (if f.mu then 2 else 0) else if zeT f v then 0 else 3
def zfV (fs : List Fld) (vs : List ByteArray) (i : Nat) : Int := zah (fs.getD i za9) (vs.getD i ByteArray.empty)
def zaN (fs : List Fld) (vs : List ByteArray) (i : Nat) : Bool := decide (zfV fs vs i = 0)
def qZ (fs : List Fld) (vs : List ByteArray) : Int × Int := match (List.range fs.length).find? (fun i => !zaN fs vs i) with | some i => (zfV fs vs i, i) | none => (0, 0)
theorem find_range {P : Nat -> Bool} {n k : Nat} (hk : k < n) (hu : up P k = true) (hp : P k = false) : (List.range n).find? (fun i => !P i) = some k := by
  rw [List.find?_eq_some_iff_getElem]
  refine ⟨by simp [hp], k, by simpa using hk, by simp, fun j hj => ?_⟩
  have := zeO hj hu
  simp [this]
theorem zhu {P : Nat -> Bool} {n : Nat} (hu : up P n = true) : (List.range n).find? (fun i => !P i) = none := by
  rw [List.find?_eq_none]
  intro x hx
  have := zeO (List.mem_range.1 hx) hu
  simp [this]
theorem zkc {fs : List Fld} {vs : List ByteArray} {k : Nat} (hk : k < fs.length) (hu : up (zaN fs vs) k = true) (hp : zaN fs vs k = false) : qZ fs vs = (zfV fs vs k, (k : Int)) := by
  unfold qZ; rw [find_range hk hu hp]
theorem zhd {fs : List Fld} {vs : List ByteArray} (hu : up (zaN fs vs) fs.length = true) : qZ fs vs = (0, 0) := by
  unfold qZ; rw [zhu hu]
theorem zi6 {fs : List Fld} {vs : List ByteArray} {k : Nat} (h1 : k < fs.length) (h2 : k < vs.length) : zfV fs vs k = zah fs[k] vs[k] := by
  unfold zfV; rw [getD_at fs k _ h1, getD_at vs k _ h2]
def y5 (o : Ob) : Bool := zy o.nm && zy o.tm
def qx (o : Ob) : Bool := decide (o.hs.length <= 3) && asc o.hs
def yQ (o : Ob) : Bool := decide (0 <= o.vr) && decide (o.vr <= 1000000)
def zo (ss : List Shp) (o : Ob) : Bool := zC ss o.kd && decide (o.vs.length = (shapeOf ss o.kd).fs.length)
def whole (ss : List Shp) (o : Ob) : Bool := y5 o && qx o && yQ o && zo ss o
def yu (ss : List Shp) (o : Ob) : Int × Int := if whole ss o = true then qZ (shapeOf ss o.kd).fs o.vs else (1, 0)
def check (ss : List Shp) (o : Ob) : Int × Int := if zJ ss = true then yu ss o else (1, 0)
end Gate
end Go.Proofs.YtfpeplbmfbepcaaGreat

namespace Go.Proofs.YtfpeplbmfbepcaaGreat
open Go.RowKit
structure qR (w : World) (o : Ob) (a a' : Option Addr) : Prop where
  small : o.Small
  vals : zA w a o.vs
  holds : zA w a' o.hs
theorem qR.mono {w w' : World} {o : Ob} {a a' : Option Addr} (h : qR w o a a') (hb : Below w.heap.size w w') : qR w' o a a' :=
  ⟨h.small, h.vals.mono hb, h.holds.mono hb⟩
end Go.Proofs.YtfpeplbmfbepcaaGreat

namespace Go.Proofs.YtfpeplbmfbepcaaGreat
open Go.RowKit
def zpL (ss : List Shp) (v : ByteArray) (e : Ending) : Prop :=
  (Gate.zC ss v = false -> e = .returned (.int .i64 (-1))) /\ (Gate.zC ss v = true -> ∃ k, ∃ h : k < ss.length, e = .returned (.int .i64 (k : Nat)) /\ Gate.shapeOf ss v = ss[k])
set_option maxHeartbeats 400000 in
theorem zgP (a : Option Addr) (cap : Nat) (ss : List Shp) (v : ByteArray) (w : World) (hw : yI w a ss) :
    Calls Tryz.prog 134 #[.slice a ss.length cap, .string v] w fun e w' => zpL ss v e /\ w' = w := by
  have hl := hw.len
  unfold maxLen at hl
  go_enter Tryz.func134, Tryz.ntmps134
  go_wp2
  go_loop [5] (fun i => ∃ k : Nat, k <= ss.length /\ i = .int .i64 k /\ Gate.zC (ss.take k) v = false) (fun i => ss.length - (intOf i).toNat)
  case atStart => exact ⟨0, Nat.zero_le _, rfl, rfl⟩
  case round =>
    obtain ⟨k, hk, rfl, hno⟩ := hrel
    by_cases hlt : k < ss.length
    · obtain ⟨b, off, rfl, hb, hr⟩ := hw.rows (by rintro rfl; simp at hlt)
      obtain ⟨fa, fcap, hs⟩ := hr k hlt
      have hck := hs.kind
      clear hw hr hs
      by_cases he : ss[k].kd = v
      · have hbe : (ss[k].kd.toList == v.toList) = true := by rw [Gate.beq_toList]; simpa using he
        have HA : Hid (Gate.zC ss v = true) := Gate.zeZ ss v k hlt he
        have HB : Hid (Gate.shapeOf ss v = ss[k]) := Gate.zc5 ss v k hlt hno he
        clear he hno
        go_wp2
        go_ret
        exact ⟨⟨fun h => (by rw [HA.out] at h; cases h), fun _ => ⟨k, hlt, rfl, HB.out⟩⟩, rfl⟩
      · have hbe : (ss[k].kd.toList == v.toList) = false := by rw [Gate.beq_toList]; simpa using he
        have HS : Hid (Gate.zC (ss.take (k + 1)) v = false) := by unfold Hid; rw [Gate.zde ss v k hlt, hno, decide_eq_false he]; rfl
        clear he hno
        go_wp2
        go_round
        case rel => exact ⟨k + 1, by omega, by go_num, HS.out⟩
        case measure => simp [intOf]; omega
    · have HA : Hid (Gate.zC ss v = false) := by rw [<- Gate.zef ss v k (by omega)]; exact hno
      clear hno hw
      go_wp2
      go_ret
      exact ⟨⟨fun _ => rfl, fun h => by rw [HA.out] at h; cases h⟩, rfl⟩
theorem ze8 (a : Option Addr) (cap : Nat) (ss : List Shp) (v : ByteArray) (w : World) (hw : yI w a ss) (h : Gate.zC ss v = false) :
    Calls Tryz.prog 134 #[.slice a ss.length cap, .string v] w fun e w' => e = .returned (.int .i64 (-1)) /\ w' = w := by
  refine (zgP a cap ss v w hw).mono ?_
  rintro e w' ⟨⟨h1, _⟩, rfl⟩
  exact ⟨h1 h, rfl⟩
theorem za8 (a : Option Addr) (cap : Nat) (ss : List Shp) (v : ByteArray) (w : World) (hw : yI w a ss) (h : Gate.zC ss v = true) :
    Calls Tryz.prog 134 #[.slice a ss.length cap, .string v] w fun e w' => ∃ k, ∃ h : k < ss.length, e = .returned (.int .i64 (k : Nat)) /\ Gate.shapeOf ss v = ss[k] /\ w' = w := by
  refine (zgP a cap ss v w hw).mono ?_
  rintro e w' ⟨⟨_, h2⟩, rfl⟩
  obtain ⟨k, hk, he, hs⟩ := h2 h
  exact ⟨k, hk, he, hs, rfl⟩
end Go.Proofs.YtfpeplbmfbepcaaGreat

namespace Go.Proofs.YtfpeplbmfbepcaaGreat
open Go.RowKit
set_option maxHeartbeats 1000000 in
theorem qC (a : Option Addr) (cap : Nat) (ss : List Shp) (v : ByteArray) (w : World) (hw : yI w a ss) :
    Calls Tryz.prog 142 #[.slice a ss.length cap, .string v] w fun e w' => ∃ fa fcap, e = .returned (.tuple #[.agg #[.string (Gate.shapeOf ss v).kd, .slice fa (Gate.shapeOf ss v).fs.length fcap], .bool (Gate.zC ss v)]) /\
      zW w fa (Gate.shapeOf ss v).fs /\ Below w.heap.size w w' := by
  have hl := hw.len
  unfold maxLen at hl
  go_enter Tryz.func142, Tryz.ntmps142
  go_wp2
  go_loopw [10] (fun i wr => ∃ k : Nat, k <= ss.length /\ i = .int .i64 k /\ Gate.zC (ss.take k) v = false /\ Below (w.heap.size + 1) (w.alloc (.cells #[.string ByteArray.empty, .slice none 0 0] 123)) wr) (fun i _ => ss.length - (intOf i).toNat)
  case atStart => exact ⟨0, Nat.zero_le _, rfl, rfl, Below.refl _ _⟩
  case round =>
    obtain ⟨k, hk, rfl, hno, hbl⟩ := hrel
    have hsz : w.heap.size < wr.heap.size := by have := hbl.size; simp at this; omega
    have hB0 : Below w.heap.size w wr := ((Below.refl _ _).alloc (Nat.le_refl _) _).trans (hbl.mono (by omega))
    have hX0 : wr.cell? ⟨w.heap.size, 0, none⟩ = some (.string ByteArray.empty) := (hbl.cell (p := ⟨w.heap.size, 0, none⟩) (by simp)).trans (by rw [World.cell?_alloc_at _ _ _ _ rfl]; rfl)
    have hX1 : wr.cell? ⟨w.heap.size, 1, none⟩ = some (.slice none 0 0) := (hbl.cell (p := ⟨w.heap.size, 1, none⟩) (by simp)).trans (by rw [World.cell?_alloc_at _ _ _ _ rfl]; rfl)
    have hF0 : wr.frozen? ⟨w.heap.size, 0, none⟩ = false := (hbl.frozen (p := ⟨w.heap.size, 0, none⟩) (by simp)).trans (by rw [World.frozen?_alloc_at _ _ _ _ rfl])
    have hF1 : wr.frozen? ⟨w.heap.size, 1, none⟩ = false := (hbl.frozen (p := ⟨w.heap.size, 1, none⟩) (by simp)).trans (by rw [World.frozen?_alloc_at _ _ _ _ rfl])
    by_cases hlt : k < ss.length
    · obtain ⟨b, off, rfl, hb, hr⟩ := hw.rows (by rintro rfl; simp at hlt)
      obtain ⟨fa, fcap, hs⟩ := hr k hlt
      have hck := (hB0.cell (p := ⟨b, off + k * 2, none⟩) hb).trans hs.kind
      have hcl := (hB0.cell (p := ⟨b, off + k * 2 + 1, none⟩) hb).trans hs.list
      have hfl := hs.zcE
      clear hw hr hs
      by_cases he : ss[k].kd = v
      · have hbe : (ss[k].kd.toList == v.toList) = true := by rw [Gate.beq_toList]; simpa using he
        have HA : Hid (Gate.zC ss v = true) := Gate.zeZ ss v k hlt he
        have HB : Hid (Gate.shapeOf ss v = ss[k]) := Gate.zc5 ss v k hlt hno he
        clear he hno
        go_wp2
        refine bodyPost_ret (v := .tuple #[.agg #[.string ss[k].kd, .slice fa ss[k].fs.length fcap], .bool true]) (by simp [results, Tryz.results142, go_sem, hX0, hX1, hsz]) rfl ⟨fa, fcap, by rw [HA.out, HB.out], by rw [HB.out]; exact hfl, ?_⟩
        exact ((hB0.setCell (Nat.le_refl _) _).setCell (Nat.le_refl _) _).alloc (by simp [World.setCell]; omega) _
      · have hbe : (ss[k].kd.toList == v.toList) = false := by rw [Gate.beq_toList]; simpa using he
        have HS : Hid (Gate.zC (ss.take (k + 1)) v = false) := by unfold Hid; rw [Gate.zde ss v k hlt, hno, decide_eq_false he]; rfl
        clear he hno hX0 hX1 hF0 hF1
        go_wp2
        go_roundw
        case rel => exact ⟨k + 1, by omega, by go_num, HS.out, hbl.alloc (by omega) _⟩
        case measure => simp [intOf]; omega
    · have HA : Hid (Gate.zC ss v = false) := by rw [<- Gate.zef ss v k (by omega)]; exact hno
      have HB : Hid (Gate.shapeOf ss v = Gate.zaS) := Gate.zc8 ss v HA.out
      clear hno hw
      go_wp2
      refine bodyPost_ret (v := .tuple #[.agg #[.string ByteArray.empty, .slice none 0 0], .bool false]) (by simp [results, Tryz.results142, go_sem, hX0, hX1]; rfl) rfl ⟨none, 0, by rw [HA.out, HB.out]; rfl, by rw [HB.out]; exact ⟨by simp [Gate.zaS, maxLen], fun h => absurd rfl h⟩, ?_⟩
      exact (hB0.setCell (Nat.le_refl _) _).setCell (Nat.le_refl _) _
end Go.Proofs.YtfpeplbmfbepcaaGreat

namespace Go.Proofs.YtfpeplbmfbepcaaGreat
open Go.RowKit
set_option maxHeartbeats 400000 in
theorem zdh (c : UInt8) (w : World) :
    Calls Tryz.prog 135 #[.int .u8 c.toNat] w fun e w' => e = .returned (.bool (Gate.yj c)) /\ w' = w := by
  go_enter Tryz.func135, Tryz.ntmps135
  go_wp2
  all_goals
    go_ret
    refine ⟨ze ?_, rfl⟩
    rw [Bool.eq_iff_iff]; simp [Gate.yj]; try omega
end Go.Proofs.YtfpeplbmfbepcaaGreat

namespace Go.Proofs.YtfpeplbmfbepcaaGreat
open Go.RowKit
set_option maxHeartbeats 400000 in
theorem zS (s : ByteArray) (w : World) (hs : s.size <= maxLen) :
    Calls Tryz.prog 97 #[.string s] w fun e w' => e = .returned (.bool (Gate.zy s)) /\ w' = w := by
  unfold maxLen at hs
  by_cases hb : 1 <= s.size /\ s.size <= 16
  · obtain ⟨hb1, hb2⟩ := hb
    go_enter Tryz.func97, Tryz.ntmps97
    go_wp2_with (go_at_call 59; refine (zci _ _ _ _ (by omega) (by omega)).mono ?_; rintro e w' ⟨rfl, rfl⟩)
    go_loop [3] (fun i => ∃ k : Nat, k <= s.size /\ i = .int .i64 k /\ (s.data.toList.take k).all Gate.yj = true) (fun i => s.size - (intOf i).toNat)
    case atStart => exact ⟨0, Nat.zero_le _, rfl, rfl⟩
    case round =>
      obtain ⟨k, hk, rfl, hall⟩ := hrel
      by_cases hlt : k < s.size
      · have HS : Hid ((s.data.toList.take (k + 1)).all Gate.yj = (true && Gate.yj s[k])) := by rw [Gate.zbP _ s k hlt, hall]; rfl
        have HN := fun h => Gate.zdu Gate.yj s k hlt h
        have HN' : Hid (Gate.yj s[k] = false -> Gate.jU s = false) := HN
        clear HN hall
        by_cases hc : Gate.yj s[k] = true
        · go_wp2_with (go_at_call 135; refine (zdh _ _).mono ?_; rintro e w' ⟨rfl, rfl⟩)
          go_round
          case rel => exact ⟨k + 1, by omega, by go_num, by rw [HS.out, hc]; rfl⟩
          case measure => simp [intOf]; omega
        · have hc' : Gate.yj s[k] = false := by simpa using hc
          clear hc
          go_wp2_with (go_at_call 135; refine (zdh _ _).mono ?_; rintro e w' ⟨rfl, rfl⟩)
          go_ret
          refine ⟨ze ?_, rfl⟩
          simp [Gate.zy, HN'.out hc']
      · have HA : Hid (Gate.jU s = true) := by unfold Gate.jU Hid; rw [<- Gate.zba s k (by omega)]; exact hall
        clear hall
        go_wp2
        go_ret
        refine ⟨ze ?_, rfl⟩
        simp only [Gate.zy, HA.out]; simp; omega
  · go_enter Tryz.func97, Tryz.ntmps97
    go_wp2_with (go_at_call 59; refine (zet _ _ _ _ (by omega)).mono ?_; rintro e w' ⟨rfl, rfl⟩)
    go_ret
    refine ⟨ze ?_, rfl⟩
    simp [Gate.zy]; omega
set_option maxHeartbeats 400000 in
theorem zbT (s : ByteArray) (w : World) (hs : s.size <= maxLen) :
    Calls Tryz.prog 189 #[.string s] w fun e w' => e = .returned (.bool (Gate.jU s)) /\ w' = w := by
  unfold maxLen at hs
  go_enter Tryz.func189, Tryz.ntmps189
  go_wp2
  go_loop [7] (fun i => ∃ k : Nat, k <= s.size /\ i = .int .i64 k /\ (s.data.toList.take k).all Gate.yj = true) (fun i => s.size - (intOf i).toNat)
  case atStart => exact ⟨0, Nat.zero_le _, rfl, rfl⟩
  case round =>
    obtain ⟨k, hk, rfl, hall⟩ := hrel
    by_cases hlt : k < s.size
    · have HS : Hid ((s.data.toList.take (k + 1)).all Gate.yj = (true && Gate.yj s[k])) := by rw [Gate.zbP _ s k hlt, hall]; rfl
      have HN : Hid (Gate.yj s[k] = false -> Gate.jU s = false) := fun h => Gate.zdu Gate.yj s k hlt h
      clear hall
      by_cases hd : 48 <= (s[k].toNat : Int) /\ (s[k].toNat : Int) <= 57
      · have HC : Hid (Gate.yj s[k] = true) := by simp [Gate.yj, Hid]; omega
        obtain ⟨hd1, hd2⟩ := hd
        go_wp2_with (go_at_call 207; refine (zgW _ _ hd1 hd2).mono ?_; rintro e w' ⟨rfl, rfl⟩)
        go_round
        case rel => exact ⟨k + 1, by omega, by go_num, by rw [HS.out, HC.out]; rfl⟩
        case measure => simp [intOf]; omega
      · have HD : Hid (¬ (48 <= (s[k].toNat : Int) /\ (s[k].toNat : Int) <= 57)) := hd
        clear hd
        by_cases h45 : (s[k].toNat : Int) = 45
        · have HC : Hid (Gate.yj s[k] = true) := by simp [Gate.yj, Hid]; omega
          have h45' : ((s[k].toNat : Int) != 45) = false := by simp [h45]
          clear h45
          go_wp2_with (go_at_call 207; refine (zcp _ _ HD.out).mono ?_; rintro e w' ⟨rfl, rfl⟩)
          go_round
          case rel => exact ⟨k + 1, by omega, by go_num, by rw [HS.out, HC.out]; rfl⟩
          case measure => simp [intOf]; omega
        · have h45' : ((s[k].toNat : Int) != 45) = true := by simp [h45]
          by_cases h97 : (s[k].toNat : Int) < 97
          · have HC : Hid (Gate.yj s[k] = false) := by have := HD.out; simp [Gate.yj, Hid]; omega
            clear h45
            go_wp2_with (go_at_call 207; refine (zcp _ _ HD.out).mono ?_; rintro e w' ⟨rfl, rfl⟩)
            go_ret
            exact ⟨ze (HN.out HC.out).symm, rfl⟩
          · by_cases h122 : 122 < (s[k].toNat : Int)
            · have HC : Hid (Gate.yj s[k] = false) := by have := HD.out; simp [Gate.yj, Hid]; omega
              clear h45
              go_wp2_with (go_at_call 207; refine (zcp _ _ HD.out).mono ?_; rintro e w' ⟨rfl, rfl⟩)
              go_ret
              exact ⟨ze (HN.out HC.out).symm, rfl⟩
            · have HC : Hid (Gate.yj s[k] = true) := by simp [Gate.yj, Hid]; omega
              clear h45
              go_wp2_with (go_at_call 207; refine (zcp _ _ HD.out).mono ?_; rintro e w' ⟨rfl, rfl⟩)
              go_round
              case rel => exact ⟨k + 1, by omega, by go_num, by rw [HS.out, HC.out]; rfl⟩
              case measure => simp [intOf]; omega
    · have HA : Hid (Gate.jU s = true) := by unfold Gate.jU Hid; rw [<- Gate.zba s k (by omega)]; exact hall
      clear hall
      go_wp2
      go_ret
      exact ⟨ze HA.out.symm, rfl⟩
set_option maxHeartbeats 400000 in
theorem zR (s : ByteArray) (w : World) (hs : s.size <= maxLen) :
    Calls Tryz.prog 145 #[.string s] w fun e w' => e = .returned (.bool (Gate.zy s)) /\ w' = w := by
  have hs' := hs
  unfold maxLen at hs'
  by_cases h0 : s.size = 0
  · rw [Gate.zcG s h0]
    go_enter Tryz.func145, Tryz.ntmps145
    go_wp2
    go_ret
    exact ⟨rfl, rfl⟩
  · have hne : s.toList.isEmpty = false := by rw [Gate.zu]; simp [h0]
    by_cases h16 : s.size <= 16
    · have HF : Hid (Gate.zy s = Gate.jU s) := by
        simp only [Hid, Gate.zy]; rw [decide_eq_true (show 1 <= s.size by omega), decide_eq_true h16]; simp
      go_enter Tryz.func145, Tryz.ntmps145
      go_wp2_with (go_at_call 189; refine (zbT _ _ hs).mono ?_; rintro e w' ⟨rfl, rfl⟩)
      go_ret
      exact ⟨ze HF.out.symm, rfl⟩
    · go_enter Tryz.func145, Tryz.ntmps145
      go_wp2_with (go_at_call 189; refine (zbT _ _ hs).mono ?_; rintro e w' ⟨rfl, rfl⟩)
      go_ret
      refine ⟨ze ?_, rfl⟩
      simp only [Gate.zy]; rw [decide_eq_false h16]; simp
end Go.Proofs.YtfpeplbmfbepcaaGreat

namespace Go.Proofs.YtfpeplbmfbepcaaGreat
open Go.RowKit
set_option maxHeartbeats 400000 in
theorem zb2 (a : Option Addr) (cap : Nat) (ws : List ByteArray) (v : ByteArray) (w : World) (hw : zA w a ws) :
    Calls Tryz.prog 172 #[.slice a ws.length cap, .string v] w fun e w' => e = .returned (.bool (Gate.has ws v)) /\ w' = w := by
  have hl := hw.len
  unfold maxLen at hl
  by_cases hne : ws = []
  · subst hne
    go_enter Tryz.func172, Tryz.ntmps172
    go_wp2
    go_loop [5] (fun i => i = .int .i64 0) (fun i => 0)
    case atStart => rfl
    case round =>
      subst hrel
      go_wp2
      go_ret
      exact ⟨rfl, rfl⟩
  · obtain ⟨b, off, rfl, hb, hc⟩ := hw.cells hne
    clear hw
    have HL : Hid (0 < ws.length) := List.length_pos_iff.2 hne
    clear hne
    go_enter Tryz.func172, Tryz.ntmps172
    go_wp2
    go_loop [5] (fun i => ∃ k : Nat, k <= ws.length /\ i = .int .i64 k /\ Gate.has (ws.take k) v = false) (fun i => ws.length - (intOf i).toNat)
    case atStart => exact ⟨0, Nat.zero_le _, rfl, rfl⟩
    case round =>
      obtain ⟨k, hk, rfl, hall⟩ := hrel
      by_cases hlt : k < ws.length
      · have hck := hc k hlt
        clear hc
        have HS : Hid (Gate.has (ws.take (k + 1)) v = (false || decide (ws[k] = v))) := by rw [Gate.zlP ws v k hlt, hall]; rfl
        have HN : Hid (ws[k] = v -> Gate.has ws v = true) := fun h => Gate.zpu ws v k hlt h
        clear hall
        by_cases he : ws[k] = v
        · have hbe : (ws[k].toList == v.toList) = true := by rw [Gate.beq_toList]; simpa using he
          have HE : Hid (ws[k] = v) := he
          clear he
          go_wp2
          go_ret
          exact ⟨ze (HN.out HE.out).symm, rfl⟩
        · have hbe : (ws[k].toList == v.toList) = false := by rw [Gate.beq_toList]; simpa using he
          have HE : Hid (¬ ws[k] = v) := he
          clear he
          go_wp2
          go_round
          case rel => exact ⟨k + 1, by omega, by go_num, by rw [HS.out, decide_eq_false HE.out]; rfl⟩
          case measure => simp [intOf]; omega
      · have HA : Hid (Gate.has ws v = false) := by rw [<- Gate.zoi ws v k (by omega)]; exact hall
        clear hall hc
        go_wp2
        go_ret
        exact ⟨ze HA.out.symm, rfl⟩
end Go.Proofs.YtfpeplbmfbepcaaGreat

namespace Go.Proofs.YtfpeplbmfbepcaaGreat
open Go.RowKit
def Gate.within (n lo hi : Int) : Bool := decide (lo <= n) && decide (n <= hi)
set_option maxHeartbeats 400000 in
theorem qE (n lo hi : Int) (w : World) :
    Calls Tryz.prog 150 #[.int .i64 n, .int .i64 lo, .int .i64 hi] w fun e w' => e = .returned (.bool (Gate.within n lo hi)) /\ w' = w := by
  by_cases h1 : lo <= n
  · by_cases h2 : n <= hi
    · have HF : Hid (Gate.within n lo hi = true) := by unfold Hid Gate.within; simp [h1, h2]
      go_enter Tryz.func150, Tryz.ntmps150
      go_wp2_with fail
      go_ret
      exact ⟨ze HF.out.symm, rfl⟩
    · have HF : Hid (Gate.within n lo hi = false) := by unfold Hid Gate.within; simp [h2]
      go_enter Tryz.func150, Tryz.ntmps150
      go_wp2_with fail
      go_ret
      exact ⟨ze HF.out.symm, rfl⟩
  · have HF : Hid (Gate.within n lo hi = false) := by unfold Hid Gate.within; simp [h1]
    go_enter Tryz.func150, Tryz.ntmps150
    go_wp2_with fail
    go_ret
    exact ⟨ze HF.out.symm, rfl⟩
end Go.Proofs.YtfpeplbmfbepcaaGreat

namespace Go.Proofs.YtfpeplbmfbepcaaGreat
open Go.RowKit
set_option maxHeartbeats 1000000 in
theorem zk7 (w0 : World) (a : Option Addr) (cap : Nat) (ss : List Shp) (v : ByteArray) (w : World) (hw : yI w0 a ss) (hbb : Below w0.heap.size w0 w) :
    Calls Tryz.prog 142 #[.slice a ss.length cap, .string v] w fun e w' => ∃ fa fcap, e = .returned (.tuple #[.agg #[.string (Gate.shapeOf ss v).kd, .slice fa (Gate.shapeOf ss v).fs.length fcap], .bool (Gate.zC ss v)]) /\
      zW w0 fa (Gate.shapeOf ss v).fs /\ Below w.heap.size w w' := by
  have hl := hw.len
  unfold maxLen at hl
  go_enter Tryz.func142, Tryz.ntmps142
  go_wp2
  go_loopw [10] (fun i wr => ∃ k : Nat, k <= ss.length /\ i = .int .i64 k /\ Gate.zC (ss.take k) v = false /\ Below (w.heap.size + 1) (w.alloc (.cells #[.string ByteArray.empty, .slice none 0 0] 123)) wr) (fun i _ => ss.length - (intOf i).toNat)
  case atStart => exact ⟨0, Nat.zero_le _, rfl, rfl, Below.refl _ _⟩
  case round =>
    obtain ⟨k, hk, rfl, hno, hbl⟩ := hrel
    have hsz : w.heap.size < wr.heap.size := by have := hbl.size; simp at this; omega
    have hB0 : Below w.heap.size w wr := ((Below.refl _ _).alloc (Nat.le_refl _) _).trans (hbl.mono (by omega))
    have hX0 : wr.cell? ⟨w.heap.size, 0, none⟩ = some (.string ByteArray.empty) := (hbl.cell (p := ⟨w.heap.size, 0, none⟩) (by simp)).trans (by rw [World.cell?_alloc_at _ _ _ _ rfl]; rfl)
    have hX1 : wr.cell? ⟨w.heap.size, 1, none⟩ = some (.slice none 0 0) := (hbl.cell (p := ⟨w.heap.size, 1, none⟩) (by simp)).trans (by rw [World.cell?_alloc_at _ _ _ _ rfl]; rfl)
    have hF0 : wr.frozen? ⟨w.heap.size, 0, none⟩ = false := (hbl.frozen (p := ⟨w.heap.size, 0, none⟩) (by simp)).trans (by rw [World.frozen?_alloc_at _ _ _ _ rfl])
    have hF1 : wr.frozen? ⟨w.heap.size, 1, none⟩ = false := (hbl.frozen (p := ⟨w.heap.size, 1, none⟩) (by simp)).trans (by rw [World.frozen?_alloc_at _ _ _ _ rfl])
    by_cases hlt : k < ss.length
    · obtain ⟨b, off, rfl, hb, hr⟩ := hw.rows (by rintro rfl; simp at hlt)
      obtain ⟨fa, fcap, hs⟩ := hr k hlt
      have hb0 : b < w.heap.size := Nat.lt_of_lt_of_le hb hbb.size
      have hck := ((hB0.cell (p := ⟨b, off + k * 2, none⟩) hb0).trans (hbb.cell (p := ⟨b, off + k * 2, none⟩) hb)).trans hs.kind
      have hcl := ((hB0.cell (p := ⟨b, off + k * 2 + 1, none⟩) hb0).trans (hbb.cell (p := ⟨b, off + k * 2 + 1, none⟩) hb)).trans hs.list
      have hfl := hs.zcE
      clear hw hr hs
      by_cases he : ss[k].kd = v
      · have hbe : (ss[k].kd.toList == v.toList) = true := by rw [Gate.beq_toList]; simpa using he
        have HA : Hid (Gate.zC ss v = true) := Gate.zeZ ss v k hlt he
        have HB : Hid (Gate.shapeOf ss v = ss[k]) := Gate.zc5 ss v k hlt hno he
        clear he hno
        go_wp2
        refine bodyPost_ret (v := .tuple #[.agg #[.string ss[k].kd, .slice fa ss[k].fs.length fcap], .bool true]) (by simp [results, Tryz.results142, go_sem, hX0, hX1, hsz]) rfl ⟨fa, fcap, by rw [HA.out, HB.out], by rw [HB.out]; exact hfl, ?_⟩
        exact ((hB0.setCell (Nat.le_refl _) _).setCell (Nat.le_refl _) _).alloc (by simp [World.setCell]; omega) _
      · have hbe : (ss[k].kd.toList == v.toList) = false := by rw [Gate.beq_toList]; simpa using he
        have HS : Hid (Gate.zC (ss.take (k + 1)) v = false) := by unfold Hid; rw [Gate.zde ss v k hlt, hno, decide_eq_false he]; rfl
        clear he hno hX0 hX1 hF0 hF1
        go_wp2
        go_roundw
        case rel => exact ⟨k + 1, by omega, by go_num, HS.out, hbl.alloc (by omega) _⟩
        case measure => simp [intOf]; omega
    · have HA : Hid (Gate.zC ss v = false) := by rw [<- Gate.zef ss v k (by omega)]; exact hno
      have HB : Hid (Gate.shapeOf ss v = Gate.zaS) := Gate.zc8 ss v HA.out
      clear hno hw
      go_wp2
      refine bodyPost_ret (v := .tuple #[.agg #[.string ByteArray.empty, .slice none 0 0], .bool false]) (by simp [results, Tryz.results142, go_sem, hX0, hX1]; rfl) rfl ⟨none, 0, by rw [HA.out, HB.out]; rfl, by rw [HB.out]; exact ⟨by simp [Gate.zaS, maxLen], fun h => absurd rfl h⟩, ?_⟩
      exact (hB0.setCell (Nat.le_refl _) _).setCell (Nat.le_refl _) _
end Go.Proofs.YtfpeplbmfbepcaaGreat

namespace Go.Proofs.YtfpeplbmfbepcaaGreat
open Go.ChangeShapes Go.WideShapes Go.ChangeAt Go.RowKit
theorem Tryz.zdb : Tryz.prog.cellsOf 102 = 1 := by kernel_rfl
theorem Tryz.ziA : Tryz.prog.cellsOf 190 = 11 := by kernel_rfl
theorem znt {H : Type} {enc : TypeId × Value -> H} {w : World} {base : Nat} {spare : Nat -> Bool} {held : Bool} {fuel : Nat} {cs : List Value} {x : DataW H × List MemPlace}
    (h : DataW.trod enc Tryz.prog w base spare held fuel 190 cs = some x) :
    ∃ nm kd ls ms a cap ws to rl mu fx df wg, cs = [.string nm, .int .i64 kd, .int .i64 ls, .int .i64 ms, .slice a (List.length ws) cap, .string to, .int .i64 rl, .bool mu, .bool fx, .string df, .string wg] /\ zA w a ws /\
      nm.size <= maxLen /\ to.size <= maxLen /\ df.size <= maxLen /\ wg.size <= maxLen := by
  have hlen : cs.length = 11 := by
    obtain ⟨_, _, _, _, hl, _, _⟩ := DataW.trod_struct Tryz.underlying190 h
    rw [hl]; exact Tryz.ziA
  match cs, hlen with
  | [c0, c1, c2, c3, c4, c5, c6, c7, c8, c9, c10], _ =>
    have hf := jL Tryz.underlying190 h
    obtain ⟨_, _, f0⟩ := hf 0 9 0 c0 rfl Tryz.zM rfl
    obtain ⟨_, _, f1⟩ := hf 1 3 1 c1 rfl Tryz.jm rfl
    obtain ⟨_, _, f2⟩ := hf 2 3 2 c2 rfl Tryz.jm rfl
    obtain ⟨_, _, f3⟩ := hf 3 3 3 c3 rfl Tryz.jm rfl
    obtain ⟨_, _, f4⟩ := hf 4 102 4 c4 rfl Tryz.zdb rfl
    obtain ⟨_, _, f5⟩ := hf 5 9 5 c5 rfl Tryz.zM rfl
    obtain ⟨_, _, f6⟩ := hf 6 3 6 c6 rfl Tryz.jm rfl
    obtain ⟨_, _, f7⟩ := hf 7 4 7 c7 rfl Tryz.zf6 rfl
    obtain ⟨_, _, f8⟩ := hf 8 4 8 c8 rfl Tryz.zf6 rfl
    obtain ⟨_, _, f9⟩ := hf 9 9 9 c9 rfl Tryz.zM rfl
    obtain ⟨_, _, f10⟩ := hf 10 9 10 c10 rfl Tryz.zM rfl
    obtain ⟨nm, e0, _, s0⟩ := DataW.trod_string Tryz.underlying9 f0
    obtain ⟨kd, e1, _, _⟩ := DataW.trod_int Tryz.underlying3 f1
    obtain ⟨ls, e2, _, _⟩ := DataW.trod_int Tryz.underlying3 f2
    obtain ⟨ms, e3, _, _⟩ := DataW.trod_int Tryz.underlying3 f3
    obtain ⟨a, cap, ws, e4, hS⟩ := zgz Tryz.underlying102 Tryz.underlying9 Tryz.zM f4
    obtain ⟨to, e5, _, s5⟩ := DataW.trod_string Tryz.underlying9 f5
    obtain ⟨rl, e6, _, _⟩ := DataW.trod_int Tryz.underlying3 f6
    obtain ⟨mu, e7, _⟩ := DataW.trod_bool Tryz.underlying4 f7
    obtain ⟨fx, e8, _⟩ := DataW.trod_bool Tryz.underlying4 f8
    obtain ⟨df, e9, _, s9⟩ := DataW.trod_string Tryz.underlying9 f9
    obtain ⟨wg, e10, _, s10⟩ := DataW.trod_string Tryz.underlying9 f10
    simp only [List.cons.injEq, and_true] at e0 e1 e2 e3 e4 e5 e6 e7 e8 e9 e10
    subst e0 e1 e2 e3 e4 e5 e6 e7 e8 e9 e10
    exact ⟨nm, kd, ls, ms, a, cap, ws, to, rl, mu, fx, df, wg, rfl, hS, s0, s5, s9, s10⟩
end Go.Proofs.YtfpeplbmfbepcaaGreat

namespace Go.Proofs.YtfpeplbmfbepcaaGreat
open Go.ChangeShapes Go.WideShapes Go.ChangeAt Go.RowKit
theorem Tryz.zja : Tryz.prog.cellsOf 94 = 2 := by kernel_rfl
theorem Tryz.zmb : Tryz.prog.cellsOf 92 = 1 := by kernel_rfl
section
variable {H : Type} {enc : TypeId × Value -> H} {w : World} {base : Nat} {spare : Nat -> Bool} {held : Bool}
theorem zmt {fuel : Nat} {cs : List Value} {x : DataW H × List MemPlace} (h : DataW.trod enc Tryz.prog w base spare held fuel 92 cs = some x) :
    ∃ a cap fs, cs = [.slice a (List.length fs) cap] /\ zW w a fs := by
  obtain ⟨a, len, cap, rfl, hm, hr⟩ := zax Tryz.underlying92 Tryz.ziA (by omega) h
  rcases Nat.eq_zero_or_pos len with h0 | hp
  · subst h0
    exact ⟨a, cap, [], rfl, ⟨by simp [maxLen], fun h => absurd rfl h⟩⟩
  · obtain ⟨b, off, rfl, hb, hrow⟩ := hr hp
    have hf : ∀ i, i < len -> ∃ f : Fld, ∃ wa wcap, zeC w b (off + i * 11) f wa wcap := by
      intro i hi
      obtain ⟨es, n, y, hel, hcell, hy⟩ := hrow i hi
      obtain ⟨nm, kd, ls, ms, wa, wcap, ws, to, rl, mu, fx, df, wg, rfl, hS, s0, s5, s9, s10⟩ := znt hy
      refine ⟨⟨nm, kd, ls, ms, ws, to, rl, mu, fx, df, wg⟩, wa, wcap, ⟨s0, s5, s9, s10⟩, hS, fun j hj => ?_⟩
      rw [hcell j hj]
      simp [Fld.cells]
    obtain ⟨fs, hl, hfs⟩ := zbG len hf
    refine ⟨_, cap, fs, by rw [hl], ⟨by omega, fun _ => ⟨b, off, rfl, hb, fun i hi => hfs i hi⟩⟩⟩
theorem znn {fuel : Nat} {cs : List Value} {x : DataW H × List MemPlace} (h : DataW.trod enc Tryz.prog w base spare held fuel 94 cs = some x) :
    ∃ kd a cap fs, cs = [.string kd, .slice a (List.length fs) cap] /\ kd.size <= maxLen /\ zW w a fs := by
  have hlen : cs.length = 2 := by
    obtain ⟨_, _, _, _, hl, _, _⟩ := DataW.trod_struct Tryz.underlying94 h
    rw [hl]; exact Tryz.zja
  match cs, hlen with
  | [c0, c1], _ =>
    have hf := jL Tryz.underlying94 h
    obtain ⟨_, _, f0⟩ := hf 0 9 0 c0 rfl Tryz.zM rfl
    obtain ⟨_, _, f1⟩ := hf 1 92 1 c1 rfl Tryz.zmb rfl
    obtain ⟨kd, e0, _, s0⟩ := DataW.trod_string Tryz.underlying9 f0
    obtain ⟨a, cap, fs, e1, hF⟩ := zmt f1
    simp only [List.cons.injEq, and_true] at e0 e1
    subst e0 e1
    exact ⟨kd, a, cap, fs, rfl, s0, hF⟩
theorem zmP {fuel : Nat} {cs : List Value} {x : DataW H × List MemPlace} (h : DataW.trod enc Tryz.prog w base spare held fuel 22 cs = some x) :
    ∃ a cap ss, cs = [.slice a (List.length ss) cap] /\ yI w a ss := by
  obtain ⟨a, len, cap, rfl, hm, hr⟩ := zax Tryz.underlying22 Tryz.zja (by omega) h
  rcases Nat.eq_zero_or_pos len with h0 | hp
  · subst h0
    exact ⟨a, cap, [], rfl, ⟨by simp [maxLen], fun h => absurd rfl h⟩⟩
  · obtain ⟨b, off, rfl, hb, hrow⟩ := hr hp
    have hf : ∀ i, i < len -> ∃ s : Shp, ∃ fa fcap, zko w b (off + i * 2) s fa fcap := by
      intro i hi
      obtain ⟨es, n, y, hel, hcell, hy⟩ := hrow i hi
      obtain ⟨kd, fa, fcap, fs, rfl, s0, hF⟩ := znn hy
      exact ⟨⟨kd, fs⟩, fa, fcap, s0, hF, hcell 0 (by omega), hcell 1 (by omega)⟩
    obtain ⟨ss, hl, hss⟩ := zbG len hf
    exact ⟨_, cap, ss, by rw [hl], ⟨by omega, fun _ => ⟨b, off, rfl, hb, fun i hi => hss i hi⟩⟩⟩
end
end Go.Proofs.YtfpeplbmfbepcaaGreat

namespace Go.Proofs.YtfpeplbmfbepcaaGreat
open Go.ChangeShapes Go.WideShapes Go.ChangeAt Go.RowKit
theorem Tryz.zkl : Tryz.prog.cellsOf 97 = 6 := by kernel_rfl
section
variable {H : Type} {enc : TypeId × Value -> H} {w : World} {base : Nat} {spare : Nat -> Bool} {held : Bool}
theorem zoG {fuel : Nat} {cs : List Value} {x : DataW H × List MemPlace} (h : DataW.trod enc Tryz.prog w base spare held fuel 97 cs = some x) :
    ∃ m : Mnd, cs = m.cells.toList /\ m.Small := by
  have hlen : cs.length = 6 := by
    obtain ⟨_, _, _, _, hl, _, _⟩ := DataW.trod_struct Tryz.underlying97 h
    rw [hl]; exact Tryz.zkl
  match cs, hlen with
  | [c0, c1, c2, c3, c4, c5], _ =>
    have hf := jL Tryz.underlying97 h
    obtain ⟨_, _, f0⟩ := hf 0 9 0 c0 rfl Tryz.zM rfl
    obtain ⟨_, _, f1⟩ := hf 1 9 1 c1 rfl Tryz.zM rfl
    obtain ⟨_, _, f2⟩ := hf 2 9 2 c2 rfl Tryz.zM rfl
    obtain ⟨_, _, f3⟩ := hf 3 9 3 c3 rfl Tryz.zM rfl
    obtain ⟨_, _, f4⟩ := hf 4 9 4 c4 rfl Tryz.zM rfl
    obtain ⟨_, _, f5⟩ := hf 5 9 5 c5 rfl Tryz.zM rfl
    obtain ⟨x0, e0, _, s0⟩ := DataW.trod_string Tryz.underlying9 f0
    obtain ⟨x1, e1, _, s1⟩ := DataW.trod_string Tryz.underlying9 f1
    obtain ⟨x2, e2, _, s2⟩ := DataW.trod_string Tryz.underlying9 f2
    obtain ⟨x3, e3, _, s3⟩ := DataW.trod_string Tryz.underlying9 f3
    obtain ⟨x4, e4, _, s4⟩ := DataW.trod_string Tryz.underlying9 f4
    obtain ⟨x5, e5, _, s5⟩ := DataW.trod_string Tryz.underlying9 f5
    simp only [List.cons.injEq, and_true] at e0 e1 e2 e3 e4 e5
    subst e0 e1 e2 e3 e4 e5
    exact ⟨⟨x0, x1, x2, x3, x4, x5⟩, rfl, s0, s1, s2, s3, s4, s5⟩
theorem zna {fuel : Nat} {cs : List Value} {x : DataW H × List MemPlace} (h : DataW.trod enc Tryz.prog w base spare held fuel 23 cs = some x) :
    ∃ a cap ms, cs = [.slice a (List.length ms) cap] /\ qy w a ms := by
  obtain ⟨a, len, cap, rfl, hm, hr⟩ := zax Tryz.underlying23 Tryz.zkl (by omega) h
  rcases Nat.eq_zero_or_pos len with h0 | hp
  · subst h0
    exact ⟨a, cap, [], rfl, ⟨by simp [maxLen], fun i h => absurd h (by simp), fun h => absurd rfl h⟩⟩
  · obtain ⟨b, off, rfl, hb, hrow⟩ := hr hp
    have hf : ∀ i, i < len -> ∃ m : Mnd, m.Small /\ ∀ j, j < 6 -> w.cell? ⟨b, off + i * 6 + j, none⟩ = m.cells[j]? := by
      intro i hi
      obtain ⟨es, n, y, hel, hcell, hy⟩ := hrow i hi
      obtain ⟨m, rfl, hs⟩ := zoG hy
      exact ⟨m, hs, fun j hj => by rw [hcell j hj]; simp⟩
    obtain ⟨ms, hl, hms⟩ := zbG len hf
    exact ⟨_, cap, ms, by rw [hl], ⟨by omega, fun i hi => (hms i hi).1, fun _ => ⟨b, off, rfl, hb, fun i hi => (hms i hi).2⟩⟩⟩
end
end Go.Proofs.YtfpeplbmfbepcaaGreat

namespace Go.Proofs.YtfpeplbmfbepcaaGreat
open Go.ChangeShapes Go.WideShapes Go.ChangeAt Go.RowKit
theorem Tryz.zki : Tryz.prog.cellsOf 100 = 2 := by kernel_rfl
section
variable {H : Type} {enc : TypeId × Value -> H} {w : World} {base : Nat} {spare : Nat -> Bool} {held : Bool}
theorem zoZ {fuel : Nat} {cs : List Value} {x : DataW H × List MemPlace} (h : DataW.trod enc Tryz.prog w base spare held fuel 100 cs = some x) :
    ∃ m : Tm, cs = m.cells.toList /\ m.Small := by
  have hlen : cs.length = 2 := by
    obtain ⟨_, _, _, _, hl, _, _⟩ := DataW.trod_struct Tryz.underlying100 h
    rw [hl]; exact Tryz.zki
  match cs, hlen with
  | [c0, c1], _ =>
    have hf := jL Tryz.underlying100 h
    obtain ⟨_, _, f0⟩ := hf 0 9 0 c0 rfl Tryz.zM rfl
    obtain ⟨_, _, f1⟩ := hf 1 9 1 c1 rfl Tryz.zM rfl
    obtain ⟨x0, e0, _, s0⟩ := DataW.trod_string Tryz.underlying9 f0
    obtain ⟨x1, e1, _, s1⟩ := DataW.trod_string Tryz.underlying9 f1
    simp only [List.cons.injEq, and_true] at e0 e1
    subst e0 e1
    exact ⟨⟨x0, x1⟩, rfl, s0, s1⟩
theorem znW {fuel : Nat} {cs : List Value} {x : DataW H × List MemPlace} (h : DataW.trod enc Tryz.prog w base spare held fuel 24 cs = some x) :
    ∃ a cap ts, cs = [.slice a (List.length ts) cap] /\ jh w a ts := by
  obtain ⟨a, len, cap, rfl, hm, hr⟩ := zax Tryz.underlying24 Tryz.zki (by omega) h
  rcases Nat.eq_zero_or_pos len with h0 | hp
  · subst h0
    exact ⟨a, cap, [], rfl, ⟨by simp [maxLen], fun i h => absurd h (by simp), fun h => absurd rfl h⟩⟩
  · obtain ⟨b, off, rfl, hb, hrow⟩ := hr hp
    have hf : ∀ i, i < len -> ∃ m : Tm, m.Small /\ ∀ j, j < 2 -> w.cell? ⟨b, off + i * 2 + j, none⟩ = m.cells[j]? := by
      intro i hi
      obtain ⟨es, n, y, hel, hcell, hy⟩ := hrow i hi
      obtain ⟨m, rfl, hs⟩ := zoZ hy
      exact ⟨m, hs, fun j hj => by rw [hcell j hj]; simp⟩
    obtain ⟨ms, hl, hms⟩ := zbG len hf
    exact ⟨_, cap, ms, by rw [hl], ⟨by omega, fun i hi => (hms i hi).1, fun _ => ⟨b, off, rfl, hb, fun i hi => (hms i hi).2⟩⟩⟩
end
end Go.Proofs.YtfpeplbmfbepcaaGreat
