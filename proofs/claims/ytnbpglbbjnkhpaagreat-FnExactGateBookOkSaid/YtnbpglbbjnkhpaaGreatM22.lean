import Derived.Test.YtnbpglbbjnkhpaaGreatM21
import Derived.Test.YtnbpglbbjnkhpaaGreatM03
import Derived.Test.YtnbpglbbjnkhpaaGreatM04
import Derived.Test.YtnbpglbbjnkhpaaGreatM20
import Derived.WalkKit
namespace Go.Proofs.YtnbpglbbjnkhpaaGreat
structure Rl where
  vs : List Int
  kd : ByteArray
  tm : ByteArray
  px : ByteArray
structure Ac where
  vb : Int
  kd : ByteArray
  tm : ByteArray
  nm : ByteArray
namespace Gate
def jV (v : Int) : Bool := decide (1 <= v) && decide (v <= 5)
def yX (vs : List Int) (i : Nat) : Bool := jV (vs.getD i 0) && (decide (i = 0) || decide (vs.getD (i - 1) 0 < vs.getD i 0))
def qQ (vs : List Int) : Bool := decide (0 < vs.length) && up (yX vs) vs.length
def qB (r : Rl) : Bool := (r.kd.toList.isEmpty || zx r.kd) && (r.tm.toList.isEmpty || zx r.tm)
def zT (r : Rl) : Bool := qB r && (qQ r.vs && (decide (r.px.size <= 16) && yT r.px))
def begins (s p : ByteArray) : Bool := decide (p.size <= s.size) && ((s.extract 0 p.size).toList == p.toList)
def meets (ts : List Tm) (r : Rl) (kd tm nm : ByteArray) : Bool := (r.kd.toList.isEmpty || decide (r.kd = kd)) && ((r.tm.toList.isEmpty || under ts 4 tm r.tm) && begins nm r.px)
end Gate
end Go.Proofs.YtnbpglbbjnkhpaaGreat

namespace Go.Proofs.YtnbpglbbjnkhpaaGreat
open Go.RowKit
structure qp (w : World) (a : Option Addr) (vs : List Int) : Prop where
  len : vs.length <= maxLen
  cells : vs ≠ [] -> ∃ b off, a = some ⟨b, off, none⟩ /\ b < w.heap.size /\ ∀ i (h : i < vs.length), w.cell? ⟨b, off + i, none⟩ = some (.int .i64 vs[i])
theorem qp.mono {w w' : World} {a : Option Addr} {vs : List Int} (h : qp w a vs) (hb : Below w.heap.size w w') : qp w' a vs :=
  ⟨h.len, fun hne => by
    obtain ⟨b, off, ha, hbs, hc⟩ := h.cells hne
    exact ⟨b, off, ha, Nat.lt_of_lt_of_le hbs hb.size, fun i hi => (hb.cell (p := ⟨b, off + i, none⟩) hbs).trans (hc i hi)⟩⟩
theorem qp.load {w w' : World} {a : Option Addr} {vs : List Int} (h : qp w a vs) (hl : Below w.heap.size w w') (i : Nat) (hi : i < vs.length) : ∃ b off, a = some ⟨b, off, none⟩ /\ b < w.heap.size /\ w'.cell? ⟨b, off + i, none⟩ = some (.int .i64 vs[i]) := by
  obtain ⟨b, off, ha, hb, hc⟩ := h.cells (by rintro rfl; simp at hi)
  exact ⟨b, off, ha, hb, (hl.cell (p := ⟨b, off + i, none⟩) hb).trans (hc i hi)⟩
def za7 (vs : List Int) : Array Value := (vs.map (Value.int .i64)).toArray
def intCells (vs : List Int) (k : Nat) : Array Value := ((vs.take k).map (Value.int .i64) ++ List.replicate (vs.length - k) (Value.int .i64 0)).toArray
theorem zky (vs : List Int) (k : Nat) (h : k < vs.length) : (intCells vs k)[k]? = some (.int .i64 0) := by
  unfold intCells
  have hl : ((vs.take k).map (Value.int .i64)).length = k := by simp; omega
  rw [List.getElem?_toArray, List.getElem?_append_right (by omega), hl, Nat.sub_self]
  obtain ⟨m, hm⟩ : ∃ m, vs.length - k = m + 1 := ⟨vs.length - k - 1, by omega⟩
  rw [hm, List.replicate_succ]; rfl
theorem zjQ (vs : List Int) (k : Nat) (h : k < vs.length) : (intCells vs k).setIfInBounds k (.int .i64 vs[k]) = intCells vs (k + 1) := by
  unfold intCells
  rw [List.setIfInBounds_toArray, List.set_append_right _ _ (by simp; omega)]
  congr 1
  rw [List.take_succ_eq_append_getElem h, List.map_append, List.append_assoc]
  congr 1
  obtain ⟨m, hm⟩ : ∃ m, vs.length - k = m + 1 := ⟨vs.length - k - 1, by omega⟩
  rw [hm, show vs.length - (k + 1) = m by omega]
  have : k - ((vs.take k).map (Value.int .i64)).length = 0 := by simp; omega
  rw [this, List.replicate_succ]
  rfl
theorem zjo (vs : List Int) (k : Nat) (h : vs.length <= k) : intCells vs k = za7 vs := by
  unfold intCells za7
  rw [List.take_of_length_le h, show vs.length - k = 0 by omega]; simp
theorem zir (vs : List Int) : madeCells #[Value.int .i64 0] vs.length = intCells vs 0 := by
  apply Array.toList_inj.1
  rw [toList_madeCells_one]
  simp [intCells]
theorem zd7 {w : World} {bk : Nat} {vs : List Int} {t : TypeId} (h : w.heap[bk]? = some (.cells (za7 vs) t)) (hl : vs.length <= maxLen) : qp w (some ⟨bk, 0, none⟩) vs :=
  ⟨hl, fun _ => ⟨bk, 0, rfl, (Array.getElem?_eq_some_iff.1 h).1, fun i hi => by
    simp [World.cell?, h, za7, hi]⟩⟩
def Rl.cells (r : Rl) (a : Option Addr) (cap : Nat) : Array Value := #[.slice a r.vs.length cap, .string r.kd, .string r.tm, .string r.px]
def Ac.cells (x : Ac) : Array Value := #[.int .i64 x.vb, .string x.kd, .string x.tm, .string x.nm]
structure Rl.Small (r : Rl) : Prop where
  kd : r.kd.size <= maxLen
  tm : r.tm.size <= maxLen
  px : r.px.size <= maxLen
structure Ac.Small (r : Ac) : Prop where
  kd : r.kd.size <= maxLen
  tm : r.tm.size <= maxLen
  nm : r.nm.size <= maxLen
structure znV (w : World) (b off : Nat) (r : Rl) (a : Option Addr) (cap : Nat) : Prop where
  small : r.Small
  ints : qp w a r.vs
  cell : ∀ j, j < 4 -> w.cell? ⟨b, off + j, none⟩ = (r.cells a cap)[j]?
structure zf2 (w : World) (a : Option Addr) (rs : List Rl) : Prop where
  len : rs.length <= maxLen
  rows : rs ≠ [] -> ∃ b off, a = some ⟨b, off, none⟩ /\ b < w.heap.size /\ ∀ i (h : i < rs.length), ∃ va vcap, znV w b (off + i * 4) rs[i] va vcap
theorem znV.mono {w w' : World} {b off : Nat} {r : Rl} {a : Option Addr} {cap : Nat} (h : znV w b off r a cap) (hb : b < w.heap.size) (hl : Below w.heap.size w w') : znV w' b off r a cap :=
  ⟨h.small, h.ints.mono hl, fun j hj => (hl.cell (p := ⟨b, off + j, none⟩) hb).trans (h.cell j hj)⟩
theorem zf2.mono {w w' : World} {a : Option Addr} {rs : List Rl} (h : zf2 w a rs) (hl : Below w.heap.size w w') : zf2 w' a rs :=
  ⟨h.len, fun hne => by
    obtain ⟨b, off, ha, hb, hr⟩ := h.rows hne
    refine ⟨b, off, ha, Nat.lt_of_lt_of_le hb hl.size, fun i hi => ?_⟩
    obtain ⟨va, vcap, hf⟩ := hr i hi
    exact ⟨va, vcap, hf.mono hb hl⟩⟩
theorem zf2.load {w w' : World} {a : Option Addr} {rs : List Rl} (h : zf2 w a rs) (hl : Below w.heap.size w w') (i : Nat) (hi : i < rs.length) : ∃ b off va vcap, a = some ⟨b, off, none⟩ /\ b < w.heap.size /\ rs[i].Small /\ qp w' va rs[i].vs /\
    w'.cell? ⟨b, off + i * 4, none⟩ = some (.slice va rs[i].vs.length vcap) /\ w'.cell? ⟨b, off + i * 4 + 1, none⟩ = some (.string rs[i].kd) /\ w'.cell? ⟨b, off + i * 4 + 2, none⟩ = some (.string rs[i].tm) /\ w'.cell? ⟨b, off + i * 4 + 3, none⟩ = some (.string rs[i].px) := by
  obtain ⟨b, off, ha, hb, hr⟩ := h.rows (by rintro rfl; simp at hi)
  obtain ⟨va, vcap, hf0⟩ := hr i hi
  have hf := hf0.mono hb hl
  exact ⟨b, off, va, vcap, ha, hb, hf.small, hf.ints, hf.cell 0 (by omega), hf.cell 1 (by omega), hf.cell 2 (by omega), hf.cell 3 (by omega)⟩
def Rl.sz (r : Rl) : Nat := r.vs.length + r.kd.size + r.tm.size + r.px.size
def Ac.sz (r : Ac) : Nat := r.kd.size + r.tm.size + r.nm.size
def znP (w : World) (b o : Nat) (v0 v1 v2 v3 : Value) : World := (((w.setCell ⟨b, o, none⟩ v0).setCell ⟨b, o + 1, none⟩ v1).setCell ⟨b, o + 2, none⟩ v2).setCell ⟨b, o + 3, none⟩ v3
def zl2 (C : Array Value) (o : Nat) (v0 v1 v2 v3 : Value) : Array Value := (((C.setIfInBounds o v0).setIfInBounds (o + 1) v1).setIfInBounds (o + 2) v2).setIfInBounds (o + 3) v3
theorem zlh {w : World} {b o : Nat} {C : Array Value} {t : TypeId} (h : w.heap[b]? = some (.cells C t)) (v0 v1 v2 v3 : Value) : (znP w b o v0 v1 v2 v3).heap[b]? = some (.cells (zl2 C o v0 v1 v2 v3) t) :=
  zi (zi (zi (zi h v0) v1) v2) v3
theorem zI {w : World} {b o : Nat} {v : Value} {b' : Nat} (h : b' ≠ b) : (w.setCell ⟨b, o, none⟩ v).heap[b']? = w.heap[b']? := by
  simp only [World.setCell, Array.getElem?_modify]
  rw [if_neg (fun e => h (Eq.symm e))]
theorem zhn (w : World) (b o : Nat) (v0 v1 v2 v3 : Value) {b' : Nat} (h : b' ≠ b) : (znP w b o v0 v1 v2 v3).heap[b']? = w.heap[b']? := by
  unfold znP; rw [zI h, zI h, zI h, zI h]
theorem zmH (C : Array Value) (o : Nat) (v0 v1 v2 v3 : Value) : (zl2 C o v0 v1 v2 v3).size = C.size := by simp [zl2]
theorem zne (C : Array Value) (o i : Nat) (v0 v1 v2 v3 : Value) (h : i < o \/ o + 4 <= i) : (zl2 C o v0 v1 v2 v3)[i]? = C[i]? := by
  unfold zl2
  iterate 4 rw [Array.getElem?_setIfInBounds, if_neg (by omega)]
theorem znM (C : Array Value) (o j : Nat) (v0 v1 v2 v3 : Value) (hj : j < 4) (ho : o + 4 <= C.size) : (zl2 C o v0 v1 v2 v3)[o + j]? = (#[v0, v1, v2, v3] : Array Value)[j]? := by
  have hc : j = 0 \/ j = 1 \/ j = 2 \/ j = 3 := by omega
  unfold zl2
  rcases hc with h | h | h | h <;> subst h <;> simp [Array.getElem?_setIfInBounds] <;> omega
structure zdK (ty ti : TypeId) (lo : Nat) (w : World) (bo : Nat) (rs : List Rl) (k : Nat) : Prop where
  low : lo <= bo
  rows : ∃ C, w.heap[bo]? = some (.cells C ty) /\ C.size = rs.length * 4 /\
    ∀ i (h : i < rs.length), i < k -> ∃ bk, lo <= bk /\ bk ≠ bo /\ w.heap[bk]? = some (.cells (za7 rs[i].vs) ti) /\ ∀ j, j < 4 -> C[i * 4 + j]? = (rs[i].cells (some ⟨bk, 0, none⟩) rs[i].vs.length)[j]?
structure zlb (rs : List Rl) : Prop where
  small : ∀ i (h : i < rs.length), rs[i].Small /\ rs[i].vs.length <= maxLen
theorem zf2.smalls {w : World} {a : Option Addr} {rs : List Rl} (h : zf2 w a rs) : zlb rs :=
  ⟨fun i hi => by
    obtain ⟨_, _, _, _, _, _, h1, h2, _⟩ := h.load (Below.refl _ _) i hi
    exact ⟨h1, h2.len⟩⟩
theorem zdK.at {ty ti : TypeId} {lo : Nat} {w : World} {bo : Nat} {rs : List Rl} (h : zdK ty ti lo w bo rs rs.length) (hs : zlb rs) (hl : rs.length <= maxLen) : zf2 w (some ⟨bo, 0, none⟩) rs := by
  obtain ⟨C, hC, hsz, hr⟩ := h.rows
  refine ⟨hl, fun _ => ⟨bo, 0, rfl, (Array.getElem?_eq_some_iff.1 hC).1, fun i hi => ?_⟩⟩
  obtain ⟨bk, _, _, hk, hc⟩ := hr i hi hi
  obtain ⟨s1, s2⟩ := hs.small i hi
  refine ⟨some ⟨bk, 0, none⟩, rs[i].vs.length, s1, zd7 hk s2, fun j hj => ?_⟩
  rw [cell_of_block hC, Nat.zero_add]
  exact hc j hj
theorem zdK.later {ty ti : TypeId} {lo : Nat} {w w' : World} {bo : Nat} {rs : List Rl} {k : Nat} (h : zdK ty ti lo w bo rs k) (hb : Below w.heap.size w w') : zdK ty ti lo w' bo rs k := by
  obtain ⟨C, hC, hsz, hr⟩ := h.rows
  refine ⟨h.low, C, (hb.block bo (Array.getElem?_eq_some_iff.1 hC).1).trans hC, hsz, fun i hi hk => ?_⟩
  obtain ⟨bk, h1, h2, h3, h4⟩ := hr i hi hk
  exact ⟨bk, h1, h2, (hb.block bk (Array.getElem?_eq_some_iff.1 h3).1).trans h3, h4⟩
theorem zdK.put {ty ti : TypeId} {lo : Nat} {w : World} {bo : Nat} {rs : List Rl} {k : Nat} (h : zdK ty ti lo w bo rs k) (hk : k < rs.length) (bk : Nat) (h1 : lo <= bk) (h2 : bk ≠ bo) (h3 : w.heap[bk]? = some (.cells (za7 rs[k].vs) ti)) :
    zdK ty ti lo (znP w bo (k * 4) (.slice (some ⟨bk, 0, none⟩) rs[k].vs.length rs[k].vs.length) (.string rs[k].kd) (.string rs[k].tm) (.string rs[k].px)) bo rs (k + 1) := by
  obtain ⟨C, hC, hsz, hr⟩ := h.rows
  refine ⟨h.low, _, zlh hC _ _ _ _, by rw [zmH]; exact hsz, fun i hi hik => ?_⟩
  rcases Nat.lt_or_ge i k with hlt | hge
  · obtain ⟨bi, g1, g2, g3, g4⟩ := hr i hi hlt
    refine ⟨bi, g1, g2, by rw [zhn _ _ _ _ _ _ _ g2]; exact g3, fun j hj => ?_⟩
    rw [zne _ _ _ _ _ _ _ (by omega)]
    exact g4 j hj
  · have e : i = k := by omega
    subst e
    refine ⟨bk, h1, h2, by rw [zhn _ _ _ _ _ _ _ h2]; exact h3, fun j hj => ?_⟩
    rw [znM _ _ _ _ _ _ _ hj (by omega)]
    rfl
end Go.Proofs.YtnbpglbbjnkhpaaGreat

namespace Go.Proofs.YtnbpglbbjnkhpaaGreat
open Go.RowKit
structure Lw where
  ss : List Shp
  ms : List Mnd
  ts : List Tm
def Lw.cells (l : Lw) (a b c : Option Addr) (ca cb cc : Nat) : Array Value := #[.slice a l.ss.length ca, .slice b l.ms.length cb, .slice c l.ts.length cc]
structure qC (w : World) (l : Lw) (a b c : Option Addr) : Prop where
  ss : yG w a l.ss
  ms : yS w b l.ms
  ts : jc w c l.ts
theorem qC.mono {w w' : World} {l : Lw} {a b c : Option Addr} (h : qC w l a b c) (hb : Below w.heap.size w w') : qC w' l a b c := ⟨h.ss.mono hb, h.ms.mono hb, h.ts.mono hb⟩
def Lw.sz (l : Lw) : Nat := zan l.ss + zaU l.ms + zcj l.ts
structure Lw.Few (l : Lw) : Prop where
  ss : l.ss.length <= 1048576 /\ ∀ i (h : i < l.ss.length), l.ss[i].fs.length <= 1048576 /\ ∀ j (h' : j < l.ss[i].fs.length), l.ss[i].fs[j].ws.length <= 1048576
  ms : l.ms.length <= 1048576
  ts : l.ts.length <= 1048576
theorem Lw.few {l : Lw} (h : (l.sz : Int) <= 1048576) : l.Few := by
  unfold Lw.sz at h
  refine ⟨znE (by omega), ?_, ?_⟩
  · unfold zaU at h; omega
  · unfold zcj at h; omega
set_option maxHeartbeats 2000000 in
theorem ziB (l : Lw) (a b c : Option Addr) (ca cb cc : Nat) (left : Int) (w : World) (hl : qC w l a b c) (h0 : 0 <= left) (h1 : left <= 1048576) :
    Calls Tryz.prog 4 #[.agg (l.cells a b c ca cb cc), .int .i64 left] w fun e w' => e = .returned (.int .i64 (zL l.sz left)) /\ Below w.heap.size w w' := by
  have HL : Hid (qC w l a b c) := hl
  clear hl
  unfold Lw.cells
  go_enter Tryz.func4, Tryz.ntmps4
  go_wp2_with fail
  refine (zfR _ _ l.ss _ _ (HL.out.ss.mono ((Below.refl _ _).alloc (Nat.le_refl _) _)) h0 h1).mono ?_
  rintro e w1 ⟨rfl, hb⟩
  have hX1 := za (zl w #[.slice a l.ss.length ca, .slice b l.ms.length cb, .slice c l.ts.length cc] 26) (by simp) hb
  have hz1 : w.heap.size < w1.heap.size := by have := hb.size; simp at this; omega
  have hB1 : Below w.heap.size w w1 := ((Below.refl _ _).alloc (Nat.le_refl _) _).trans (hb.mono (by simp))
  clear hb
  by_cases c1 : (zan l.ss : Int) <= left
  rotate_left
  · have HF : Hid (zL l.sz left = -1) := zC (by unfold Lw.sz; omega)
    rw [zC c1]
    go_wp2_with fail
    go_ret
    exact ⟨zo HF.out.symm, hB1⟩
  rw [zM c1]
  go_wp2_with fail
  refine (zgE _ _ l.ms _ _ (HL.out.ms.mono hB1) (by omega) (by omega)).mono ?_
  rintro e w2 ⟨rfl, hb⟩
  have hX2 := za hX1 hz1 hb
  have hz2 := Nat.lt_of_lt_of_le hz1 hb.size
  have hB2 := hB1.trans (hb.mono hB1.size)
  clear hb hX1 hz1 hB1
  by_cases c2 : (zaU l.ms : Int) <= left - zan l.ss
  rotate_left
  · have HF : Hid (zL l.sz left = -1) := zC (by unfold Lw.sz; omega)
    rw [zC c2]
    go_wp2_with fail
    go_ret
    exact ⟨zo HF.out.symm, hB2⟩
  rw [zM c2]
  go_wp2_with fail
  refine (zgM _ _ l.ts _ _ (HL.out.ts.mono hB2) (by omega) (by omega)).mono ?_
  rintro e w3 ⟨rfl, hb⟩
  have hB3 := hB2.trans (hb.mono hB2.size)
  clear hb hX2 hz2 hB2
  by_cases c3 : (zcj l.ts : Int) <= left - zan l.ss - zaU l.ms
  rotate_left
  · have HF : Hid (zL l.sz left = -1) := zC (by unfold Lw.sz; omega)
    rw [zC c3]
    go_wp2_with fail
    go_ret
    exact ⟨zo HF.out.symm, hB3⟩
  have HF : Hid (zL l.sz left = left - zan l.ss - zaU l.ms - zcj l.ts) := by
    unfold Hid; rw [zM (by unfold Lw.sz; omega)]; unfold Lw.sz; omega
  rw [zM c3]
  go_wp2_with fail
  go_ret
  exact ⟨zo HF.out.symm, hB3⟩
set_option maxHeartbeats 1000000 in
theorem zim (l : Lw) (a b c a' b' c' : Option Addr) (ca cb cc ca' cb' cc' : Nat) (w : World) (hl : qC w l a b c) (hl' : qC w l a' b' c') :
    Calls Tryz.prog 10 #[.agg (l.cells a b c ca cb cc), .agg (l.cells a' b' c' ca' cb' cc')] w fun e w' => e = .returned (.bool true) /\ Below w.heap.size w w' := by
  unfold Lw.cells
  go_enter Tryz.func10, Tryz.ntmps10
  go_wp2_with fail
  refine (zfP _ _ _ _ l.ss _ (hl.ss.mono (zB _ _ _)) (hl'.ss.mono (zB _ _ _))).mono ?_
  rintro e w1 ⟨rfl, hb⟩
  have hX1 := za (za (zl w _ _) (by simp) ((Below.refl _ _).alloc (Nat.le_refl _) _)) (by simp; omega) hb
  have hY1 := za (zl (w.alloc (.cells #[.slice a l.ss.length ca, .slice b l.ms.length cb, .slice c l.ts.length cc] 40)) #[.slice a' l.ss.length ca', .slice b' l.ms.length cb', .slice c' l.ts.length cc'] 40) (by simp) hb
  have hz1 : w.heap.size + 1 < w1.heap.size := by have := hb.size; simp at this; omega
  have hB1 := (zB w _ _).trans (hb.mono (by simp; omega))
  rw [World.size_alloc] at hY1
  clear hb
  go_wp2_with fail
  refine (zgu _ _ _ _ l.ms _ (hl.ms.mono hB1) (hl'.ms.mono hB1)).mono ?_
  rintro e w2 ⟨rfl, hb⟩
  have hX2 := za hX1 (Nat.lt_of_succ_lt hz1) hb
  have hY2 := za hY1 hz1 hb
  have hz2 := Nat.lt_of_lt_of_le hz1 hb.size
  have hB2 := hB1.trans (hb.mono hB1.size)
  clear hb hX1 hY1 hz1 hB1
  go_wp2_with fail
  refine (zgv _ _ _ _ l.ts _ (hl.ts.mono hB2) (hl'.ts.mono hB2)).mono ?_
  rintro e w3 ⟨rfl, hb⟩
  have hB3 := hB2.trans (hb.mono hB2.size)
  clear hb hX2 hY2 hz2 hB2
  go_wp2_with fail
  go_ret
  exact ⟨rfl, hB3⟩
theorem below3' (w : World) (o o' o'' : Obj) : Below w.heap.size w (((w.alloc o).alloc o').alloc o'') := (((Below.refl _ _).alloc (Nat.le_refl _) _).alloc (by simp) _).alloc (by simp; omega) _
theorem zn2 (w : World) (o1 o2 o3 : Obj) : (((w.alloc o1).alloc o2).alloc o3).heap[w.heap.size]? = some o1 /\ (((w.alloc o1).alloc o2).alloc o3).heap[w.heap.size + 1]? = some o2 /\ (((w.alloc o1).alloc o2).alloc o3).heap[w.heap.size + 1 + 1]? = some o3 := by
  have h1 := (MapKept.heap_alloc w o1).1
  have h2 := (MapKept.heap_alloc (w.alloc o1) o2).1
  have h3 := (MapKept.heap_alloc ((w.alloc o1).alloc o2) o3).1
  simp only [World.size_alloc] at h2 h3
  exact ⟨(Below.heap_alloc _ _ _ (by simp; omega)).trans ((Below.heap_alloc _ _ _ (by simp)).trans h1), (Below.heap_alloc _ _ _ (by simp)).trans h2, h3⟩
structure yH (lo : Nat) (w w' : World) : Prop where
  size : w.heap.size <= w'.heap.size
  same : ∀ b, lo <= b -> b < w.heap.size -> w'.heap[b]? = w.heap[b]?
theorem yH.refl (lo : Nat) (w : World) : yH lo w w := ⟨Nat.le_refl _, fun _ _ _ => rfl⟩
theorem yH.trans {lo : Nat} {w w1 w2 : World} (h : yH lo w w1) (h' : yH lo w1 w2) : yH lo w w2 :=
  ⟨Nat.le_trans h.size h'.size, fun b h1 h2 => (h'.same b h1 (Nat.lt_of_lt_of_le h2 h.size)).trans (h.same b h1 h2)⟩
theorem yH.mono {lo lo' : Nat} {w w' : World} (h : yH lo w w') (hl : lo <= lo') : yH lo' w w' := ⟨h.size, fun b h1 h2 => h.same b (Nat.le_trans hl h1) h2⟩
theorem yH.below {lo : Nat} {w w' : World} (h : Below w.heap.size w w') : yH lo w w' := ⟨h.size, fun b _ h2 => h.block b h2⟩
theorem yH.setCell {lo : Nat} {w : World} {p : Addr} (hp : p.block < lo) (v : Value) : yH lo w (w.setCell p v) :=
  ⟨by rw [World.size_setCell]; exact Nat.le_refl _, fun b h1 _ => Below.heap_setCell _ _ _ _ (by omega)⟩
theorem qM.above {lo : Nat} {w w' : World} {bf : Nat} {fs : List Fld} {k : Nat} (h : qM lo w bf fs k) (ha : yH lo w w') : qM lo w' bf fs k := by
  obtain ⟨C, hC, hsz, hr⟩ := h.rows
  refine ⟨h.low, C, (ha.same _ h.low (Array.getElem?_eq_some_iff.1 hC).1).trans hC, hsz, fun i hi hk => ?_⟩
  obtain ⟨bk, h1, h2, h3, h4⟩ := hr i hi hk
  exact ⟨bk, h1, h2, (ha.same _ h1 (Array.getElem?_eq_some_iff.1 h3).1).trans h3, h4⟩
theorem jM.above {lo : Nat} {w w' : World} {bo : Nat} {ss : List Shp} {k : Nat} (h : jM lo w bo ss k) (ha : yH lo w w') : jM lo w' bo ss k := by
  obtain ⟨C, hC, hsz, hr⟩ := h.rows
  refine ⟨h.low, C, (ha.same _ h.low (Array.getElem?_eq_some_iff.1 hC).1).trans hC, hsz, fun i hi hk => ?_⟩
  obtain ⟨bf, h1, h2, h3, h4⟩ := hr i hi hk
  exact ⟨bf, h1, h2, h3.above (ha.mono (Nat.le_succ_of_le h.low)), h4⟩
theorem ji.above {lo : Nat} {w w' : World} {bo : Nat} {ms : List Mnd} {k : Nat} (h : ji lo w bo ms k) (ha : yH lo w w') : ji lo w' bo ms k := by
  obtain ⟨C, hC, hr⟩ := h.rows
  exact ⟨h.low, C, (ha.same _ h.low (Array.getElem?_eq_some_iff.1 hC).1).trans hC, hr⟩
theorem jX.above {ty : TypeId} {lo : Nat} {w w' : World} {bo : Nat} {ts : List Tm} {k : Nat} (h : jX ty lo w bo ts k) (ha : yH lo w w') : jX ty lo w' bo ts k := by
  obtain ⟨C, hC, hr⟩ := h.rows
  exact ⟨h.low, C, (ha.same _ h.low (Array.getElem?_eq_some_iff.1 hC).1).trans hC, hr⟩
structure zi2 (lo : Nat) (w : World) (l : Lw) (a b c : Nat) : Prop where
  ss : jM lo w a l.ss l.ss.length
  ms : ji lo w b l.ms l.ms.length
  ts : jX 131 lo w c l.ts l.ts.length
theorem zi2.above {lo : Nat} {w w' : World} {l : Lw} {a b c : Nat} (h : zi2 lo w l a b c) (ha : yH lo w w') : zi2 lo w' l a b c := ⟨h.ss.above ha, h.ms.above ha, h.ts.above ha⟩
structure Lw.Small (l : Lw) : Prop where
  ss : zcT l.ss
  ls : l.ss.length <= maxLen
  ms : ∀ i (h : i < l.ms.length), l.ms[i].Small
  lm : l.ms.length <= maxLen
  ts : ∀ i (h : i < l.ts.length), l.ts[i].Small
  lt : l.ts.length <= maxLen
theorem qC.small {w : World} {l : Lw} {a b c : Option Addr} (h : qC w l a b c) : l.Small := ⟨h.ss.smalls, h.ss.len, h.ms.small, h.ms.len, h.ts.small, h.ts.len⟩
theorem zi2.at {lo : Nat} {w : World} {l : Lw} {a b c : Nat} (h : zi2 lo w l a b c) (hs : l.Small) : qC w l (some ⟨a, 0, none⟩) (some ⟨b, 0, none⟩) (some ⟨c, 0, none⟩) := ⟨h.ss.at hs.ss hs.ls, h.ms.at hs.ms hs.lm, h.ts.at hs.ts hs.lt⟩
end Go.Proofs.YtnbpglbbjnkhpaaGreat

namespace Go.Proofs.YtnbpglbbjnkhpaaGreat
open Go.RowKit
end Go.Proofs.YtnbpglbbjnkhpaaGreat
