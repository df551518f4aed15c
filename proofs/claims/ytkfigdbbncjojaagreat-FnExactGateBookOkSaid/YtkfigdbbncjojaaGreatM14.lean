import Derived.Test.YtkfigdbbncjojaaGreatRows
import Derived.Test.YtkfigdbbncjojaaGreatM12
import Derived.Test.YtkfigdbbncjojaaGreatM01
import Derived.WalkKit
import Derived.WalkSpells
import Derived.WalkLawsBesides
import Derived.Deep.QuietTactic
import Derived.BigQuiet
import Derived.Deep.RegionWith
import Derived.Test.YtkfigdbbncjojaaGreatM05
import Derived.Test.YtkfigdbbncjojaaGreatM06
import Derived.Test.YtkfigdbbncjojaaGreatM11
namespace Go.Proofs.YtkfigdbbncjojaaGreat
open Go.RowKit
set_option maxHeartbeats 1000000 in
theorem zdi (m : Tm) (left : Int) (w : World) (hm : m.Small) (h0 : 0 <= left) (h1 : left <= 1048576) :
    Calls Tryz.prog 42 #[.agg m.cells, .int .i64 left] w fun e w' => e = .returned (.int .i64 (zF m.sz left)) /\ Below w.heap.size w w' := by
  have k1 := hm.nm
  have k2 := hm.ov
  unfold maxLen at k1 k2
  unfold Tm.cells
  have hB : ∀ ob, Below w.heap.size w (w.alloc ob) := fun ob => (Below.refl _ _).alloc (Nat.le_refl _) _
  by_cases hf : (m.sz : Int) <= left
  · have HF : Hid (zF m.sz left = left - m.nm.size - m.ov.size) := by
      unfold Hid; rw [zG hf]; unfold Tm.sz; omega
    unfold Tm.sz at hf
    go_enter Tryz.func42, Tryz.ntmps42
    go_wp2_with fail
    go_ret
    exact ⟨zk HF.out.symm, hB _⟩
  · have HF : Hid (zF m.sz left = -1) := zx hf
    have HN : Hid (¬ ((m.nm.size + m.ov.size : Nat) : Int) <= left) := hf
    clear hf
    go_enter Tryz.func42, Tryz.ntmps42
    go_wp2_with fail
    all_goals go_ret
    all_goals first | exact ⟨zk HF.out.symm, hB _⟩ | (exfalso; have := HN.out; simp at *; omega)
theorem zgF (m : Tm) (left : Int) (w : World) (hm : m.Small) (h0 : 0 <= left) (h1 : left <= 1048576) (h : (m.sz : Int) <= left) :
    Calls Tryz.prog 42 #[.agg m.cells, .int .i64 left] w fun e w' => e = .returned (.int .i64 (left - m.sz)) /\ Below w.heap.size w w' := by
  refine (zdi m left w hm h0 h1).mono ?_
  rintro e w' ⟨rfl, hb⟩
  exact ⟨zk (zG h), hb⟩
theorem zif (m : Tm) (left : Int) (w : World) (hm : m.Small) (h0 : 0 <= left) (h1 : left <= 1048576) (h : ¬ (m.sz : Int) <= left) :
    Calls Tryz.prog 42 #[.agg m.cells, .int .i64 left] w fun e w' => e = .returned (.int .i64 (-1)) /\ Below w.heap.size w w' := by
  refine (zdi m left w hm h0 h1).mono ?_
  rintro e w' ⟨rfl, hb⟩
  exact ⟨zk (zx h), hb⟩
set_option maxHeartbeats 1000000 in
theorem zgh (a : Option Addr) (cap : Nat) (ts : List Tm) (left : Int) (w : World) (hw : qP w a ts) (h0 : 0 <= left) (h1 : left <= 1048576) :
    Calls Tryz.prog 14 #[.slice a ts.length cap, .int .i64 left] w fun e w' => e = .returned (.int .i64 (zF (zbQ ts) left)) /\ Below w.heap.size w w' := by
  have hl := hw.len
  unfold maxLen at hl
  by_cases hfit : (ts.length : Int) <= left
  · go_enter Tryz.func14, Tryz.ntmps14
    go_wp2_with fail
    go_loopw [1, 5] (fun l i wr => ∃ k : Nat, k <= ts.length /\ i = .int .i64 k /\ 0 <= left - ts.length - zgj (ts.take k) /\ l = .int .i64 (left - ts.length - zgj (ts.take k)) /\ Below w.heap.size w wr) (fun _ i _ => ts.length - (intOf i).toNat)
    case atStart => exact ⟨0, Nat.zero_le _, rfl, by simp [zgj]; omega, by simp [zgj], Below.refl _ _⟩
    case round =>
      obtain ⟨k, hk, rfl, hpos, rfl, hB⟩ := hrel
      by_cases hlt : k < ts.length
      · obtain ⟨b, off, rfl, hb, c0, c1⟩ := hw.load hB k hlt
        have hsm := hw.small k hlt
        have HS : Hid (zgj (ts.take (k + 1)) = zgj (ts.take k) + ts[k].sz) := zad Tm.sz ts k hlt
        have hle : zgj (ts.take (k + 1)) <= zgj ts := zbE Tm.sz ts (k + 1)
        clear hw
        by_cases hneg : (ts[k].sz : Int) <= left - ts.length - zgj (ts.take k)
        · have HNG : Hid ((ts[k].sz : Int) <= left - ts.length - zgj (ts.take k)) := hneg
          clear hle
          go_wp2_with fail
          refine (zgF _ _ _ hsm hpos (by omega) HNG.out).mono ?_
          rintro e w1 ⟨rfl, hb1⟩
          have hB1 := hB.trans (hb1.mono hB.size)
          clear hb1
          go_wp2_with fail
          exact ⟨⟨k + 1, by omega, by go_num, by rw [HS.out]; omega, by rw [HS.out]; congr 1; omega, hB1⟩, by simp [intOf]; omega⟩
        · have HF : Hid (zF (zbQ ts) left = -1) := zx (by have := HS.out; unfold zbQ; omega)
          have HNG := hid hneg
          clear hneg hle
          go_wp2_with fail
          refine (zif _ _ _ hsm hpos (by omega) (by have := HNG.out; omega)).mono ?_
          rintro e w1 ⟨rfl, hb1⟩
          have hB1 := hB.trans (hb1.mono hB.size)
          clear hb1
          go_wp2_with fail
          go_ret
          exact ⟨zk HF.out.symm, hB1⟩
      · have HF : Hid (zF (zbQ ts) left = left - ts.length - zgj (ts.take k)) := by
          rw [List.take_of_length_le (by omega)] at hpos ⊢
          have e : zF (zbQ ts) left = left - zbQ ts := zG (by unfold zbQ; omega)
          unfold Hid; rw [e]; unfold zbQ; omega
        clear hw
        go_wp2
        go_ret
        exact ⟨zk HF.out.symm, hB⟩
  · have HF : Hid (zF (zbQ ts) left = -1) := zx (by unfold zbQ; omega)
    clear hw
    go_enter Tryz.func14, Tryz.ntmps14
    go_wp2
    go_ret
    exact ⟨zk HF.out.symm, Below.refl _ _⟩
theorem zhE (m : Tm) (w : World) : Calls Tryz.prog 79 #[.agg m.cells, .agg m.cells] w fun e w' => e = .returned (.bool true) /\ Below w.heap.size w w' := by
  unfold Tm.cells
  go_enter Tryz.func79, Tryz.ntmps79
  go_wp2_with fail
  go_ret
  exact ⟨rfl, zq _ _ _⟩
set_option maxHeartbeats 2000000 in
theorem zgs (a a' : Option Addr) (cap cap' : Nat) (ts : List Tm) (w : World) (hw : qP w a ts) (hw' : qP w a' ts) :
    Calls Tryz.prog 35 #[.slice a ts.length cap, .slice a' ts.length cap'] w fun e w' => e = .returned (.bool true) /\ Below w.heap.size w w' := by
  have hl := hw.len
  unfold maxLen at hl
  have hnn : ((ts.length : Int) != ts.length) = false := by simp
  go_enter Tryz.func35, Tryz.ntmps35
  go_wp2_with fail
  go_loopw [5] (fun i wr => ∃ k : Nat, k <= ts.length /\ i = .int .i64 k /\ Below w.heap.size w wr) (fun i _ => ts.length - (intOf i).toNat)
  case atStart => exact ⟨0, Nat.zero_le _, rfl, Below.refl _ _⟩
  case round =>
    obtain ⟨k, hk, rfl, hB⟩ := hrel
    by_cases hlt : k < ts.length
    · obtain ⟨b, off, rfl, hb, c0, c1⟩ := hw.load hB k hlt
      obtain ⟨b', off', rfl, hb', d0, d1⟩ := hw'.load hB k hlt
      have hltI : (k : Int) < (ts.length : Int) := by omega
      clear hw hw'
      go_wp2_with fail
      go_region_with (go_at_call 79; refine (zhE ts[k] _).mono ?_; rintro e w1 ⟨rfl, hb1'⟩; have hb1 := (Below.refl wr.heap.size wr).drew.trans hb1'; clear hb1')
      all_goals go_wp2_with fail
      all_goals exact ⟨⟨k + 1, by omega, by go_num, hB.trans (hb1.mono hB.size)⟩, by simp [intOf]; omega⟩
    · clear hw hw'
      go_wp2_with fail
      go_ret
      exact ⟨rfl, hB⟩
set_option maxHeartbeats 1000000 in
theorem zhL (m : Tm) (w : World) :
    Calls Tryz.prog 64 #[.agg m.cells] w fun e w' => e = .returned (.agg m.cells) /\ Below w.heap.size w w' := by
  unfold Tm.cells
  go_enter Tryz.func64, Tryz.ntmps64
  go_wp2_with fail
  refine bodyPost_ret (v := .agg #[.string m.nm, .string m.ov]) (by simp [results, Tryz.results64, go_sem]) rfl ⟨rfl, ?_⟩
  exact ((((Below.refl _ _).alloc (Nat.le_refl _) _).alloc (by simp) _).alloc (by simp; omega) _)
set_option maxHeartbeats 2000000 in
theorem zfT (a : Option Addr) (cap : Nat) (ts : List Tm) (w : World) (hw : qP w a ts) (hl : ts.length <= 1048576) :
    Calls Tryz.prog 26 #[.slice a ts.length cap] w fun e w' => e = .returned (.slice (some ⟨w.heap.size, 0, none⟩) ts.length ts.length) /\ jI 131 w.heap.size w' w.heap.size ts ts.length /\ Below w.heap.size w w' := by
  have hmk : ∀ w : World, (Instr.makeSlice 38 (.int .i64 ts.length) (.int .i64 ts.length)).run Tryz.prog w = .ok (.slice (some ⟨w.heap.size, 0, none⟩) ts.length ts.length) (w.alloc (.cells (zl6 ts.length) 131)) :=
    fun w => qG (P := Tryz.prog) 38 131 (.agg znb) 2 32 Tryz.underlying38 (by kernel_rfl) ts.length (by omega) (by omega) w
  go_enter Tryz.func26, Tryz.ntmps26
  go_wp2_with fail
  clear hmk
  go_loopw [4] (fun i wr => ∃ k : Nat, k <= ts.length /\ i = .int .i64 k /\ jI 131 w.heap.size wr w.heap.size ts k /\ Below w.heap.size w wr) (fun i _ => ts.length - (intOf i).toNat)
  case atStart => exact ⟨0, Nat.zero_le _, rfl, ⟨Nat.le_refl _, zl6 ts.length, (MapKept.heap_alloc w _).1, size_madeCells _ _, fun i _ h => absurd h (by omega)⟩, (Below.refl _ _).alloc (Nat.le_refl _) _⟩
  case round =>
    obtain ⟨k, hk, rfl, hown, hB⟩ := hrel
    by_cases hlt : k < ts.length
    · obtain ⟨b, off, rfl, hb, c0, c1⟩ := hw.load hB k hlt
      have hltI : (k : Int) < (ts.length : Int) := by omega
      clear hw
      go_wp2_with fail
      refine (zhL ts[k] _).mono ?_
      rintro e w1 ⟨rfl, hb1⟩
      have hB1 := hB.trans (hb1.mono hB.size)
      have hown1 := hown.later hb1
      have hbo : w.heap.size < wr.heap.size := by
        obtain ⟨C', hC', _⟩ := hown.rows
        exact (Array.getElem?_eq_some_iff.1 hC').1
      obtain ⟨C, hC, hsz, _⟩ := hown1.rows
      have hfz : ∀ o, w1.frozen? ⟨w.heap.size, o, none⟩ = false := fun o => zi hC
      have hex : ∀ o, o < ts.length * 2 -> ∃ v, w1.cell? ⟨w.heap.size, o, none⟩ = some v := fun o ho => ⟨C[o]'(by omega), by rw [cell_of_block hC]; exact Array.getElem?_eq_getElem (by omega)⟩
      obtain ⟨v0, hv0⟩ := hex (k * 2) (by omega)
      obtain ⟨v1, hv1⟩ := hex (k * 2 + 1) (by omega)
      have HP := hid hown1
      clear hex hC hsz c0 c1 hown hown1
      unfold Tm.cells
      go_wp2_with fail
      exact ⟨⟨k + 1, by omega, by go_num, HP.out.put hlt, zla hB1 (Nat.le_refl _) _ _ _⟩, by simp [intOf]; omega⟩
    · have HF : Hid (jI 131 w.heap.size wr w.heap.size ts ts.length) := by
        have e : k = ts.length := by omega
        subst e; exact hown
      clear hw hown
      go_wp2_with fail
      go_ret
      exact ⟨rfl, HF.out, hB⟩
end Go.Proofs.YtkfigdbbncjojaaGreat

namespace Go.Proofs.YtkfigdbbncjojaaGreat
open Go.RowKit
structure yQ (w : World) (a : Option Addr) (vs : List Int) : Prop where
  len : vs.length <= maxLen
  cells : vs ≠ [] -> ∃ b off, a = some ⟨b, off, none⟩ /\ b < w.heap.size /\ ∀ i (h : i < vs.length), w.cell? ⟨b, off + i, none⟩ = some (.int .i64 vs[i])
theorem yQ.mono {w w' : World} {a : Option Addr} {vs : List Int} (h : yQ w a vs) (hb : Below w.heap.size w w') : yQ w' a vs :=
  ⟨h.len, fun hne => by
    obtain ⟨b, off, ha, hbs, hc⟩ := h.cells hne
    exact ⟨b, off, ha, Nat.lt_of_lt_of_le hbs hb.size, fun i hi => (hb.cell (p := ⟨b, off + i, none⟩) hbs).trans (hc i hi)⟩⟩
theorem yQ.load {w w' : World} {a : Option Addr} {vs : List Int} (h : yQ w a vs) (hl : Below w.heap.size w w') (i : Nat) (hi : i < vs.length) : ∃ b off, a = some ⟨b, off, none⟩ /\ b < w.heap.size /\ w'.cell? ⟨b, off + i, none⟩ = some (.int .i64 vs[i]) := by
  obtain ⟨b, off, ha, hb, hc⟩ := h.cells (by rintro rfl; simp at hi)
  exact ⟨b, off, ha, hb, (hl.cell (p := ⟨b, off + i, none⟩) hb).trans (hc i hi)⟩
def zbb (vs : List Int) : Array Value := (vs.map (Value.int .i64)).toArray
def intCells (vs : List Int) (k : Nat) : Array Value := ((vs.take k).map (Value.int .i64) ++ List.replicate (vs.length - k) (Value.int .i64 0)).toArray
theorem zjZ (vs : List Int) (k : Nat) (h : k < vs.length) : (intCells vs k)[k]? = some (.int .i64 0) := by
  unfold intCells
  have hl : ((vs.take k).map (Value.int .i64)).length = k := by simp; omega
  rw [List.getElem?_toArray, List.getElem?_append_right (by omega), hl, Nat.sub_self]
  obtain ⟨m, hm⟩ : ∃ m, vs.length - k = m + 1 := ⟨vs.length - k - 1, by omega⟩
  rw [hm, List.replicate_succ]; rfl
theorem zi6 (vs : List Int) (k : Nat) (h : k < vs.length) : (intCells vs k).setIfInBounds k (.int .i64 vs[k]) = intCells vs (k + 1) := by
  unfold intCells
  rw [List.setIfInBounds_toArray, List.set_append_right _ _ (by simp; omega)]
  congr 1
  rw [List.take_succ_eq_append_getElem h, List.map_append, List.append_assoc]
  congr 1
  obtain ⟨m, hm⟩ : ∃ m, vs.length - k = m + 1 := ⟨vs.length - k - 1, by omega⟩
  rw [hm, show vs.length - (k + 1) = m by omega]
  have : k - ((vs.take k).map (Value.int .i64)).length = 0 := by simp; omega
  rw [this, List.replicate_succ]
  rfl
theorem zjR (vs : List Int) (k : Nat) (h : vs.length <= k) : intCells vs k = zbb vs := by
  unfold intCells zbb
  rw [List.take_of_length_le h, show vs.length - k = 0 by omega]; simp
theorem zh2 (vs : List Int) : madeCells #[Value.int .i64 0] vs.length = intCells vs 0 := by
  apply Array.toList_inj.1
  rw [toList_madeCells_one]
  simp [intCells]
theorem zdw {w : World} {bk : Nat} {vs : List Int} {t : TypeId} (h : w.heap[bk]? = some (.cells (zbb vs) t)) (hl : vs.length <= maxLen) : yQ w (some ⟨bk, 0, none⟩) vs :=
  ⟨hl, fun _ => ⟨bk, 0, rfl, (Array.getElem?_eq_some_iff.1 h).1, fun i hi => by
    simp [World.cell?, h, zbb, hi]⟩⟩
def Rl.cells (r : Rl) (a : Option Addr) (cap : Nat) : Array Value := #[.slice a r.vs.length cap, .string r.kd, .string r.tm, .string r.px]
def Ac.cells (x : Ac) : Array Value := #[.int .i64 x.vb, .string x.kd, .string x.tm, .string x.nm]
structure Rl.Small (r : Rl) : Prop where
  kd : r.kd.size <= maxLen
  tm : r.tm.size <= maxLen
  px : r.px.size <= maxLen
structure Ac.Small (r : Ac) : Prop where
  kd : r.kd.size <= maxLen
  tm : r.tm.size <= maxLen
  nm : r.nm.size <= maxLen
structure znU (w : World) (b off : Nat) (r : Rl) (a : Option Addr) (cap : Nat) : Prop where
  small : r.Small
  ints : yQ w a r.vs
  cell : ∀ j, j < 4 -> w.cell? ⟨b, off + j, none⟩ = (r.cells a cap)[j]?
structure zfK (w : World) (a : Option Addr) (rs : List Rl) : Prop where
  len : rs.length <= maxLen
  rows : rs ≠ [] -> ∃ b off, a = some ⟨b, off, none⟩ /\ b < w.heap.size /\ ∀ i (h : i < rs.length), ∃ va vcap, znU w b (off + i * 4) rs[i] va vcap
theorem znU.mono {w w' : World} {b off : Nat} {r : Rl} {a : Option Addr} {cap : Nat} (h : znU w b off r a cap) (hb : b < w.heap.size) (hl : Below w.heap.size w w') : znU w' b off r a cap :=
  ⟨h.small, h.ints.mono hl, fun j hj => (hl.cell (p := ⟨b, off + j, none⟩) hb).trans (h.cell j hj)⟩
theorem zfK.mono {w w' : World} {a : Option Addr} {rs : List Rl} (h : zfK w a rs) (hl : Below w.heap.size w w') : zfK w' a rs :=
  ⟨h.len, fun hne => by
    obtain ⟨b, off, ha, hb, hr⟩ := h.rows hne
    refine ⟨b, off, ha, Nat.lt_of_lt_of_le hb hl.size, fun i hi => ?_⟩
    obtain ⟨va, vcap, hf⟩ := hr i hi
    exact ⟨va, vcap, hf.mono hb hl⟩⟩
theorem zfK.load {w w' : World} {a : Option Addr} {rs : List Rl} (h : zfK w a rs) (hl : Below w.heap.size w w') (i : Nat) (hi : i < rs.length) : ∃ b off va vcap, a = some ⟨b, off, none⟩ /\ b < w.heap.size /\ rs[i].Small /\ yQ w' va rs[i].vs /\
    w'.cell? ⟨b, off + i * 4, none⟩ = some (.slice va rs[i].vs.length vcap) /\ w'.cell? ⟨b, off + i * 4 + 1, none⟩ = some (.string rs[i].kd) /\ w'.cell? ⟨b, off + i * 4 + 2, none⟩ = some (.string rs[i].tm) /\ w'.cell? ⟨b, off + i * 4 + 3, none⟩ = some (.string rs[i].px) := by
  obtain ⟨b, off, ha, hb, hr⟩ := h.rows (by rintro rfl; simp at hi)
  obtain ⟨va, vcap, hf0⟩ := hr i hi
  have hf := hf0.mono hb hl
  exact ⟨b, off, va, vcap, ha, hb, hf.small, hf.ints, hf.cell 0 (by omega), hf.cell 1 (by omega), hf.cell 2 (by omega), hf.cell 3 (by omega)⟩
def Rl.sz (r : Rl) : Nat := r.vs.length + r.kd.size + r.tm.size + r.px.size
def Ac.sz (r : Ac) : Nat := r.kd.size + r.tm.size + r.nm.size
def znL (w : World) (b o : Nat) (v0 v1 v2 v3 : Value) : World := (((w.setCell ⟨b, o, none⟩ v0).setCell ⟨b, o + 1, none⟩ v1).setCell ⟨b, o + 2, none⟩ v2).setCell ⟨b, o + 3, none⟩ v3
def zlp (C : Array Value) (o : Nat) (v0 v1 v2 v3 : Value) : Array Value := (((C.setIfInBounds o v0).setIfInBounds (o + 1) v1).setIfInBounds (o + 2) v2).setIfInBounds (o + 3) v3
theorem zls {w : World} {b o : Nat} {C : Array Value} {t : TypeId} (h : w.heap[b]? = some (.cells C t)) (v0 v1 v2 v3 : Value) : (znL w b o v0 v1 v2 v3).heap[b]? = some (.cells (zlp C o v0 v1 v2 v3) t) :=
  zf (zf (zf (zf h v0) v1) v2) v3
theorem zA {w : World} {b o : Nat} {v : Value} {b' : Nat} (h : b' ≠ b) : (w.setCell ⟨b, o, none⟩ v).heap[b']? = w.heap[b']? := by
  simp only [World.setCell, Array.getElem?_modify]
  rw [if_neg (fun e => h (Eq.symm e))]
theorem zgM (w : World) (b o : Nat) (v0 v1 v2 v3 : Value) {b' : Nat} (h : b' ≠ b) : (znL w b o v0 v1 v2 v3).heap[b']? = w.heap[b']? := by
  unfold znL; rw [zA h, zA h, zA h, zA h]
theorem zmj (C : Array Value) (o : Nat) (v0 v1 v2 v3 : Value) : (zlp C o v0 v1 v2 v3).size = C.size := by simp [zlp]
theorem zny (C : Array Value) (o i : Nat) (v0 v1 v2 v3 : Value) (h : i < o \/ o + 4 <= i) : (zlp C o v0 v1 v2 v3)[i]? = C[i]? := by
  unfold zlp
  iterate 4 rw [Array.getElem?_setIfInBounds, if_neg (by omega)]
theorem znK (C : Array Value) (o j : Nat) (v0 v1 v2 v3 : Value) (hj : j < 4) (ho : o + 4 <= C.size) : (zlp C o v0 v1 v2 v3)[o + j]? = (#[v0, v1, v2, v3] : Array Value)[j]? := by
  have hc : j = 0 \/ j = 1 \/ j = 2 \/ j = 3 := by omega
  unfold zlp
  rcases hc with h | h | h | h <;> subst h <;> simp [Array.getElem?_setIfInBounds] <;> omega
structure zc5 (ty ti : TypeId) (lo : Nat) (w : World) (bo : Nat) (rs : List Rl) (k : Nat) : Prop where
  low : lo <= bo
  rows : ∃ C, w.heap[bo]? = some (.cells C ty) /\ C.size = rs.length * 4 /\
    ∀ i (h : i < rs.length), i < k -> ∃ bk, lo <= bk /\ bk ≠ bo /\ w.heap[bk]? = some (.cells (zbb rs[i].vs) ti) /\ ∀ j, j < 4 -> C[i * 4 + j]? = (rs[i].cells (some ⟨bk, 0, none⟩) rs[i].vs.length)[j]?
structure zkw (rs : List Rl) : Prop where
  small : ∀ i (h : i < rs.length), rs[i].Small /\ rs[i].vs.length <= maxLen
theorem zfK.smalls {w : World} {a : Option Addr} {rs : List Rl} (h : zfK w a rs) : zkw rs :=
  ⟨fun i hi => by
    obtain ⟨_, _, _, _, _, _, h1, h2, _⟩ := h.load (Below.refl _ _) i hi
    exact ⟨h1, h2.len⟩⟩
theorem zc5.at {ty ti : TypeId} {lo : Nat} {w : World} {bo : Nat} {rs : List Rl} (h : zc5 ty ti lo w bo rs rs.length) (hs : zkw rs) (hl : rs.length <= maxLen) : zfK w (some ⟨bo, 0, none⟩) rs := by
  obtain ⟨C, hC, hsz, hr⟩ := h.rows
  refine ⟨hl, fun _ => ⟨bo, 0, rfl, (Array.getElem?_eq_some_iff.1 hC).1, fun i hi => ?_⟩⟩
  obtain ⟨bk, _, _, hk, hc⟩ := hr i hi hi
  obtain ⟨s1, s2⟩ := hs.small i hi
  refine ⟨some ⟨bk, 0, none⟩, rs[i].vs.length, s1, zdw hk s2, fun j hj => ?_⟩
  rw [cell_of_block hC, Nat.zero_add]
  exact hc j hj
theorem zc5.later {ty ti : TypeId} {lo : Nat} {w w' : World} {bo : Nat} {rs : List Rl} {k : Nat} (h : zc5 ty ti lo w bo rs k) (hb : Below w.heap.size w w') : zc5 ty ti lo w' bo rs k := by
  obtain ⟨C, hC, hsz, hr⟩ := h.rows
  refine ⟨h.low, C, (hb.block bo (Array.getElem?_eq_some_iff.1 hC).1).trans hC, hsz, fun i hi hk => ?_⟩
  obtain ⟨bk, h1, h2, h3, h4⟩ := hr i hi hk
  exact ⟨bk, h1, h2, (hb.block bk (Array.getElem?_eq_some_iff.1 h3).1).trans h3, h4⟩
theorem zc5.put {ty ti : TypeId} {lo : Nat} {w : World} {bo : Nat} {rs : List Rl} {k : Nat} (h : zc5 ty ti lo w bo rs k) (hk : k < rs.length) (bk : Nat) (h1 : lo <= bk) (h2 : bk ≠ bo) (h3 : w.heap[bk]? = some (.cells (zbb rs[k].vs) ti)) :
    zc5 ty ti lo (znL w bo (k * 4) (.slice (some ⟨bk, 0, none⟩) rs[k].vs.length rs[k].vs.length) (.string rs[k].kd) (.string rs[k].tm) (.string rs[k].px)) bo rs (k + 1) := by
  obtain ⟨C, hC, hsz, hr⟩ := h.rows
  refine ⟨h.low, _, zls hC _ _ _ _, by rw [zmj]; exact hsz, fun i hi hik => ?_⟩
  rcases Nat.lt_or_ge i k with hlt | hge
  · obtain ⟨bi, g1, g2, g3, g4⟩ := hr i hi hlt
    refine ⟨bi, g1, g2, by rw [zgM _ _ _ _ _ _ _ g2]; exact g3, fun j hj => ?_⟩
    rw [zny _ _ _ _ _ _ _ (by omega)]
    exact g4 j hj
  · have e : i = k := by omega
    subst e
    refine ⟨bk, h1, h2, by rw [zgM _ _ _ _ _ _ _ h2]; exact h3, fun j hj => ?_⟩
    rw [znK _ _ _ _ _ _ _ hj (by omega)]
    rfl
theorem znB (w : World) (o1 : Obj) (X : Array Value) (t : TypeId) : ∀ o, ((w.alloc o1).alloc (.cells X t)).cell? ⟨w.heap.size + 1, o, none⟩ = X[o]? := by
  intro o
  have h := zH (w.alloc o1) X t o
  have e : (w.alloc o1).heap.size = w.heap.size + 1 := by simp
  rw [e] at h; exact h
end Go.Proofs.YtkfigdbbncjojaaGreat

namespace Go.Proofs.YtkfigdbbncjojaaGreat
open Go.RowKit
def zce (o : Ob) : Nat := o.kd.size + o.nm.size + o.tm.size + yX o.vs + yX o.hs
set_option maxHeartbeats 2000000 in
theorem zeS (o : Ob) (a a' : Option Addr) (cap cap' : Nat) (left : Int) (w : World) (ho : qQ w o a a') (h0 : 0 <= left) (h1 : left <= 1048576) :
    Calls Tryz.prog 43 #[.agg (oC o a a' cap cap'), .int .i64 left] w fun e w' => e = .returned (.int .i64 (zF (zce o) left)) /\ Below w.heap.size w w' := by
  have hkd := ho.small.kd
  have hnm := ho.small.nm
  have htm := ho.small.tm
  have hv := ho.vals
  have hh := ho.holds
  clear ho
  unfold maxLen at hkd hnm htm
  by_cases c1 : (o.kd.size : Int) <= left
  rotate_left
  · have HF : Hid (zF (zce o) left = -1) := zx (by unfold zce; omega)
    go_enter Tryz.func43, Tryz.ntmps43
    go_wp2_with fail
    go_ret
    exact ⟨zk HF.out.symm, (Below.refl _ _).alloc (Nat.le_refl _) _⟩
  by_cases c2 : (o.nm.size : Int) <= left - o.kd.size
  rotate_left
  · have HF : Hid (zF (zce o) left = -1) := zx (by unfold zce; omega)
    go_enter Tryz.func43, Tryz.ntmps43
    go_wp2_with fail
    go_ret
    exact ⟨zk HF.out.symm, (Below.refl _ _).alloc (Nat.le_refl _) _⟩
  by_cases c3 : (o.tm.size : Int) <= left - o.kd.size - o.nm.size
  rotate_left
  · have HF : Hid (zF (zce o) left = -1) := zx (by unfold zce; omega)
    go_enter Tryz.func43, Tryz.ntmps43
    go_wp2_with fail
    go_ret
    exact ⟨zk HF.out.symm, (Below.refl _ _).alloc (Nat.le_refl _) _⟩
  by_cases c4 : (yX o.vs : Int) <= left - o.kd.size - o.nm.size - o.tm.size
  rotate_left
  · have HF : Hid (zF (zce o) left = -1) := zx (by unfold zce; omega)
    go_enter Tryz.func43, Tryz.ntmps43
    go_wp2_with fail
    refine (zcO _ _ _ _ _ (hv.mono ((Below.refl _ _).alloc (Nat.le_refl _) _)) (by omega) (by omega) (by omega)).mono ?_
    rintro e w1 ⟨rfl, rfl⟩
    go_wp2_with fail
    go_ret
    exact ⟨zk HF.out.symm, (Below.refl _ _).alloc (Nat.le_refl _) _⟩
  by_cases c5 : (yX o.hs : Int) <= left - o.kd.size - o.nm.size - o.tm.size - yX o.vs
  rotate_left
  · have HF : Hid (zF (zce o) left = -1) := zx (by unfold zce; omega)
    go_enter Tryz.func43, Tryz.ntmps43
    go_wp2_with fail
    refine (q9 _ _ _ _ _ (hv.mono ((Below.refl _ _).alloc (Nat.le_refl _) _)) (by omega) (by omega) (by omega)).mono ?_
    rintro e w1 ⟨rfl, rfl⟩
    go_wp2_with fail
    refine (zcO _ _ _ _ _ (hh.mono ((Below.refl _ _).alloc (Nat.le_refl _) _)) (by omega) (by omega) (by omega)).mono ?_
    rintro e w1 ⟨rfl, rfl⟩
    go_wp2_with fail
    go_ret
    exact ⟨zk HF.out.symm, (Below.refl _ _).alloc (Nat.le_refl _) _⟩
  · have HF : Hid (zF (zce o) left = left - o.kd.size - o.nm.size - o.tm.size - yX o.vs - yX o.hs) := by
      have e : zF (zce o) left = left - zce o := zG (by unfold zce; omega)
      unfold Hid; rw [e]; unfold zce; omega
    go_enter Tryz.func43, Tryz.ntmps43
    go_wp2_with fail
    refine (q9 _ _ _ _ _ (hv.mono ((Below.refl _ _).alloc (Nat.le_refl _) _)) (by omega) (by omega) (by omega)).mono ?_
    rintro e w1 ⟨rfl, rfl⟩
    go_wp2_with fail
    refine (q9 _ _ _ _ _ (hh.mono ((Below.refl _ _).alloc (Nat.le_refl _) _)) (by omega) (by omega) (by omega)).mono ?_
    rintro e w1 ⟨rfl, rfl⟩
    go_wp2_with fail
    go_ret
    exact ⟨zk HF.out.symm, (Below.refl _ _).alloc (Nat.le_refl _) _⟩
set_option maxHeartbeats 1000000 in
theorem ze4 (o : Ob) (a a' b b' : Option Addr) (cap cap' dap dap' : Nat) (w : World) (ho : qQ w o a a') (ho' : qQ w o b b') :
    Calls Tryz.prog 80 #[.agg (oC o a a' cap cap'), .agg (oC o b b' dap dap')] w fun e w' => e = .returned (.bool true) /\ Below w.heap.size w w' := by
  go_enter Tryz.func80, Tryz.ntmps80
  go_wp2_with fail
  refine (zb0 _ _ _ _ _ _ (ho.vals.mono (zq _ _ _)) (ho'.vals.mono (zq _ _ _))).mono ?_
  rintro e w1 ⟨rfl, hb1⟩
  have hX1 := za (wk := (w.alloc (.cells (oC o a a' cap cap') 104)).alloc (.cells (oC o b b' dap dap') 104)) (b := w.heap.size) (X := (oC o a a' cap cap')) (fun j => by rw [World.cell?_alloc_lt _ _ ⟨w.heap.size, j, none⟩ (by simp)]; exact zH w _ _ j) (by simp; omega) hb1
  have hY1 := za (wk := (w.alloc (.cells (oC o a a' cap cap') 104)).alloc (.cells (oC o b b' dap dap') 104)) (b := w.heap.size + 1) (X := (oC o b b' dap dap')) (fun j => by rw [World.cell?_alloc_at _ _ _ _ (by simp)]) (by simp) hb1
  have hz1 : w.heap.size + 1 < w1.heap.size := by have := hb1.size; simp at this; omega
  have hB1 : Below w.heap.size w w1 := (zq _ _ _).trans (hb1.mono (by simp; omega))
  clear hb1
  go_wp2_with fail
  refine (zb0 _ _ _ _ _ _ (ho.holds.mono hB1) (ho'.holds.mono hB1)).mono ?_
  rintro e w2 ⟨rfl, hb2⟩
  have hX2 := za hX1 (by omega) hb2
  have hY2 := za hY1 (by omega) hb2
  have hB2 := hB1.trans (hb2.mono (by omega))
  clear hb2 hX1 hY1
  go_wp2_with fail
  go_ret
  exact ⟨rfl, hB2⟩
theorem zoc (w : World) (o1 o2 o3 o4 o5 : Obj) : (((((w.alloc o1).alloc o2).alloc o3).alloc o4).alloc o5).heap[w.heap.size + 1 + 1 + 1]? = some o4 :=
  (Below.heap_alloc _ _ _ (by simp)).trans (at4 _ _ _ _ _)
theorem zob (w : World) (o1 o2 o3 o4 o5 : Obj) : (((((w.alloc o1).alloc o2).alloc o3).alloc o4).alloc o5).heap[w.heap.size + 1 + 1 + 1 + 1]? = some o5 := by
  have h := (MapKept.heap_alloc ((((w.alloc o1).alloc o2).alloc o3).alloc o4) o5).1
  simpa using h
set_option maxHeartbeats 2000000 in
theorem zfr (o : Ob) (a a' : Option Addr) (cap cap' : Nat) (w : World) (ho : qQ w o a a') (hl : o.vs.length <= 1048576) (hl' : o.hs.length <= 1048576) :
    Calls Tryz.prog 65 #[.agg (oC o a a' cap cap')] w fun e w' => ∃ bv bh, e = .returned (.agg #[.string o.kd, .string o.nm, .string o.tm, .slice (some ⟨bv, 0, none⟩) o.vs.length o.vs.length, .bool o.en, .slice (some ⟨bh, 0, none⟩) o.hs.length o.hs.length, .int .i64 o.vr]) /\
      w.heap.size <= bv /\ w.heap.size <= bh /\ bv ≠ bh /\ w'.heap[bv]? = some (.cells (j5 o.vs) 9) /\ w'.heap[bh]? = some (.cells (j5 o.hs) 9) /\ Below w.heap.size w w' := by
  go_enter Tryz.func65, Tryz.ntmps65
  go_wp2_with fail
  refine (zb4 _ _ _ _ (ho.vals.mono ((((Below.refl _ _).alloc (Nat.le_refl _) _).alloc (by simp) _).alloc (by simp; omega) _)) hl).mono ?_
  rintro e w1 ⟨rfl, rfl⟩
  go_wp2_with fail
  refine (zb4 _ _ _ _ (ho.holds.mono (zlE _ _ _ _ _)) hl').mono ?_
  rintro e w2 ⟨rfl, rfl⟩
  go_wp2_with fail
  refine bodyPost_ret (v := .agg #[.string o.kd, .string o.nm, .string o.tm, .slice (some ⟨w.heap.size + 1 + 1 + 1, 0, none⟩) o.vs.length o.vs.length, .bool o.en, .slice (some ⟨w.heap.size + 1 + 1 + 1 + 1, 0, none⟩) o.hs.length o.hs.length, .int .i64 o.vr]) (by simp [results, Tryz.results65, go_sem]) rfl ⟨w.heap.size + 1 + 1 + 1, w.heap.size + 1 + 1 + 1 + 1, rfl, by omega, by omega, by omega, zoc _ _ _ _ _ _, zob _ _ _ _ _ _, (zlE _ _ _ _ _).alloc (by simp; omega) _⟩
end Go.Proofs.YtkfigdbbncjojaaGreat

namespace Go.Proofs.YtkfigdbbncjojaaGreat
open Go.RowKit
theorem zgw {a b : ByteArray} (h : a = b) : Ending.returned (.string a) = .returned (.string b) := by rw [h]
set_option maxHeartbeats 400000 in
theorem zby (a : Option Addr) (cap : Nat) (ts : List Tm) (v : ByteArray) (w : World) (hw : qP w a ts) :
    Calls Tryz.prog 90 #[.slice a ts.length cap, .string v] w fun e w' => e = .returned (.string (Gate.over ts v)) /\ w' = w := by
  have hl := hw.len
  unfold maxLen at hl
  go_enter Tryz.func90, Tryz.ntmps90
  go_wp2_with fail
  go_loop [5] (fun i => ∃ k : Nat, k <= ts.length /\ i = .int .i64 k /\ Gate.z8 (ts.take k) v = false) (fun i => ts.length - (intOf i).toNat)
  case atStart => exact ⟨0, Nat.zero_le _, rfl, rfl⟩
  case round =>
    obtain ⟨k, hk, rfl, hall⟩ := hrel
    by_cases hlt : k < ts.length
    · obtain ⟨b, off, rfl, hb, c0, c1⟩ := hw.load (Below.refl _ _) k hlt
      clear hw
      have HS : Hid (Gate.z8 (ts.take (k + 1)) v = (false || decide (ts[k].nm = v))) := by rw [Gate.zcH ts v k hlt, hall]; rfl
      have hltI : (k : Int) < (ts.length : Int) := by omega
      by_cases he : ts[k].nm = v
      · have hbe : (ts[k].nm.toList == v.toList) = true := by rw [Gate.beq_toList]; simpa using he
        have HR := hid (Gate.zjf ts v k hlt hall he)
        clear he hall
        go_wp2_with fail
        go_ret
        exact ⟨zgw HR.out.symm, rfl⟩
      · have hbe : (ts[k].nm.toList == v.toList) = false := by rw [Gate.beq_toList]; simpa using he
        have HE := hid he
        clear he hall
        go_wp2_with fail
        go_round
        case rel => exact ⟨k + 1, by omega, by go_num, by rw [HS.out, decide_eq_false HE.out]; rfl⟩
        case measure => simp [intOf]; omega
    · have HR := hid (Gate.zeN ts v (by rw [<- Gate.zdv ts v k (by omega)]; exact hall))
      clear hall hw
      go_wp2_with fail
      go_ret
      exact ⟨zgw HR.out.symm, rfl⟩
set_option maxHeartbeats 800000 in
theorem zcJ (a : Option Addr) (cap : Nat) (ts : List Tm) (v : ByteArray) (w : World) (hw : qP w a ts) :
    Calls Tryz.prog 161 #[.slice a ts.length cap, .string v] w fun e w' => e = .returned (.string (Gate.over ts v)) /\ Below w.heap.size w w' := by
  have hl := hw.len
  unfold maxLen at hl
  go_enter Tryz.func161, Tryz.ntmps161
  go_wp2_with fail
  go_loopw [9] (fun i wr => ∃ k : Nat, k <= ts.length /\ i = .int .i64 k /\ Gate.z8 (ts.take k) v = false /\ Below w.heap.size w wr) (fun i _ => ts.length - (intOf i).toNat)
  case atStart => exact ⟨0, Nat.zero_le _, rfl, rfl, Below.refl _ _⟩
  case round =>
    obtain ⟨k, hk, rfl, hall, hB⟩ := hrel
    have hsz := hB.size
    by_cases hlt : k < ts.length
    · obtain ⟨b, off, rfl, hb, c0, c1⟩ := hw.load hB k hlt
      clear hw
      have HS : Hid (Gate.z8 (ts.take (k + 1)) v = (false || decide (ts[k].nm = v))) := by rw [Gate.zcH ts v k hlt, hall]; rfl
      have hltI : (k : Int) < (ts.length : Int) := by omega
      have hbr : b < wr.heap.size := by omega
      by_cases he : ts[k].nm = v
      · have hbe : (ts[k].nm.toList == v.toList) = true := by rw [Gate.beq_toList]; simpa using he
        have HR := hid (Gate.zjf ts v k hlt hall he)
        clear he hall
        go_wp2_with fail
        go_ret
        exact ⟨zgw HR.out.symm, hB.alloc hsz _⟩
      · have hbe : (ts[k].nm.toList == v.toList) = false := by rw [Gate.beq_toList]; simpa using he
        have HE := hid he
        clear he hall
        go_wp2_with fail
        exact ⟨⟨k + 1, by omega, by go_num, by rw [HS.out, decide_eq_false HE.out]; rfl, hB.alloc hsz _⟩, by simp [intOf]; omega⟩
    · have HR := hid (Gate.zeN ts v (by rw [<- Gate.zdv ts v k (by omega)]; exact hall))
      clear hall hw
      go_wp2_with fail
      go_ret
      exact ⟨zgw HR.out.symm, hB⟩
end Go.Proofs.YtkfigdbbncjojaaGreat

namespace Go.Proofs.YtkfigdbbncjojaaGreat
namespace Gate
theorem yS {α : Type} (p : α -> Bool) (l : List α) (k : Nat) (h : k < l.length) : (l.take (k + 1)).all p = ((l.take k).all p && p l[k]) := by
  rw [List.take_succ_eq_append_getElem h, List.all_append]; simp
theorem jF {α : Type} (p : α -> Bool) (l : List α) (k : Nat) (h : k < l.length) (hp : p l[k] = false) : l.all p = false := by
  rw [List.all_eq_false]; exact ⟨l[k], List.getElem_mem h, by simp [hp]⟩
end Gate
end Go.Proofs.YtkfigdbbncjojaaGreat
