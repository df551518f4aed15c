import Derived.Test.YtnbpglbbjnkhpaaGreatM03
import Derived.Test.YtnbpglbbjnkhpaaGreatM20
import Derived.Test.YtnbpglbbjnkhpaaGreatRows
import Derived.Test.YtnbpglbbjnkhpaaGreatM02
import Derived.WalkKit
import Derived.WalkSpells
import Derived.WalkLawsBesides
import Derived.Deep.QuietTactic
import Derived.BigQuiet
import Derived.Deep.RegionWith
namespace Go.Proofs.YtnbpglbbjnkhpaaGreat
open Go.RowKit
theorem znE {ss : List Shp} (h : (zan ss : Int) <= 1048576) : ss.length <= 1048576 /\ ∀ i (h : i < ss.length), ss[i].fs.length <= 1048576 /\ ∀ j (h' : j < ss[i].fs.length), ss[i].fs[j].ws.length <= 1048576 := by
  unfold zan at h
  refine ⟨by omega, fun i hi => ?_⟩
  have h1 : Shp.sz ss[i] <= zez ss := zg7 Shp.sz ss i hi
  unfold Shp.sz zam at h1
  refine ⟨by omega, fun j hj => ?_⟩
  have h2 : Fld.sz ss[i].fs[j] <= zfj ss[i].fs := zg7 Fld.sz ss[i].fs j hj
  unfold Fld.sz jT qI at h2
  omega
theorem zn0 {o : Ob} {l : Int} (h : (zcG o : Int) <= l) (hl : l <= 1048576) : o.vs.length <= 1048576 /\ o.hs.length <= 1048576 := by
  unfold zcG qI at h
  omega
end Go.Proofs.YtnbpglbbjnkhpaaGreat

namespace Go.Proofs.YtnbpglbbjnkhpaaGreat
structure Tm where
  nm : ByteArray
  ov : ByteArray
namespace Gate
def zaT : Tm := ⟨ByteArray.empty, ByteArray.empty⟩
def yw (ts : List Tm) (v : ByteArray) : Bool := ts.any fun t => decide (t.nm = v)
def over (ts : List Tm) (v : ByteArray) : ByteArray := ((ts.find? fun t => decide (t.nm = v)).getD zaT).ov
theorem zcV (ts : List Tm) (v : ByteArray) (k : Nat) (h : k < ts.length) : yw (ts.take (k + 1)) v = (yw (ts.take k) v || decide (ts[k].nm = v)) := by
  unfold yw; rw [List.take_succ_eq_append_getElem h, List.any_append]; simp
theorem zll (ts : List Tm) (v : ByteArray) (k : Nat) (h : k < ts.length) (e : ts[k].nm = v) : yw ts v = true := by
  unfold yw; rw [List.any_eq_true]; exact ⟨ts[k], List.getElem_mem h, by simpa using e⟩
theorem zd0 (ts : List Tm) (v : ByteArray) (k : Nat) (h : ts.length <= k) : yw (ts.take k) v = yw ts v := by rw [List.take_of_length_le h]
theorem zjU (ts : List Tm) (v : ByteArray) (k : Nat) (h : k < ts.length) (hb : yw (ts.take k) v = false) (e : ts[k].nm = v) : over ts v = ts[k].ov := by
  unfold over
  have hn : (ts.take k).find? (fun s => decide (s.nm = v)) = none := by
    rw [List.find?_eq_none]; intro x hx; unfold yw at hb; rw [List.any_eq_false] at hb; exact hb x hx
  have hf : ts.find? (fun s => decide (s.nm = v)) = some ts[k] := by
    conv => lhs; rw [<- List.take_append_drop k ts]
    rw [List.find?_append, hn, List.drop_eq_getElem_cons h, List.find?_cons_of_pos (by simpa using e)]; rfl
  rw [hf]; rfl
theorem zfS (ts : List Tm) (v : ByteArray) (hb : yw ts v = false) : over ts v = ByteArray.empty := by
  unfold over
  have hn : ts.find? (fun s => decide (s.nm = v)) = none := by
    rw [List.find?_eq_none]; intro x hx; unfold yw at hb; rw [List.any_eq_false] at hb; exact hb x hx
  rw [hn]; rfl
def under (ts : List Tm) : Nat -> ByteArray -> ByteArray -> Bool
  | 0, a, b => decide (a = b)
  | n + 1, a, b => decide (a = b) || (decide (¬ (over ts a).size = 0) && under ts n (over ts a) b)
theorem zcX (ts : List Tm) (n : Nat) (a b : ByteArray) (h : a = b) : under ts n a b = true := by
  cases n <;> simp [under, h]
theorem zjj (ts : List Tm) {a b : ByteArray} (h : ¬ a = b) : under ts 0 a b = false := by simp [under, h]
theorem zhr (ts : List Tm) (n : Nat) {a b : ByteArray} (h : ¬ a = b) (h0 : (over ts a).size = 0) : under ts (n + 1) a b = false := by simp [under, h, h0]
theorem zlg (ts : List Tm) (n : Nat) {a b : ByteArray} (h : ¬ a = b) (h0 : ¬ (over ts a).size = 0) : under ts (n + 1) a b = under ts n (over ts a) b := by simp [under, h, h0]
def qm (ts : List Tm) (i : Nat) : Bool :=
  zx (ts.getD i zaT).nm && (decide (i = 0) || less (ts.getD (i - 1) zaT).nm (ts.getD i zaT).nm) && ((ts.getD i zaT).ov.toList.isEmpty || yw ts (ts.getD i zaT).ov)
def zdD (ts : List Tm) : Nat -> ByteArray -> ByteArray
  | 0, a => a
  | n + 1, a => zdD ts n (over ts a)
def y7 (ts : List Tm) : Nat -> ByteArray -> ByteArray
  | 0, a => a
  | n + 1, a => if a.size = 0 then a else y7 ts n (over ts a)
def zdb (ts : List Tm) (t : Tm) : Bool := decide ((zdD ts 4 t.ov).size = 0)
def zev (ts : List Tm) (i : Nat) : Bool := zdb ts (ts.getD i zaT)
def za0 (ts : List Tm) (i : Nat) : Bool := decide ((y7 ts 5 (ts.getD i zaT).nm).size = 0)
def za4 (ts : List Tm) : Bool := decide (ts.length <= 12) && (up (qm ts) ts.length && up (zev ts) ts.length)
def zbs (ts : List Tm) (i : Nat) : Bool := qm ts i && za0 ts i
def zai (ts : List Tm) : Bool := decide (ts.length <= 12) && up (zbs ts) ts.length
theorem zb3 {P : Nat -> Bool} {n : Nat} : up P n = true ↔ ∀ i, i < n -> P i = true := by
  unfold up; rw [List.all_eq_true]; simp
theorem zmA {ts : List Tm} {i : Nat} (hi : i < ts.length) (h : qm ts i = true) : zx ts[i].nm = true := by
  unfold qm at h; rw [getD_at ts i _ hi] at h; simp only [Bool.and_eq_true] at h; exact h.1.1
theorem zmQ {ts : List Tm} {i : Nat} (hi : i + 1 < ts.length) (h : qm ts (i + 1) = true) : less ts[i].nm ts[i + 1].nm = true := by
  unfold qm at h; rw [getD_at ts (i + 1) _ hi, Nat.add_sub_cancel, getD_at ts i _ (by omega)] at h; simp only [Bool.and_eq_true] at h
  simpa using h.1.2
theorem zmb {ts : List Tm} (h : up (qm ts) ts.length = true) : ∀ (j : Nat) (hj : j < ts.length) (i : Nat) (hi : i < j), less (ts[i]'(by omega)).nm ts[j].nm = true := by
  intro j
  induction j with
  | zero => intro _ i hi; omega
  | succ j ih =>
    intro hj i hi
    have h2 := zmQ hj (zf4 hj h)
    rcases Nat.lt_or_ge i j with hlt | hge
    · exact zaK _ _ _ (ih (by omega) i hlt) h2
    · have e : i = j := by omega
      subst e; exact h2
theorem over_self {ts : List Tm} (h : up (qm ts) ts.length = true) (i : Nat) (hi : i < ts.length) : over ts ts[i].nm = ts[i].ov := by
  refine zjU ts _ i hi ?_ rfl
  unfold yw
  rw [List.any_eq_false]
  intro x hx
  obtain ⟨k, hk, rfl⟩ := List.mem_iff_getElem.1 hx
  have hk' : k < i := by simp at hk; omega
  have h1 := zmb h i hi k hk'
  simp only [List.getElem_take, decide_eq_true_eq]
  intro e
  unfold less at h1
  rw [e, zbm] at h1
  cases h1
theorem zlL {ts : List Tm} (h : up (qm ts) ts.length = true) : over ts ByteArray.empty = ByteArray.empty := by
  apply zfS
  unfold yw
  rw [List.any_eq_false]
  intro x hx
  obtain ⟨k, hk, rfl⟩ := List.mem_iff_getElem.1 hx
  have h1 := zmA hk (zf4 hk h)
  simp only [decide_eq_true_eq]
  intro e
  rw [e, zex _ rfl] at h1
  cases h1
theorem zgm {ts : List Tm} (h : over ts ByteArray.empty = ByteArray.empty) : ∀ n, zdD ts n ByteArray.empty = ByteArray.empty
  | 0 => rfl
  | n + 1 => by unfold zdD; rw [h]; exact zgm h n
theorem zh6 {ts : List Tm} (h : over ts ByteArray.empty = ByteArray.empty) : ∀ n a, y7 ts n a = zdD ts n a
  | 0, _ => rfl
  | n + 1, a => by
    unfold y7
    by_cases h0 : a.size = 0
    · rw [if_pos h0, zcu a h0, zgm h]
    · rw [if_neg h0, zh6 h n]; rfl
theorem zjc {ts : List Tm} (h : up (qm ts) ts.length = true) (i : Nat) (hi : i < ts.length) : za0 ts i = zev ts i := by
  unfold za0 zev zdb
  rw [getD_at ts i _ hi, zh6 (zlL h), show zdD ts 5 ts[i].nm = zdD ts 4 (over ts ts[i].nm) from rfl, over_self h i hi]
theorem zjS (ts : List Tm) : za4 ts = zai ts := by
  unfold za4 zai
  congr 1
  rw [Bool.eq_iff_iff, Bool.and_eq_true]
  constructor
  · rintro ⟨h1, h2⟩
    rw [zb3]
    intro i hi
    unfold zbs
    rw [zf4 hi h1, zjc h1 i hi, zf4 hi h2]; rfl
  · intro h
    rw [zb3] at h
    have h1 : up (qm ts) ts.length = true := by
      rw [zb3]; intro i hi; have := h i hi; unfold zbs at this; rw [Bool.and_eq_true] at this; exact this.1
    refine ⟨h1, ?_⟩
    rw [zb3]; intro i hi; have := h i hi; unfold zbs at this; rw [Bool.and_eq_true, zjc h1 i hi] at this; exact this.2
end Gate
end Go.Proofs.YtnbpglbbjnkhpaaGreat

namespace Go.Proofs.YtnbpglbbjnkhpaaGreat
open Go.RowKit
def Tm.cells (m : Tm) : Array Value := #[.string m.nm, .string m.ov]
structure Tm.Small (m : Tm) : Prop where
  nm : m.nm.size <= maxLen
  ov : m.ov.size <= maxLen
structure jc (w : World) (a : Option Addr) (ts : List Tm) : Prop where
  len : ts.length <= maxLen
  small : ∀ i (h : i < ts.length), ts[i].Small
  rows : ts ≠ [] -> ∃ b off, a = some ⟨b, off, none⟩ /\ b < w.heap.size /\ ∀ i (h : i < ts.length), ∀ j, j < 2 -> w.cell? ⟨b, off + i * 2 + j, none⟩ = ts[i].cells[j]?
theorem jc.mono {w w' : World} {a : Option Addr} {ts : List Tm} (h : jc w a ts) (hl : Below w.heap.size w w') : jc w' a ts :=
  ⟨h.len, h.small, fun hne => by
    obtain ⟨b, off, ha, hb, hr⟩ := h.rows hne
    exact ⟨b, off, ha, Nat.lt_of_lt_of_le hb hl.size, fun i hi j hj => (hl.cell (p := ⟨b, off + i * 2 + j, none⟩) hb).trans (hr i hi j hj)⟩⟩
theorem jc.load {w w' : World} {a : Option Addr} {ts : List Tm} (h : jc w a ts) (hl : Below w.heap.size w w') (i : Nat) (hi : i < ts.length) : ∃ b off, a = some ⟨b, off, none⟩ /\ b < w.heap.size /\
    w'.cell? ⟨b, off + i * 2, none⟩ = some (.string ts[i].nm) /\ w'.cell? ⟨b, off + i * 2 + 1, none⟩ = some (.string ts[i].ov) := by
  obtain ⟨b, off, ha, hb, hr⟩ := h.rows (by rintro rfl; simp at hi)
  have hc : ∀ j, j < 2 -> w'.cell? ⟨b, off + i * 2 + j, none⟩ = ts[i].cells[j]? := fun j hj => (hl.cell (p := ⟨b, off + i * 2 + j, none⟩) hb).trans (hr i hi j hj)
  exact ⟨b, off, ha, hb, hc 0 (by omega), hc 1 (by omega)⟩
def Tm.sz (m : Tm) : Nat := m.nm.size + m.ov.size
def zfA (ts : List Tm) : Nat := (ts.map Tm.sz).sum
def zcj (ts : List Tm) : Nat := ts.length + zfA ts
def znZ (w : World) (b o : Nat) (v0 v1 : Value) : World := (w.setCell ⟨b, o, none⟩ v0).setCell ⟨b, o + 1, none⟩ v1
def set2 (C : Array Value) (o : Nat) (v0 v1 : Value) : Array Value := (C.setIfInBounds o v0).setIfInBounds (o + 1) v1
theorem zl5 {w : World} {b o : Nat} {C : Array Value} {t : TypeId} (h : w.heap[b]? = some (.cells C t)) (v0 v1 : Value) : (znZ w b o v0 v1).heap[b]? = some (.cells (set2 C o v0 v1) t) :=
  zi (zi h v0) v1
theorem zlu {B : Nat} {a w : World} (h : Below B a w) {b : Nat} (hb : B <= b) (o : Nat) (v0 v1 : Value) : Below B a (znZ w b o v0 v1) :=
  (h.setCell hb v0).setCell hb v1
theorem zmV (C : Array Value) (o : Nat) (v0 v1 : Value) : (set2 C o v0 v1).size = C.size := by simp [set2]
theorem znq (C : Array Value) (o i : Nat) (v0 v1 : Value) (h : i < o \/ o + 2 <= i) : (set2 C o v0 v1)[i]? = C[i]? := by
  unfold set2
  iterate 2 rw [Array.getElem?_setIfInBounds, if_neg (by omega)]
theorem znQ (C : Array Value) (o j : Nat) (v0 v1 : Value) (hj : j < 2) (ho : o + 2 <= C.size) : (set2 C o v0 v1)[o + j]? = (#[v0, v1] : Array Value)[j]? := by
  have hc : j = 0 \/ j = 1 := by omega
  unfold set2
  rcases hc with h | h <;> subst h <;> simp [Array.getElem?_setIfInBounds] <;> omega
structure jX (ty : TypeId) (lo : Nat) (w : World) (bo : Nat) (ts : List Tm) (k : Nat) : Prop where
  low : lo <= bo
  rows : ∃ C, w.heap[bo]? = some (.cells C ty) /\ C.size = ts.length * 2 /\ ∀ i (h : i < ts.length), i < k -> ∀ j, j < 2 -> C[i * 2 + j]? = ts[i].cells[j]?
theorem jX.at {ty : TypeId} {lo : Nat} {w : World} {bo : Nat} {ts : List Tm} (h : jX ty lo w bo ts ts.length) (hs : ∀ i (h : i < ts.length), ts[i].Small) (hl : ts.length <= maxLen) : jc w (some ⟨bo, 0, none⟩) ts := by
  obtain ⟨C, hC, hsz, hr⟩ := h.rows
  refine ⟨hl, hs, fun _ => ⟨bo, 0, rfl, (Array.getElem?_eq_some_iff.1 hC).1, fun i hi j hj => ?_⟩⟩
  rw [cell_of_block hC, Nat.zero_add]
  exact hr i hi hi j hj
theorem jX.later {ty : TypeId} {lo : Nat} {w w' : World} {bo : Nat} {ts : List Tm} {k : Nat} (h : jX ty lo w bo ts k) (hb : Below w.heap.size w w') : jX ty lo w' bo ts k := by
  obtain ⟨C, hC, hsz, hr⟩ := h.rows
  exact ⟨h.low, C, (hb.block bo (Array.getElem?_eq_some_iff.1 hC).1).trans hC, hsz, hr⟩
theorem jX.put {ty : TypeId} {lo : Nat} {w : World} {bo : Nat} {ts : List Tm} {k : Nat} (h : jX ty lo w bo ts k) (hk : k < ts.length) :
    jX ty lo (znZ w bo (k * 2) (.string ts[k].nm) (.string ts[k].ov)) bo ts (k + 1) := by
  obtain ⟨C, hC, hsz, hr⟩ := h.rows
  refine ⟨h.low, _, zl5 hC _ _, by rw [zmV]; exact hsz, fun i hi hik j hj => ?_⟩
  rcases Nat.lt_or_ge i k with hlt | hge
  · rw [znq _ _ _ _ _ (by omega)]
    exact hr i hi hlt j hj
  · have e : i = k := by omega
    subst e
    rw [znQ _ _ _ _ _ hj (by omega)]
    rfl
def znF : Array Value := #[.string ByteArray.empty, .string ByteArray.empty]
def zmn (n : Nat) : Array Value := madeCells znF (n * 2)
end Go.Proofs.YtnbpglbbjnkhpaaGreat

namespace Go.Proofs.YtnbpglbbjnkhpaaGreat
open Go.RowKit
set_option maxHeartbeats 1000000 in
theorem zdQ (m : Tm) (left : Int) (w : World) (hm : m.Small) (h0 : 0 <= left) (h1 : left <= 1048576) :
    Calls Tryz.prog 42 #[.agg m.cells, .int .i64 left] w fun e w' => e = .returned (.int .i64 (zL m.sz left)) /\ Below w.heap.size w w' := by
  have k1 := hm.nm
  have k2 := hm.ov
  unfold maxLen at k1 k2
  unfold Tm.cells
  have hB : ∀ ob, Below w.heap.size w (w.alloc ob) := fun ob => (Below.refl _ _).alloc (Nat.le_refl _) _
  by_cases hf : (m.sz : Int) <= left
  · have HF : Hid (zL m.sz left = left - m.nm.size - m.ov.size) := by
      unfold Hid; rw [zM hf]; unfold Tm.sz; omega
    unfold Tm.sz at hf
    go_enter Tryz.func42, Tryz.ntmps42
    go_wp2_with fail
    go_ret
    exact ⟨zo HF.out.symm, hB _⟩
  · have HF : Hid (zL m.sz left = -1) := zC hf
    have HN : Hid (¬ ((m.nm.size + m.ov.size : Nat) : Int) <= left) := hf
    clear hf
    go_enter Tryz.func42, Tryz.ntmps42
    go_wp2_with fail
    all_goals go_ret
    all_goals first | exact ⟨zo HF.out.symm, hB _⟩ | (exfalso; have := HN.out; simp at *; omega)
theorem zh3 (m : Tm) (left : Int) (w : World) (hm : m.Small) (h0 : 0 <= left) (h1 : left <= 1048576) (h : (m.sz : Int) <= left) :
    Calls Tryz.prog 42 #[.agg m.cells, .int .i64 left] w fun e w' => e = .returned (.int .i64 (left - m.sz)) /\ Below w.heap.size w w' := by
  refine (zdQ m left w hm h0 h1).mono ?_
  rintro e w' ⟨rfl, hb⟩
  exact ⟨zo (zM h), hb⟩
theorem zin (m : Tm) (left : Int) (w : World) (hm : m.Small) (h0 : 0 <= left) (h1 : left <= 1048576) (h : ¬ (m.sz : Int) <= left) :
    Calls Tryz.prog 42 #[.agg m.cells, .int .i64 left] w fun e w' => e = .returned (.int .i64 (-1)) /\ Below w.heap.size w w' := by
  refine (zdQ m left w hm h0 h1).mono ?_
  rintro e w' ⟨rfl, hb⟩
  exact ⟨zo (zC h), hb⟩
set_option maxHeartbeats 1000000 in
theorem zgM (a : Option Addr) (cap : Nat) (ts : List Tm) (left : Int) (w : World) (hw : jc w a ts) (h0 : 0 <= left) (h1 : left <= 1048576) :
    Calls Tryz.prog 14 #[.slice a ts.length cap, .int .i64 left] w fun e w' => e = .returned (.int .i64 (zL (zcj ts) left)) /\ Below w.heap.size w w' := by
  have hl := hw.len
  unfold maxLen at hl
  by_cases hfit : (ts.length : Int) <= left
  · go_enter Tryz.func14, Tryz.ntmps14
    go_wp2_with fail
    go_loopw [1, 5] (fun l i wr => ∃ k : Nat, k <= ts.length /\ i = .int .i64 k /\ 0 <= left - ts.length - zfA (ts.take k) /\ l = .int .i64 (left - ts.length - zfA (ts.take k)) /\ Below w.heap.size w wr) (fun _ i _ => ts.length - (intOf i).toNat)
    case atStart => exact ⟨0, Nat.zero_le _, rfl, by simp [zfA]; omega, by simp [zfA], Below.refl _ _⟩
    case round =>
      obtain ⟨k, hk, rfl, hpos, rfl, hB⟩ := hrel
      by_cases hlt : k < ts.length
      · obtain ⟨b, off, rfl, hb, c0, c1⟩ := hw.load hB k hlt
        have hsm := hw.small k hlt
        have HS : Hid (zfA (ts.take (k + 1)) = zfA (ts.take k) + ts[k].sz) := zaB Tm.sz ts k hlt
        have hle : zfA (ts.take (k + 1)) <= zfA ts := zbX Tm.sz ts (k + 1)
        clear hw
        by_cases hneg : (ts[k].sz : Int) <= left - ts.length - zfA (ts.take k)
        · have HNG : Hid ((ts[k].sz : Int) <= left - ts.length - zfA (ts.take k)) := hneg
          clear hle
          go_wp2_with fail
          refine (zh3 _ _ _ hsm hpos (by omega) HNG.out).mono ?_
          rintro e w1 ⟨rfl, hb1⟩
          have hB1 := hB.trans (hb1.mono hB.size)
          clear hb1
          go_wp2_with fail
          exact ⟨⟨k + 1, by omega, by go_num, by rw [HS.out]; omega, by rw [HS.out]; congr 1; omega, hB1⟩, by simp [intOf]; omega⟩
        · have HF : Hid (zL (zcj ts) left = -1) := zC (by have := HS.out; unfold zcj; omega)
          have HNG : Hid (¬ (ts[k].sz : Int) <= left - ts.length - zfA (ts.take k)) := hneg
          clear hneg hle
          go_wp2_with fail
          refine (zin _ _ _ hsm hpos (by omega) (by have := HNG.out; omega)).mono ?_
          rintro e w1 ⟨rfl, hb1⟩
          have hB1 := hB.trans (hb1.mono hB.size)
          clear hb1
          go_wp2_with fail
          go_ret
          exact ⟨zo HF.out.symm, hB1⟩
      · have HF : Hid (zL (zcj ts) left = left - ts.length - zfA (ts.take k)) := by
          rw [List.take_of_length_le (by omega)] at hpos ⊢
          have e : zL (zcj ts) left = left - zcj ts := zM (by unfold zcj; omega)
          unfold Hid; rw [e]; unfold zcj; omega
        clear hw
        go_wp2
        go_ret
        exact ⟨zo HF.out.symm, hB⟩
  · have HF : Hid (zL (zcj ts) left = -1) := zC (by unfold zcj; omega)
    clear hw
    go_enter Tryz.func14, Tryz.ntmps14
    go_wp2
    go_ret
    exact ⟨zo HF.out.symm, Below.refl _ _⟩
theorem zhx (m : Tm) (w : World) : Calls Tryz.prog 79 #[.agg m.cells, .agg m.cells] w fun e w' => e = .returned (.bool true) /\ Below w.heap.size w w' := by
  unfold Tm.cells
  go_enter Tryz.func79, Tryz.ntmps79
  go_wp2_with fail
  go_ret
  exact ⟨rfl, zB _ _ _⟩
set_option maxHeartbeats 2000000 in
theorem zgv (a a' : Option Addr) (cap cap' : Nat) (ts : List Tm) (w : World) (hw : jc w a ts) (hw' : jc w a' ts) :
    Calls Tryz.prog 35 #[.slice a ts.length cap, .slice a' ts.length cap'] w fun e w' => e = .returned (.bool true) /\ Below w.heap.size w w' := by
  have hl := hw.len
  unfold maxLen at hl
  have hnn : ((ts.length : Int) != ts.length) = false := by simp
  go_enter Tryz.func35, Tryz.ntmps35
  go_wp2_with fail
  go_loopw [5] (fun i wr => ∃ k : Nat, k <= ts.length /\ i = .int .i64 k /\ Below w.heap.size w wr) (fun i _ => ts.length - (intOf i).toNat)
  case atStart => exact ⟨0, Nat.zero_le _, rfl, Below.refl _ _⟩
  case round =>
    obtain ⟨k, hk, rfl, hB⟩ := hrel
    by_cases hlt : k < ts.length
    · obtain ⟨b, off, rfl, hb, c0, c1⟩ := hw.load hB k hlt
      obtain ⟨b', off', rfl, hb', d0, d1⟩ := hw'.load hB k hlt
      have hltI : (k : Int) < (ts.length : Int) := by omega
      clear hw hw'
      go_wp2_with fail
      go_region_with (go_at_call 79; refine (zhx ts[k] _).mono ?_; rintro e w1 ⟨rfl, hb1'⟩; have hb1 := (Below.refl wr.heap.size wr).drew.trans hb1'; clear hb1')
      all_goals go_wp2_with fail
      all_goals exact ⟨⟨k + 1, by omega, by go_num, hB.trans (hb1.mono hB.size)⟩, by simp [intOf]; omega⟩
    · clear hw hw'
      go_wp2_with fail
      go_ret
      exact ⟨rfl, hB⟩
set_option maxHeartbeats 1000000 in
theorem zii (m : Tm) (w : World) :
    Calls Tryz.prog 64 #[.agg m.cells] w fun e w' => e = .returned (.agg m.cells) /\ Below w.heap.size w w' := by
  unfold Tm.cells
  go_enter Tryz.func64, Tryz.ntmps64
  go_wp2_with fail
  refine bodyPost_ret (v := .agg #[.string m.nm, .string m.ov]) (by simp [results, Tryz.results64, go_sem]) rfl ⟨rfl, ?_⟩
  exact ((((Below.refl _ _).alloc (Nat.le_refl _) _).alloc (by simp) _).alloc (by simp; omega) _)
set_option maxHeartbeats 2000000 in
theorem zgC (a : Option Addr) (cap : Nat) (ts : List Tm) (w : World) (hw : jc w a ts) (hl : ts.length <= 1048576) :
    Calls Tryz.prog 26 #[.slice a ts.length cap] w fun e w' => e = .returned (.slice (some ⟨w.heap.size, 0, none⟩) ts.length ts.length) /\ jX 131 w.heap.size w' w.heap.size ts ts.length /\ Below w.heap.size w w' := by
  have hmk : ∀ w : World, (Instr.makeSlice 38 (.int .i64 ts.length) (.int .i64 ts.length)).run Tryz.prog w = .ok (.slice (some ⟨w.heap.size, 0, none⟩) ts.length ts.length) (w.alloc (.cells (zmn ts.length) 131)) :=
    fun w => jk (P := Tryz.prog) 38 131 (.agg znF) 2 32 Tryz.underlying38 (by kernel_rfl) ts.length (by omega) (by omega) w
  go_enter Tryz.func26, Tryz.ntmps26
  go_wp2_with fail
  clear hmk
  go_loopw [4] (fun i wr => ∃ k : Nat, k <= ts.length /\ i = .int .i64 k /\ jX 131 w.heap.size wr w.heap.size ts k /\ Below w.heap.size w wr) (fun i _ => ts.length - (intOf i).toNat)
  case atStart => exact ⟨0, Nat.zero_le _, rfl, ⟨Nat.le_refl _, zmn ts.length, (MapKept.heap_alloc w _).1, size_madeCells _ _, fun i _ h => absurd h (by omega)⟩, (Below.refl _ _).alloc (Nat.le_refl _) _⟩
  case round =>
    obtain ⟨k, hk, rfl, hown, hB⟩ := hrel
    by_cases hlt : k < ts.length
    · obtain ⟨b, off, rfl, hb, c0, c1⟩ := hw.load hB k hlt
      have hltI : (k : Int) < (ts.length : Int) := by omega
      clear hw
      go_wp2_with fail
      refine (zii ts[k] _).mono ?_
      rintro e w1 ⟨rfl, hb1⟩
      have hB1 := hB.trans (hb1.mono hB.size)
      have hown1 := hown.later hb1
      have hbo : w.heap.size < wr.heap.size := by
        obtain ⟨C', hC', _⟩ := hown.rows
        exact (Array.getElem?_eq_some_iff.1 hC').1
      obtain ⟨C, hC, hsz, _⟩ := hown1.rows
      have hfz : ∀ o, w1.frozen? ⟨w.heap.size, o, none⟩ = false := fun o => zm hC
      have hex : ∀ o, o < ts.length * 2 -> ∃ v, w1.cell? ⟨w.heap.size, o, none⟩ = some v := fun o ho => ⟨C[o]'(by omega), by rw [cell_of_block hC]; exact Array.getElem?_eq_getElem (by omega)⟩
      obtain ⟨v0, hv0⟩ := hex (k * 2) (by omega)
      obtain ⟨v1, hv1⟩ := hex (k * 2 + 1) (by omega)
      have HP : Hid (jX 131 w.heap.size w1 w.heap.size ts k) := hown1
      clear hex hC hsz c0 c1 hown hown1
      unfold Tm.cells
      go_wp2_with fail
      exact ⟨⟨k + 1, by omega, by go_num, HP.out.put hlt, zlu hB1 (Nat.le_refl _) _ _ _⟩, by simp [intOf]; omega⟩
    · have HF : Hid (jX 131 w.heap.size wr w.heap.size ts ts.length) := by
        have e : k = ts.length := by omega
        subst e; exact hown
      clear hw hown
      go_wp2_with fail
      go_ret
      exact ⟨rfl, HF.out, hB⟩
end Go.Proofs.YtnbpglbbjnkhpaaGreat
