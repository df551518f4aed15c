import Derived.Test.YtbefjngbilakjaaM02
import Derived.Test.YtbefjngbilakjaaM01
import Derived.Deep.OwnRows
import Derived.MapKept
namespace Go.Proofs.Ytbefjngbilakjaa
open Go.RowKit

set_option maxHeartbeats 400000 in
theorem l1Has_any (a : Option Addr) (cap : Nat) (ws : List ByteArray) (v : ByteArray) (w : World) (hw : StrsAt w a ws) :
    Calls Try.prog 33 #[.slice a ws.length cap, .string v] w fun e w' => e = .returned (.bool (Gate.has ws v)) ∧ w' = w := by
  have hl := hw.len
  unfold maxLen at hl
  by_cases hne : ws = []
  · subst hne
    go_enter Try.func33, Try.ntmps33
    go_wp2
    go_loop [5] (fun i => i = .int .i64 0) (fun i => 0)
    case atStart => rfl
    case round =>
      subst hrel
      go_wp2
      go_ret
      exact ⟨rfl, rfl⟩
  · obtain ⟨b, off, rfl, hb, hc⟩ := hw.cells hne
    clear hw
    have HL : Hid (0 < ws.length) := List.length_pos_iff.2 hne
    clear hne
    go_enter Try.func33, Try.ntmps33
    go_wp2
    go_loop [5] (fun i => ∃ k : Nat, k ≤ ws.length ∧ i = .int .i64 k ∧ Gate.has (ws.take k) v = false) (fun i => ws.length - (intOf i).toNat)
    case atStart => exact ⟨0, Nat.zero_le _, rfl, rfl⟩
    case round =>
      obtain ⟨k, hk, rfl, hall⟩ := hrel
      by_cases hlt : k < ws.length
      · have hck := hc k hlt
        clear hc
        have HS : Hid (Gate.has (ws.take (k + 1)) v = (false || decide (ws[k] = v))) := by rw [Gate.has_snoc ws v k hlt, hall]; rfl
        have HN : Hid (ws[k] = v → Gate.has ws v = true) := fun h => Gate.has_at ws v k hlt h
        clear hall
        by_cases he : ws[k] = v
        · have hbe : (ws[k].toList == v.toList) = true := by rw [Gate.beq_toList]; simpa using he
          have HE : Hid (ws[k] = v) := he
          clear he
          go_wp2
          go_ret
          exact ⟨ret_bool (HN.out HE.out).symm, rfl⟩
        · have hbe : (ws[k].toList == v.toList) = false := by rw [Gate.beq_toList]; simpa using he
          have HE : Hid (¬ ws[k] = v) := he
          clear he
          go_wp2
          go_round
          case rel => exact ⟨k + 1, by omega, by go_num, by rw [HS.out, decide_eq_false HE.out]; rfl⟩
          case measure => simp [intOf]; omega
      · have HA : Hid (Gate.has ws v = false) := by rw [← Gate.has_all ws v k (by omega)]; exact hall
        clear hall hc
        go_wp2
        go_ret
        exact ⟨ret_bool HA.out.symm, rfl⟩

end Go.Proofs.Ytbefjngbilakjaa

namespace Go.Proofs.Ytbefjngbilakjaa
open Go.RowKit

set_option maxHeartbeats 400000 in
theorem toStringS_any (a : Option Addr) (cap : Nat) (ws : List ByteArray) (w : World) (hw : StrsAt w a ws) (hl : ws.length ≤ 1048576) :
    Calls Try.prog 35 #[.slice a ws.length cap] w fun e w' => e = .returned (.slice (some ⟨w.heap.size, 0, none⟩) ws.length ws.length) ∧ w' = w.alloc (.cells (strArr ws) 9) := by
  have hmk : ∀ w : World, (Instr.makeSlice 22 (.int .i64 ws.length) (.int .i64 ws.length)).run Try.prog w = .ok (.slice (some ⟨w.heap.size, 0, none⟩) ws.length ws.length) (w.alloc (.cells (strCells ws 0) 9)) := by
    intro w
    have h := run_make_row' (P := Try.prog) 22 9 (.string ByteArray.empty) 16 Try.underlying22 (by kernel_rfl) rfl .i64 .i64 ws.length (by omega) (by omega) w
    rw [strCells_zero] at h
    exact h
  go_enter Try.func35, Try.ntmps35
  go_wp2
  clear hmk
  go_loopw [4] (fun i wr => ∃ k : Nat, k ≤ ws.length ∧ i = .int .i64 k ∧ wr = w.alloc (.cells (strCells ws k) 9)) (fun i _ => ws.length - (intOf i).toNat)
  case atStart => exact ⟨0, Nat.zero_le _, rfl, rfl⟩
  case round =>
    obtain ⟨k, hk, rfl, rfl⟩ := hrel
    by_cases hlt : k < ws.length
    · obtain ⟨b, off, rfl, hb, hc⟩ := hw.cells (by rintro rfl; simp at hlt)
      clear hw
      have hck := hc k hlt
      have hold := strCells_at ws k hlt
      have HS : Hid ((strCells ws k).setIfInBounds k (.string ws[k]) = strCells ws (k + 1)) := strCells_set ws k hlt
      clear hc
      go_wp2
      go_roundw
      case rel => exact ⟨k + 1, by omega, by go_num, by rw [HS.out]⟩
      case measure => simp [intOf]; omega
    · have HA : Hid (strCells ws k = strArr ws) := strCells_all ws k (by omega)
      clear hw
      go_wp2
      go_ret
      exact ⟨rfl, by rw [HA.out]⟩

theorem below4 (w : World) (o1 o2 o3 o4 : Obj) : Below w.heap.size w ((((w.alloc o1).alloc o2).alloc o3).alloc o4) :=
  ((((Below.refl _ _).alloc (Nat.le_refl _) _).alloc (by simp) _).alloc (by simp; omega) _).alloc (by simp; omega) _

theorem at4 (w : World) (o1 o2 o3 o4 : Obj) : ((((w.alloc o1).alloc o2).alloc o3).alloc o4).heap[w.heap.size + 1 + 1 + 1]? = some o4 := by
  have h := MapKept.heap_alloc (((w.alloc o1).alloc o2).alloc o3) o4
  simpa using h.1

set_option maxHeartbeats 1000000 in
theorem toGateField_any (nm : ByteArray) (kd ls ms : Int) (a : Option Addr) (cap : Nat) (ws : List ByteArray) (to : ByteArray) (rl : Int) (mu fx : Bool) (df wg : ByteArray) (w : World) (hw : StrsAt w a ws) (hl : ws.length ≤ 1048576) :
    Calls Try.prog 9 #[.agg #[.string nm, .int .i64 kd, .int .i64 ls, .int .i64 ms, .slice a ws.length cap, .string to, .int .i64 rl, .bool mu, .bool fx, .string df, .string wg]] w
      fun e w' => ∃ bk, e = .returned (.agg #[.string nm, .int .i64 kd, .int .i64 ls, .int .i64 ms, .slice (some ⟨bk, 0, none⟩) ws.length ws.length, .string to, .int .i64 rl, .bool mu, .bool fx, .string df, .string wg]) ∧
        w.heap.size ≤ bk ∧ bk < w'.heap.size ∧ w'.heap[bk]? = some (.cells (strArr ws) 9) ∧ Below w.heap.size w w' := by
  go_enter Try.func9, Try.ntmps9
  go_wp2_with (go_at_call 35; refine (toStringS_any _ _ _ _ (by exact hw.mono ((((Below.refl _ _).alloc (Nat.le_refl _) _).alloc (by simp) _).alloc (by simp; omega) _)) hl).mono ?_; rintro e w' ⟨rfl, rfl⟩)
  refine bodyPost_ret (v := .agg #[.string nm, .int .i64 kd, .int .i64 ls, .int .i64 ms, .slice (some ⟨w.heap.size + 1 + 1 + 1, 0, none⟩) ws.length ws.length, .string to, .int .i64 rl, .bool mu, .bool fx, .string df, .string wg]) (by simp [results, Try.results9, go_sem]) rfl ⟨w.heap.size + 1 + 1 + 1, rfl, by omega, by simp, at4 _ _ _ _ _, below4 _ _ _ _ _⟩

end Go.Proofs.Ytbefjngbilakjaa

namespace Go.Proofs.Ytbefjngbilakjaa.Gate

/-- Something holds of all places below n. -/
def up (P : Nat → Bool) (n : Nat) : Bool := (List.range n).all P
theorem up_zero (P : Nat → Bool) : up P 0 = true := rfl
theorem up_succ (P : Nat → Bool) (n : Nat) : up P (n + 1) = (up P n && P n) := by simp [up, List.range_succ, List.all_append]
theorem up_not {P : Nat → Bool} {k n : Nat} (h : k < n) (hk : P k = false) : up P n = false := by
  unfold up; rw [List.all_eq_false]; exact ⟨k, List.mem_range.2 h, by simp [hk]⟩
theorem up_at {P : Nat → Bool} {k n : Nat} (h : k < n) (hu : up P n = true) : P k = true := by
  unfold up at hu; rw [List.all_eq_true] at hu; exact hu k (List.mem_range.2 h)

def less (a b : ByteArray) : Bool := Op.bytesLess a.toList b.toList

def ascAt (ws : List ByteArray) (i : Nat) : Bool := nameOk (ws.getD i ByteArray.empty) && (decide (i = 0) || less (ws.getD (i - 1) ByteArray.empty) (ws.getD i ByteArray.empty))
def asc (ws : List ByteArray) : Bool := up (ascAt ws) ws.length

theorem getD_at {α : Type} (l : List α) (i : Nat) (d : α) (h : i < l.length) : l.getD i d = l[i] := by
  rw [List.getD_eq_getElem?_getD, List.getElem?_eq_getElem h]; rfl

theorem ascAt_name {ws : List ByteArray} {k : Nat} (h : k < ws.length) (hn : nameOk ws[k] = false) : ascAt ws k = false := by
  unfold ascAt; rw [getD_at ws k _ h, hn]; rfl
theorem ascAt_first {ws : List ByteArray} (h : 0 < ws.length) (hn : nameOk ws[0] = true) : ascAt ws 0 = true := by
  unfold ascAt; rw [getD_at ws 0 _ h, hn]; rfl
theorem ascAt_more {ws : List ByteArray} {k : Nat} (h : k + 1 < ws.length) (hn : nameOk ws[k + 1] = true) : ascAt ws (k + 1) = less ws[k] ws[k + 1] := by
  unfold ascAt; rw [getD_at ws (k + 1) _ h, Nat.add_sub_cancel, getD_at ws k _ (by omega), hn]; simp

/-- A field has nothing that its kind does not use. -/
def bareOf (kd ls ms : Int) (n : Nat) (to : ByteArray) (rl : Int) (wg : ByteArray) : Bool :=
  if kd = 1 then decide (n = 0) && to.toList.isEmpty && decide (rl = 0)
  else if kd = 2 then decide (ls = 0) && decide (ms = 0) && to.toList.isEmpty && decide (rl = 0) && wg.toList.isEmpty
  else if kd = 3 then decide (n = 0) && to.toList.isEmpty && decide (rl = 0) && wg.toList.isEmpty
  else if kd = 4 then decide (ls = 0) && decide (ms = 0) && decide (n = 0) && wg.toList.isEmpty
  else false

def rangeOk (ls ms lo hi : Int) : Bool := decide (lo ≤ ls) && decide (ls ≤ ms) && decide (ms ≤ hi)
def hasKind (ss : List Shp) (k : ByteArray) : Bool := ss.any fun s => decide (s.kd = k)

/-- What a field's kind uses is as it must be. -/
def soundOf (ss : List Shp) (f : Fld) : Bool :=
  if f.kd = 1 then rangeOk f.ls f.ms 0 1000000 && (f.wg.toList.isEmpty || nameOk f.wg)
  else if f.kd = 2 then decide (1 ≤ f.ws.length) && decide (f.ws.length ≤ 6) && asc f.ws
  else if f.kd = 3 then rangeOk f.ls f.ms 1 40
  else if f.kd = 4 then hasKind ss f.to && (decide (1 ≤ f.rl) && decide (f.rl ≤ 3)) && f.df.toList.isEmpty && (decide (f.rl ≠ 2) || !f.mu)
  else false

def bare (f : Fld) : Bool := bareOf f.kd f.ls f.ms f.ws.length f.to f.rl f.wg
def fitsF (f : Fld) (v : ByteArray) : Bool := fits f.kd f.ls f.ms f.ws v
def dfOk (f : Fld) : Bool := f.df.toList.isEmpty || fitsF f f.df
def fieldOk (ss : List Shp) (f : Fld) : Bool := bare f && soundOf ss f && dfOk f

def noShape : Shp := ⟨ByteArray.empty, []⟩
/-- The first shape of a kind. -/
def shapeOf (ss : List Shp) (k : ByteArray) : Shp := (ss.find? fun s => decide (s.kd = k)).getD noShape

theorem hasKind_snoc (ss : List Shp) (v : ByteArray) (k : Nat) (h : k < ss.length) : hasKind (ss.take (k + 1)) v = (hasKind (ss.take k) v || decide (ss[k].kd = v)) := by
  unfold hasKind; rw [List.take_succ_eq_append_getElem h, List.any_append]; simp
theorem hasKind_at (ss : List Shp) (v : ByteArray) (k : Nat) (h : k < ss.length) (e : ss[k].kd = v) : hasKind ss v = true := by
  unfold hasKind; rw [List.any_eq_true]; exact ⟨ss[k], List.getElem_mem h, by simpa using e⟩
theorem hasKind_all (ss : List Shp) (v : ByteArray) (k : Nat) (h : ss.length ≤ k) : hasKind (ss.take k) v = hasKind ss v := by rw [List.take_of_length_le h]
theorem shapeOf_at (ss : List Shp) (v : ByteArray) (k : Nat) (h : k < ss.length) (hb : hasKind (ss.take k) v = false) (e : ss[k].kd = v) : shapeOf ss v = ss[k] := by
  unfold shapeOf
  have hn : (ss.take k).find? (fun s => decide (s.kd = v)) = none := by
    rw [List.find?_eq_none]; intro x hx; unfold hasKind at hb; rw [List.any_eq_false] at hb; exact hb x hx
  conv => lhs; rw [← List.take_append_drop k ss]
  rw [List.find?_append, hn, List.drop_eq_getElem_cons h, List.find?_cons_of_pos (by simpa using e)]; rfl
theorem shapeOf_none (ss : List Shp) (v : ByteArray) (hb : hasKind ss v = false) : shapeOf ss v = noShape := by
  unfold shapeOf
  have hn : ss.find? (fun s => decide (s.kd = v)) = none := by
    rw [List.find?_eq_none]; intro x hx; unfold hasKind at hb; rw [List.any_eq_false] at hb; exact hb x hx
  rw [hn]; rfl

def hasName (fs : List Fld) (v : ByteArray) : Bool := fs.any fun f => decide (f.nm = v)
/-- The place of the first field of a name, -1 if there is none. -/
def fieldIx (fs : List Fld) (v : ByteArray) : Int := match fs.findIdx? (fun f => decide (f.nm = v)) with | some i => i | none => -1

theorem hasName_snoc (fs : List Fld) (v : ByteArray) (k : Nat) (h : k < fs.length) : hasName (fs.take (k + 1)) v = (hasName (fs.take k) v || decide (fs[k].nm = v)) := by
  unfold hasName; rw [List.take_succ_eq_append_getElem h, List.any_append]; simp
theorem hasName_all (fs : List Fld) (v : ByteArray) (k : Nat) (h : fs.length ≤ k) : hasName (fs.take k) v = hasName fs v := by rw [List.take_of_length_le h]
theorem fieldIx_at (fs : List Fld) (v : ByteArray) (k : Nat) (h : k < fs.length) (hb : hasName (fs.take k) v = false) (e : fs[k].nm = v) : fieldIx fs v = k := by
  unfold fieldIx
  have hf : fs.findIdx? (fun f => decide (f.nm = v)) = some k := by
    rw [List.findIdx?_eq_some_iff_getElem]
    refine ⟨h, by simpa using e, fun j hj => ?_⟩
    unfold hasName at hb
    rw [List.any_eq_false] at hb
    have hm : fs[j] ∈ fs.take k := by
      rw [List.mem_iff_getElem]
      exact ⟨j, by simp; omega, by simp⟩
    exact hb _ hm
  rw [hf]
theorem fieldIx_none (fs : List Fld) (v : ByteArray) (hb : hasName fs v = false) : fieldIx fs v = -1 := by
  unfold fieldIx
  have hf : fs.findIdx? (fun f => decide (f.nm = v)) = none := by
    rw [List.findIdx?_eq_none_iff]
    intro x hx
    unfold hasName at hb
    rw [List.any_eq_false] at hb
    simpa using hb x hx
  rw [hf]
theorem hasName_first (fs : List Fld) (v : ByteArray) (k : Nat) (h : k < fs.length) (hh : hasName (fs.take k) v = true) : ∃ j, j < k ∧ fieldIx fs v = j := by
  unfold hasName at hh
  rw [List.any_eq_true] at hh
  obtain ⟨x, hx, he⟩ := hh
  obtain ⟨j, hj, rfl⟩ := List.mem_iff_getElem.1 hx
  have hjk : j < k := by simp at hj; omega
  have hjl : j < fs.length := by omega
  have hv : fs[j].nm = v := by simpa using he
  cases hf : fs.findIdx? (fun f => decide (f.nm = v)) with
  | none =>
    rw [List.findIdx?_eq_none_iff] at hf
    have := hf fs[j] (List.getElem_mem hjl)
    simp [hv] at this
  | some i =>
    refine ⟨i, ?_, by unfold fieldIx; rw [hf]⟩
    rw [List.findIdx?_eq_some_iff_getElem] at hf
    obtain ⟨hi, _, hmin⟩ := hf
    rcases Nat.lt_or_ge i k with h1 | h1
    · exact h1
    · exfalso
      have := hmin j (by omega)
      simp [hv] at this

def noField : Fld := ⟨ByteArray.empty, 0, 0, 0, [], ByteArray.empty, 0, false, false, ByteArray.empty, ByteArray.empty⟩
/-- The field at a place is ok: its name, new among the fields ahead of it, and what it says. -/
def okAt (ss : List Shp) (fs : List Fld) (i : Nat) : Bool :=
  nameOk (fs.getD i noField).nm && !hasName (fs.take i) (fs.getD i noField).nm && fieldOk ss (fs.getD i noField)
def fieldsOk (ss : List Shp) (fs : List Fld) : Bool := decide (fs.length ≤ 6) && up (okAt ss fs) fs.length

theorem okAt_eq (ss : List Shp) (fs : List Fld) (i : Nat) (h : i < fs.length) : okAt ss fs i = (nameOk fs[i].nm && !hasName (fs.take i) fs[i].nm && fieldOk ss fs[i]) := by
  unfold okAt; rw [getD_at fs i _ h]

/-- The shape at a place is ok. -/
def shapeAt (ss : List Shp) (i : Nat) : Bool :=
  nameOk (ss.getD i noShape).kd && (decide (i = 0) || less (ss.getD (i - 1) noShape).kd (ss.getD i noShape).kd) && fieldsOk ss (ss.getD i noShape).fs
def shapesOk (ss : List Shp) : Bool := decide (ss.length ≤ 6) && up (shapeAt ss) ss.length

theorem shapeAt_first (ss : List Shp) (h : 0 < ss.length) : shapeAt ss 0 = (nameOk ss[0].kd && fieldsOk ss ss[0].fs) := by
  unfold shapeAt; rw [getD_at ss 0 _ h]; simp
theorem shapeAt_more (ss : List Shp) (k : Nat) (h : k + 1 < ss.length) : shapeAt ss (k + 1) = (nameOk ss[k + 1].kd && less ss[k].kd ss[k + 1].kd && fieldsOk ss ss[k + 1].fs) := by
  unfold shapeAt; rw [getD_at ss (k + 1) _ h, Nat.add_sub_cancel, getD_at ss k _ (by omega)]; simp

end Go.Proofs.Ytbefjngbilakjaa.Gate
