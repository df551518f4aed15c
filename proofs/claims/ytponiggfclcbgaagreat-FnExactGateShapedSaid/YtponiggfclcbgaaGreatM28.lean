import Derived.WalkKit
import Derived.Deep.RegionHeld3
import Derived.Test.YtponiggfclcbgaaGreatM05
import Derived.Test.YtponiggfclcbgaaGreatM27
namespace Go.Proofs.YtponiggfclcbgaaGreat
open Go.RowKit

/-- The operation at a place of a written-out row: it unfolds to the operation itself. -/
def nth : List Oper → Nat → Option Oper
  | [], _ => none
  | o :: _, 0 => some o
  | _ :: l, n + 1 => nth l n
theorem nth_eq : ∀ (l : List Oper) (i : Nat), nth l i = l[i]?
  | [], _ => by simp [nth]
  | _ :: _, 0 => by simp [nth]
  | _ :: l, n + 1 => by simp [nth, nth_eq l n]

section
variable {P : Program} {ops : Array Oper} {Q : Exit → Act → World → Prop} {md : Region.Mode} {S : World → Prop}

theorem nth_at {i : Nat} {oi : Oper} (hi : nth ops.toList i = some oi) : ops[i]? = some oi := by
  rw [nth_eq] at hi; simpa using hi

/-- An operation that is wanted, and yields in every world that meets S. -/
theorem takeH {i : Nat} {oi : Oper} {v : Value} {fuel : Nat} {listed : Array Bool} {a : Act} {w : World} (hi : nth ops.toList i = some oi)
    (hs : Region.noSelect ops = true) (hf : Region.free md ops listed i = true) (hr : (Region.ready md ops listed).contains i = true)
    (hQ : ∀ c a w, Q (.panic c) (a.put oi.dst v) w → Q (.panic c) a w) (hw : Region.wanted oi (yielded ops a.tmps) = true) (hS : S w)
    (hy : ∀ w, S w → (execOp a.eval oi).run P w = .ok (.value v) w)
    (h : wpAnyH P md ops Q S fuel (listed.setIfInBounds i true) (a.put oi.dst v) w) : wpAnyH P md ops Q S (fuel + 1) listed a w :=
  wpAnyH_take (nth_at hi) hs hf hr hQ (Or.inl ⟨hw, hy⟩) hS h

/-- An operation whose guard is false. -/
theorem skipH {i : Nat} {oi : Oper} {fuel : Nat} {listed : Array Bool} {a : Act} {w : World} (hi : nth ops.toList i = some oi)
    (hs : Region.noSelect ops = true) (hf : Region.free md ops listed i = true) (hr : (Region.ready md ops listed).contains i = true)
    (hQ : ∀ c a w, Q (.panic c) (a.put oi.dst undef) w → Q (.panic c) a w) (hw : Region.wanted oi (yielded ops a.tmps) = false) (hS : S w)
    (h : wpAnyH P md ops Q S fuel (listed.setIfInBounds i true) (a.put oi.dst undef) w) : wpAnyH P md ops Q S (fuel + 1) listed a w :=
  wpAnyH_take (nth_at hi) hs hf hr hQ (Or.inr ⟨hw, rfl⟩) hS h

/-- The one operation that may come up, carried out. -/
theorem stepH {i : Nat} {oi : Oper} {fuel : Nat} {listed : Array Bool} {a : Act} {w : World} (hi : nth ops.toList i = some oi)
    (hr : Region.ready md ops listed = [i]) (hw : Region.wanted oi (yielded ops a.tmps) = true)
    (h : ∀ K : Act → World → Prop, Shut (∀ a w, S w → (S w → wpAnyH P md ops Q S fuel (listed.setIfInBounds i true) a w) → K a w) → Oper.wp P oi a w K Q) : wpAnyH P md ops Q S (fuel + 1) listed a w :=
  wpAnyH_ready hr (by simp) (AllReadyH.cons (nth_at hi) (fun K hK => by rw [if_pos hw]; exact h K hK) AllReadyH.nil)
end

end Go.Proofs.YtponiggfclcbgaaGreat

namespace Go.Proofs.YtponiggfclcbgaaGreat
open Go.RowKit

set_option maxHeartbeats 1000000 in
theorem shapeOf_any0 (w0 : World) (a : Option Addr) (cap : Nat) (ss : List Shp) (v : ByteArray) (w : World) (hw : ShpsAt w0 a ss) (hbb : Below w0.heap.size w0 w) :
    Calls Tryz.prog 56 #[.slice a ss.length cap, .string v] w fun e w' => ∃ fa fcap, e = .returned (.tuple #[.agg #[.string (Gate.shapeOf ss v).kd, .slice fa (Gate.shapeOf ss v).fs.length fcap], .bool (Gate.hasKind ss v)]) ∧
      FldsAt w0 fa (Gate.shapeOf ss v).fs ∧ Below w.heap.size w w' := by
  have hl := hw.len
  unfold maxLen at hl
  go_enter Tryz.func56, Tryz.ntmps56
  go_wp2
  go_loopw [10] (fun i wr => ∃ k : Nat, k ≤ ss.length ∧ i = .int .i64 k ∧ Gate.hasKind (ss.take k) v = false ∧ Below (w.heap.size + 1) (w.alloc (.cells #[.string ByteArray.empty, .slice none 0 0] 69)) wr) (fun i _ => ss.length - (intOf i).toNat)
  case atStart => exact ⟨0, Nat.zero_le _, rfl, rfl, Below.refl _ _⟩
  case round =>
    obtain ⟨k, hk, rfl, hno, hbl⟩ := hrel
    have hsz : w.heap.size < wr.heap.size := by have := hbl.size; simp at this; omega
    have hB0 : Below w.heap.size w wr := ((Below.refl _ _).alloc (Nat.le_refl _) _).trans (hbl.mono (by omega))
    have hX0 : wr.cell? ⟨w.heap.size, 0, none⟩ = some (.string ByteArray.empty) := (hbl.cell (p := ⟨w.heap.size, 0, none⟩) (by simp)).trans (by rw [World.cell?_alloc_at _ _ _ _ rfl]; rfl)
    have hX1 : wr.cell? ⟨w.heap.size, 1, none⟩ = some (.slice none 0 0) := (hbl.cell (p := ⟨w.heap.size, 1, none⟩) (by simp)).trans (by rw [World.cell?_alloc_at _ _ _ _ rfl]; rfl)
    have hF0 : wr.frozen? ⟨w.heap.size, 0, none⟩ = false := (hbl.frozen (p := ⟨w.heap.size, 0, none⟩) (by simp)).trans (by rw [World.frozen?_alloc_at _ _ _ _ rfl])
    have hF1 : wr.frozen? ⟨w.heap.size, 1, none⟩ = false := (hbl.frozen (p := ⟨w.heap.size, 1, none⟩) (by simp)).trans (by rw [World.frozen?_alloc_at _ _ _ _ rfl])
    by_cases hlt : k < ss.length
    · obtain ⟨b, off, rfl, hb, hr⟩ := hw.rows (by rintro rfl; simp at hlt)
      obtain ⟨fa, fcap, hs⟩ := hr k hlt
      have hb0 : b < w.heap.size := Nat.lt_of_lt_of_le hb hbb.size
      have hck := ((hB0.cell (p := ⟨b, off + k * 2, none⟩) hb0).trans (hbb.cell (p := ⟨b, off + k * 2, none⟩) hb)).trans hs.kind
      have hcl := ((hB0.cell (p := ⟨b, off + k * 2 + 1, none⟩) hb0).trans (hbb.cell (p := ⟨b, off + k * 2 + 1, none⟩) hb)).trans hs.list
      have hfl := hs.flds
      clear hw hr hs
      by_cases he : ss[k].kd = v
      · have hbe : (ss[k].kd.toList == v.toList) = true := by rw [Gate.beq_toList]; simpa using he
        have HA : Hid (Gate.hasKind ss v = true) := Gate.hasKind_at ss v k hlt he
        have HB : Hid (Gate.shapeOf ss v = ss[k]) := Gate.shapeOf_at ss v k hlt hno he
        clear he hno
        go_wp2
        refine bodyPost_ret (v := .tuple #[.agg #[.string ss[k].kd, .slice fa ss[k].fs.length fcap], .bool true]) (by simp [results, Tryz.results56, go_sem, hX0, hX1, hsz]) rfl ⟨fa, fcap, by rw [HA.out, HB.out], by rw [HB.out]; exact hfl, ?_⟩
        exact ((hB0.setCell (Nat.le_refl _) _).setCell (Nat.le_refl _) _).alloc (by simp [World.setCell]; omega) _
      · have hbe : (ss[k].kd.toList == v.toList) = false := by rw [Gate.beq_toList]; simpa using he
        have HS : Hid (Gate.hasKind (ss.take (k + 1)) v = false) := by unfold Hid; rw [Gate.hasKind_snoc ss v k hlt, hno, decide_eq_false he]; rfl
        clear he hno hX0 hX1 hF0 hF1
        go_wp2
        go_roundw
        case rel => exact ⟨k + 1, by omega, by go_num, HS.out, hbl.alloc (by omega) _⟩
        case measure => simp [intOf]; omega
    · have HA : Hid (Gate.hasKind ss v = false) := by rw [← Gate.hasKind_all ss v k (by omega)]; exact hno
      have HB : Hid (Gate.shapeOf ss v = Gate.noShape) := Gate.shapeOf_none ss v HA.out
      clear hno hw
      go_wp2
      refine bodyPost_ret (v := .tuple #[.agg #[.string ByteArray.empty, .slice none 0 0], .bool false]) (by simp [results, Tryz.results56, go_sem, hX0, hX1]; rfl) rfl ⟨none, 0, by rw [HA.out, HB.out]; rfl, by rw [HB.out]; exact ⟨by simp [Gate.noShape, maxLen], fun h => absurd rfl h⟩, ?_⟩
      exact (hB0.setCell (Nat.le_refl _) _).setCell (Nat.le_refl _) _

end Go.Proofs.YtponiggfclcbgaaGreat

namespace Go.Proofs.YtponiggfclcbgaaGreat
open Go.RowKit

/-- Whether an object is one that mends change. -/
def Gate.mendable (ss : List Shp) (ms : List Mnd) (o : Ob) : Bool := Gate.hasKind ss o.kd && (decide (o.vs.length = (Gate.shapeOf ss o.kd).fs.length) && Gate.mendsOk ss ms)

theorem put2_other' {w : World} {b : Nat} {v0 v1 : Value} {b' o : Nat} (h : b' ≠ b) : ((w.setCell ⟨b, 0, none⟩ v0).setCell ⟨b, 1, none⟩ v1).cell? ⟨b', o, none⟩ = w.cell? ⟨b', o, none⟩ := by
  rw [cell_setCell_other h, cell_setCell_other h]

set_option maxHeartbeats 4000000 in
theorem mendShape_any (a0 ma : Option Addr) (cap0 mcap : Nat) (ss : List Shp) (ms : List Mnd) (o : Ob) (va ha : Option Addr) (cap cap' : Nat) (w : World) (hw : ShpsAt w a0 ss) (hm : MndsAt w ma ms) (hml : ms.length ≤ 1048576) (hvl : o.vs.length ≤ maxLen) :
    Calls Tryz.prog 41 #[.slice a0 ss.length cap0, .slice ma ms.length mcap, .agg #[.string o.kd, .string o.nm, .string o.tm, .slice va o.vs.length cap, .bool o.en, .slice ha o.hs.length cap', .int .i64 o.vr]] w
      fun e w' => ∃ fa fcap, e = .returned (.tuple #[.agg #[.string (Gate.shapeOf ss o.kd).kd, .slice fa (Gate.shapeOf ss o.kd).fs.length fcap], .bool (Gate.mendable ss ms o)]) ∧ FldsAt w fa (Gate.shapeOf ss o.kd).fs ∧ Below w.heap.size w w' := by
  have HH : Hid (ShpsAt w a0 ss ∧ MndsAt w ma ms ∧ ms.length ≤ 1048576) := ⟨hw, hm, hml⟩
  clear hw hm hml
  unfold maxLen at hvl
  go_enter Tryz.func41, Tryz.ntmps41
  go_wp2_with fail
  have h1 := shapeOf_any0 w a0 cap0 ss o.kd _ HH.out.1 (below2' w (.cells #[.string o.kd, .string o.nm, .string o.tm, .slice va o.vs.length cap, .bool o.en, .slice ha o.hs.length cap', .int .i64 o.vr] 30) (.cells #[.string ByteArray.empty, .slice none 0 0] 69))
  refine h1.mono ?_
  rintro e w1 ⟨fa, fcap, rfl, hfl0, hb1⟩
  have HFL : Hid (FldsAt w fa (Gate.shapeOf ss o.kd).fs) := hfl0
  have HX1 : Hid (w1.heap[w.heap.size]? = some (.cells #[.string o.kd, .string o.nm, .string o.tm, .slice va o.vs.length cap, .bool o.en, .slice ha o.hs.length cap', .int .i64 o.vr] 30)) := (hb1.block w.heap.size (by simp; omega)).trans (two_blocks _ _ _).1
  have HR1 : Hid (w1.heap[w.heap.size + 1]? = some (.cells #[.string ByteArray.empty, .slice none 0 0] 69)) := (hb1.block (w.heap.size + 1) (by simp)).trans (two_blocks _ _ _).2
  have hz1 : w.heap.size + 1 < w1.heap.size := by have := hb1.size; simp at this; omega
  have HB1 : Hid (Below w.heap.size w w1) := (below2' _ _ _).trans (hb1.mono (by simp; omega))
  have hlen := HFL.out.len
  unfold maxLen at hlen
  clear h1 hb1 hfl0
  go_wp2_with fail
  have hbs : Below w1.heap.size w1 (w1.alloc (.cells #[.string (Gate.shapeOf ss o.kd).kd, .slice fa (Gate.shapeOf ss o.kd).fs.length fcap] 69)) := (Below.refl _ _).alloc (Nat.le_refl _) _
  have hY0 := box_new w1 #[.string (Gate.shapeOf ss o.kd).kd, .slice fa (Gate.shapeOf ss o.kd).fs.length fcap] 69
  obtain ⟨W2, hW2⟩ : ∃ W2, W2 = w1.alloc (.cells #[.string (Gate.shapeOf ss o.kd).kd, .slice fa (Gate.shapeOf ss o.kd).fs.length fcap] 69) := ⟨_, rfl⟩
  have hy0 : w1.heap.size < W2.heap.size := by rw [hW2]; simp
  rw [← hW2] at hbs hY0 ⊢
  clear hW2
  have hbd := hbs.trans ((Below.refl W2.heap.size W2).drew.mono hbs.size)
  have hX : ∀ j, W2.drew.cell? ⟨w.heap.size, j, none⟩ = (#[.string o.kd, .string o.nm, .string o.tm, .slice va o.vs.length cap, .bool o.en, .slice ha o.hs.length cap', .int .i64 o.vr] : Array Value)[j]? := fun j => cell_of_block ((hbd.block _ (by omega)).trans HX1.out)
  have hY : ∀ j, W2.drew.cell? ⟨w1.heap.size, j, none⟩ = (#[.string (Gate.shapeOf ss o.kd).kd, .slice fa (Gate.shapeOf ss o.kd).fs.length fcap] : Array Value)[j]? := box_later hY0 hy0 (Below.refl W2.heap.size W2).drew
  have hRb : W2.drew.heap[w.heap.size + 1]? = some (.cells #[.string ByteArray.empty, .slice none 0 0] 69) := (hbd.block _ hz1).trans HR1.out
  have hB := HB1.out.trans (hbd.mono HB1.out.size)
  have hy : w1.heap.size < W2.drew.heap.size := hy0
  have hlI : (o.vs.length : Int) ≤ 9223372036854775807 := by omega
  clear hbs hY0 hy0 hbd
  by_cases hk : Gate.hasKind ss o.kd = true
  rotate_left
  · have hkf : Gate.hasKind ss o.kd = false := by simpa using hk
    have HF : Hid (Gate.mendable ss ms o = false) := by unfold Hid Gate.mendable; rw [hkf]; rfl
    rw [hkf]
    clear hk
    refine wp_region_held_drew (S := fun w' => (∀ j, w'.cell? ⟨w.heap.size, j, none⟩ = (#[.string o.kd, .string o.nm, .string o.tm, .slice va o.vs.length cap, .bool o.en, .slice ha o.hs.length cap', .int .i64 o.vr] : Array Value)[j]?) ∧ ∀ j, w'.cell? ⟨w1.heap.size, j, none⟩ = (#[.string (Gate.shapeOf ss o.kd).kd, .slice fa (Gate.shapeOf ss o.kd).fs.length fcap] : Array Value)[j]?) (by kernel_rfl) ⟨hX, hY⟩ (fun hHeld => ?_)
    refine takeH (i := 0) (v := ?_) rfl (by kernel_rfl) (by kernel_rfl) (by kernel_rfl) (fun _ _ _ h => h) (by rfl) hHeld ?_ ?_
    rotate_left
    · intro w hSw
      (try dsimp only at hSw)
      go_simp
      try with_reducible rfl
    (try simp only [Act.put, List.setIfInBounds_toArray, List.set_cons_zero, List.set_cons_succ])
    refine takeH (i := 1) (v := ?_) rfl (by kernel_rfl) (by kernel_rfl) (by kernel_rfl) (fun _ _ _ h => h) (by rfl) hHeld ?_ ?_
    rotate_left
    · intro w hSw
      (try dsimp only at hSw)
      go_simp
      try with_reducible rfl
    (try simp only [Act.put, List.setIfInBounds_toArray, List.set_cons_zero, List.set_cons_succ])
    refine takeH (i := 2) (v := ?_) rfl (by kernel_rfl) (by kernel_rfl) (by kernel_rfl) (fun _ _ _ h => h) (by rfl) hHeld ?_ ?_
    rotate_left
    · intro w hSw
      (try dsimp only at hSw)
      go_simp
      try with_reducible rfl
    (try simp only [Act.put, List.setIfInBounds_toArray, List.set_cons_zero, List.set_cons_succ])
    refine skipH (i := 3) rfl (by kernel_rfl) (by kernel_rfl) (by kernel_rfl) (fun _ _ _ h => h) (by rfl) hHeld ?_
    (try simp only [Act.put, List.setIfInBounds_toArray, List.set_cons_zero, List.set_cons_succ])
    refine skipH (i := 4) rfl (by kernel_rfl) (by kernel_rfl) (by kernel_rfl) (fun _ _ _ h => h) (by rfl) hHeld ?_
    (try simp only [Act.put, List.setIfInBounds_toArray, List.set_cons_zero, List.set_cons_succ])
    refine skipH (i := 5) rfl (by kernel_rfl) (by kernel_rfl) (by kernel_rfl) (fun _ _ _ h => h) (by rfl) hHeld ?_
    (try simp only [Act.put, List.setIfInBounds_toArray, List.set_cons_zero, List.set_cons_succ])
    refine skipH (i := 6) rfl (by kernel_rfl) (by kernel_rfl) (by kernel_rfl) (fun _ _ _ h => h) (by rfl) hHeld ?_
    (try simp only [Act.put, List.setIfInBounds_toArray, List.set_cons_zero, List.set_cons_succ])
    refine skipH (i := 7) rfl (by kernel_rfl) (by kernel_rfl) (by kernel_rfl) (fun _ _ _ h => h) (by rfl) hHeld ?_
    (try simp only [Act.put, List.setIfInBounds_toArray, List.set_cons_zero, List.set_cons_succ])
    refine skipH (i := 8) rfl (by kernel_rfl) (by kernel_rfl) (by kernel_rfl) (fun _ _ _ h => h) (by rfl) hHeld ?_
    (try simp only [Act.put, List.setIfInBounds_toArray, List.set_cons_zero, List.set_cons_succ])
    refine skipH (i := 9) rfl (by kernel_rfl) (by kernel_rfl) (by kernel_rfl) (fun _ _ _ h => h) (by rfl) hHeld ?_
    (try simp only [Act.put, List.setIfInBounds_toArray, List.set_cons_zero, List.set_cons_succ])
    refine takeH (i := 10) (v := ?_) rfl (by kernel_rfl) (by kernel_rfl) (by kernel_rfl) (fun _ _ _ h => h) (by rfl) hHeld ?_ ?_
    rotate_left
    · intro w hSw
      (try dsimp only at hSw)
      go_simp
      try with_reducible rfl
    (try simp only [Act.put, List.setIfInBounds_toArray, List.set_cons_zero, List.set_cons_succ])
    refine takeH (i := 11) (v := ?_) rfl (by kernel_rfl) (by kernel_rfl) (by kernel_rfl) (fun _ _ _ h => h) (by rfl) hHeld ?_ ?_
    rotate_left
    · intro w hSw
      (try dsimp only at hSw)
      go_simp
      try with_reducible rfl
    (try simp only [Act.put, List.setIfInBounds_toArray, List.set_cons_zero, List.set_cons_succ])
    refine skipH (i := 12) rfl (by kernel_rfl) (by kernel_rfl) (by kernel_rfl) (fun _ _ _ h => h) (by rfl) hHeld ?_
    (try simp only [Act.put, List.setIfInBounds_toArray, List.set_cons_zero, List.set_cons_succ])
    refine skipH (i := 13) rfl (by kernel_rfl) (by kernel_rfl) (by kernel_rfl) (fun _ _ _ h => h) (by rfl) hHeld ?_
    (try simp only [Act.put, List.setIfInBounds_toArray, List.set_cons_zero, List.set_cons_succ])
    refine skipH (i := 14) rfl (by kernel_rfl) (by kernel_rfl) (by kernel_rfl) (fun _ _ _ h => h) (by rfl) hHeld ?_
    (try simp only [Act.put, List.setIfInBounds_toArray, List.set_cons_zero, List.set_cons_succ])
    refine takeH (i := 15) (v := ?_) rfl (by kernel_rfl) (by kernel_rfl) (by kernel_rfl) (fun _ _ _ h => h) (by rfl) hHeld ?_ ?_
    rotate_left
    · intro w hSw
      (try dsimp only at hSw)
      go_simp
      try with_reducible rfl
    (try simp only [Act.put, List.setIfInBounds_toArray, List.set_cons_zero, List.set_cons_succ])
    have hRb0 : W2.heap[w.heap.size + 1]? = some (.cells #[.string ByteArray.empty, .slice none 0 0] 69) := hRb
    have hRc0 : W2.cell? ⟨w.heap.size + 1, 0, none⟩ = some (.string ByteArray.empty) := cell_of_block hRb0
    have hRc1 : W2.cell? ⟨w.heap.size + 1, 1, none⟩ = some (.slice none 0 0) := cell_of_block hRb0
    have hRf : ∀ j, W2.frozen? ⟨w.heap.size + 1, j, none⟩ = false := fun j => frozen_of_block hRb0
    have hX' : ∀ j, W2.cell? ⟨w.heap.size, j, none⟩ = (#[.string o.kd, .string o.nm, .string o.tm, .slice va o.vs.length cap, .bool o.en, .slice ha o.hs.length cap', .int .i64 o.vr] : Array Value)[j]? := hX
    have hY' : ∀ j, W2.cell? ⟨w1.heap.size, j, none⟩ = (#[.string (Gate.shapeOf ss o.kd).kd, .slice fa (Gate.shapeOf ss o.kd).fs.length fcap] : Array Value)[j]? := hY
    refine stepH (i := 16) rfl (by kernel_rfl) (by rfl) (fun K hK => ?_)
    go_simp
    refine hK.out _ _ ?_ (fun hHeld => ?_)
    · exact ⟨fun j => (put2_other' (w := W2) (by omega)).trans (hX' j), fun j => (put2_other' (w := W2) (by omega)).trans (hY' j)⟩
    clear hK K
    (try simp only [Act.put, List.setIfInBounds_toArray, List.set_cons_zero, List.set_cons_succ])
    refine takeH (i := 17) (v := ?_) rfl (by kernel_rfl) (by kernel_rfl) (by kernel_rfl) (fun _ _ _ h => h) (by rfl) hHeld ?_ ?_
    rotate_left
    · intro w hSw
      (try dsimp only at hSw)
      go_simp
      try with_reducible rfl
    (try simp only [Act.put, List.setIfInBounds_toArray, List.set_cons_zero, List.set_cons_succ])
    refine wpAnyH_done (by kernel_rfl) ?_ _
    have hRe0 : ((W2.setCell ⟨w.heap.size + 1, 0, none⟩ (.string (Gate.shapeOf ss o.kd).kd)).setCell ⟨w.heap.size + 1, 1, none⟩ (.slice fa (Gate.shapeOf ss o.kd).fs.length fcap)).heap[w.heap.size + 1]? = some (.cells #[.string (Gate.shapeOf ss o.kd).kd, .slice fa (Gate.shapeOf ss o.kd).fs.length fcap] 69) := by
      have h := heap_setCell_at (o := 1) (heap_setCell_at (o := 0) hRb0 (.string (Gate.shapeOf ss o.kd).kd)) (.slice fa (Gate.shapeOf ss o.kd).fs.length fcap)
      simpa using h
    have hRe1 : ((W2.setCell ⟨w.heap.size + 1, 0, none⟩ (.string (Gate.shapeOf ss o.kd).kd)).setCell ⟨w.heap.size + 1, 1, none⟩ (.slice fa (Gate.shapeOf ss o.kd).fs.length fcap)).cell? ⟨w.heap.size + 1, 0, none⟩ = some (.string (Gate.shapeOf ss o.kd).kd) := cell_of_block hRe0
    have hRe2 : ((W2.setCell ⟨w.heap.size + 1, 0, none⟩ (.string (Gate.shapeOf ss o.kd).kd)).setCell ⟨w.heap.size + 1, 1, none⟩ (.slice fa (Gate.shapeOf ss o.kd).fs.length fcap)).cell? ⟨w.heap.size + 1, 1, none⟩ = some (.slice fa (Gate.shapeOf ss o.kd).fs.length fcap) := cell_of_block hRe0
    have HE : Hid (Below w.heap.size w ((W2.setCell ⟨w.heap.size + 1, 0, none⟩ (.string (Gate.shapeOf ss o.kd).kd)).setCell ⟨w.heap.size + 1, 1, none⟩ (.slice fa (Gate.shapeOf ss o.kd).fs.length fcap)).drew) := (hB.setCell (by show w.heap.size ≤ w.heap.size + 1; omega) _).setCell (by show w.heap.size ≤ w.heap.size + 1; omega) _
    go_wp2_with fail
    refine bodyPost_ret (v := .tuple #[.agg #[.string (Gate.shapeOf ss o.kd).kd, .slice fa (Gate.shapeOf ss o.kd).fs.length fcap], .bool false]) (by simp [results, Tryz.results41, go_sem, hRe1, hRe2]) rfl ⟨fa, fcap, by rw [HF.out], HFL.out, HE.out⟩
  rw [hk]
  by_cases hlv : o.vs.length = (Gate.shapeOf ss o.kd).fs.length
  rotate_left
  · have HF : Hid (Gate.mendable ss ms o = false) := by unfold Hid Gate.mendable; rw [decide_eq_false hlv]; simp
    have hlb : ((o.vs.length : Int) == ((Gate.shapeOf ss o.kd).fs.length : Int)) = false := by rw [beq_eq_false_iff_ne]; omega
    clear hk hlv
    refine wp_region_held_drew (S := fun w' => (∀ j, w'.cell? ⟨w.heap.size, j, none⟩ = (#[.string o.kd, .string o.nm, .string o.tm, .slice va o.vs.length cap, .bool o.en, .slice ha o.hs.length cap', .int .i64 o.vr] : Array Value)[j]?) ∧ ∀ j, w'.cell? ⟨w1.heap.size, j, none⟩ = (#[.string (Gate.shapeOf ss o.kd).kd, .slice fa (Gate.shapeOf ss o.kd).fs.length fcap] : Array Value)[j]?) (by kernel_rfl) ⟨hX, hY⟩ (fun hHeld => ?_)
    refine takeH (i := 0) (v := ?_) rfl (by kernel_rfl) (by kernel_rfl) (by kernel_rfl) (fun _ _ _ h => h) (by rfl) hHeld ?_ ?_
    rotate_left
    · intro w hSw
      (try dsimp only at hSw)
      go_simp
      try with_reducible rfl
    (try simp only [Act.put, List.setIfInBounds_toArray, List.set_cons_zero, List.set_cons_succ])
    refine takeH (i := 1) (v := ?_) rfl (by kernel_rfl) (by kernel_rfl) (by kernel_rfl) (fun _ _ _ h => h) (by rfl) hHeld ?_ ?_
    rotate_left
    · intro w hSw
      (try dsimp only at hSw)
      go_simp
      try with_reducible rfl
    (try simp only [Act.put, List.setIfInBounds_toArray, List.set_cons_zero, List.set_cons_succ])
    refine takeH (i := 2) (v := ?_) rfl (by kernel_rfl) (by kernel_rfl) (by kernel_rfl) (fun _ _ _ h => h) (by rfl) hHeld ?_ ?_
    rotate_left
    · intro w hSw
      (try dsimp only at hSw)
      go_simp
      try with_reducible rfl
    (try simp only [Act.put, List.setIfInBounds_toArray, List.set_cons_zero, List.set_cons_succ])
    refine takeH (i := 3) (v := ?_) rfl (by kernel_rfl) (by kernel_rfl) (by kernel_rfl) (fun _ _ _ h => h) (by rfl) hHeld ?_ ?_
    rotate_left
    · intro w hSw
      (try dsimp only at hSw)
      go_simp
      try with_reducible rfl
    (try simp only [Act.put, List.setIfInBounds_toArray, List.set_cons_zero, List.set_cons_succ])
    refine takeH (i := 4) (v := ?_) rfl (by kernel_rfl) (by kernel_rfl) (by kernel_rfl) (fun _ _ _ h => h) (by rfl) hHeld ?_ ?_
    rotate_left
    · intro w hSw
      (try dsimp only at hSw)
      go_simp
      try with_reducible rfl
    (try simp only [Act.put, List.setIfInBounds_toArray, List.set_cons_zero, List.set_cons_succ])
    refine takeH (i := 5) (v := ?_) rfl (by kernel_rfl) (by kernel_rfl) (by kernel_rfl) (fun _ _ _ h => h) (by rfl) hHeld ?_ ?_
    rotate_left
    · intro w hSw
      (try dsimp only at hSw)
      go_simp
      try with_reducible rfl
    (try simp only [Act.put, List.setIfInBounds_toArray, List.set_cons_zero, List.set_cons_succ])
    refine takeH (i := 6) (v := ?_) rfl (by kernel_rfl) (by kernel_rfl) (by kernel_rfl) (fun _ _ _ h => h) (by rfl) hHeld ?_ ?_
    rotate_left
    · intro w hSw
      (try dsimp only at hSw)
      go_simp
      try with_reducible rfl
    (try simp only [Act.put, List.setIfInBounds_toArray, List.set_cons_zero, List.set_cons_succ])
    refine takeH (i := 7) (v := ?_) rfl (by kernel_rfl) (by kernel_rfl) (by kernel_rfl) (fun _ _ _ h => h) (by rfl) hHeld ?_ ?_
    rotate_left
    · intro w hSw
      (try dsimp only at hSw)
      go_simp
      try with_reducible rfl
    (try simp only [Act.put, List.setIfInBounds_toArray, List.set_cons_zero, List.set_cons_succ])
    refine takeH (i := 8) (v := ?_) rfl (by kernel_rfl) (by kernel_rfl) (by kernel_rfl) (fun _ _ _ h => h) (by rfl) hHeld ?_ ?_
    rotate_left
    · intro w hSw
      (try dsimp only at hSw)
      go_simp
      try with_reducible rfl
    (try simp only [Act.put, List.setIfInBounds_toArray, List.set_cons_zero, List.set_cons_succ])
    refine takeH (i := 9) (v := ?_) rfl (by kernel_rfl) (by kernel_rfl) (by kernel_rfl) (fun _ _ _ h => h) (by rfl) hHeld ?_ ?_
    rotate_left
    · intro w hSw
      (try dsimp only at hSw)
      go_simp
      try with_reducible rfl
    (try simp only [Act.put, List.setIfInBounds_toArray, List.set_cons_zero, List.set_cons_succ])
    refine takeH (i := 10) (v := ?_) rfl (by kernel_rfl) (by kernel_rfl) (by kernel_rfl) (fun _ _ _ h => h) (by rfl) hHeld ?_ ?_
    rotate_left
    · intro w hSw
      (try dsimp only at hSw)
      go_simp
      try with_reducible rfl
    (try simp only [Act.put, List.setIfInBounds_toArray, List.set_cons_zero, List.set_cons_succ])
    refine takeH (i := 11) (v := ?_) rfl (by kernel_rfl) (by kernel_rfl) (by kernel_rfl) (fun _ _ _ h => h) (by rfl) hHeld ?_ ?_
    rotate_left
    · intro w hSw
      (try dsimp only at hSw)
      go_simp
      try with_reducible rfl
    (try simp only [Act.put, List.setIfInBounds_toArray, List.set_cons_zero, List.set_cons_succ])
    refine skipH (i := 12) rfl (by kernel_rfl) (by kernel_rfl) (by kernel_rfl) (fun _ _ _ h => h) (by rfl) hHeld ?_
    (try simp only [Act.put, List.setIfInBounds_toArray, List.set_cons_zero, List.set_cons_succ])
    refine skipH (i := 13) rfl (by kernel_rfl) (by kernel_rfl) (by kernel_rfl) (fun _ _ _ h => h) (by rfl) hHeld ?_
    (try simp only [Act.put, List.setIfInBounds_toArray, List.set_cons_zero, List.set_cons_succ])
    refine skipH (i := 14) rfl (by kernel_rfl) (by kernel_rfl) (by kernel_rfl) (fun _ _ _ h => h) (by rfl) hHeld ?_
    (try simp only [Act.put, List.setIfInBounds_toArray, List.set_cons_zero, List.set_cons_succ])
    refine takeH (i := 15) (v := ?_) rfl (by kernel_rfl) (by kernel_rfl) (by kernel_rfl) (fun _ _ _ h => h) (by rfl) hHeld ?_ ?_
    rotate_left
    · intro w hSw
      (try dsimp only at hSw)
      go_simp
      try with_reducible rfl
    (try simp only [Act.put, List.setIfInBounds_toArray, List.set_cons_zero, List.set_cons_succ])
    have hRb0 : W2.heap[w.heap.size + 1]? = some (.cells #[.string ByteArray.empty, .slice none 0 0] 69) := hRb
    have hRc0 : W2.cell? ⟨w.heap.size + 1, 0, none⟩ = some (.string ByteArray.empty) := cell_of_block hRb0
    have hRc1 : W2.cell? ⟨w.heap.size + 1, 1, none⟩ = some (.slice none 0 0) := cell_of_block hRb0
    have hRf : ∀ j, W2.frozen? ⟨w.heap.size + 1, j, none⟩ = false := fun j => frozen_of_block hRb0
    have hX' : ∀ j, W2.cell? ⟨w.heap.size, j, none⟩ = (#[.string o.kd, .string o.nm, .string o.tm, .slice va o.vs.length cap, .bool o.en, .slice ha o.hs.length cap', .int .i64 o.vr] : Array Value)[j]? := hX
    have hY' : ∀ j, W2.cell? ⟨w1.heap.size, j, none⟩ = (#[.string (Gate.shapeOf ss o.kd).kd, .slice fa (Gate.shapeOf ss o.kd).fs.length fcap] : Array Value)[j]? := hY
    refine stepH (i := 16) rfl (by kernel_rfl) (by rfl) (fun K hK => ?_)
    go_simp
    refine hK.out _ _ ?_ (fun hHeld => ?_)
    · exact ⟨fun j => (put2_other' (w := W2) (by omega)).trans (hX' j), fun j => (put2_other' (w := W2) (by omega)).trans (hY' j)⟩
    clear hK K
    (try simp only [Act.put, List.setIfInBounds_toArray, List.set_cons_zero, List.set_cons_succ])
    refine takeH (i := 17) (v := ?_) rfl (by kernel_rfl) (by kernel_rfl) (by kernel_rfl) (fun _ _ _ h => h) (by rfl) hHeld ?_ ?_
    rotate_left
    · intro w hSw
      (try dsimp only at hSw)
      go_simp
      try with_reducible rfl
    (try simp only [Act.put, List.setIfInBounds_toArray, List.set_cons_zero, List.set_cons_succ])
    refine wpAnyH_done (by kernel_rfl) ?_ _
    have hRe0 : ((W2.setCell ⟨w.heap.size + 1, 0, none⟩ (.string (Gate.shapeOf ss o.kd).kd)).setCell ⟨w.heap.size + 1, 1, none⟩ (.slice fa (Gate.shapeOf ss o.kd).fs.length fcap)).heap[w.heap.size + 1]? = some (.cells #[.string (Gate.shapeOf ss o.kd).kd, .slice fa (Gate.shapeOf ss o.kd).fs.length fcap] 69) := by
      have h := heap_setCell_at (o := 1) (heap_setCell_at (o := 0) hRb0 (.string (Gate.shapeOf ss o.kd).kd)) (.slice fa (Gate.shapeOf ss o.kd).fs.length fcap)
      simpa using h
    have hRe1 : ((W2.setCell ⟨w.heap.size + 1, 0, none⟩ (.string (Gate.shapeOf ss o.kd).kd)).setCell ⟨w.heap.size + 1, 1, none⟩ (.slice fa (Gate.shapeOf ss o.kd).fs.length fcap)).cell? ⟨w.heap.size + 1, 0, none⟩ = some (.string (Gate.shapeOf ss o.kd).kd) := cell_of_block hRe0
    have hRe2 : ((W2.setCell ⟨w.heap.size + 1, 0, none⟩ (.string (Gate.shapeOf ss o.kd).kd)).setCell ⟨w.heap.size + 1, 1, none⟩ (.slice fa (Gate.shapeOf ss o.kd).fs.length fcap)).cell? ⟨w.heap.size + 1, 1, none⟩ = some (.slice fa (Gate.shapeOf ss o.kd).fs.length fcap) := cell_of_block hRe0
    have HE : Hid (Below w.heap.size w ((W2.setCell ⟨w.heap.size + 1, 0, none⟩ (.string (Gate.shapeOf ss o.kd).kd)).setCell ⟨w.heap.size + 1, 1, none⟩ (.slice fa (Gate.shapeOf ss o.kd).fs.length fcap)).drew) := (hB.setCell (by show w.heap.size ≤ w.heap.size + 1; omega) _).setCell (by show w.heap.size ≤ w.heap.size + 1; omega) _
    go_wp2_with fail
    refine bodyPost_ret (v := .tuple #[.agg #[.string (Gate.shapeOf ss o.kd).kd, .slice fa (Gate.shapeOf ss o.kd).fs.length fcap], .bool false]) (by simp [results, Tryz.results41, go_sem, hRe1, hRe2]) rfl ⟨fa, fcap, by rw [HF.out], HFL.out, HE.out⟩
  have hlb : ((o.vs.length : Int) == ((Gate.shapeOf ss o.kd).fs.length : Int)) = true := by rw [beq_iff_eq]; omega
  have HF : Hid (Gate.mendable ss ms o = Gate.mendsOk ss ms) := by unfold Hid Gate.mendable; rw [hk, decide_eq_true hlv]; rfl
  clear hk hlv
  have HMO : Hid (Gate.mendsOk ss ms = Gate.mendsOk ss ms) := rfl
  refine wp_region_held_drew (S := fun w' => (∀ j, w'.cell? ⟨w.heap.size, j, none⟩ = (#[.string o.kd, .string o.nm, .string o.tm, .slice va o.vs.length cap, .bool o.en, .slice ha o.hs.length cap', .int .i64 o.vr] : Array Value)[j]?) ∧ ∀ j, w'.cell? ⟨w1.heap.size, j, none⟩ = (#[.string (Gate.shapeOf ss o.kd).kd, .slice fa (Gate.shapeOf ss o.kd).fs.length fcap] : Array Value)[j]?) (by kernel_rfl) ⟨hX, hY⟩ (fun hHeld => ?_)
  refine takeH (i := 0) (v := ?_) rfl (by kernel_rfl) (by kernel_rfl) (by kernel_rfl) (fun _ _ _ h => h) (by rfl) hHeld ?_ ?_
  rotate_left
  · intro w hSw
    (try dsimp only at hSw)
    go_simp
    try with_reducible rfl
  (try simp only [Act.put, List.setIfInBounds_toArray, List.set_cons_zero, List.set_cons_succ])
  refine takeH (i := 1) (v := ?_) rfl (by kernel_rfl) (by kernel_rfl) (by kernel_rfl) (fun _ _ _ h => h) (by rfl) hHeld ?_ ?_
  rotate_left
  · intro w hSw
    (try dsimp only at hSw)
    go_simp
    try with_reducible rfl
  (try simp only [Act.put, List.setIfInBounds_toArray, List.set_cons_zero, List.set_cons_succ])
  refine takeH (i := 2) (v := ?_) rfl (by kernel_rfl) (by kernel_rfl) (by kernel_rfl) (fun _ _ _ h => h) (by rfl) hHeld ?_ ?_
  rotate_left
  · intro w hSw
    (try dsimp only at hSw)
    go_simp
    try with_reducible rfl
  (try simp only [Act.put, List.setIfInBounds_toArray, List.set_cons_zero, List.set_cons_succ])
  refine takeH (i := 3) (v := ?_) rfl (by kernel_rfl) (by kernel_rfl) (by kernel_rfl) (fun _ _ _ h => h) (by rfl) hHeld ?_ ?_
  rotate_left
  · intro w hSw
    (try dsimp only at hSw)
    go_simp
    try with_reducible rfl
  (try simp only [Act.put, List.setIfInBounds_toArray, List.set_cons_zero, List.set_cons_succ])
  refine takeH (i := 4) (v := ?_) rfl (by kernel_rfl) (by kernel_rfl) (by kernel_rfl) (fun _ _ _ h => h) (by rfl) hHeld ?_ ?_
  rotate_left
  · intro w hSw
    (try dsimp only at hSw)
    go_simp
    try with_reducible rfl
  (try simp only [Act.put, List.setIfInBounds_toArray, List.set_cons_zero, List.set_cons_succ])
  refine takeH (i := 5) (v := ?_) rfl (by kernel_rfl) (by kernel_rfl) (by kernel_rfl) (fun _ _ _ h => h) (by rfl) hHeld ?_ ?_
  rotate_left
  · intro w hSw
    (try dsimp only at hSw)
    go_simp
    try with_reducible rfl
  (try simp only [Act.put, List.setIfInBounds_toArray, List.set_cons_zero, List.set_cons_succ])
  refine takeH (i := 6) (v := ?_) rfl (by kernel_rfl) (by kernel_rfl) (by kernel_rfl) (fun _ _ _ h => h) (by rfl) hHeld ?_ ?_
  rotate_left
  · intro w hSw
    (try dsimp only at hSw)
    go_simp
    try with_reducible rfl
  (try simp only [Act.put, List.setIfInBounds_toArray, List.set_cons_zero, List.set_cons_succ])
  refine takeH (i := 7) (v := ?_) rfl (by kernel_rfl) (by kernel_rfl) (by kernel_rfl) (fun _ _ _ h => h) (by rfl) hHeld ?_ ?_
  rotate_left
  · intro w hSw
    (try dsimp only at hSw)
    go_simp
    try with_reducible rfl
  (try simp only [Act.put, List.setIfInBounds_toArray, List.set_cons_zero, List.set_cons_succ])
  refine takeH (i := 8) (v := ?_) rfl (by kernel_rfl) (by kernel_rfl) (by kernel_rfl) (fun _ _ _ h => h) (by rfl) hHeld ?_ ?_
  rotate_left
  · intro w hSw
    (try dsimp only at hSw)
    go_simp
    try with_reducible rfl
  (try simp only [Act.put, List.setIfInBounds_toArray, List.set_cons_zero, List.set_cons_succ])
  refine takeH (i := 9) (v := ?_) rfl (by kernel_rfl) (by kernel_rfl) (by kernel_rfl) (fun _ _ _ h => h) (by rfl) hHeld ?_ ?_
  rotate_left
  · intro w hSw
    (try dsimp only at hSw)
    go_simp
    try with_reducible rfl
  (try simp only [Act.put, List.setIfInBounds_toArray, List.set_cons_zero, List.set_cons_succ])
  refine takeH (i := 10) (v := ?_) rfl (by kernel_rfl) (by kernel_rfl) (by kernel_rfl) (fun _ _ _ h => h) (by rfl) hHeld ?_ ?_
  rotate_left
  · intro w hSw
    (try dsimp only at hSw)
    go_simp
    try with_reducible rfl
  (try simp only [Act.put, List.setIfInBounds_toArray, List.set_cons_zero, List.set_cons_succ])
  refine takeH (i := 11) (v := ?_) rfl (by kernel_rfl) (by kernel_rfl) (by kernel_rfl) (fun _ _ _ h => h) (by rfl) hHeld ?_ ?_
  rotate_left
  · intro w hSw
    (try dsimp only at hSw)
    go_simp
    try with_reducible rfl
  (try simp only [Act.put, List.setIfInBounds_toArray, List.set_cons_zero, List.set_cons_succ])
  refine takeH (i := 12) (v := ?_) rfl (by kernel_rfl) (by kernel_rfl) (by kernel_rfl) (fun _ _ _ h => h) (by rfl) hHeld ?_ ?_
  rotate_left
  · intro w hSw
    (try dsimp only at hSw)
    go_simp
    try with_reducible rfl
  (try simp only [Act.put, List.setIfInBounds_toArray, List.set_cons_zero, List.set_cons_succ])
  refine takeH (i := 13) (v := ?_) rfl (by kernel_rfl) (by kernel_rfl) (by kernel_rfl) (fun _ _ _ h => h) (by rfl) hHeld ?_ ?_
  rotate_left
  · intro w hSw
    (try dsimp only at hSw)
    go_simp
    try with_reducible rfl
  (try simp only [Act.put, List.setIfInBounds_toArray, List.set_cons_zero, List.set_cons_succ])
  refine stepH (i := 14) rfl (by kernel_rfl) (by rfl) (fun K hK => ?_)
  go_simp
  refine (as_bool HMO.out (implMendsOk_any _ _ _ _ ss ms _ (HH.out.1.mono hB) (HH.out.2.1.mono hB) HH.out.2.2)).mono ?_
  rintro e w3 ⟨rfl, hb⟩
  have hX := fun j => (hb.cell (p := ⟨w.heap.size, j, none⟩) (by show w.heap.size < W2.drew.heap.size; omega)).trans (hX j)
  have hY := box_later hY hy hb
  have hRb := (hb.block _ (Nat.lt_trans hz1 hy)).trans hRb
  have hB := hB.trans (hb.mono hB.size)
  clear hb
  (try go_wp2_with fail)
  refine hK.out _ _ ?_ (fun hHeld => ?_)
  · exact ⟨hX, hY⟩
  clear hK K
  (try simp only [Act.put, List.setIfInBounds_toArray, List.set_cons_zero, List.set_cons_succ])
  refine takeH (i := 15) (v := ?_) rfl (by kernel_rfl) (by kernel_rfl) (by kernel_rfl) (fun _ _ _ h => h) (by rfl) hHeld ?_ ?_
  rotate_left
  · intro w hSw
    (try dsimp only at hSw)
    go_simp
    try with_reducible rfl
  (try simp only [Act.put, List.setIfInBounds_toArray, List.set_cons_zero, List.set_cons_succ])
  have hRb0 : w3.heap[w.heap.size + 1]? = some (.cells #[.string ByteArray.empty, .slice none 0 0] 69) := hRb
  have hRc0 : w3.cell? ⟨w.heap.size + 1, 0, none⟩ = some (.string ByteArray.empty) := cell_of_block hRb0
  have hRc1 : w3.cell? ⟨w.heap.size + 1, 1, none⟩ = some (.slice none 0 0) := cell_of_block hRb0
  have hRf : ∀ j, w3.frozen? ⟨w.heap.size + 1, j, none⟩ = false := fun j => frozen_of_block hRb0
  have hX' : ∀ j, w3.cell? ⟨w.heap.size, j, none⟩ = (#[.string o.kd, .string o.nm, .string o.tm, .slice va o.vs.length cap, .bool o.en, .slice ha o.hs.length cap', .int .i64 o.vr] : Array Value)[j]? := hX
  have hY' : ∀ j, w3.cell? ⟨w1.heap.size, j, none⟩ = (#[.string (Gate.shapeOf ss o.kd).kd, .slice fa (Gate.shapeOf ss o.kd).fs.length fcap] : Array Value)[j]? := hY
  refine stepH (i := 16) rfl (by kernel_rfl) (by rfl) (fun K hK => ?_)
  go_simp
  refine hK.out _ _ ?_ (fun hHeld => ?_)
  · exact ⟨fun j => (put2_other' (w := w3) (by omega)).trans (hX' j), fun j => (put2_other' (w := w3) (by omega)).trans (hY' j)⟩
  clear hK K
  (try simp only [Act.put, List.setIfInBounds_toArray, List.set_cons_zero, List.set_cons_succ])
  refine takeH (i := 17) (v := ?_) rfl (by kernel_rfl) (by kernel_rfl) (by kernel_rfl) (fun _ _ _ h => h) (by rfl) hHeld ?_ ?_
  rotate_left
  · intro w hSw
    (try dsimp only at hSw)
    go_simp
    try with_reducible rfl
  (try simp only [Act.put, List.setIfInBounds_toArray, List.set_cons_zero, List.set_cons_succ])
  refine wpAnyH_done (by kernel_rfl) ?_ _
  have hRe0 : ((w3.setCell ⟨w.heap.size + 1, 0, none⟩ (.string (Gate.shapeOf ss o.kd).kd)).setCell ⟨w.heap.size + 1, 1, none⟩ (.slice fa (Gate.shapeOf ss o.kd).fs.length fcap)).heap[w.heap.size + 1]? = some (.cells #[.string (Gate.shapeOf ss o.kd).kd, .slice fa (Gate.shapeOf ss o.kd).fs.length fcap] 69) := by
    have h := heap_setCell_at (o := 1) (heap_setCell_at (o := 0) hRb0 (.string (Gate.shapeOf ss o.kd).kd)) (.slice fa (Gate.shapeOf ss o.kd).fs.length fcap)
    simpa using h
  have hRe1 : ((w3.setCell ⟨w.heap.size + 1, 0, none⟩ (.string (Gate.shapeOf ss o.kd).kd)).setCell ⟨w.heap.size + 1, 1, none⟩ (.slice fa (Gate.shapeOf ss o.kd).fs.length fcap)).cell? ⟨w.heap.size + 1, 0, none⟩ = some (.string (Gate.shapeOf ss o.kd).kd) := cell_of_block hRe0
  have hRe2 : ((w3.setCell ⟨w.heap.size + 1, 0, none⟩ (.string (Gate.shapeOf ss o.kd).kd)).setCell ⟨w.heap.size + 1, 1, none⟩ (.slice fa (Gate.shapeOf ss o.kd).fs.length fcap)).cell? ⟨w.heap.size + 1, 1, none⟩ = some (.slice fa (Gate.shapeOf ss o.kd).fs.length fcap) := cell_of_block hRe0
  have HE : Hid (Below w.heap.size w ((w3.setCell ⟨w.heap.size + 1, 0, none⟩ (.string (Gate.shapeOf ss o.kd).kd)).setCell ⟨w.heap.size + 1, 1, none⟩ (.slice fa (Gate.shapeOf ss o.kd).fs.length fcap))) := (hB.setCell (by show w.heap.size ≤ w.heap.size + 1; omega) _).setCell (by show w.heap.size ≤ w.heap.size + 1; omega) _
  go_wp2_with fail
  refine bodyPost_ret (v := .tuple #[.agg #[.string (Gate.shapeOf ss o.kd).kd, .slice fa (Gate.shapeOf ss o.kd).fs.length fcap], .bool (Gate.mendsOk ss ms)]) (by simp [results, Tryz.results41, go_sem, hRe1, hRe2]) rfl ⟨fa, fcap, by rw [HF.out], HFL.out, HE.out⟩

end Go.Proofs.YtponiggfclcbgaaGreat
