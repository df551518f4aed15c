import Derived.Test.YtpmlngcljbkchaaGreatM27
import Derived.Test.YtpmlngcljbkchaaGreatM04
import Derived.Maps.AppendAt
import Derived.Deep.QuietTactic
import Derived.BigQuiet
import Derived.Test.YtpmlngcljbkchaaGreatM19
namespace Go.Proofs.YtpmlngcljbkchaaGreat
open Go.RowKit

namespace Gate
def readsN (s : Shp) (ms : List Mnd) (p : Nat) : List Nat := (readsI s ms p).map Int.toNat
/-- What the walk's map holds. -/
def farI (S : Far) : Int → Option Int := fun q => if 0 ≤ q then (S.far q.toNat).map fun b => if b = true then 2 else 1 else none

theorem farI_under (S : Far) (i : Nat) : (fun q : Int => if q = (i : Int) then some 1 else farI S q) = farI (S.under i) := by
  funext q
  by_cases h : q = (i : Int)
  · subst h; simp [farI, Far.under]
  · rw [if_neg h]
    unfold farI Far.under
    by_cases h0 : 0 ≤ q
    · have : q.toNat ≠ i := by omega
      simp [h0, this]
    · simp [h0]

theorem farI_behind (S : Far) (i : Nat) : (fun q : Int => if q = (i : Int) then some 2 else farI S q) = farI (S.behind i) := by
  funext q
  by_cases h : q = (i : Int)
  · subst h; simp [farI, Far.behind]
  · rw [if_neg h]
    unfold farI Far.behind
    by_cases h0 : 0 ≤ q
    · have : q.toNat ≠ i := by omega
      simp [h0, this]
    · simp [h0]

theorem farI_at (S : Far) (i : Nat) : farI S (i : Int) = (S.far i).map fun b => if b = true then 2 else 1 := by
  unfold farI; simp

theorem downList_snoc (d : Nat → Far → Bool × Far) : ∀ (l : List Nat) (q : Nat) (t : Far), downList d (l ++ [q]) t = if (downList d l t).1 = true then d q (downList d l t).2 else downList d l t
  | [], q, t => by
    show (if (d q t).1 = true then downList d [] (d q t).2 else (false, (d q t).2)) = d q t
    by_cases h : (d q t).1 = true
    · rw [if_pos h]; show (true, (d q t).2) = d q t; rw [← h]
    · rw [if_neg h]
      have : (d q t).1 = false := by simpa using h
      rw [← this]
  | a :: l, q, t => by
    show (if (d a t).1 = true then downList d (l ++ [q]) (d a t).2 else (false, (d a t).2)) = _
    by_cases h : (d a t).1 = true
    · have e : downList d (a :: l) t = downList d l (d a t).2 := by show (if (d a t).1 = true then _ else _) = _; rw [if_pos h]
      rw [if_pos h, e]; exact downList_snoc d l q _
    · have e : downList d (a :: l) t = (false, (d a t).2) := by show (if (d a t).1 = true then _ else _) = _; rw [if_neg h]
      rw [if_neg h, e]; rfl

theorem downList_false (d : Nat → Far → Bool × Far) : ∀ (l r : List Nat) (t : Far), (downList d l t).1 = false → (downList d (l ++ r) t).1 = false
  | [], r, t, h => by cases h
  | a :: l, r, t, h => by
    show (if (d a t).1 = true then downList d (l ++ r) (d a t).2 else (false, (d a t).2)).1 = false
    by_cases hc : (d a t).1 = true
    · have e : downList d (a :: l) t = downList d l (d a t).2 := by show (if (d a t).1 = true then _ else _) = _; rw [if_pos hc]
      rw [e] at h
      rw [if_pos hc]; exact downList_false d l r _ h
    · rw [if_neg hc]

theorem down_size {rd : Nat → List Nat} {n : Nat} (hrd : ∀ p, p < n → ∀ q ∈ rd p, q < n) : ∀ f p S, p < n → (down rd f p S).1 = true → (down rd f p S).2.row.length + open' n (down rd f p S).2 ≤ S.row.length + open' n S := by
  intro f
  induction f with
  | zero => intro p S _ h; cases h
  | succ f ih =>
    have hl : ∀ (l : List Nat) (t : Far), (∀ a ∈ l, a < n) → (downList (down rd f) l t).1 = true → (downList (down rd f) l t).2.row.length + open' n (downList (down rd f) l t).2 ≤ t.row.length + open' n t := by
      intro l
      induction l with
      | nil => intro t _ _; exact Nat.le_refl _
      | cons a l il =>
        intro t ha h
        unfold downList at h ⊢
        by_cases hc : (down rd f a t).1 = true
        · rw [if_pos hc] at h ⊢
          exact Nat.le_trans (il _ (fun b hb => ha b (by simp [hb])) h) (ih a t (ha a (by simp)) hc)
        · rw [if_neg hc] at h; cases h
    intro p S hp h
    unfold down at h ⊢
    rcases hf : S.far p with _ | b
    · rw [hf] at h
      simp only at h ⊢
      by_cases hc : (downList (down rd f) (rd p) (S.under p)).1 = true
      · rw [if_pos hc]
        have h1 := hl _ _ (hrd p hp) hc
        have h2 := open_under hp hf
        have h3 : open' n ((downList (down rd f) (rd p) (S.under p)).2.behind p) ≤ open' n (downList (down rd f) (rd p) (S.under p)).2 := by
          apply open_mono
          intro q hq
          simp only [Far.behind]
          split
          · rfl
          · exact hq
        have h4 : ((downList (down rd f) (rd p) (S.under p)).2.behind p).row.length = (downList (down rd f) (rd p) (S.under p)).2.row.length + 1 := by simp [Far.behind]
        have h5 : (S.under p).row = S.row := rfl
        rw [h5] at h1
        simp only
        omega
      · rw [if_neg hc] at h; cases h
    · exact Nat.le_refl _

theorem downList_size {rd : Nat → List Nat} {n : Nat} (hrd : ∀ p, p < n → ∀ q ∈ rd p, q < n) (f : Nat) : ∀ (l : List Nat) (t : Far), (∀ a ∈ l, a < n) → (downList (down rd f) l t).1 = true → (downList (down rd f) l t).2.row.length + open' n (downList (down rd f) l t).2 ≤ t.row.length + open' n t := by
  intro l
  induction l with
  | nil => intro t _ _; exact Nat.le_refl _
  | cons a l il =>
    intro t ha h
    unfold downList at h ⊢
    by_cases hc : (down rd f a t).1 = true
    · rw [if_pos hc] at h ⊢
      exact Nat.le_trans (il _ (fun b hb => ha b (by simp [hb])) h) (down_size hrd f a t (ha a (by simp)) hc)
    · rw [if_neg hc] at h; cases h
end Gate

def nats (l : List Nat) : List Value := l.map fun q : Nat => Value.int .i64 (q : Int)

theorem block_cells {w : World} {b : Nat} {X : Array Value} {t : TypeId} (h : w.heap[b]? = some (.cells X t)) : ∀ j, w.cell? ⟨b, j, none⟩ = X[j]? := fun _ => cell_of_block h
theorem block_frozen {w : World} {b : Nat} {X : Array Value} {t : TypeId} (h : w.heap[b]? = some (.cells X t)) : ∀ j, w.frozen? ⟨b, j, none⟩ = false := fun _ => frozen_of_block h

/-- What the walk goes over: fixed for all its steps. -/
structure WalkC where
  s : Shp
  ms : List Mnd
  w0 : World
  ma : Option Addr
  fa : Option Addr
  mcap : Nat
  fcap : Nat
  bm : Nat
  bs : Nat
  p : Nat
  mr : Nat
  lo : Nat

structure WalkC.Ok (c : WalkC) : Prop where
  mnds : MndsAt c.w0 c.ma c.ms
  flds : FldsAt c.w0 c.fa c.s.fs
  few : c.ms.length ≤ 1048576
  fewf : c.s.fs.length ≤ 6
  reads : ∀ q, q < c.s.fs.length → ∀ x ∈ Gate.readsI c.s c.ms q, 0 ≤ x ∧ x < c.s.fs.length
  bp : c.w0.heap.size ≤ c.p
  bmr : c.w0.heap.size ≤ c.mr
  plo : c.p < c.lo
  mlo : c.mr < c.lo
  bml : c.bm < c.lo
  bsl : c.bs < c.lo
  pm : c.p ≠ c.mr
  bmp : c.bm ≠ c.p
  bmm : c.bm ≠ c.mr
  bsp : c.bs ≠ c.p
  bsm : c.bs ≠ c.mr

def WalkC.fn (c : WalkC) : Value := .func (.func 95) #[] #[.pointer (some ⟨c.bm, 0, none⟩), .pointer (some ⟨c.bs, 0, none⟩)]

/-- The walk's memory at a state, its row being v. -/
structure WalkAt (c : WalkC) (w : World) (S : Gate.Far) (v : Value) : Prop where
  base : Below c.w0.heap.size c.w0 w
  cm : w.cell? ⟨c.bm, 0, none⟩ = some (.slice c.ma c.ms.length c.mcap)
  cs : ∀ j, w.cell? ⟨c.bs, j, none⟩ = (#[.string c.s.kd, .slice c.fa c.s.fs.length c.fcap] : Array Value)[j]?
  size : c.lo ≤ w.heap.size
  cells : w.heap[c.p]? = some (.cells #[c.fn, .map (some c.mr), v] 160)
  row : w.ownsRow c.lo 3 1 v S.row.length (nats S.row)
  map : IntMap w c.mr (Gate.farI S)

/-- What a step leaves of the memory: all but the walk's own blocks. -/
structure Moves (c : WalkC) (v : Value) (w : World) (v' : Value) (w' : World) : Prop where
  size : w.heap.size ≤ w'.heap.size
  out : ∀ k, k < w.heap.size → k ≠ c.p → k ≠ c.mr → v.ownBlock ≠ some k → w'.heap[k]? = w.heap[k]?
  own : v'.ownBlock = v.ownBlock ∨ ∃ g, v'.ownBlock = some g ∧ w.heap.size ≤ g

theorem Moves.refl (c : WalkC) (v : Value) (w : World) : Moves c v w v w := ⟨Nat.le_refl _, fun _ _ _ _ _ => rfl, Or.inl rfl⟩
theorem Moves.trans {c : WalkC} {v v1 v2 : Value} {w w1 w2 : World} (h : Moves c v w v1 w1) (k : Moves c v1 w1 v2 w2) : Moves c v w v2 w2 := by
  refine ⟨Nat.le_trans h.size k.size, fun i hi hp hm hv => ?_, ?_⟩
  · rw [k.out i (Nat.lt_of_lt_of_le hi h.size) hp hm ?_, h.out i hi hp hm hv]
    rcases h.own with e | ⟨g, e, hg⟩
    · rw [e]; exact hv
    · rw [e]; intro e'; cases e'; omega
  · rcases k.own with e | ⟨g, e, hg⟩
    · rw [e]; exact h.own
    · exact Or.inr ⟨g, e, Nat.le_trans h.size hg⟩

theorem cell_same {w w' : World} {b j : Nat} (h : w'.heap[b]? = w.heap[b]?) : w'.cell? ⟨b, j, none⟩ = w.cell? ⟨b, j, none⟩ := by unfold World.cell?; rw [h]

/-- The memory behind a step in which all but the walk's own blocks are left. -/
theorem WalkAt.next {c : WalkC} {w w' : World} {S S' : Gate.Far} {v v' : Value} (hc : c.Ok) (h : WalkAt c w S v) (os : w'.os = w.os) (tape : w'.tape = w.tape) (output : w'.output = w.output) (size : w.heap.size ≤ w'.heap.size)
    (out : ∀ k, k < c.lo → k ≠ c.p → k ≠ c.mr → w'.heap[k]? = w.heap[k]?)
    (cells : w'.heap[c.p]? = some (.cells #[c.fn, .map (some c.mr), v'] 160)) (row : w'.ownsRow c.lo 3 1 v' S'.row.length (nats S'.row)) (map : IntMap w' c.mr (Gate.farI S')) : WalkAt c w' S' v' := by
  have hb := h.base.size
  have h1 := hc.bp
  have h2 := hc.plo
  have h3 := hc.bmr
  refine ⟨⟨os.trans h.base.os, tape.trans h.base.tape, output.trans h.base.output, Nat.le_trans hb size, fun k hk => ?_⟩, ?_, fun j => ?_, Nat.le_trans h.size size, cells, row, map⟩
  · rw [out k (by omega) (by omega) (by omega)]; exact h.base.block k hk
  · rw [cell_same (out c.bm hc.bml hc.bmp hc.bmm)]; exact h.cm
  · rw [cell_same (out c.bs hc.bsl hc.bsp hc.bsm)]; exact h.cs j

/-- A write into the walk's map. -/
theorem WalkAt.mark {c : WalkC} {w : World} {S : Gate.Far} {v : Value} (hc : c.Ok) (h : WalkAt c w S v) (i : Nat) (x : Int) :
    ∃ w', (Instr.mapUpdate 158 (.map (some c.mr)) (.int .i64 i) (.int .i64 x)).run Tryz.prog w = .ok () w' ∧ (∀ S' : Gate.Far, S'.row = S.row → (fun q : Int => if q = (i : Int) then some x else Gate.farI S q) = Gate.farI S' → WalkAt c w' S' v) ∧ Moves c v w v w' := by
  obtain ⟨w', hrun, hmap, hput⟩ := h.map.upd i x
  have hlt := h.map.lt
  refine ⟨w', hrun, fun S' hr hf => ?_, Nat.le_of_eq hput.size.symm, fun k _ _ hm _ => hput.out k hm, Or.inl rfl⟩
  have hrow : w'.ownsRow c.lo 3 1 v S'.row.length (nats S'.row) := by
    rw [hr]
    exact ownsRow_same h.row fun g hg => hput.out g (by have := (h.row.lt g hg).1; have := hc.mlo; omega)
  exact h.next hc hput.os hput.tape hput.output (Nat.le_of_eq hput.size.symm) (fun k _ _ hm => hput.out k hm) ((hput.out c.p hc.pm).trans h.cells) hrow (by rw [← hf]; exact hmap)

theorem WalkC.Ok.rd {c : WalkC} (hc : c.Ok) : ∀ p, p < c.s.fs.length → ∀ q ∈ Gate.readsN c.s c.ms p, q < c.s.fs.length := by
  intro p hp q hq
  unfold Gate.readsN at hq
  obtain ⟨x, hx, rfl⟩ := List.mem_map.1 hq
  have := hc.reads p hp x hx
  omega

theorem WalkAt.later {c : WalkC} {w w' : World} {S : Gate.Far} {v : Value} (hc : c.Ok) (h : WalkAt c w S v) (hb : Below w.heap.size w w') : WalkAt c w' S v ∧ Moves c v w v w' := by
  have hs := h.size
  have hp := hc.plo
  have hm := hc.mlo
  exact ⟨h.next hc hb.os hb.tape hb.output hb.size (fun k hk _ _ => hb.block k (by omega)) ((hb.block c.p (by omega)).trans h.cells) (ownsRow_later h.row hb) (h.map.mono (hb.block c.mr (by omega))), hb.size, fun k hk _ _ _ => hb.block k hk, Or.inl rfl⟩

theorem WalkAt.pcells {c : WalkC} {w : World} {S : Gate.Far} {v : Value} (h : WalkAt c w S v) : ∀ j, w.cell? ⟨c.p, j, none⟩ = (#[.func (.func 95) #[] #[.pointer (some ⟨c.bm, 0, none⟩), .pointer (some ⟨c.bs, 0, none⟩)], .map (some c.mr), v] : Array Value)[j]? := fun _ => cell_of_block h.cells

theorem hold_here {p : Prop} (h : Hid p) : p := h

set_option maxRecDepth 20000 in
set_option maxHeartbeats 4000000 in
theorem down_any (c : WalkC) (hc : c.Ok) : ∀ (f i : Nat) (S : Gate.Far) (v : Value) (w : World), i < c.s.fs.length → Gate.open' c.s.fs.length S < f → S.row.length + Gate.open' c.s.fs.length S ≤ 6 → WalkAt c w S v →
    Calls Tryz.prog 107 #[.pointer (some ⟨c.p, 0, none⟩), .int .i64 i] w fun e w' => ∃ v', e = .returned (.bool (Gate.down (Gate.readsN c.s c.ms) f i S).1) ∧ Below c.w0.heap.size c.w0 w' ∧ ((Gate.down (Gate.readsN c.s c.ms) f i S).1 = true → WalkAt c w' (Gate.down (Gate.readsN c.s c.ms) f i S).2 v' ∧ Moves c v w v' w') := by
  intro f
  induction f with
  | zero => intro i S v w _ h _ _; omega
  | succ f ih =>
    intro i S v w hi hopen hsix hW
    have HI : Hid (∀ (i : Nat) (S : Gate.Far) (v : Value) (w : World), i < c.s.fs.length → Gate.open' c.s.fs.length S < f → S.row.length + Gate.open' c.s.fs.length S ≤ 6 → WalkAt c w S v → Calls Tryz.prog 107 #[.pointer (some ⟨c.p, 0, none⟩), .int .i64 i] w fun e w' => ∃ v', e = .returned (.bool (Gate.down (Gate.readsN c.s c.ms) f i S).1) ∧ Below c.w0.heap.size c.w0 w' ∧ ((Gate.down (Gate.readsN c.s c.ms) f i S).1 = true → WalkAt c w' (Gate.down (Gate.readsN c.s c.ms) f i S).2 v' ∧ Moves c v w v' w')) := ih
    clear ih
    obtain ⟨i0, hi0, hz0, hz1', hz2⟩ := info_parts Tryz.infoInt
    have hpc := hW.pcells
    have hlook := hW.map.look (i : Int)
    rw [Gate.farI_at] at hlook
    have HW : Hid (WalkAt c w S v) := hW
    have HO : Hid (Gate.open' c.s.fs.length S < f + 1) := hopen
    clear hW hopen
    rcases hfar : S.far i with _ | b
    · rw [hfar] at hlook
      have hlook' : (Instr.lookup 158 (.map (some c.mr)) (.int .i64 (i : Int)) true).run Tryz.prog w = .ok (.tuple #[.int .i64 0, .bool false]) w := hlook
      obtain ⟨w1, hrun, hmk, hmv⟩ := HW.out.mark hc i 1
      have hW1 := hmk (S.under i) rfl (Gate.farI_under S i)
      have hpc1 := hW1.pcells
      have HW1 : Hid (WalkAt c w1 (S.under i) v ∧ Moves c v w v w1) := ⟨hW1, hmv⟩
      clear hlook hmk hmv hW1
      go_enter Tryz.func107, Tryz.ntmps107
      go_wp2_with fail
      refine (readsOf_any c.s c.ms i c.bm c.bs c.ma c.fa c.mcap c.fcap w1 (hc.mnds.mono HW1.out.1.base) (hc.flds.mono HW1.out.1.base) hi hc.few (Nat.lt_of_lt_of_le hc.bsl HW1.out.1.size) HW1.out.1.cm HW1.out.1.cs).mono ?_
      rintro e w2 ⟨rv, rfl, hrow, hb2⟩
      obtain ⟨ra, rcap, rfl⟩ := ownsRow_slice hrow
      have hW2 := HW1.out.1.later hc hb2
      have HW2 : Hid (WalkAt c w2 (S.under i) v ∧ Moves c v w v w2) := ⟨hW2.1, HW1.out.2.trans hW2.2⟩
      have HR2 : Hid (w2.ownsRow w1.heap.size 3 1 (.slice ra (Gate.readsI c.s c.ms i).length rcap) (Gate.readsI c.s c.ms i).length (ints (Gate.readsI c.s c.ms i))) := hrow
      have HRL : Hid ((Gate.readsI c.s c.ms i).length ≤ 2097152) := by have h1 := Gate.readsI_le c.s i c.ms; have := hc.few; show _ ≤ _; omega
      have HAP : Hid (∀ g, v.ownBlock = some g → (Value.slice ra (Gate.readsI c.s c.ms i).length rcap).ownBlock ≠ some g) := by
        intro g hg he
        have h1 := (HW1.out.1.row.lt g hg).2
        have h2 := (hrow.lt g he).1
        omega
      have HLO : Hid (c.lo ≤ w1.heap.size) := HW1.out.1.size
      have HOU : Hid (Gate.open' c.s.fs.length (S.under i) < f) := by have h1 := Gate.open_under hi hfar; have h2 := HO.out; show _ < _; omega
      have HDN : Hid ((Gate.down (Gate.readsN c.s c.ms) (f + 1) i S) = if (Gate.downList (Gate.down (Gate.readsN c.s c.ms) f) ((Gate.readsN c.s c.ms) i) (S.under i)).1 = true then (true, (Gate.downList (Gate.down (Gate.readsN c.s c.ms) f) ((Gate.readsN c.s c.ms) i) (S.under i)).2.behind i) else (false, (Gate.downList (Gate.down (Gate.readsN c.s c.ms) f) ((Gate.readsN c.s c.ms) i) (S.under i)).2)) := by
        unfold Hid; rw [Gate.down, hfar]
      clear hW2 hrow hb2 hpc hpc1 hlook' hrun
      go_wp2_with fail
      go_loopw [33] (fun iv wr => ∃ (j : Nat) (v1 : Value), j ≤ (Gate.readsI c.s c.ms i).length ∧ iv = .int .i64 j ∧ (Gate.downList (Gate.down (Gate.readsN c.s c.ms) f) (((Gate.readsN c.s c.ms) i).take j) (S.under i)).1 = true ∧ WalkAt c wr (Gate.downList (Gate.down (Gate.readsN c.s c.ms) f) (((Gate.readsN c.s c.ms) i).take j) (S.under i)).2 v1 ∧ Moves c v w v1 wr ∧ wr.ownsRow w1.heap.size 3 1 (.slice ra (Gate.readsI c.s c.ms i).length rcap) (Gate.readsI c.s c.ms i).length (ints (Gate.readsI c.s c.ms i)) ∧ (∀ g, v1.ownBlock = some g → (Value.slice ra (Gate.readsI c.s c.ms i).length rcap).ownBlock ≠ some g)) (fun iv _ => (Gate.readsI c.s c.ms i).length - (intOf iv).toNat)
      case atStart => exact ⟨0, v, Nat.zero_le _, rfl, rfl, HW2.out.1, HW2.out.2, HR2.out, HAP.out⟩
      case round =>
        obtain ⟨j, v1, hj, rfl, hD, hWr, hMr, hRr, hAp⟩ := hrel
        have HWr : Hid (WalkAt c wr (Gate.downList (Gate.down (Gate.readsN c.s c.ms) f) (((Gate.readsN c.s c.ms) i).take j) (S.under i)).2 v1 ∧ Moves c v w v1 wr ∧ wr.ownsRow w1.heap.size 3 1 (.slice ra (Gate.readsI c.s c.ms i).length rcap) (Gate.readsI c.s c.ms i).length (ints (Gate.readsI c.s c.ms i)) ∧ (∀ g, v1.ownBlock = some g → (Value.slice ra (Gate.readsI c.s c.ms i).length rcap).ownBlock ≠ some g)) := ⟨hWr, hMr, hRr, hAp⟩
        have HD : Hid ((Gate.downList (Gate.down (Gate.readsN c.s c.ms) f) (((Gate.readsN c.s c.ms) i).take j) (S.under i)).1 = true) := hD
        clear hWr hMr hRr hAp hD
        have HSX : Hid ((Gate.downList (Gate.down (Gate.readsN c.s c.ms) f) (((Gate.readsN c.s c.ms) i).take j) (S.under i)).2.row.length + Gate.open' c.s.fs.length (Gate.downList (Gate.down (Gate.readsN c.s c.ms) f) (((Gate.readsN c.s c.ms) i).take j) (S.under i)).2 ≤ 6) := by
          have h1 := Gate.downList_size hc.rd f _ (S.under i) (fun a ha => hc.rd i hi a (List.mem_of_mem_take ha)) HD.out
          have h2 := Gate.open_under hi hfar
          have h3 : (S.under i).row = S.row := rfl
          rw [h3] at h1
          show _ ≤ _
          omega
        by_cases hjl : j < (Gate.readsI c.s c.ms i).length
        · obtain ⟨q, hq, hqn⟩ : ∃ q : Nat, (Gate.readsI c.s c.ms i)[j] = (q : Int) ∧ q < c.s.fs.length := by
            have h1 := hc.reads i hi _ (List.getElem_mem hjl)
            exact ⟨((Gate.readsI c.s c.ms i)[j]).toNat, by omega, by omega⟩
          have HTK : Hid (((Gate.readsN c.s c.ms) i).take (j + 1) = ((Gate.readsN c.s c.ms) i).take j ++ [q]) := by
            have hjl' : j < ((Gate.readsN c.s c.ms) i).length := by unfold Gate.readsN; rw [List.length_map]; exact hjl
            unfold Hid
            rw [List.take_succ_eq_append_getElem hjl']
            have : ((Gate.readsN c.s c.ms) i)[j] = q := by simp [Gate.readsN, hq]
            rw [this]
          obtain ⟨g, rfl, hcell⟩ : ∃ g, ra = some ⟨g, 0, none⟩ ∧ wr.cell? ⟨g, j, none⟩ = some (.int .i64 (q : Int)) := by
            obtain ⟨_, ⟨h0, h1⟩ | ⟨g, cap, cur, h0, h1⟩⟩ := id HWr.out.2.2.1
            · rw [h1] at hjl; exact absurd hjl (by omega)
            · cases h0
              refine ⟨g, rfl, ?_⟩
              rw [HWr.out.2.2.1.cellAt j (by omega)]
              simp [ints, hjl, hq]
          have hjI : (j : Int) < ((Gate.readsI c.s c.ms i).length : Int) := by omega
          have HOP : Hid (Gate.open' c.s.fs.length (Gate.downList (Gate.down (Gate.readsN c.s c.ms) f) (((Gate.readsN c.s c.ms) i).take j) (S.under i)).2 < f) := by
            have h1 := Gate.open_mono (n := c.s.fs.length) (s := S.under i) (t := (Gate.downList (Gate.down (Gate.readsN c.s c.ms) f) (((Gate.readsN c.s c.ms) i).take j) (S.under i)).2) (fun q' hq' => Gate.downList_met _ _ q' _ _ hq')
            have h2 := HOU.out
            show _ < _
            omega
          go_wp2_with fail
          refine (HI.out q _ v1 wr hqn HOP.out HSX.out HWr.out.1).mono ?_
          rintro e w3 ⟨v3, rfl, hb3, hyes⟩
          by_cases hd : (Gate.down (Gate.readsN c.s c.ms) f q (Gate.downList (Gate.down (Gate.readsN c.s c.ms) f) (((Gate.readsN c.s c.ms) i).take j) (S.under i)).2).1 = true
          · have HS : Hid ((Gate.downList (Gate.down (Gate.readsN c.s c.ms) f) (((Gate.readsN c.s c.ms) i).take (j + 1)) (S.under i)) = Gate.down (Gate.readsN c.s c.ms) f q (Gate.downList (Gate.down (Gate.readsN c.s c.ms) f) (((Gate.readsN c.s c.ms) i).take j) (S.under i)).2) := by unfold Hid; rw [HTK.out, Gate.downList_snoc, if_pos HD.out]
            have hy := hyes hd
            have HY : Hid (WalkAt c w3 (Gate.down (Gate.readsN c.s c.ms) f q (Gate.downList (Gate.down (Gate.readsN c.s c.ms) f) (((Gate.readsN c.s c.ms) i).take j) (S.under i)).2).2 v3 ∧ Moves c v1 wr v3 w3) := hy
            have HDD : Hid ((Gate.down (Gate.readsN c.s c.ms) f q (Gate.downList (Gate.down (Gate.readsN c.s c.ms) f) (((Gate.readsN c.s c.ms) i).take j) (S.under i)).2).1 = true) := hd
            rw [hd]
            clear hyes hy hb3 hd hcell
            go_wp2_with fail
            have hg1 := HWr.out.2.2.1.lt g rfl
            have hap : v1.ownBlock ≠ some g := fun h => HWr.out.2.2.2 g h rfl
            refine ⟨⟨j + 1, v3, by omega, by rw [wrap_one (by have := HRL.out; omega)], by rw [HS.out]; exact HDD.out, by rw [HS.out]; exact HY.out.1, HWr.out.2.1.trans HY.out.2, ?_, ?_⟩, step_less hjl (by have := HRL.out; omega)⟩
            · refine ownsRow_same HWr.out.2.2.1 (fun g' hg' => ?_)
              cases hg'
              exact HY.out.2.out g hg1.2 (by have := hc.plo; have := HLO.out; omega) (by have := hc.mlo; have := HLO.out; omega) hap
            · intro g' hg' he
              have e0 : g = g' := Option.some.inj he
              subst e0
              rcases HY.out.2.own with e | ⟨g2, e, h2⟩
              · rw [e] at hg'; exact hap hg'
              · have e2 : g2 = g := Option.some.inj (e.symm.trans hg')
                have h3 := hg1.2
                omega
          · have hdf : (Gate.down (Gate.readsN c.s c.ms) f q (Gate.downList (Gate.down (Gate.readsN c.s c.ms) f) (((Gate.readsN c.s c.ms) i).take j) (S.under i)).2).1 = false := by simpa using hd
            have HF : Hid ((Gate.down (Gate.readsN c.s c.ms) (f + 1) i S).1 = false) := by
              have h1 : (Gate.downList (Gate.down (Gate.readsN c.s c.ms) f) (((Gate.readsN c.s c.ms) i).take (j + 1)) (S.under i)).1 = false := by rw [HTK.out, Gate.downList_snoc, if_pos HD.out]; exact hdf
              have h2 := Gate.downList_false (Gate.down (Gate.readsN c.s c.ms) f) (((Gate.readsN c.s c.ms) i).take (j + 1)) (((Gate.readsN c.s c.ms) i).drop (j + 1)) (S.under i) h1
              rw [List.take_append_drop] at h2
              unfold Hid
              rw [HDN.out, if_neg (by rw [h2]; simp)]
            rw [hdf]
            have HB3 : Hid (Below c.w0.heap.size c.w0 w3) := hb3
            clear hyes hb3 hcell hd hdf
            go_wp2_with fail
            go_ret
            exact ⟨v3, by rw [HF.out]; rfl, HB3.out, fun h => by rw [HF.out] at h; cases h⟩
        · have e : j = (Gate.readsI c.s c.ms i).length := by omega
          have hall : ((Gate.readsN c.s c.ms) i).take j = (Gate.readsN c.s c.ms) i := List.take_of_length_le (by unfold Gate.readsN; rw [List.length_map]; omega)
          rw [hall] at HWr HD HSX
          have HRES : Hid ((Gate.down (Gate.readsN c.s c.ms) (f + 1) i S) = (true, (Gate.downList (Gate.down (Gate.readsN c.s c.ms) f) ((Gate.readsN c.s c.ms) i) (S.under i)).2.behind i)) := by unfold Hid; rw [HDN.out, if_pos HD.out]
          clear HDN HD hall
          revert HWr HRES HSX
          generalize (Gate.downList (Gate.down (Gate.readsN c.s c.ms) f) ((Gate.readsN c.s c.ms) i) (S.under i)).2 = D
          intro HWr HSX HRES
          obtain ⟨w3, hrun3, hmk3, hmv3⟩ := HWr.out.1.mark hc i 2
          have hW3 := hmk3 ⟨(D.behind i).far, D.row⟩ rfl (by rw [Gate.farI_behind]; rfl)
          have HW3 : Hid (WalkAt c w3 ⟨(D.behind i).far, D.row⟩ v1 ∧ Moves c v w v1 w3) := ⟨hW3, HWr.out.2.1.trans hmv3⟩
          have hpcr := HWr.out.1.pcells
          have hpc3 := hW3.pcells
          have hpf3 : ∀ k, w3.frozen? ⟨c.p, k, none⟩ = false := block_frozen hW3.cells
          have HDL : Hid (D.row.length ≤ 6) := by have := HSX.out; show _ ≤ _; omega
          have hp3 : c.p < w3.heap.size := Nat.lt_of_lt_of_le hc.plo hW3.size
          clear hmk3 hmv3 hW3 HWr
          subst e
          have HGE : Hid (∀ g, v1.ownBlock = some g → c.lo ≤ g ∧ g < w3.heap.size) := HW3.out.1.row.lt
          go_wp2_with (at_builtin; refine hold_here ?_)
          show wpList _ _ _ _ _ _
          refine wpList_append_own_at _ rfl (.tmp 51) (.tmp 53) 28 rfl c.lo 3 i0 (.int .i64 0) 1 8 Tryz.underlying28 hi0 hz0 hz1' hz2 rfl (by decide) v1 _ _ rfl (HW3.out.1.row.alloc _) ⟨w3.heap.size, 0, none⟩ 1 1 [.int .i64 (i : Int)] rfl rfl (one_news _ _ _) (by intro u hu; simp at hu; subst hu; rfl) (by have := HDL.out; show D.row.length + 1 ≤ 2 ^ 63 - 1; omega) (by have := HDL.out; show (D.row.length + 1) * 8 ≤ 140737488355328; omega) (by have := HW3.out.1.size; simp; omega) ?_
          intro vN w4 hownN hgr _ hat
          obtain ⟨va, vcap, rfl⟩ := ownsRow_slice hownN
          have hown' : w4.ownsRow c.lo 3 1 (.slice va (D.row.length + 1) vcap) (D.row.length + 1) (nats D.row ++ [.int .i64 (i : Int)]) := hownN
          clear hownN
          have hp4 : w4.heap[c.p]? = some (.cells #[c.fn, .map (some c.mr), v1] 160) := (grown_block hgr (by simp; omega) (fun g hg => by have := (HGE.out g hg).1; have := hc.plo; omega)).trans ((Below.heap_alloc _ _ _ hp3).trans HW3.out.1.cells)
          have hpc4 := block_cells hp4
          have hpf4 := block_frozen hp4
          have HP4 : Hid (w4.heap[c.p]? = some (.cells #[c.fn, .map (some c.mr), v1] 160)) := hp4
          have HG4 : Hid ((w3.alloc (.cells #[.int .i64 (i : Int)] 3)).grownBy w4 v1.ownBlock ∧ ((Value.slice va (D.row.length + 1) vcap).ownBlock = v1.ownBlock ∨ (Value.slice va (D.row.length + 1) vcap).ownBlock = some (w3.heap.size + 1))) := (by refine ⟨hgr, ?_⟩; simpa using hat)
          have HO4 : Hid (w4.ownsRow c.lo 3 1 (.slice va (D.row.length + 1) vcap) (D.row.length + 1) (nats D.row ++ [.int .i64 (i : Int)])) := hown'
          clear hp4 hgr hat hown'
          go_wp2_with fail
          have hgb : ∀ k, k < w3.heap.size → (∀ g, v1.ownBlock = some g → k ≠ g) → w4.heap[k]? = w3.heap[k]? := fun k hk hne => (grown_block HG4.out.1 (by simp; omega) hne).trans (Below.heap_alloc _ _ _ hk)
          have hsz4 : w3.heap.size < w4.heap.size := by have := HG4.out.1.size; simp at this; omega
          have hv4 : ∀ g, (Value.slice va (D.row.length + 1) vcap).ownBlock = some g → c.lo ≤ g := fun g hg => (HO4.out.lt g hg).1
          have hW5 : WalkAt c (w4.setCell ⟨c.p, 2, none⟩ (.slice va (D.row.length + 1) vcap)) (D.behind i) (.slice va (D.row.length + 1) vcap) := by
            refine HW3.out.1.next hc HG4.out.1.os HG4.out.1.tape HG4.out.1.output (by simp [World.setCell]; omega) (fun k hk hp hm => ?_) ?_ ?_ ?_
            · rw [Below.heap_setCell _ _ _ _ hp]
              exact hgb k (by have := HW3.out.1.size; omega) (fun g hg => by have := (HGE.out g hg).1; omega)
            · exact heap_setCell_at HP4.out _
            · have e1 : (D.behind i).row.length = D.row.length + 1 := by simp [Gate.Far.behind]
              have e2 : nats (D.behind i).row = nats D.row ++ [.int .i64 (i : Int)] := by simp [Gate.Far.behind, nats]
              rw [e1, e2]
              exact ownsRow_same HO4.out (fun g hg => Below.heap_setCell _ _ _ _ (by show g ≠ c.p; have := hv4 g hg; have := hc.plo; omega))
            · have hm3 : c.mr < w3.heap.size := HW3.out.1.map.lt
              exact HW3.out.1.map.mono ((Below.heap_setCell _ _ _ _ (Ne.symm hc.pm)).trans (hgb c.mr hm3 (fun g hg => by have := (HGE.out g hg).1; have := hc.mlo; omega)))
          have hM5 : Moves c v1 w3 (.slice va (D.row.length + 1) vcap) (w4.setCell ⟨c.p, 2, none⟩ (.slice va (D.row.length + 1) vcap)) := by
            refine ⟨by simp [World.setCell]; omega, fun k hk hp _ hv => ?_, ?_⟩
            · rw [Below.heap_setCell _ _ _ _ hp]
              exact hgb k hk (fun g hg e => hv (by rw [e]; exact hg))
            · rcases HG4.out.2 with e | e
              · exact Or.inl e
              · exact Or.inr ⟨_, e, by omega⟩
          go_ret
          exact ⟨by rw [HRES.out]; rfl, hW5.base, _, fun _ => by rw [HRES.out]; exact ⟨hW5, HW3.out.2.trans hM5⟩⟩
    · have hr : Gate.down (Gate.readsN c.s c.ms) (f + 1) i S = (b, S) := by rw [Gate.down, hfar]
      have HR : Hid (Gate.down (Gate.readsN c.s c.ms) (f + 1) i S = (b, S)) := hr
      rw [hfar] at hlook
      clear hr
      cases b with
      | true =>
        have hlook' : (Instr.lookup 158 (.map (some c.mr)) (.int .i64 (i : Int)) true).run Tryz.prog w = .ok (.tuple #[.int .i64 2, .bool true]) w := hlook
        clear hlook
        go_enter Tryz.func107, Tryz.ntmps107
        go_wp2_with fail
        go_ret
        exact ⟨v, by rw [HR.out]; rfl, HW.out.base, fun _ => by rw [HR.out]; exact ⟨HW.out, Moves.refl _ _ _⟩⟩
      | false =>
        have hlook' : (Instr.lookup 158 (.map (some c.mr)) (.int .i64 (i : Int)) true).run Tryz.prog w = .ok (.tuple #[.int .i64 1, .bool true]) w := hlook
        clear hlook
        go_enter Tryz.func107, Tryz.ntmps107
        go_wp2_with fail
        go_ret
        exact ⟨v, by rw [HR.out]; rfl, HW.out.base, fun h => by rw [HR.out] at h; cases h⟩

end Go.Proofs.YtpmlngcljbkchaaGreat

namespace Go.Proofs.YtpmlngcljbkchaaGreat
open Go.RowKit

theorem fldsAt_of {w : World} {b off : Nat} {s : Shp} {fa : Option Addr} {fcap : Nat} (h : ShpIn w b off s fa fcap) : FldsAt w fa s.fs := h.flds

set_option maxHeartbeats 2000000 in
theorem implShapesOk_any (a : Option Addr) (cap : Nat) (ss : List Shp) (w : World) (hw : ShpsAt w a ss) :
    Calls Tryz.prog 66 #[.slice a ss.length cap] w fun e w' => e = .returned (.bool (Gate.shapesOk ss)) ∧ Below w.heap.size w w' := by
  have hl := hw.len
  unfold maxLen at hl
  by_cases h6 : ss.length ≤ 6
  rotate_left
  · have HF : Hid (Gate.shapesOk ss = false) := by simp [Hid, Gate.shapesOk, h6]
    clear hw
    go_enter Tryz.func66, Tryz.ntmps66
    go_wp2
    go_ret
    exact ⟨ret_bool HF.out.symm, Below.refl _ _⟩
  have HG : Hid (Gate.shapesOk ss = Gate.up (Gate.shapeAt ss) ss.length) := by simp [Hid, Gate.shapesOk, h6]
  have h6I : (ss.length : Int) ≤ 6 := by omega
  go_enter Tryz.func66, Tryz.ntmps66
  go_wp2_with fail
  refine (fieldKinds_any _).mono ?_
  rintro e w0 ⟨rfl, hw0⟩
  have hB00 : Below w.heap.size w w0 := by rw [hw0]; exact (Below.refl _ _).alloc (Nat.le_refl _) _
  have hr0 : w0.heap[w.heap.size]? = some (.map kindEs 4) := by rw [hw0]; exact alloc_at _ _
  have hz0 : w.heap.size < w0.heap.size := by rw [hw0]; simp
  clear hw0
  go_wp2_with fail
  go_loopw [12] (fun i wr => ∃ k : Nat, k ≤ ss.length ∧ i = .int .i64 k ∧ Gate.up (Gate.shapeAt ss) k = true ∧ Below w0.heap.size w0 wr) (fun i _ => ss.length - (intOf i).toNat)
  case atStart => exact ⟨0, Nat.zero_le _, rfl, rfl, Below.refl _ _⟩
  case round =>
    obtain ⟨k, hk, rfl, hup, hB⟩ := hrel
    have hsz := hB.size
    by_cases hlt : k < ss.length
    · obtain ⟨b, off, rfl, hb, hrw⟩ := hw.rows (by rintro rfl; simp at hlt)
      have hb0 : b < w0.heap.size := by omega
      have hall : ShpsAt wr (some ⟨b, off, none⟩) ss := (hw.mono hB00).mono hB
      obtain ⟨fa, fcap, hs⟩ := hrw k hlt
      have hs' := (hs.mono hb hB00).mono hb0 hB
      have hck := hs'.kind
      have hcl := hs'.list
      have hfl := hs'.flds
      have hsm := hs.small
      have hra : wr.heap[w.heap.size]? = some (.map kindEs 4) := (hB.block _ hz0).trans hr0
      have HS : Hid (Gate.shapeAt ss k = true → Gate.up (Gate.shapeAt ss) (k + 1) = true) := fun h => by rw [Gate.up_succ, hup, h]; rfl
      have HN : Hid (Gate.shapeAt ss k = false → Gate.shapesOk ss = false) := fun h => by rw [HG.out]; exact Gate.up_not hlt h
      have hltI : (k : Int) < (ss.length : Int) := by omega
      by_cases hn : Gate.nameOk ss[k].kd = true
      rotate_left
      · have HNm : Hid (Gate.nameOk ss[k].kd = false) := by simpa [Hid] using hn
        have HF : Hid (Gate.shapeAt ss k = false) := by
          unfold Hid Gate.shapeAt; rw [Gate.getD_at ss k _ hlt, HNm.out]; rfl
        clear hn hup hw hrw hs hs' hr0 hra
        go_wp2_with fail
        go_quiet ((go_at_call 51; exact Calls.quiet_of_same (as_bool HNm.out (isName_any _ _ hsm))))
        go_wp2_with fail
        go_ret
        exact ⟨ret_bool (HN.out HF.out).symm, hB00.trans ((below_drewN (hB.alloc hsz _) _).mono (by omega))⟩
      have HNm : Hid (Gate.nameOk ss[k].kd = true) := hn
      clear hn
      by_cases hk0 : k = 0
      · have HA : Hid (Gate.shapeAt ss k = Gate.fieldsOk ss ss[k].fs) := by subst hk0; unfold Hid; rw [Gate.shapeAt_first ss hlt, HNm.out]; rfl
        have hg : decide (0 < k) = false := by simp; omega
        clear hup hw hrw hs hs' hr0 hk0
        by_cases hok : Gate.fieldsOk ss ss[k].fs = true
        · have HK : Hid (Gate.fieldsOk ss ss[k].fs = true) := hok
          clear hok
          go_wp2_with fail
          go_quiet ((go_at_call 51; exact Calls.quiet_of_same (as_bool HNm.out (isName_any _ _ hsm))))
          go_wp2_with fail
          have hbr2 : Below wr.heap.size wr ((wr.alloc (.cells #[.string ss[k].kd, .slice fa ss[k].fs.length fcap] 85)).drewN nq) := below_drewN ((Below.refl _ _).alloc (Nat.le_refl _) _) _
          refine (as_bool HK.out (fieldsOk_any _ _ _ _ _ _ _ _ ((hbr2.block _ (by omega)).trans hra) (hall.mono hbr2) (hfl.mono hbr2))).mono ?_
          rintro e w3 ⟨rfl, hb3⟩
          have hB3 : Below w0.heap.size w0 w3 := (hB.trans (hbr2.mono hsz)).trans (hb3.mono (by simp; omega))
          clear hb3 hbr2
          go_wp2_with fail
          exact ⟨⟨k + 1, by omega, by go_num, HS.out (by rw [HA.out, HK.out]), hB3⟩, by simp [intOf]; omega⟩
        · have HK : Hid (Gate.fieldsOk ss ss[k].fs = false) := by simpa [Hid] using hok
          clear hok
          go_wp2_with fail
          go_quiet ((go_at_call 51; exact Calls.quiet_of_same (as_bool HNm.out (isName_any _ _ hsm))))
          go_wp2_with fail
          have hbr2 : Below wr.heap.size wr ((wr.alloc (.cells #[.string ss[k].kd, .slice fa ss[k].fs.length fcap] 85)).drewN nq) := below_drewN ((Below.refl _ _).alloc (Nat.le_refl _) _) _
          refine (as_bool HK.out (fieldsOk_any _ _ _ _ _ _ _ _ ((hbr2.block _ (by omega)).trans hra) (hall.mono hbr2) (hfl.mono hbr2))).mono ?_
          rintro e w3 ⟨rfl, hb3⟩
          have hB3 : Below w0.heap.size w0 w3 := (hB.trans (hbr2.mono hsz)).trans (hb3.mono (by simp; omega))
          clear hb3 hbr2
          go_wp2_with fail
          go_ret
          exact ⟨ret_bool (HN.out (by rw [HA.out, HK.out])).symm, hB00.trans (hB3.mono (by omega))⟩
      · obtain ⟨m, rfl⟩ : ∃ m, k = m + 1 := ⟨k - 1, by omega⟩
        obtain ⟨fam, fcapm, hsm0⟩ := hrw m (by omega)
        have hcm := ((hsm0.mono hb hB00).mono hb0 hB).kind
        have HA : Hid (Gate.shapeAt ss (m + 1) = (Gate.less ss[m].kd ss[m + 1].kd && Gate.fieldsOk ss ss[m + 1].fs)) := by unfold Hid; rw [Gate.shapeAt_more ss m hlt, HNm.out]; rfl
        have hmI : (m : Int) < 6 := by omega
        have hm0 : (0 : Int) ≤ (m : Int) := by omega
        have hbr : b < wr.heap.size := by omega
        have hml : (m : Int) < (ss.length : Int) := by omega
        have hmw : IntKind.i64.wrap (m : Int) = m := by rw [IntKind.wrap_i64]; omega
        clear hup hw hrw hs hs' hr0 hk0 hsm0
        by_cases hls : Gate.less ss[m].kd ss[m + 1].kd = true
        rotate_left
        · have hls' : Op.bytesLess ss[m].kd.toList ss[m + 1].kd.toList = false := by simpa [Gate.less] using hls
          have HLS : Hid (Gate.less ss[m].kd ss[m + 1].kd = false) := hls'
          clear hls
          go_wp2_with fail
          go_quiet ((go_at_call 51; exact Calls.quiet_of_same (as_bool HNm.out (isName_any _ _ hsm))))
          go_wp2_with fail
          go_ret
          exact ⟨ret_bool (HN.out (by rw [HA.out, HLS.out]; rfl)).symm, hB00.trans ((below_drewN (hB.alloc hsz _) _).mono (by omega))⟩
        have hls' : Op.bytesLess ss[m].kd.toList ss[m + 1].kd.toList = true := hls
        have HLS : Hid (Gate.less ss[m].kd ss[m + 1].kd = true) := hls
        clear hls
        by_cases hok : Gate.fieldsOk ss ss[m + 1].fs = true
        · have HK : Hid (Gate.fieldsOk ss ss[m + 1].fs = true) := hok
          clear hok
          go_wp2_with fail
          go_quiet ((go_at_call 51; exact Calls.quiet_of_same (as_bool HNm.out (isName_any _ _ hsm))))
          go_wp2_with fail
          have hbr2 : Below wr.heap.size wr ((wr.alloc (.cells #[.string ss[m + 1].kd, .slice fa ss[m + 1].fs.length fcap] 85)).drewN nq) := below_drewN ((Below.refl _ _).alloc (Nat.le_refl _) _) _
          refine (as_bool HK.out (fieldsOk_any _ _ _ _ _ _ _ _ ((hbr2.block _ (by omega)).trans hra) (hall.mono hbr2) (hfl.mono hbr2))).mono ?_
          rintro e w3 ⟨rfl, hb3⟩
          have hB3 : Below w0.heap.size w0 w3 := (hB.trans (hbr2.mono hsz)).trans (hb3.mono (by simp; omega))
          clear hb3 hbr2
          go_wp2_with fail
          exact ⟨⟨m + 1 + 1, by omega, by go_num, HS.out (by rw [HA.out, HLS.out, HK.out]; rfl), hB3⟩, by simp [intOf]; omega⟩
        · have HK : Hid (Gate.fieldsOk ss ss[m + 1].fs = false) := by simpa [Hid] using hok
          clear hok
          go_wp2_with fail
          go_quiet ((go_at_call 51; exact Calls.quiet_of_same (as_bool HNm.out (isName_any _ _ hsm))))
          go_wp2_with fail
          have hbr2 : Below wr.heap.size wr ((wr.alloc (.cells #[.string ss[m + 1].kd, .slice fa ss[m + 1].fs.length fcap] 85)).drewN nq) := below_drewN ((Below.refl _ _).alloc (Nat.le_refl _) _) _
          refine (as_bool HK.out (fieldsOk_any _ _ _ _ _ _ _ _ ((hbr2.block _ (by omega)).trans hra) (hall.mono hbr2) (hfl.mono hbr2))).mono ?_
          rintro e w3 ⟨rfl, hb3⟩
          have hB3 : Below w0.heap.size w0 w3 := (hB.trans (hbr2.mono hsz)).trans (hb3.mono (by simp; omega))
          clear hb3 hbr2
          go_wp2_with fail
          go_ret
          exact ⟨ret_bool (HN.out (by rw [HA.out, HLS.out, HK.out]; rfl)).symm, hB00.trans (hB3.mono (by omega))⟩
    · have HF : Hid (Gate.shapesOk ss = true) := by
        have e : k = ss.length := by omega
        subst e; rw [HG.out]; exact hup
      clear hup hw
      go_wp2
      go_ret
      exact ⟨ret_bool HF.out.symm, hB00.trans (hB.mono (by omega))⟩

end Go.Proofs.YtpmlngcljbkchaaGreat

namespace Go.Proofs.YtpmlngcljbkchaaGreat
open Go.RowKit

set_option maxHeartbeats 4000000 in
theorem specShapesOk_any (a : Option Addr) (cap : Nat) (ss : List Shp) (w : World) (hw : ShpsAt w a ss) :
    Calls Tryz.prog 60 #[.slice a ss.length cap] w fun e w' => e = .returned (.bool (Gate.shapesOk ss)) ∧ Below w.heap.size w w' := by
  have hl := hw.len
  unfold maxLen at hl
  by_cases h6 : ss.length ≤ 6
  rotate_left
  · have HF : Hid (Gate.shapesOk ss = false) := by simp [Hid, Gate.shapesOk, h6]
    clear hw
    go_enter Tryz.func60, Tryz.ntmps60
    go_wp2
    go_ret
    exact ⟨ret_bool HF.out.symm, Below.refl _ _⟩
  have HG : Hid (Gate.shapesOk ss = Gate.up (Gate.shapeAt ss) ss.length) := by simp [Hid, Gate.shapesOk, h6]
  have h6I : (ss.length : Int) ≤ 6 := by omega
  go_enter Tryz.func60, Tryz.ntmps60
  go_wp2_with fail
  go_loopw [3] (fun i wr => ∃ k : Nat, k ≤ ss.length ∧ i = .int .i64 k ∧ Gate.up (Gate.shapeAt ss) k = true ∧ Below w.heap.size w wr) (fun i _ => ss.length - (intOf i).toNat)
  case atStart => exact ⟨0, Nat.zero_le _, rfl, rfl, Below.refl _ _⟩
  case round =>
    obtain ⟨k, hk, rfl, hup, hB⟩ := hrel
    obtain ⟨W0, rfl⟩ : ∃ W0, W0 = wr := ⟨wr, rfl⟩
    have hsz := hB.size
    by_cases hlt : k < ss.length
    · obtain ⟨b, off, rfl, hb, hrw⟩ := hw.rows (by rintro rfl; simp at hlt)
      have hbr : b < W0.heap.size := by omega
      have hall : ShpsAt W0 (some ⟨b, off, none⟩) ss := hw.mono hB
      obtain ⟨fa, fcap, hs⟩ := hrw k hlt
      have hs' := hs.mono hb hB
      have hck := hs'.kind
      have hcl := hs'.list
      have hfl := hs'.flds
      have hsm := hs.small
      have HS : Hid (Gate.shapeAt ss k = true → Gate.up (Gate.shapeAt ss) (k + 1) = true) := fun h => by rw [Gate.up_succ, hup, h]; rfl
      have HN : Hid (Gate.shapeAt ss k = false → Gate.shapesOk ss = false) := fun h => by rw [HG.out]; exact Gate.up_not hlt h
      have hltI : (k : Int) < (ss.length : Int) := by omega
      by_cases hn : Gate.nameOk ss[k].kd = true
      rotate_left
      · have HNm : Hid (Gate.nameOk ss[k].kd = false) := by simpa [Hid] using hn
        have HF : Hid (Gate.shapeAt ss k = false) := by
          unfold Hid Gate.shapeAt; rw [Gate.getD_at ss k _ hlt, HNm.out]; rfl
        clear hn hup hw hrw hs hs'
        go_wp2_with fail
        go_quiet ((go_at_call 37; exact Calls.quiet_of_same (as_bool HNm.out (l1NameOk_any _ _ hsm))))
        go_wp2_with fail
        go_ret
        exact ⟨ret_bool (HN.out HF.out).symm, below_drewN (hB.alloc hsz _) _⟩
      have HNm : Hid (Gate.nameOk ss[k].kd = true) := hn
      clear hn
      have hcl6 := hfl.len
      unfold maxLen at hcl6
      by_cases hbad : 0 < k ∧ Gate.less (ss.getD (k - 1) Gate.noShape).kd ss[k].kd = false
      · obtain ⟨hkpos, hls⟩ := hbad
        rw [Gate.getD_at ss (k - 1) _ (by omega)] at hls
        obtain ⟨fam, fcapm, hsm0⟩ := hrw (k - 1) (by omega)
        have hcm := (hsm0.mono hb hB).kind
        have hls' : Op.bytesLess ss[k - 1].kd.toList ss[k].kd.toList = false := hls
        have hg : decide (0 < k) = true := by simp; omega
        have hk1 : (0 : Int) ≤ (k : Int) - 1 := by omega
        have hk2 : (k : Int) - 1 < (ss.length : Int) := by omega
        have HF : Hid (Gate.shapeAt ss k = false) := by
          unfold Hid Gate.shapeAt; rw [Gate.getD_at ss k _ hlt, Gate.getD_at ss (k - 1) _ (by omega), hls, decide_eq_false (show ¬ k = 0 by omega)]; simp
        clear hup hw hrw hs hs' hls hsm0
        go_wp2_with fail
        go_quiet ((go_at_call 37; exact Calls.quiet_of_same (as_bool HNm.out (l1NameOk_any _ _ hsm))))
        go_wp2_with fail
        go_ret
        exact ⟨ret_bool (HN.out HF.out).symm, below_drewN (hB.alloc hsz _) _⟩
      have hgood : (decide (0 < k) = false ∧ Gate.shapeAt ss k = Gate.fieldsOk ss ss[k].fs) ∨ (decide (0 < k) = true ∧ Gate.shapeAt ss k = Gate.fieldsOk ss ss[k].fs ∧ (0 : Int) ≤ (k : Int) - 1 ∧ (k : Int) - 1 < (ss.length : Int) ∧ ∃ h : k - 1 < ss.length, Op.bytesLess ss[k - 1].kd.toList ss[k].kd.toList = true ∧ W0.cell? ⟨b, off + (k - 1) * 2, none⟩ = some (.string ss[k - 1].kd)) := by
        by_cases hk0 : k = 0
        · refine Or.inl ⟨by simp; omega, ?_⟩
          subst hk0; rw [Gate.shapeAt_first ss hlt, HNm.out]; rfl
        · obtain ⟨fam, fcapm, hsm0⟩ := hrw (k - 1) (by omega)
          have hls : Gate.less ss[k - 1].kd ss[k].kd = true := by
            rw [Gate.getD_at ss (k - 1) _ (by omega)] at hbad
            cases h : Gate.less ss[k - 1].kd ss[k].kd with
            | true => rfl
            | false => exact absurd ⟨by omega, h⟩ hbad
          refine Or.inr ⟨by simp; omega, ?_, by omega, by omega, by omega, hls, (hsm0.mono hb hB).kind⟩
          unfold Gate.shapeAt; rw [Gate.getD_at ss k _ hlt, Gate.getD_at ss (k - 1) _ (by omega), hls, HNm.out]; simp
      clear hup hw hrw hs hs' hbad
      rcases hgood with ⟨hg, hAA⟩ | ⟨hg, hAA, hk1, hk2, hkm, hls', hcm⟩
      all_goals
        have HA : Hid (Gate.shapeAt ss k = Gate.fieldsOk ss ss[k].fs) := hAA
        clear hAA
        by_cases h6f : ss[k].fs.length ≤ 6
        rotate_left
        · have HF : Hid (Gate.shapeAt ss k = false) := by rw [HA.out]; simp [Hid, Gate.fieldsOk, h6f]
          have h6fI : (6 : Int) < (ss[k].fs.length : Int) := by omega
          go_wp2_with fail
          go_quiet ((go_at_call 37; exact Calls.quiet_of_same (as_bool HNm.out (l1NameOk_any _ _ hsm))))
          go_wp2_with fail
          go_ret
          exact ⟨ret_bool (HN.out HF.out).symm, below_drewN (hB.alloc hsz _) _⟩
        have h6fI : (ss[k].fs.length : Int) ≤ 6 := by omega
        have HFG : Hid (Gate.fieldsOk ss ss[k].fs = Gate.up (Gate.okAt ss ss[k].fs) ss[k].fs.length) := by simp [Hid, Gate.fieldsOk, h6f]
        go_wp2_with fail
        go_quiet ((go_at_call 37; exact Calls.quiet_of_same (as_bool HNm.out (l1NameOk_any _ _ hsm))))
        go_wp2_with fail
        go_loopw [5] (fun i wr2 => ∃ k2 : Nat, k2 ≤ ss[k].fs.length ∧ i = .int .i64 k2 ∧ Gate.up (Gate.okAt ss ss[k].fs) k2 = true ∧ Below (W0.heap.size + 1) (W0.alloc (.cells #[.string ss[k].kd, .slice fa ss[k].fs.length fcap] 85)) wr2) (fun i _ => ss[k].fs.length - (intOf i).toNat)
        case atStart => exact ⟨0, Nat.zero_le _, rfl, rfl, below_drewN (Below.refl _ _) _⟩
        case round =>
          obtain ⟨k2, hk2', rfl, hup2, hBl⟩ := hrel
          obtain ⟨W2, rfl⟩ : ∃ W2, W2 = wr := ⟨wr, rfl⟩
          have hsz2 : W0.heap.size < W2.heap.size := by have := hBl.size; simp at this; omega
          have hB02 : Below W0.heap.size W0 W2 := ((Below.refl _ _).alloc (Nat.le_refl _) _).trans (hBl.mono (by omega))
          have hB2 : Below w.heap.size w W2 := hB.trans (hB02.mono hsz)
          have hY1 : W2.cell? ⟨W0.heap.size, 1, none⟩ = some (.slice fa ss[k].fs.length fcap) := (hBl.cell (p := ⟨W0.heap.size, 1, none⟩) (by simp)).trans (by rw [World.cell?_alloc_at _ _ _ _ rfl]; rfl)
          by_cases hlt2 : k2 < ss[k].fs.length
          · obtain ⟨fb, foff, rfl, hfb, hfr⟩ := hfl.rows (by intro h; rw [h] at hlt2; simp at hlt2)
            obtain ⟨wa, wcap, hf0⟩ := hfr k2 hlt2
            have hf := hf0.mono hfb hB02
            obtain ⟨c0, c1, c2, c3, c4, c5, c6, c7, c8, c9, c10⟩ := hf.load
            have hsmf := hf.small
            have hstf := hf.strs
            have hall2 : ShpsAt W2 (some ⟨b, off, none⟩) ss := hall.mono hB02
            have HO : Hid (Gate.okAt ss ss[k].fs k2 = (Gate.nameOk ss[k].fs[k2].nm && !Gate.hasName (ss[k].fs.take k2) ss[k].fs[k2].nm && Gate.fieldOk ss ss[k].fs[k2])) := Gate.okAt_eq ss ss[k].fs k2 hlt2
            have HS2 : Hid (Gate.okAt ss ss[k].fs k2 = true → Gate.up (Gate.okAt ss ss[k].fs) (k2 + 1) = true) := fun h => by rw [Gate.up_succ, hup2, h]; rfl
            have HN2 : Hid (Gate.okAt ss ss[k].fs k2 = false → Gate.shapesOk ss = false) := fun h => HN.out (by rw [HA.out, HFG.out]; exact Gate.up_not hlt2 h)
            have hltI2 : (k2 : Int) < (ss[k].fs.length : Int) := by omega
            by_cases hfo : (Gate.nameOk ss[k].fs[k2].nm && Gate.fieldOk ss ss[k].fs[k2]) = true
            · have HFO : Hid ((Gate.nameOk ss[k].fs[k2].nm && Gate.fieldOk ss ss[k].fs[k2]) = true) := hfo
              clear hfo hup2
              go_wp2_with fail
              refine (as_bool HFO.out (specField_any _ _ _ _ _ _ _ _ _ _ _ _ _ _ _ _ _ hsmf.nm hsmf.df hsmf.wg hstf hall2)).mono ?_
              rintro e W3 ⟨rfl, hb3⟩
              go_wp2_with fail
              have hB23 : Below W0.heap.size W0 W3 := hB02.trans (hb3.mono (by omega))
              have hB3 : Below w.heap.size w W3 := hB2.trans (hb3.mono (by omega))
              have hY3 : W3.cell? ⟨W0.heap.size, 1, none⟩ = some (.slice (some ⟨fb, foff, none⟩) ss[k].fs.length fcap) := (hb3.cell (p := ⟨W0.heap.size, 1, none⟩) hsz2).trans hY1
              have hsz3 : W0.heap.size < W3.heap.size := by have := hb3.size; omega
              have hnames : ∀ i (h : i < ss[k].fs.length), W3.cell? ⟨fb, foff + i * 11, none⟩ = some (.string ss[k].fs[i].nm) := fun i h => by
                obtain ⟨wa', wcap', hfi⟩ := hfr i h
                exact (hfi.mono hfb hB23).load.1
              have hBl3 : Below (W0.heap.size + 1) (W0.alloc (.cells #[.string ss[k].kd, .slice (some ⟨fb, foff, none⟩) ss[k].fs.length fcap] 85)) W3 := hBl.trans (hb3.mono (by omega))
              clear hY1 c0 c1 c2 c3 c4 c5 c6 c7 c8 c9 c10 hb3 hf hf0 hfr hstf hall2
              go_loopw [6] (fun i wr3 => ∃ j : Nat, j ≤ k2 ∧ i = .int .i64 j ∧ Gate.hasName (ss[k].fs.take j) ss[k].fs[k2].nm = false ∧ ∃ n, wr3 = W3.drewN n) (fun i _ => k2 - (intOf i).toNat)
              case atStart => exact ⟨0, Nat.zero_le _, rfl, rfl, 0, rfl⟩
              case round =>
                obtain ⟨jj, hjj, rfl, hno, hwr3⟩ := hrel
                have HW : Hid (∃ n, wr = W3.drewN n) := hwr3
                have hY4 : wr.cell? ⟨W0.heap.size, 1, none⟩ = some (.slice (some ⟨fb, foff, none⟩) ss[k].fs.length fcap) := by obtain ⟨n, rfl⟩ := hwr3; exact hY3
                have hck2 : wr.cell? ⟨fb, foff + k2 * 11, none⟩ = some (.string ss[k].fs[k2].nm) := by obtain ⟨n, rfl⟩ := hwr3; exact hnames k2 hlt2
                by_cases hltj : jj < k2
                · have hjl : jj < ss[k].fs.length := by omega
                  have hcj : wr.cell? ⟨fb, foff + jj * 11, none⟩ = some (.string ss[k].fs[jj].nm) := by obtain ⟨n, rfl⟩ := hwr3; exact hnames jj hjl
                  have hjI : (jj : Int) < (ss[k].fs.length : Int) := by omega
                  have hjK : (jj : Int) < (k2 : Int) := by omega
                  clear hwr3
                  by_cases he : ss[k].fs[jj].nm = ss[k].fs[k2].nm
                  · have hbe : (ss[k].fs[jj].nm.toList == ss[k].fs[k2].nm.toList) = true := by rw [Gate.beq_toList]; simpa using he
                    have HF : Hid (Gate.okAt ss ss[k].fs k2 = false) := by
                      rw [HO.out]; unfold Hid
                      have hh : Gate.hasName (ss[k].fs.take k2) ss[k].fs[k2].nm = true := by
                        unfold Gate.hasName; rw [List.any_eq_true]
                        exact ⟨ss[k].fs[jj], List.mem_take_iff_getElem.2 ⟨jj, by omega, rfl⟩, by simpa using he⟩
                      rw [hh]; simp
                    clear he hno
                    go_wp2_with fail
                    go_quiet (fail)
                    go_wp2_with fail
                    go_ret
                    refine ⟨ret_bool (HN2.out HF.out).symm, ?_⟩
                    obtain ⟨n, rfl⟩ := HW.out
                    exact below_drewN (below_drewN hB3 _) _
                  · have hbe : (ss[k].fs[jj].nm.toList == ss[k].fs[k2].nm.toList) = false := by rw [Gate.beq_toList]; simpa using he
                    have HSn : Hid (Gate.hasName (ss[k].fs.take (jj + 1)) ss[k].fs[k2].nm = false) := by unfold Hid; rw [Gate.hasName_snoc _ _ jj hjl, hno, decide_eq_false he]; rfl
                    clear he hno
                    go_wp2_with fail
                    go_quiet (fail)
                    go_wp2_with fail
                    obtain ⟨n, rfl⟩ := HW.out
                    exact ⟨⟨jj + 1, by omega, by go_num, HSn.out, n + nq, by simp⟩, by simp [intOf]; omega⟩
                · have HF : Hid (Gate.okAt ss ss[k].fs k2 = true) := by
                    have e : jj = k2 := by omega
                    subst e
                    rw [HO.out, hno]; unfold Hid
                    have := HFO.out
                    rw [Bool.and_eq_true] at this
                    rw [this.1, this.2]; rfl
                  have hBlw : Below (W0.heap.size + 1) (W0.alloc (.cells #[.string ss[k].kd, .slice (some ⟨fb, foff, none⟩) ss[k].fs.length fcap] 85)) wr := by obtain ⟨n, rfl⟩ := hwr3; exact below_drewN hBl3 _
                  clear hno hwr3 hY4 hck2
                  go_wp2_with fail
                  exact ⟨⟨k2 + 1, by omega, by go_num, HS2.out HF.out, hBlw⟩, by simp [intOf]; omega⟩
            · have HFO : Hid ((Gate.nameOk ss[k].fs[k2].nm && Gate.fieldOk ss ss[k].fs[k2]) = false) := by simpa [Hid] using hfo
              have HF : Hid (Gate.okAt ss ss[k].fs k2 = false) := by
                rw [HO.out]; unfold Hid
                have := HFO.out
                cases h1 : Gate.nameOk ss[k].fs[k2].nm <;> cases h2 : Gate.fieldOk ss ss[k].fs[k2] <;> simp_all
              clear hfo hup2
              go_wp2_with fail
              refine (as_bool HFO.out (specField_any _ _ _ _ _ _ _ _ _ _ _ _ _ _ _ _ _ hsmf.nm hsmf.df hsmf.wg hstf hall2)).mono ?_
              rintro e W3 ⟨rfl, hb3⟩
              have hB3 : Below w.heap.size w W3 := hB2.trans (hb3.mono (by omega))
              go_wp2_with fail
              go_ret
              exact ⟨ret_bool (HN2.out HF.out).symm, hB3⟩
          · have HF : Hid (Gate.shapeAt ss k = true) := by
              have e : k2 = ss[k].fs.length := by omega
              subst e; rw [HA.out, HFG.out]; exact hup2
            clear hup2
            go_wp2_with fail
            exact ⟨⟨k + 1, by omega, by go_num, HS.out HF.out, hB2⟩, by simp [intOf]; omega⟩
    · have HF : Hid (Gate.shapesOk ss = true) := by
        have e : k = ss.length := by omega
        subst e; rw [HG.out]; exact hup
      clear hup hw
      go_wp2
      go_ret
      exact ⟨ret_bool HF.out.symm, hB⟩

end Go.Proofs.YtpmlngcljbkchaaGreat
