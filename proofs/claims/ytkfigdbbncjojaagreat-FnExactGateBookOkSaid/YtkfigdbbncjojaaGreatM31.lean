import Derived.Test.YtkfigdbbncjojaaGreatM29
import Derived.Test.YtkfigdbbncjojaaGreatM03
import Derived.Maps.AppendAt
import Derived.Deep.QuietTactic
import Derived.BigQuiet
import Derived.Test.YtkfigdbbncjojaaGreatM10
import Derived.Test.YtkfigdbbncjojaaGreatM26
import Derived.Test.YtkfigdbbncjojaaGreatM06
import Derived.Test.YtkfigdbbncjojaaGreatM17
import Derived.Deep.RegionWith
namespace Go.Proofs.YtkfigdbbncjojaaGreat
open Go.RowKit
namespace Gate
def zh (s : Shp) (ms : List Mnd) (p : Nat) : List Nat := (zZ s ms p).map Int.toNat
def zdX (S : Far) : Int -> Option Int := fun q => if 0 <= q then (S.far q.toNat).map fun b => if b = true then 2 else 1 else none
theorem zk6 (S : Far) (i : Nat) : (fun q : Int => if q = (i : Int) then some 1 else zdX S q) = zdX (S.under i) := by
  funext q
  by_cases h : q = (i : Int)
  · subst h; simp [zdX, Far.under]
  · rw [if_neg h]
    unfold zdX Far.under
    by_cases h0 : 0 <= q
    · have : q.toNat ≠ i := by omega
      simp [h0, this]
    · simp [h0]
theorem zjY (S : Far) (i : Nat) : (fun q : Int => if q = (i : Int) then some 2 else zdX S q) = zdX (S.behind i) := by
  funext q
  by_cases h : q = (i : Int)
  · subst h; simp [zdX, Far.behind]
  · rw [if_neg h]
    unfold zdX Far.behind
    by_cases h0 : 0 <= q
    · have : q.toNat ≠ i := by omega
      simp [h0, this]
    · simp [h0]
theorem znN (S : Far) (i : Nat) : zdX S (i : Int) = (S.far i).map fun b => if b = true then 2 else 1 := by
  unfold zdX; simp
theorem zae (d : Nat -> Far -> Bool × Far) : ∀ (l : List Nat) (q : Nat) (t : Far), zl d (l ++ [q]) t = if (zl d l t).1 = true then d q (zl d l t).2 else zl d l t
  | [], q, t => by
    show (if (d q t).1 = true then zl d [] (d q t).2 else (false, (d q t).2)) = d q t
    by_cases h : (d q t).1 = true
    · rw [if_pos h]; show (true, (d q t).2) = d q t; rw [<- h]
    · rw [if_neg h]
      have : (d q t).1 = false := by simpa using h
      rw [<- this]
  | a :: l, q, t => by
    show (if (d a t).1 = true then zl d (l ++ [q]) (d a t).2 else (false, (d a t).2)) = _
    by_cases h : (d a t).1 = true
    · have e : zl d (a :: l) t = zl d l (d a t).2 := by show (if (d a t).1 = true then _ else _) = _; rw [if_pos h]
      rw [if_pos h, e]; exact zae d l q _
    · have e : zl d (a :: l) t = (false, (d a t).2) := by show (if (d a t).1 = true then _ else _) = _; rw [if_neg h]
      rw [if_neg h, e]; rfl
theorem zbI (d : Nat -> Far -> Bool × Far) : ∀ (l r : List Nat) (t : Far), (zl d l t).1 = false -> (zl d (l ++ r) t).1 = false
  | [], r, t, h => by cases h
  | a :: l, r, t, h => by
    show (if (d a t).1 = true then zl d (l ++ r) (d a t).2 else (false, (d a t).2)).1 = false
    by_cases hc : (d a t).1 = true
    · have e : zl d (a :: l) t = zl d l (d a t).2 := by show (if (d a t).1 = true then _ else _) = _; rw [if_pos hc]
      rw [e] at h
      rw [if_pos hc]; exact zbI d l r _ h
    · rw [if_neg hc]
theorem zmn {rd : Nat -> List Nat} {n : Nat} (hrd : ∀ p, p < n -> ∀ q ∈ rd p, q < n) : ∀ f p S, p < n -> (down rd f p S).1 = true -> (down rd f p S).2.row.length + open' n (down rd f p S).2 <= S.row.length + open' n S := by
  intro f
  induction f with
  | zero => intro p S _ h; cases h
  | succ f ih =>
    have hl : ∀ (l : List Nat) (t : Far), (∀ a ∈ l, a < n) -> (zl (down rd f) l t).1 = true -> (zl (down rd f) l t).2.row.length + open' n (zl (down rd f) l t).2 <= t.row.length + open' n t := by
      intro l
      induction l with
      | nil => intro t _ _; exact Nat.le_refl _
      | cons a l il =>
        intro t ha h
        unfold zl at h ⊢
        by_cases hc : (down rd f a t).1 = true
        · rw [if_pos hc] at h ⊢
          exact Nat.le_trans (il _ (fun b hb => ha b (by simp [hb])) h) (ih a t (ha a (by simp)) hc)
        · rw [if_neg hc] at h; cases h
    intro p S hp h
    unfold down at h ⊢
    rcases hf : S.far p with _ | b
    · rw [hf] at h
      simp only at h ⊢
      by_cases hc : (zl (down rd f) (rd p) (S.under p)).1 = true
      · rw [if_pos hc]
        have h1 := hl _ _ (hrd p hp) hc
        have h2 := zd0 hp hf
        have h3 : open' n ((zl (down rd f) (rd p) (S.under p)).2.behind p) <= open' n (zl (down rd f) (rd p) (S.under p)).2 := by
          apply ziw
          intro q hq
          simp only [Far.behind]
          split
          · rfl
          · exact hq
        have h4 : ((zl (down rd f) (rd p) (S.under p)).2.behind p).row.length = (zl (down rd f) (rd p) (S.under p)).2.row.length + 1 := by simp [Far.behind]
        have h5 : (S.under p).row = S.row := rfl
        rw [h5] at h1
        simp only
        omega
      · rw [if_neg hc] at h; cases h
    · exact Nat.le_refl _
theorem zdR {rd : Nat -> List Nat} {n : Nat} (hrd : ∀ p, p < n -> ∀ q ∈ rd p, q < n) (f : Nat) : ∀ (l : List Nat) (t : Far), (∀ a ∈ l, a < n) -> (zl (down rd f) l t).1 = true -> (zl (down rd f) l t).2.row.length + open' n (zl (down rd f) l t).2 <= t.row.length + open' n t := by
  intro l
  induction l with
  | nil => intro t _ _; exact Nat.le_refl _
  | cons a l il =>
    intro t ha h
    unfold zl at h ⊢
    by_cases hc : (down rd f a t).1 = true
    · rw [if_pos hc] at h ⊢
      exact Nat.le_trans (il _ (fun b hb => ha b (by simp [hb])) h) (zmn hrd f a t (ha a (by simp)) hc)
    · rw [if_neg hc] at h; cases h
end Gate
def zcZ (l : List Nat) : List Value := l.map fun q : Nat => Value.int .i64 (q : Int)
theorem zay {w : World} {b : Nat} {X : Array Value} {t : TypeId} (h : w.heap[b]? = some (.cells X t)) : ∀ j, w.cell? ⟨b, j, none⟩ = X[j]? := fun _ => cell_of_block h
theorem zeE {w : World} {b : Nat} {X : Array Value} {t : TypeId} (h : w.heap[b]? = some (.cells X t)) : ∀ j, w.frozen? ⟨b, j, none⟩ = false := fun _ => zi h
structure WalkC where
  s : Shp
  ms : List Mnd
  w0 : World
  ma : Option Addr
  fa : Option Addr
  mcap : Nat
  fcap : Nat
  bm : Nat
  bs : Nat
  p : Nat
  mr : Nat
  lo : Nat
structure WalkC.Ok (c : WalkC) : Prop where
  mnds : y5 c.w0 c.ma c.ms
  flds : zW c.w0 c.fa c.s.fs
  few : c.ms.length <= 1048576
  fewf : c.s.fs.length <= 6
  reads : ∀ q, q < c.s.fs.length -> ∀ x ∈ Gate.zZ c.s c.ms q, 0 <= x /\ x < c.s.fs.length
  bp : c.w0.heap.size <= c.p
  bmr : c.w0.heap.size <= c.mr
  plo : c.p < c.lo
  mlo : c.mr < c.lo
  bml : c.bm < c.lo
  bsl : c.bs < c.lo
  pm : c.p ≠ c.mr
  bmp : c.bm ≠ c.p
  bmm : c.bm ≠ c.mr
  bsp : c.bs ≠ c.p
  bsm : c.bs ≠ c.mr
def WalkC.fn (c : WalkC) : Value := .func (.func 156) #[] #[.pointer (some ⟨c.bm, 0, none⟩), .pointer (some ⟨c.bs, 0, none⟩)]
structure jo (c : WalkC) (w : World) (S : Gate.Far) (v : Value) : Prop where
  base : Below c.w0.heap.size c.w0 w
  cm : w.cell? ⟨c.bm, 0, none⟩ = some (.slice c.ma c.ms.length c.mcap)
  cs : ∀ j, w.cell? ⟨c.bs, j, none⟩ = (#[.string c.s.kd, .slice c.fa c.s.fs.length c.fcap] : Array Value)[j]?
  size : c.lo <= w.heap.size
  cells : w.heap[c.p]? = some (.cells #[c.fn, .map (some c.mr), v] 242)
  row : w.ownsRow c.lo 3 1 v S.row.length (zcZ S.row)
  map : zan w c.mr (Gate.zdX S)
structure Moves (c : WalkC) (v : Value) (w : World) (v' : Value) (w' : World) : Prop where
  size : w.heap.size <= w'.heap.size
  out : ∀ k, k < w.heap.size -> k ≠ c.p -> k ≠ c.mr -> v.ownBlock ≠ some k -> w'.heap[k]? = w.heap[k]?
  own : v'.ownBlock = v.ownBlock \/ ∃ g, v'.ownBlock = some g /\ w.heap.size <= g
theorem Moves.refl (c : WalkC) (v : Value) (w : World) : Moves c v w v w := ⟨Nat.le_refl _, fun _ _ _ _ _ => rfl, Or.inl rfl⟩
theorem Moves.trans {c : WalkC} {v v1 v2 : Value} {w w1 w2 : World} (h : Moves c v w v1 w1) (k : Moves c v1 w1 v2 w2) : Moves c v w v2 w2 := by
  refine ⟨Nat.le_trans h.size k.size, fun i hi hp hm hv => ?_, ?_⟩
  · rw [k.out i (Nat.lt_of_lt_of_le hi h.size) hp hm ?_, h.out i hi hp hm hv]
    rcases h.own with e | ⟨g, e, hg⟩
    · rw [e]; exact hv
    · rw [e]; intro e'; cases e'; omega
  · rcases k.own with e | ⟨g, e, hg⟩
    · rw [e]; exact h.own
    · exact Or.inr ⟨g, e, Nat.le_trans h.size hg⟩
theorem ze5 {w w' : World} {b j : Nat} (h : w'.heap[b]? = w.heap[b]?) : w'.cell? ⟨b, j, none⟩ = w.cell? ⟨b, j, none⟩ := by unfold World.cell?; rw [h]
theorem jo.next {c : WalkC} {w w' : World} {S S' : Gate.Far} {v v' : Value} (hc : c.Ok) (h : jo c w S v) (os : w'.os = w.os) (tape : w'.tape = w.tape) (output : w'.output = w.output) (size : w.heap.size <= w'.heap.size)
    (out : ∀ k, k < c.lo -> k ≠ c.p -> k ≠ c.mr -> w'.heap[k]? = w.heap[k]?)
    (cells : w'.heap[c.p]? = some (.cells #[c.fn, .map (some c.mr), v'] 242)) (row : w'.ownsRow c.lo 3 1 v' S'.row.length (zcZ S'.row)) (map : zan w' c.mr (Gate.zdX S')) : jo c w' S' v' := by
  have hb := h.base.size
  have h1 := hc.bp
  have h2 := hc.plo
  have h3 := hc.bmr
  refine ⟨⟨os.trans h.base.os, tape.trans h.base.tape, output.trans h.base.output, Nat.le_trans hb size, fun k hk => ?_⟩, ?_, fun j => ?_, Nat.le_trans h.size size, cells, row, map⟩
  · rw [out k (by omega) (by omega) (by omega)]; exact h.base.block k hk
  · rw [ze5 (out c.bm hc.bml hc.bmp hc.bmm)]; exact h.cm
  · rw [ze5 (out c.bs hc.bsl hc.bsp hc.bsm)]; exact h.cs j
theorem jo.mark {c : WalkC} {w : World} {S : Gate.Far} {v : Value} (hc : c.Ok) (h : jo c w S v) (i : Nat) (x : Int) :
    ∃ w', (Instr.mapUpdate 240 (.map (some c.mr)) (.int .i64 i) (.int .i64 x)).run Tryz.prog w = .ok () w' /\ (∀ S' : Gate.Far, S'.row = S.row -> (fun q : Int => if q = (i : Int) then some x else Gate.zdX S q) = Gate.zdX S' -> jo c w' S' v) /\ Moves c v w v w' := by
  obtain ⟨w', hrun, hmap, hput⟩ := h.map.upd i x
  have hlt := h.map.lt
  refine ⟨w', hrun, fun S' hr hf => ?_, Nat.le_of_eq hput.size.symm, fun k _ _ hm _ => hput.out k hm, Or.inl rfl⟩
  have hrow : w'.ownsRow c.lo 3 1 v S'.row.length (zcZ S'.row) := by
    rw [hr]
    exact jX h.row fun g hg => hput.out g (by have := (h.row.lt g hg).1; have := hc.mlo; omega)
  exact h.next hc hput.os hput.tape hput.output (Nat.le_of_eq hput.size.symm) (fun k _ _ hm => hput.out k hm) ((hput.out c.p hc.pm).trans h.cells) hrow (by rw [<- hf]; exact hmap)
theorem WalkC.Ok.rd {c : WalkC} (hc : c.Ok) : ∀ p, p < c.s.fs.length -> ∀ q ∈ Gate.zh c.s c.ms p, q < c.s.fs.length := by
  intro p hp q hq
  unfold Gate.zh at hq
  obtain ⟨x, hx, rfl⟩ := List.mem_map.1 hq
  have := hc.reads p hp x hx
  omega
theorem jo.later {c : WalkC} {w w' : World} {S : Gate.Far} {v : Value} (hc : c.Ok) (h : jo c w S v) (hb : Below w.heap.size w w') : jo c w' S v /\ Moves c v w v w' := by
  have hs := h.size
  have hp := hc.plo
  have hm := hc.mlo
  exact ⟨h.next hc hb.os hb.tape hb.output hb.size (fun k hk _ _ => hb.block k (by omega)) ((hb.block c.p (by omega)).trans h.cells) (qy h.row hb) (h.map.mono (hb.block c.mr (by omega))), hb.size, fun k hk _ _ _ => hb.block k hk, Or.inl rfl⟩
theorem jo.zjv {c : WalkC} {w : World} {S : Gate.Far} {v : Value} (h : jo c w S v) : ∀ j, w.cell? ⟨c.p, j, none⟩ = (#[.func (.func 156) #[] #[.pointer (some ⟨c.bm, 0, none⟩), .pointer (some ⟨c.bs, 0, none⟩)], .map (some c.mr), v] : Array Value)[j]? := fun _ => cell_of_block h.cells
theorem zff {p : Prop} (h : Hid p) : p := h
set_option maxRecDepth 20000 in
set_option maxHeartbeats 4000000 in
theorem znx (c : WalkC) (hc : c.Ok) : ∀ (f i : Nat) (S : Gate.Far) (v : Value) (w : World), i < c.s.fs.length -> Gate.open' c.s.fs.length S < f -> S.row.length + Gate.open' c.s.fs.length S <= 6 -> jo c w S v ->
    Calls Tryz.prog 179 #[.pointer (some ⟨c.p, 0, none⟩), .int .i64 i] w fun e w' => ∃ v', e = .returned (.bool (Gate.down (Gate.zh c.s c.ms) f i S).1) /\ Below c.w0.heap.size c.w0 w' /\ ((Gate.down (Gate.zh c.s c.ms) f i S).1 = true -> jo c w' (Gate.down (Gate.zh c.s c.ms) f i S).2 v' /\ Moves c v w v' w') := by
  intro f
  induction f with
  | zero => intro i S v w _ h _ _; omega
  | succ f ih =>
    intro i S v w hi hopen hsix hW
    have HI := hid ih
    clear ih
    obtain ⟨i0, hi0, hz0, hz1', hz2⟩ := info_parts Tryz.zjn
    have hpc := hW.zjv
    have hlook := hW.map.look (i : Int)
    rw [Gate.znN] at hlook
    have HW := hid hW
    have HO := hid hopen
    clear hW hopen
    rcases hfar : S.far i with _ | b
    · rw [hfar] at hlook
      have hlook' := hlook
      obtain ⟨w1, hrun, hmk, hmv⟩ := HW.out.mark hc i 1
      have hW1 := hmk (S.under i) rfl (Gate.zk6 S i)
      have hpc1 := hW1.zjv
      have HW1 := jO hW1 hmv
      clear hlook hmk hmv hW1
      go_enter Tryz.func179, Tryz.ntmps179
      go_wp2_with fail
      refine (zkU c.s c.ms i c.bm c.bs c.ma c.fa c.mcap c.fcap w1 (hc.mnds.mono HW1.out.1.base) (hc.flds.mono HW1.out.1.base) hi hc.few (Nat.lt_of_lt_of_le hc.bsl HW1.out.1.size) HW1.out.1.cm HW1.out.1.cs).mono ?_
      rintro e w2 ⟨rv, rfl, hrow, hb2⟩
      obtain ⟨ra, rcap, rfl⟩ := yM hrow
      have hW2 := HW1.out.1.later hc hb2
      have HW2 := jO hW2.1 (HW1.out.2.trans hW2.2)
      have HR2 := hid hrow
      have HRL : Hid ((Gate.zZ c.s c.ms i).length <= 2097152) := by have h1 := Gate.zfk c.s i c.ms; have := hc.few; show _ <= _; omega
      have HAP : Hid (∀ g, v.ownBlock = some g -> (Value.slice ra (Gate.zZ c.s c.ms i).length rcap).ownBlock ≠ some g) := by
        intro g hg he
        have h1 := (HW1.out.1.row.lt g hg).2
        have h2 := (hrow.lt g he).1
        omega
      have HLO := hid HW1.out.1.size
      have HOU : Hid (Gate.open' c.s.fs.length (S.under i) < f) := by have h1 := Gate.zd0 hi hfar; have h2 := HO.out; show _ < _; omega
      have HDN : Hid ((Gate.down (Gate.zh c.s c.ms) (f + 1) i S) = if (Gate.zl (Gate.down (Gate.zh c.s c.ms) f) ((Gate.zh c.s c.ms) i) (S.under i)).1 = true then (true, (Gate.zl (Gate.down (Gate.zh c.s c.ms) f) ((Gate.zh c.s c.ms) i) (S.under i)).2.behind i) else (false, (Gate.zl (Gate.down (Gate.zh c.s c.ms) f) ((Gate.zh c.s c.ms) i) (S.under i)).2)) := by
        unfold Hid; rw [Gate.down, hfar]
      clear hW2 hrow hb2 hpc hpc1 hlook' hrun
      go_wp2_with fail
      go_loopw [33] (fun iv wr => ∃ (j : Nat) (v1 : Value), j <= (Gate.zZ c.s c.ms i).length /\ iv = .int .i64 j /\ (Gate.zl (Gate.down (Gate.zh c.s c.ms) f) (((Gate.zh c.s c.ms) i).take j) (S.under i)).1 = true /\ jo c wr (Gate.zl (Gate.down (Gate.zh c.s c.ms) f) (((Gate.zh c.s c.ms) i).take j) (S.under i)).2 v1 /\ Moves c v w v1 wr /\ wr.ownsRow w1.heap.size 3 1 (.slice ra (Gate.zZ c.s c.ms i).length rcap) (Gate.zZ c.s c.ms i).length (ints (Gate.zZ c.s c.ms i)) /\ (∀ g, v1.ownBlock = some g -> (Value.slice ra (Gate.zZ c.s c.ms i).length rcap).ownBlock ≠ some g)) (fun iv _ => (Gate.zZ c.s c.ms i).length - (intOf iv).toNat)
      case atStart => exact ⟨0, v, Nat.zero_le _, rfl, rfl, HW2.out.1, HW2.out.2, HR2.out, HAP.out⟩
      case round =>
        obtain ⟨j, v1, hj, rfl, hD, hWr, hMr, hRr, hAp⟩ := hrel
        have HWr := zkz hWr hMr hRr hAp
        have HD := hid hD
        clear hWr hMr hRr hAp hD
        have HSX : Hid ((Gate.zl (Gate.down (Gate.zh c.s c.ms) f) (((Gate.zh c.s c.ms) i).take j) (S.under i)).2.row.length + Gate.open' c.s.fs.length (Gate.zl (Gate.down (Gate.zh c.s c.ms) f) (((Gate.zh c.s c.ms) i).take j) (S.under i)).2 <= 6) := by
          have h1 := Gate.zdR hc.rd f _ (S.under i) (fun a ha => hc.rd i hi a (List.mem_of_mem_take ha)) HD.out
          have h2 := Gate.zd0 hi hfar
          have h3 : (S.under i).row = S.row := rfl
          rw [h3] at h1
          show _ <= _
          omega
        by_cases hjl : j < (Gate.zZ c.s c.ms i).length
        · obtain ⟨q, hq, hqn⟩ : ∃ q : Nat, (Gate.zZ c.s c.ms i)[j] = (q : Int) /\ q < c.s.fs.length := by
            have h1 := hc.reads i hi _ (List.getElem_mem hjl)
            exact ⟨((Gate.zZ c.s c.ms i)[j]).toNat, by omega, by omega⟩
          have HTK : Hid (((Gate.zh c.s c.ms) i).take (j + 1) = ((Gate.zh c.s c.ms) i).take j ++ [q]) := by
            have hjl' : j < ((Gate.zh c.s c.ms) i).length := by unfold Gate.zh; rw [List.length_map]; exact hjl
            unfold Hid
            rw [List.take_succ_eq_append_getElem hjl']
            have : ((Gate.zh c.s c.ms) i)[j] = q := by simp [Gate.zh, hq]
            rw [this]
          obtain ⟨g, rfl, hcell⟩ : ∃ g, ra = some ⟨g, 0, none⟩ /\ wr.cell? ⟨g, j, none⟩ = some (.int .i64 (q : Int)) := by
            obtain ⟨_, ⟨h0, h1⟩ | ⟨g, cap, cur, h0, h1⟩⟩ := id HWr.out.2.2.1
            · rw [h1] at hjl; exact absurd hjl (by omega)
            · cases h0
              refine ⟨g, rfl, ?_⟩
              rw [HWr.out.2.2.1.cellAt j (by omega)]
              simp [ints, hjl, hq]
          have hjI : (j : Int) < ((Gate.zZ c.s c.ms i).length : Int) := by omega
          have HOP : Hid (Gate.open' c.s.fs.length (Gate.zl (Gate.down (Gate.zh c.s c.ms) f) (((Gate.zh c.s c.ms) i).take j) (S.under i)).2 < f) := by
            have h1 := Gate.ziw (n := c.s.fs.length) (s := S.under i) (t := (Gate.zl (Gate.down (Gate.zh c.s c.ms) f) (((Gate.zh c.s c.ms) i).take j) (S.under i)).2) (fun q' hq' => Gate.zjk _ _ q' _ _ hq')
            have h2 := HOU.out
            show _ < _
            omega
          go_wp2_with fail
          refine (HI.out q _ v1 wr hqn HOP.out HSX.out HWr.out.1).mono ?_
          rintro e w3 ⟨v3, rfl, hb3, hyes⟩
          by_cases hd : (Gate.down (Gate.zh c.s c.ms) f q (Gate.zl (Gate.down (Gate.zh c.s c.ms) f) (((Gate.zh c.s c.ms) i).take j) (S.under i)).2).1 = true
          · have HS : Hid ((Gate.zl (Gate.down (Gate.zh c.s c.ms) f) (((Gate.zh c.s c.ms) i).take (j + 1)) (S.under i)) = Gate.down (Gate.zh c.s c.ms) f q (Gate.zl (Gate.down (Gate.zh c.s c.ms) f) (((Gate.zh c.s c.ms) i).take j) (S.under i)).2) := by unfold Hid; rw [HTK.out, Gate.zae, if_pos HD.out]
            have hy := hyes hd
            have HY := hid hy
            have HDD := hid hd
            rw [hd]
            clear hyes hy hb3 hd hcell
            go_wp2_with fail
            have hg1 := HWr.out.2.2.1.lt g rfl
            have hap : v1.ownBlock ≠ some g := fun h => HWr.out.2.2.2 g h rfl
            refine ⟨⟨j + 1, v3, by omega, by rw [wrap_one (by have := HRL.out; omega)], by rw [HS.out]; exact HDD.out, by rw [HS.out]; exact HY.out.1, HWr.out.2.1.trans HY.out.2, ?_, ?_⟩, zdz hjl (by have := HRL.out; omega)⟩
            · refine jX HWr.out.2.2.1 (fun g' hg' => ?_)
              cases hg'
              exact HY.out.2.out g hg1.2 (by have := hc.plo; have := HLO.out; omega) (by have := hc.mlo; have := HLO.out; omega) hap
            · intro g' hg' he
              have e0 : g = g' := Option.some.inj he
              subst e0
              rcases HY.out.2.own with e | ⟨g2, e, h2⟩
              · rw [e] at hg'; exact hap hg'
              · have e2 : g2 = g := Option.some.inj (e.symm.trans hg')
                have h3 := hg1.2
                omega
          · have hdf : (Gate.down (Gate.zh c.s c.ms) f q (Gate.zl (Gate.down (Gate.zh c.s c.ms) f) (((Gate.zh c.s c.ms) i).take j) (S.under i)).2).1 = false := by simpa using hd
            have HF : Hid ((Gate.down (Gate.zh c.s c.ms) (f + 1) i S).1 = false) := by
              have h1 : (Gate.zl (Gate.down (Gate.zh c.s c.ms) f) (((Gate.zh c.s c.ms) i).take (j + 1)) (S.under i)).1 = false := by rw [HTK.out, Gate.zae, if_pos HD.out]; exact hdf
              have h2 := Gate.zbI (Gate.down (Gate.zh c.s c.ms) f) (((Gate.zh c.s c.ms) i).take (j + 1)) (((Gate.zh c.s c.ms) i).drop (j + 1)) (S.under i) h1
              rw [List.take_append_drop] at h2
              unfold Hid
              rw [HDN.out, if_neg (by rw [h2]; simp)]
            rw [hdf]
            have HB3 : Hid (Below c.w0.heap.size c.w0 w3) := hb3
            clear hyes hb3 hcell hd hdf
            go_wp2_with fail
            go_ret
            exact ⟨v3, by rw [HF.out]; rfl, HB3.out, fun h => by rw [HF.out] at h; cases h⟩
        · have e : j = (Gate.zZ c.s c.ms i).length := by omega
          have hall : ((Gate.zh c.s c.ms) i).take j = (Gate.zh c.s c.ms) i := List.take_of_length_le (by unfold Gate.zh; rw [List.length_map]; omega)
          rw [hall] at HWr HD HSX
          have HRES : Hid ((Gate.down (Gate.zh c.s c.ms) (f + 1) i S) = (true, (Gate.zl (Gate.down (Gate.zh c.s c.ms) f) ((Gate.zh c.s c.ms) i) (S.under i)).2.behind i)) := by unfold Hid; rw [HDN.out, if_pos HD.out]
          clear HDN HD hall
          revert HWr HRES HSX
          generalize (Gate.zl (Gate.down (Gate.zh c.s c.ms) f) ((Gate.zh c.s c.ms) i) (S.under i)).2 = D
          intro HWr HSX HRES
          obtain ⟨w3, hrun3, hmk3, hmv3⟩ := HWr.out.1.mark hc i 2
          have hW3 := hmk3 ⟨(D.behind i).far, D.row⟩ rfl (by rw [Gate.zjY]; rfl)
          have HW3 := jO hW3 (HWr.out.2.1.trans hmv3)
          have hpcr := HWr.out.1.zjv
          have hpc3 := hW3.zjv
          have hpf3 := zeE hW3.cells
          have HDL : Hid (D.row.length <= 6) := by have := HSX.out; show _ <= _; omega
          have hp3 := Nat.lt_of_lt_of_le hc.plo hW3.size
          clear hmk3 hmv3 hW3 HWr
          subst e
          have HGE := hid HW3.out.1.row.lt
          go_wp2_with (at_builtin; refine zff ?_)
          show wpList _ _ _ _ _ _
          refine wpList_append_own_at _ rfl (.tmp 51) (.tmp 53) 91 rfl c.lo 3 i0 (.int .i64 0) 1 8 Tryz.underlying91 hi0 hz0 hz1' hz2 rfl (by decide) v1 _ _ rfl (HW3.out.1.row.alloc _) ⟨w3.heap.size, 0, none⟩ 1 1 [.int .i64 (i : Int)] rfl rfl (zdf _ _ _) (by intro u hu; simp at hu; subst hu; rfl) (by have := HDL.out; show D.row.length + 1 <= 2 ^ 63 - 1; omega) (by have := HDL.out; show (D.row.length + 1) * 8 <= 140737488355328; omega) (by have := HW3.out.1.size; simp; omega) ?_
          intro vN w4 hownN hgr _ hat
          obtain ⟨va, vcap, rfl⟩ := yM hownN
          have hown' := hownN
          clear hownN
          have hp4 := (jR hgr (by simp; omega) (fun g hg => by have := (HGE.out g hg).1; have := hc.plo; omega)).trans ((Below.heap_alloc _ _ _ hp3).trans HW3.out.1.cells)
          have hpc4 := zay hp4
          have hpf4 := zeE hp4
          have HP4 : Hid (w4.heap[c.p]? = some (.cells #[c.fn, .map (some c.mr), v1] 242)) := hp4
          have HG4 : Hid ((w3.alloc (.cells #[.int .i64 (i : Int)] 3)).grownBy w4 v1.ownBlock /\ ((Value.slice va (D.row.length + 1) vcap).ownBlock = v1.ownBlock \/ (Value.slice va (D.row.length + 1) vcap).ownBlock = some (w3.heap.size + 1))) := (by refine ⟨hgr, ?_⟩; simpa using hat)
          have HO4 := hid hown'
          clear hp4 hgr hat hown'
          go_wp2_with fail
          have hgb : ∀ k, k < w3.heap.size -> (∀ g, v1.ownBlock = some g -> k ≠ g) -> w4.heap[k]? = w3.heap[k]? := fun k hk hne => (jR HG4.out.1 (by simp; omega) hne).trans (Below.heap_alloc _ _ _ hk)
          have hsz4 : w3.heap.size < w4.heap.size := by have := HG4.out.1.size; simp at this; omega
          have hv4 : ∀ g, (Value.slice va (D.row.length + 1) vcap).ownBlock = some g -> c.lo <= g := fun g hg => (HO4.out.lt g hg).1
          have hW5 : jo c (w4.setCell ⟨c.p, 2, none⟩ (.slice va (D.row.length + 1) vcap)) (D.behind i) (.slice va (D.row.length + 1) vcap) := by
            refine HW3.out.1.next hc HG4.out.1.os HG4.out.1.tape HG4.out.1.output (by simp [World.setCell]; omega) (fun k hk hp hm => ?_) ?_ ?_ ?_
            · rw [Below.heap_setCell _ _ _ _ hp]
              exact hgb k (by have := HW3.out.1.size; omega) (fun g hg => by have := (HGE.out g hg).1; omega)
            · exact zf HP4.out _
            · have e1 : (D.behind i).row.length = D.row.length + 1 := by simp [Gate.Far.behind]
              have e2 : zcZ (D.behind i).row = zcZ D.row ++ [.int .i64 (i : Int)] := by simp [Gate.Far.behind, zcZ]
              rw [e1, e2]
              exact jX HO4.out (fun g hg => Below.heap_setCell _ _ _ _ (by show g ≠ c.p; have := hv4 g hg; have := hc.plo; omega))
            · have hm3 := HW3.out.1.map.lt
              exact HW3.out.1.map.mono ((Below.heap_setCell _ _ _ _ (Ne.symm hc.pm)).trans (hgb c.mr hm3 (fun g hg => by have := (HGE.out g hg).1; have := hc.mlo; omega)))
          have hM5 : Moves c v1 w3 (.slice va (D.row.length + 1) vcap) (w4.setCell ⟨c.p, 2, none⟩ (.slice va (D.row.length + 1) vcap)) := by
            refine ⟨by simp [World.setCell]; omega, fun k hk hp _ hv => ?_, ?_⟩
            · rw [Below.heap_setCell _ _ _ _ hp]
              exact hgb k hk (fun g hg e => hv (by rw [e]; exact hg))
            · rcases HG4.out.2 with e | e
              · exact Or.inl e
              · exact Or.inr ⟨_, e, by omega⟩
          go_ret
          exact ⟨by rw [HRES.out]; rfl, hW5.base, _, fun _ => by rw [HRES.out]; exact ⟨hW5, HW3.out.2.trans hM5⟩⟩
    · have hr : Gate.down (Gate.zh c.s c.ms) (f + 1) i S = (b, S) := by rw [Gate.down, hfar]
      have HR := hid hr
      rw [hfar] at hlook
      clear hr
      cases b with
      | true =>
        have hlook' := hlook
        clear hlook
        go_enter Tryz.func179, Tryz.ntmps179
        go_wp2_with fail
        go_ret
        exact ⟨v, by rw [HR.out]; rfl, HW.out.base, fun _ => by rw [HR.out]; exact ⟨HW.out, Moves.refl _ _ _⟩⟩
      | false =>
        have hlook' := hlook
        clear hlook
        go_enter Tryz.func179, Tryz.ntmps179
        go_wp2_with fail
        go_ret
        exact ⟨v, by rw [HR.out]; rfl, HW.out.base, fun h => by rw [HR.out] at h; cases h⟩
end Go.Proofs.YtkfigdbbncjojaaGreat

namespace Go.Proofs.YtkfigdbbncjojaaGreat
open Go.RowKit
set_option maxHeartbeats 2000000 in
theorem zb5 (a : Option Addr) (cap : Nat) (ss : List Shp) (w : World) (hw : yB w a ss) :
    Calls Tryz.prog 103 #[.slice a ss.length cap] w fun e w' => e = .returned (.bool (Gate.zM ss)) /\ Below w.heap.size w w' := by
  have hl := hw.len
  unfold maxLen at hl
  by_cases h6 : ss.length <= 6
  rotate_left
  · have HF : Hid (Gate.zM ss = false) := by simp [Hid, Gate.zM, h6]
    clear hw
    go_enter Tryz.func103, Tryz.ntmps103
    go_wp2
    go_ret
    exact ⟨ze HF.out.symm, Below.refl _ _⟩
  have HG : Hid (Gate.zM ss = Gate.up (Gate.yA ss) ss.length) := by simp [Hid, Gate.zM, h6]
  have h6I : (ss.length : Int) <= 6 := by omega
  go_enter Tryz.func103, Tryz.ntmps103
  go_wp2_with fail
  refine (zbB _).mono ?_
  rintro e w0 ⟨rfl, hw0⟩
  have hB00 : Below w.heap.size w w0 := by rw [hw0]; exact (Below.refl _ _).alloc (Nat.le_refl _) _
  have hr0 : w0.heap[w.heap.size]? = some (.map qB 4) := by rw [hw0]; exact alloc_at _ _
  have hz0 : w.heap.size < w0.heap.size := by rw [hw0]; simp
  clear hw0
  go_wp2_with fail
  go_loopw [12] (fun i wr => ∃ k : Nat, k <= ss.length /\ i = .int .i64 k /\ Gate.up (Gate.yA ss) k = true /\ Below w0.heap.size w0 wr) (fun i _ => ss.length - (intOf i).toNat)
  case atStart => exact ⟨0, Nat.zero_le _, rfl, rfl, Below.refl _ _⟩
  case round =>
    obtain ⟨k, hk, rfl, hup, hB⟩ := hrel
    have hsz := hB.size
    by_cases hlt : k < ss.length
    · obtain ⟨b, off, rfl, hb, hrw⟩ := hw.rows (by rintro rfl; simp at hlt)
      have hb0 : b < w0.heap.size := by omega
      have hall : yB wr (some ⟨b, off, none⟩) ss := (hw.mono hB00).mono hB
      obtain ⟨fa, fcap, hs⟩ := hrw k hlt
      have hs' := (hs.mono hb hB00).mono hb0 hB
      have hck := hs'.kind
      have hcl := hs'.list
      have hfl := hs'.flds
      have hsm := hs.small
      have hra : wr.heap[w.heap.size]? = some (.map qB 4) := (hB.block _ hz0).trans hr0
      have HS : Hid (Gate.yA ss k = true -> Gate.up (Gate.yA ss) (k + 1) = true) := fun h => by rw [Gate.je, hup, h]; rfl
      have HN : Hid (Gate.yA ss k = false -> Gate.zM ss = false) := fun h => by rw [HG.out]; exact Gate.zaF hlt h
      have hltI : (k : Int) < (ss.length : Int) := by omega
      by_cases hn : Gate.zy ss[k].kd = true
      rotate_left
      · have HNm : Hid (Gate.zy ss[k].kd = false) := by simpa [Hid] using hn
        have HF : Hid (Gate.yA ss k = false) := by
          unfold Hid Gate.yA; rw [Gate.getD_at ss k _ hlt, HNm.out]; rfl
        clear hn hup hw hrw hs hs' hr0 hra
        go_wp2_with fail
        go_quiet ((go_at_call 108; exact Calls.quiet_of_same (zu HNm.out (zL _ _ hsm))))
        go_wp2_with fail
        go_ret
        exact ⟨ze (HN.out HF.out).symm, hB00.trans ((below_drewN (hB.alloc hsz _) _).mono (by omega))⟩
      have HNm : Hid (Gate.zy ss[k].kd = true) := hn
      clear hn
      by_cases hk0 : k = 0
      · have HA : Hid (Gate.yA ss k = Gate.yC ss ss[k].fs) := by subst hk0; unfold Hid; rw [Gate.zdP ss hlt, HNm.out]; rfl
        have hg : decide (0 < k) = false := by simp; omega
        clear hup hw hrw hs hs' hr0 hk0
        by_cases hok : Gate.yC ss ss[k].fs = true
        · have HK : Hid (Gate.yC ss ss[k].fs = true) := hok
          clear hok
          go_wp2_with fail
          go_quiet ((go_at_call 108; exact Calls.quiet_of_same (zu HNm.out (zL _ _ hsm))))
          go_wp2_with fail
          have hbr2 : Below wr.heap.size wr ((wr.alloc (.cells #[.string ss[k].kd, .slice fa ss[k].fs.length fcap] 127)).drewN nq) := below_drewN ((Below.refl _ _).alloc (Nat.le_refl _) _) _
          refine (zu HK.out (zbh _ _ _ _ _ _ _ _ ((hbr2.block _ (by omega)).trans hra) (hall.mono hbr2) (hfl.mono hbr2))).mono ?_
          rintro e w3 ⟨rfl, hb3⟩
          have hB3 : Below w0.heap.size w0 w3 := (hB.trans (hbr2.mono hsz)).trans (hb3.mono (by simp; omega))
          clear hb3 hbr2
          go_wp2_with fail
          exact ⟨⟨k + 1, by omega, by go_num, HS.out (by rw [HA.out, HK.out]), hB3⟩, by simp [intOf]; omega⟩
        · have HK : Hid (Gate.yC ss ss[k].fs = false) := by simpa [Hid] using hok
          clear hok
          go_wp2_with fail
          go_quiet ((go_at_call 108; exact Calls.quiet_of_same (zu HNm.out (zL _ _ hsm))))
          go_wp2_with fail
          have hbr2 : Below wr.heap.size wr ((wr.alloc (.cells #[.string ss[k].kd, .slice fa ss[k].fs.length fcap] 127)).drewN nq) := below_drewN ((Below.refl _ _).alloc (Nat.le_refl _) _) _
          refine (zu HK.out (zbh _ _ _ _ _ _ _ _ ((hbr2.block _ (by omega)).trans hra) (hall.mono hbr2) (hfl.mono hbr2))).mono ?_
          rintro e w3 ⟨rfl, hb3⟩
          have hB3 : Below w0.heap.size w0 w3 := (hB.trans (hbr2.mono hsz)).trans (hb3.mono (by simp; omega))
          clear hb3 hbr2
          go_wp2_with fail
          go_ret
          exact ⟨ze (HN.out (by rw [HA.out, HK.out])).symm, hB00.trans (hB3.mono (by omega))⟩
      · obtain ⟨m, rfl⟩ : ∃ m, k = m + 1 := ⟨k - 1, by omega⟩
        obtain ⟨fam, fcapm, hsm0⟩ := hrw m (by omega)
        have hcm := ((hsm0.mono hb hB00).mono hb0 hB).kind
        have HA : Hid (Gate.yA ss (m + 1) = (Gate.less ss[m].kd ss[m + 1].kd && Gate.yC ss ss[m + 1].fs)) := by unfold Hid; rw [Gate.zeI ss m hlt, HNm.out]; rfl
        have hmI : (m : Int) < 6 := by omega
        have hm0 : (0 : Int) <= (m : Int) := by omega
        have hbr : b < wr.heap.size := by omega
        have hml : (m : Int) < (ss.length : Int) := by omega
        have hmw : IntKind.i64.wrap (m : Int) = m := by rw [IntKind.wrap_i64]; omega
        clear hup hw hrw hs hs' hr0 hk0 hsm0
        by_cases hls : Gate.less ss[m].kd ss[m + 1].kd = true
        rotate_left
        · have hls' : Op.bytesLess ss[m].kd.toList ss[m + 1].kd.toList = false := by simpa [Gate.less] using hls
          have HLS : Hid (Gate.less ss[m].kd ss[m + 1].kd = false) := hls'
          clear hls
          go_wp2_with fail
          go_quiet ((go_at_call 108; exact Calls.quiet_of_same (zu HNm.out (zL _ _ hsm))))
          go_wp2_with fail
          go_ret
          exact ⟨ze (HN.out (by rw [HA.out, HLS.out]; rfl)).symm, hB00.trans ((below_drewN (hB.alloc hsz _) _).mono (by omega))⟩
        have hls' : Op.bytesLess ss[m].kd.toList ss[m + 1].kd.toList = true := hls
        have HLS : Hid (Gate.less ss[m].kd ss[m + 1].kd = true) := hls
        clear hls
        by_cases hok : Gate.yC ss ss[m + 1].fs = true
        · have HK : Hid (Gate.yC ss ss[m + 1].fs = true) := hok
          clear hok
          go_wp2_with fail
          go_quiet ((go_at_call 108; exact Calls.quiet_of_same (zu HNm.out (zL _ _ hsm))))
          go_wp2_with fail
          have hbr2 : Below wr.heap.size wr ((wr.alloc (.cells #[.string ss[m + 1].kd, .slice fa ss[m + 1].fs.length fcap] 127)).drewN nq) := below_drewN ((Below.refl _ _).alloc (Nat.le_refl _) _) _
          refine (zu HK.out (zbh _ _ _ _ _ _ _ _ ((hbr2.block _ (by omega)).trans hra) (hall.mono hbr2) (hfl.mono hbr2))).mono ?_
          rintro e w3 ⟨rfl, hb3⟩
          have hB3 : Below w0.heap.size w0 w3 := (hB.trans (hbr2.mono hsz)).trans (hb3.mono (by simp; omega))
          clear hb3 hbr2
          go_wp2_with fail
          exact ⟨⟨m + 1 + 1, by omega, by go_num, HS.out (by rw [HA.out, HLS.out, HK.out]; rfl), hB3⟩, by simp [intOf]; omega⟩
        · have HK : Hid (Gate.yC ss ss[m + 1].fs = false) := by simpa [Hid] using hok
          clear hok
          go_wp2_with fail
          go_quiet ((go_at_call 108; exact Calls.quiet_of_same (zu HNm.out (zL _ _ hsm))))
          go_wp2_with fail
          have hbr2 : Below wr.heap.size wr ((wr.alloc (.cells #[.string ss[m + 1].kd, .slice fa ss[m + 1].fs.length fcap] 127)).drewN nq) := below_drewN ((Below.refl _ _).alloc (Nat.le_refl _) _) _
          refine (zu HK.out (zbh _ _ _ _ _ _ _ _ ((hbr2.block _ (by omega)).trans hra) (hall.mono hbr2) (hfl.mono hbr2))).mono ?_
          rintro e w3 ⟨rfl, hb3⟩
          have hB3 : Below w0.heap.size w0 w3 := (hB.trans (hbr2.mono hsz)).trans (hb3.mono (by simp; omega))
          clear hb3 hbr2
          go_wp2_with fail
          go_ret
          exact ⟨ze (HN.out (by rw [HA.out, HLS.out, HK.out]; rfl)).symm, hB00.trans (hB3.mono (by omega))⟩
    · have HF : Hid (Gate.zM ss = true) := by
        have e : k = ss.length := by omega
        subst e; rw [HG.out]; exact hup
      clear hup hw
      go_wp2
      go_ret
      exact ⟨ze HF.out.symm, hB00.trans (hB.mono (by omega))⟩
end Go.Proofs.YtkfigdbbncjojaaGreat

namespace Go.Proofs.YtkfigdbbncjojaaGreat
open Go.RowKit
theorem ziU (W : World) (k1 k2 : Int) : Calls Tryz.prog 162 #[.slice (some ⟨W.heap.size, 0, none⟩) 2 2] (W.alloc (.cells #[.int .i64 k1, .int .i64 k2] 3)).drew fun e w' => e = .returned (.int .i64 (Gate.zbJ [k1, k2])) /\ w' = (W.alloc (.cells #[.int .i64 k1, .int .i64 k2] 3)).drew :=
  ziP (some ⟨W.heap.size, 0, none⟩) 2 [k1, k2] _ ((zdw (alloc_at _ _) (by simp [maxLen])).mono (Below.refl _ _).drew) (by simp)
theorem zkN (W : World) (k1 k2 k3 : Int) : Calls Tryz.prog 162 #[.slice (some ⟨W.heap.size, 0, none⟩) 3 3] (W.alloc (.cells #[.int .i64 k1, .int .i64 k2, .int .i64 k3] 3)).drew fun e w' => e = .returned (.int .i64 (Gate.zbJ [k1, k2, k3])) /\ w' = (W.alloc (.cells #[.int .i64 k1, .int .i64 k2, .int .i64 k3] 3)).drew :=
  ziP (some ⟨W.heap.size, 0, none⟩) 3 [k1, k2, k3] _ ((zdw (alloc_at _ _) (by simp [maxLen])).mono (Below.refl _ _).drew) (by simp)
set_option maxHeartbeats 2000000 in
theorem zfV (o p : Ob) (a0 a1 b0 b1 : Option Addr) (c0 c1 d0 d1 : Nat) (w : World) :
    Calls Tryz.prog 115 #[.agg (o.row a0 a1 c0 c1), .agg (p.row b0 b1 d0 d1)] w fun e w' => e = .returned (.int .i64 (Gate.zbf o p)) /\ Below w.heap.size w w' := by
  have HR : Hid (Gate.zbJ [Gate.key o.kd p.kd, Gate.key o.nm p.nm] = Gate.zbf o p) := by unfold Hid; rw [Gate.zix]; rfl
  unfold Ob.row
  go_enter Tryz.func115, Tryz.ntmps115
  go_wp2_with fail
  obtain ⟨hX0, hY0⟩ := qw w (oC o a0 a1 c0 c1) (oC p b0 b1 d0 d1) 104 104
  have HB0 : Hid (Below w.heap.size w ((w.alloc (.cells (oC o a0 a1 c0 c1) 104)).alloc (.cells (oC p b0 b1 d0 d1) 104))) := zq w _ _
  obtain ⟨W0, hW0⟩ : ∃ W0, W0 = (w.alloc (.cells (oC o a0 a1 c0 c1) 104)).alloc (.cells (oC p b0 b1 d0 d1) 104) := ⟨_, rfl⟩
  have hz0 : w.heap.size + 1 < W0.heap.size := by rw [hW0]; simp
  rw [<- hW0] at HB0 hX0 hY0 ⊢
  clear hW0
  have hS : (∀ j, W0.drew.cell? ⟨w.heap.size, j, none⟩ = (oC o a0 a1 c0 c1)[j]?) /\ (∀ j, W0.drew.cell? ⟨w.heap.size + 1, j, none⟩ = (oC p b0 b1 d0 d1)[j]?) := ⟨hX0, hY0⟩
  have hSa : ∀ ob, (∀ j, (W0.alloc ob).drew.cell? ⟨w.heap.size, j, none⟩ = (oC o a0 a1 c0 c1)[j]?) /\ (∀ j, (W0.alloc ob).drew.cell? ⟨w.heap.size + 1, j, none⟩ = (oC p b0 b1 d0 d1)[j]?) := fun ob => ⟨za (b := w.heap.size) (wk := W0) hX0 (Nat.lt_of_succ_lt hz0) (((Below.refl _ _).alloc (Nat.le_refl _) _).drew), za (b := w.heap.size + 1) (wk := W0) hY0 hz0 (((Below.refl _ _).alloc (Nat.le_refl _) _).drew)⟩
  clear hX0 hY0
  go_region_held3 (fun w' => (∀ j, w'.cell? ⟨w.heap.size, j, none⟩ = (oC o a0 a1 c0 c1)[j]?) /\ (∀ j, w'.cell? ⟨w.heap.size + 1, j, none⟩ = (oC p b0 b1 d0 d1)[j]?)) (first | exact hS | exact hSa _) (first
    | (go_at_call 163; refine (zdu _ _ _).mono ?_; rintro e w3 ⟨rfl, rfl⟩)
    | (go_at_call 162; refine (ziU _ _ _).mono ?_; rintro e w3 ⟨rfl, rfl⟩))
  go_wp2_with fail
  go_ret
  exact ⟨zk HR.out, (HB0.out.alloc HB0.out.size _).drew⟩
set_option maxHeartbeats 2000000 in
theorem zbd (o p : Lg) (w : World) :
    Calls Tryz.prog 123 #[.agg o.cells, .agg p.cells] w fun e w' => e = .returned (.int .i64 (Gate.yL o p)) /\ Below w.heap.size w w' := by
  have HR : Hid (Gate.zbJ [Gate.key o.tm p.tm, Gate.key o.rs p.rs] = Gate.yL o p) := by unfold Hid; rw [Gate.zix]; rfl
  unfold Lg.cells
  go_enter Tryz.func123, Tryz.ntmps123
  go_wp2_with fail
  obtain ⟨hX0, hY0⟩ := qw w #[.string o.tm, .string o.rs, .int .i64 o.mo, .int .i64 o.fr] #[.string p.tm, .string p.rs, .int .i64 p.mo, .int .i64 p.fr] 124 124
  have HB0 : Hid (Below w.heap.size w ((w.alloc (.cells #[.string o.tm, .string o.rs, .int .i64 o.mo, .int .i64 o.fr] 124)).alloc (.cells #[.string p.tm, .string p.rs, .int .i64 p.mo, .int .i64 p.fr] 124))) := zq w _ _
  obtain ⟨W0, hW0⟩ : ∃ W0, W0 = (w.alloc (.cells #[.string o.tm, .string o.rs, .int .i64 o.mo, .int .i64 o.fr] 124)).alloc (.cells #[.string p.tm, .string p.rs, .int .i64 p.mo, .int .i64 p.fr] 124) := ⟨_, rfl⟩
  have hz0 : w.heap.size + 1 < W0.heap.size := by rw [hW0]; simp
  rw [<- hW0] at HB0 hX0 hY0 ⊢
  clear hW0
  have hS : (∀ j, W0.drew.cell? ⟨w.heap.size, j, none⟩ = (#[.string o.tm, .string o.rs, .int .i64 o.mo, .int .i64 o.fr] : Array Value)[j]?) /\ (∀ j, W0.drew.cell? ⟨w.heap.size + 1, j, none⟩ = (#[.string p.tm, .string p.rs, .int .i64 p.mo, .int .i64 p.fr] : Array Value)[j]?) := ⟨hX0, hY0⟩
  have hSa : ∀ ob, (∀ j, (W0.alloc ob).drew.cell? ⟨w.heap.size, j, none⟩ = (#[.string o.tm, .string o.rs, .int .i64 o.mo, .int .i64 o.fr] : Array Value)[j]?) /\ (∀ j, (W0.alloc ob).drew.cell? ⟨w.heap.size + 1, j, none⟩ = (#[.string p.tm, .string p.rs, .int .i64 p.mo, .int .i64 p.fr] : Array Value)[j]?) := fun ob => ⟨za (b := w.heap.size) (wk := W0) hX0 (Nat.lt_of_succ_lt hz0) (((Below.refl _ _).alloc (Nat.le_refl _) _).drew), za (b := w.heap.size + 1) (wk := W0) hY0 hz0 (((Below.refl _ _).alloc (Nat.le_refl _) _).drew)⟩
  clear hX0 hY0
  go_region_held3 (fun w' => (∀ j, w'.cell? ⟨w.heap.size, j, none⟩ = (#[.string o.tm, .string o.rs, .int .i64 o.mo, .int .i64 o.fr] : Array Value)[j]?) /\ (∀ j, w'.cell? ⟨w.heap.size + 1, j, none⟩ = (#[.string p.tm, .string p.rs, .int .i64 p.mo, .int .i64 p.fr] : Array Value)[j]?)) (first | exact hS | exact hSa _) (first
    | (go_at_call 163; refine (zdu _ _ _).mono ?_; rintro e w3 ⟨rfl, rfl⟩)
    | (go_at_call 162; refine (ziU _ _ _).mono ?_; rintro e w3 ⟨rfl, rfl⟩))
  go_wp2_with fail
  go_ret
  exact ⟨zk HR.out, (HB0.out.alloc HB0.out.size _).drew⟩
set_option maxHeartbeats 2000000 in
theorem zgZ (o p : Pu) (w : World) :
    Calls Tryz.prog 126 #[.agg o.cells, .agg p.cells] w fun e w' => e = .returned (.int .i64 (Gate.jl o p)) /\ Below w.heap.size w w' := by
  have HR : Hid (Gate.zbJ [Gate.key o.dr p.dr, Gate.key o.tm p.tm, Gate.key o.rs p.rs] = Gate.jl o p) := by unfold Hid; rw [Gate.zjS]; rfl
  unfold Pu.cells
  go_enter Tryz.func126, Tryz.ntmps126
  go_wp2_with fail
  obtain ⟨hX0, hY0⟩ := qw w #[.string o.dr, .string o.tm, .string o.rs, .int .i64 o.am, .int .i64 o.un] #[.string p.dr, .string p.tm, .string p.rs, .int .i64 p.am, .int .i64 p.un] 122 122
  have HB0 : Hid (Below w.heap.size w ((w.alloc (.cells #[.string o.dr, .string o.tm, .string o.rs, .int .i64 o.am, .int .i64 o.un] 122)).alloc (.cells #[.string p.dr, .string p.tm, .string p.rs, .int .i64 p.am, .int .i64 p.un] 122))) := zq w _ _
  obtain ⟨W0, hW0⟩ : ∃ W0, W0 = (w.alloc (.cells #[.string o.dr, .string o.tm, .string o.rs, .int .i64 o.am, .int .i64 o.un] 122)).alloc (.cells #[.string p.dr, .string p.tm, .string p.rs, .int .i64 p.am, .int .i64 p.un] 122) := ⟨_, rfl⟩
  have hz0 : w.heap.size + 1 < W0.heap.size := by rw [hW0]; simp
  rw [<- hW0] at HB0 hX0 hY0 ⊢
  clear hW0
  have hS : (∀ j, W0.drew.cell? ⟨w.heap.size, j, none⟩ = (#[.string o.dr, .string o.tm, .string o.rs, .int .i64 o.am, .int .i64 o.un] : Array Value)[j]?) /\ (∀ j, W0.drew.cell? ⟨w.heap.size + 1, j, none⟩ = (#[.string p.dr, .string p.tm, .string p.rs, .int .i64 p.am, .int .i64 p.un] : Array Value)[j]?) := ⟨hX0, hY0⟩
  have hSa : ∀ ob, (∀ j, (W0.alloc ob).drew.cell? ⟨w.heap.size, j, none⟩ = (#[.string o.dr, .string o.tm, .string o.rs, .int .i64 o.am, .int .i64 o.un] : Array Value)[j]?) /\ (∀ j, (W0.alloc ob).drew.cell? ⟨w.heap.size + 1, j, none⟩ = (#[.string p.dr, .string p.tm, .string p.rs, .int .i64 p.am, .int .i64 p.un] : Array Value)[j]?) := fun ob => ⟨za (b := w.heap.size) (wk := W0) hX0 (Nat.lt_of_succ_lt hz0) (((Below.refl _ _).alloc (Nat.le_refl _) _).drew), za (b := w.heap.size + 1) (wk := W0) hY0 hz0 (((Below.refl _ _).alloc (Nat.le_refl _) _).drew)⟩
  clear hX0 hY0
  go_region_held3 (fun w' => (∀ j, w'.cell? ⟨w.heap.size, j, none⟩ = (#[.string o.dr, .string o.tm, .string o.rs, .int .i64 o.am, .int .i64 o.un] : Array Value)[j]?) /\ (∀ j, w'.cell? ⟨w.heap.size + 1, j, none⟩ = (#[.string p.dr, .string p.tm, .string p.rs, .int .i64 p.am, .int .i64 p.un] : Array Value)[j]?)) (first | exact hS | exact hSa _) (first
    | (go_at_call 163; refine (zdu _ _ _).mono ?_; rintro e w3 ⟨rfl, rfl⟩)
    | (go_at_call 162; refine (zkN _ _ _ _).mono ?_; rintro e w3 ⟨rfl, rfl⟩))
  go_wp2_with fail
  go_ret
  exact ⟨zk HR.out, (HB0.out.alloc HB0.out.size _).drew⟩
end Go.Proofs.YtkfigdbbncjojaaGreat

namespace Go.Proofs.YtkfigdbbncjojaaGreat
open Go.RowKit
namespace Gate
def zn8 : Ob := ⟨ByteArray.empty, ByteArray.empty, ByteArray.empty, [], false, [], 0⟩
def zaL (l : Lw) (team res : ByteArray) (o : Ob) : Int := if under l.ts 4 o.tm team = true then yY l.ss o res else 0
def jK (l : Lw) (os : List Ob) (team res : ByteArray) : Nat -> Int
  | 0 => 0
  | k + 1 => jK l os team res k + zaL l team res (os.getD k zn8)
def used (l : Lw) (os : List Ob) (team res : ByteArray) : Int := jK l os team res os.length
theorem zmJ (ss : List Shp) (o : Ob) (res : ByteArray) : 0 <= yY ss o res /\ yY ss o res <= 1 + o.sz * 10000000 := by
  have h0 : o.vs.length <= o.sz := by unfold Ob.sz zce yX; omega
  unfold yY
  split
  · rename_i hc
    have hc1 := hc.1
    unfold zw at hc1
    simp only [Bool.and_eq_true, decide_eq_true_eq] at hc1
    have := zbC (shapeOf ss o.kd).fs o.vs res (shapeOf ss o.kd).fs.length
    have h3 := hc1.2
    split <;> omega
  · omega
theorem ziW (l : Lw) (team res : ByteArray) (o : Ob) : 0 <= zaL l team res o /\ zaL l team res o <= 1 + o.sz * 10000000 := by
  unfold zaL
  split
  · exact zmJ _ _ _
  · omega
theorem zdZ (l : Lw) (os : List Ob) (team res : ByteArray) (k : Nat) (h : k < os.length) : jK l os team res (k + 1) = jK l os team res k + zaL l team res os[k] := by
  have e1 : os.getD k zn8 = os[k] := by simp [List.getD, h]
  simp only [jK]
  rw [e1]
theorem za0 (l : Lw) (os : List Ob) (team res : ByteArray) : ∀ k, k <= os.length -> 0 <= jK l os team res k /\ jK l os team res k <= k + zaa (os.take k) * 10000000
  | 0, _ => by simp [jK, zaa]
  | k + 1, h => by
    have h1 := za0 l os team res k (by omega)
    have h2 := ziW l team res os[k]
    have h3 : zaa (os.take (k + 1)) = zaa (os.take k) + os[k].sz := zad Ob.sz os k h
    rw [zdZ l os team res k h, h3]
    omega
end Gate
set_option maxHeartbeats 4000000 in
theorem zjm (l : Lw) (la lb lc : Option Addr) (lca lcb lcc : Nat) (b : Bk) (a0 a1 a2 a3 : Option Addr) (c0 c1 c2 c3 : Nat) (team res : ByteArray) (w : World) (hl : qO w l la lb lc) (hb : qY w b a0 a1 a2 a3) (hz : ql b.os <= 1048576) :
    Calls Tryz.prog 172 #[.agg (l.cells la lb lc lca lcb lcc), .agg (b.cells a0 a1 a2 a3 c0 c1 c2 c3), .string team, .string res] w fun e w' => e = .returned (.int .i64 (Gate.used l b.os team res)) /\ Below w.heap.size w w' := by
  have HL : Hid (qO w l la lb lc) := hl
  have HK : Hid (qY w b a0 a1 a2 a3) := hb
  have HZ : Hid (ql b.os <= 1048576 /\ b.os.length <= 1048576) := ⟨hz, by unfold ql at hz; omega⟩
  clear hl hb hz
  unfold Lw.cells Bk.cells
  go_enter Tryz.func172, Tryz.ntmps172
  go_wp2_with fail
  obtain ⟨hX0, hY0⟩ := qw w (lC l la lb lc lca lcb lcc) (bC b a0 a1 a2 a3 c0 c1 c2 c3) 40 47
  have HB0 : Hid (Below w.heap.size w ((w.alloc (.cells (lC l la lb lc lca lcb lcc) 40)).alloc (.cells (bC b a0 a1 a2 a3 c0 c1 c2 c3) 47))) := zq w _ _
  obtain ⟨W0, hW0⟩ : ∃ W0, W0 = (w.alloc (.cells (lC l la lb lc lca lcb lcc) 40)).alloc (.cells (bC b a0 a1 a2 a3 c0 c1 c2 c3) 47) := ⟨_, rfl⟩
  have hz0 : w.heap.size + 1 < W0.heap.size := by rw [hW0]; simp
  rw [<- hW0] at HB0 hX0 hY0 ⊢
  clear hW0
  go_loopw [9, 15] (fun nv iv wr => ∃ (k : Nat) (s : Int), k <= b.os.length /\ iv = .int .i64 k /\ nv = .int .i64 s /\ Hid (s = Gate.jK l b.os team res k /\ Below W0.heap.size W0 wr)) (fun _ iv _ => b.os.length - (intOf iv).toNat)
  case atStart => exact ⟨0, 0, Nat.zero_le _, rfl, rfl, by simp [Gate.jK], Below.refl _ _⟩
  case round =>
    obtain ⟨k, s, hk, rfl, rfl, HQ⟩ := hrel
    have hsb : 0 <= s /\ s <= 20000000000000 := by
      have h1 := HQ.out.1; have h2 := Gate.za0 l b.os team res k hk; have h3 := HZ.out
      have h4 : zaa (b.os.take k) <= zaa b.os := zbE Ob.sz b.os k
      unfold ql at h3
      omega
    have hkn : k <= 1048576 := by have := HZ.out.2; omega
    by_cases hlt : k < b.os.length
    · obtain ⟨ob, off, v0, v1, q0, q1, rfl, hob, hsm, hl0, hl1, d0, d1, d2, d3, d4, d5, d6⟩ := HK.out.os.load (HB0.out.trans (HQ.out.2.mono HB0.out.size)) k hlt
      have hob' := Nat.lt_of_lt_of_le hob (HB0.out.trans (HQ.out.2.mono HB0.out.size)).size
      have hltI : (k : Int) < (b.os.length : Int) := by omega
      have hX := za hX0 (Nat.lt_of_succ_lt hz0) HQ.out.2
      have hz := Nat.lt_of_lt_of_le hz0 HQ.out.2.size
      have hzX := Nat.lt_of_succ_lt hz
      have HSt := hid (Gate.zdZ l b.os team res k hlt)
      have HOo : Hid (qQ wr b.os[k] v0 v1) := ⟨hsm, hl0, hl1⟩
      have HOl : Hid (b.os[k].vs.length <= 1048576) := by
        have h3 := HZ.out.1
        have := (zjh (left := 1048576) (ms := b.os) (by omega) (by omega)).2 k hlt
        exact this.1
      have hub := Gate.ziW l team res b.os[k]
      have hwb := Gate.zd4 l.ss b.os[k] res HOl.out
      clear hsm hl0 hl1 hub
      go_wp2_with fail
      have hb1 : Below wr.heap.size wr (wr.alloc (.cells (oC b.os[k] v0 v1 q0 q1) 104)) := (Below.refl _ _).alloc (Nat.le_refl _) _
      have hN := zH wr (oC b.os[k] v0 v1 q0 q1) 104
      obtain ⟨w1, hw1⟩ : ∃ w1, w1 = wr.alloc (.cells (oC b.os[k] v0 v1 q0 q1) 104) := ⟨_, rfl⟩
      have hn1 : wr.heap.size < w1.heap.size := by rw [hw1]; simp
      rw [<- hw1] at hb1 hN ⊢
      clear hw1 d0 d1 d2 d3 d4 d5 d6
      have HB1 := hid (HQ.out.2.trans (hb1.mono HQ.out.2.size))
      have hX1 := za hX (Nat.lt_of_succ_lt hz) hb1
      have HO1 := hid (HOo.out.mono hb1)
      have hz1 := Nat.lt_trans hz hn1
      clear hb1 hX
      refine (zh1 _ _ l.ts b.os[k].tm team _ (HL.out.ts.mono (HB0.out.trans (HB1.out.mono HB0.out.size)))).mono ?_
      rintro e w2 ⟨rfl, hb2⟩
      have HB2 := hid (HB1.out.trans (hb2.mono HB1.out.size))
      have hX2 := za hX1 (Nat.lt_of_succ_lt hz1) hb2
      have hN2 := za hN hn1 hb2
      have HO2 := hid (HO1.out.mono hb2)
      have hz2 := Nat.lt_of_lt_of_le hz1 hb2.size
      have hn2 := Nat.lt_of_lt_of_le hn1 hb2.size
      clear hb2 hX1 hN
      by_cases hu : Gate.under l.ts 4 b.os[k].tm team = true
      · have HU : Hid (Gate.zaL l team res b.os[k] = Gate.yY l.ss b.os[k] res) := by unfold Hid Gate.zaL; rw [if_pos hu]
        rw [hu]
        clear hu
        go_wp2_with fail
        refine (zg9 l _ _ _ _ _ _ b.os[k] _ _ _ _ res _ (HL.out.mono (HB0.out.trans (HB2.out.mono HB0.out.size))) HO2.out HOl.out).mono ?_
        rintro e w3 ⟨rfl, hb3⟩
        have HB3 := hid (HB2.out.trans (hb3.mono HB2.out.size))
        clear hb3
        go_wp2_with fail
        exact ⟨⟨k + 1, s + Gate.yY l.ss b.os[k] res, by omega, by go_num, by go_num, by rw [HSt.out, HU.out, HQ.out.1], HB3.out⟩, zm hlt⟩
      · have hu' : Gate.under l.ts 4 b.os[k].tm team = false := by simpa using hu
        have HU : Hid (Gate.zaL l team res b.os[k] = 0) := by unfold Hid Gate.zaL; rw [if_neg hu]
        rw [hu']
        clear hu hu'
        go_wp2_with fail
        exact ⟨⟨k + 1, s, by omega, by go_num, rfl, by rw [HSt.out, HU.out, HQ.out.1]; omega, HB2.out⟩, zm hlt⟩
    · have e : k = b.os.length := by omega
      subst e
      have HE : Hid (Gate.used l b.os team res = s) := by unfold Hid Gate.used; rw [HQ.out.1]
      clear hlt hk
      go_wp2_with fail
      go_ret
      exact ⟨zk HE.out.symm, HB0.out.trans (HQ.out.2.mono HB0.out.size)⟩
end Go.Proofs.YtkfigdbbncjojaaGreat

namespace Go.Proofs.YtkfigdbbncjojaaGreat
open Go.RowKit
structure zbu (w : World) (a : Option Addr) (ms : List Ob) : Prop where
  len : ms.length <= maxLen
  rows : ms ≠ [] -> ∃ b off, a = some ⟨b, off, none⟩ /\ b < w.heap.size /\ ∀ i (h : i < ms.length), ∃ g0 g1 c0 c1, zmE w b (off + i * 7) ms[i] (some ⟨g0, 0, none⟩) (some ⟨g1, 0, none⟩) c0 c1
theorem zbu.at {w : World} {a : Option Addr} {ms : List Ob} (h : zbu w a ms) : zaQ w a ms :=
  ⟨h.len, fun hne => by
    obtain ⟨b, off, ha, hb, hr⟩ := h.rows hne
    refine ⟨b, off, ha, hb, fun i hi => ?_⟩
    obtain ⟨g0, g1, c0, c1, hf⟩ := hr i hi
    exact ⟨_, _, c0, c1, hf⟩⟩
theorem zbu.mono {w w' : World} {a : Option Addr} {ms : List Ob} (h : zbu w a ms) (hl : Below w.heap.size w w') : zbu w' a ms :=
  ⟨h.len, fun hne => by
    obtain ⟨b, off, ha, hb, hr⟩ := h.rows hne
    refine ⟨b, off, ha, Nat.lt_of_lt_of_le hb hl.size, fun i hi => ?_⟩
    obtain ⟨g0, g1, c0, c1, hf⟩ := hr i hi
    exact ⟨g0, g1, c0, c1, hf.mono hb hl⟩⟩
theorem zbu.load {w w' : World} {a : Option Addr} {ms : List Ob} (h : zbu w a ms) (hl : Below w.heap.size w w') (i : Nat) (hi : i < ms.length) : ∃ b off g0 g1 c0 c1, a = some ⟨b, off, none⟩ /\ b < w.heap.size /\ ms[i].Small /\ zB w' (some ⟨g0, 0, none⟩) ms[i].vs /\ zB w' (some ⟨g1, 0, none⟩) ms[i].hs /\
    w'.cell? ⟨b, off + i * 7, none⟩ = some (.string ms[i].kd) /\ w'.cell? ⟨b, off + i * 7 + 1, none⟩ = some (.string ms[i].nm) /\ w'.cell? ⟨b, off + i * 7 + 2, none⟩ = some (.string ms[i].tm) /\ w'.cell? ⟨b, off + i * 7 + 3, none⟩ = some (.slice (some ⟨g0, 0, none⟩) ms[i].vs.length c0) /\ w'.cell? ⟨b, off + i * 7 + 4, none⟩ = some (.bool ms[i].en) /\ w'.cell? ⟨b, off + i * 7 + 5, none⟩ = some (.slice (some ⟨g1, 0, none⟩) ms[i].hs.length c1) /\ w'.cell? ⟨b, off + i * 7 + 6, none⟩ = some (.int .i64 ms[i].vr) := by
  obtain ⟨b, off, ha, hb, hr⟩ := h.rows (by rintro rfl; simp at hi)
  obtain ⟨g0, g1, c0, c1, hf0⟩ := hr i hi
  have hf := hf0.mono hb hl
  exact ⟨b, off, g0, g1, c0, c1, ha, hb, hf.small, hf.l0, hf.l1, hf.cell 0 (by omega), hf.cell 1 (by omega), hf.cell 2 (by omega), hf.cell 3 (by omega), hf.cell 4 (by omega), hf.cell 5 (by omega), hf.cell 6 (by omega)⟩
theorem q8.has {lo : Nat} {w : World} {bo : Nat} {ms : List Ob} (h : q8 lo w bo ms ms.length) (hs : zek ms) (hl : ms.length <= maxLen) : zbu w (some ⟨bo, 0, none⟩) ms := by
  obtain ⟨C, hC, hsz, hr⟩ := h.rows
  refine ⟨hl, fun _ => ⟨bo, 0, rfl, (Array.getElem?_eq_some_iff.1 hC).1, fun i hi => ?_⟩⟩
  obtain ⟨g0, g1, _, _, hk0, _, _, hk1, hc⟩ := hr i hi hi
  obtain ⟨s0, s1, s2⟩ := hs.small i hi
  refine ⟨g0, g1, ms[i].vs.length, ms[i].hs.length, s0, zb7 hk0 s1.1 s1.2, zb7 hk1 s2.1 s2.2, fun j hj => ?_⟩
  rw [cell_of_block hC, Nat.zero_add]
  exact hc j hj
theorem zg6 (b : Bk) (a0 a1 a2 a3 : Option Addr) (c0 c1 c2 c3 : Nat) (w : World) (hl : qY w b a0 a1 a2 a3) (hf : b.Few) :
    Calls Tryz.prog 8 #[.agg (b.cells a0 a1 a2 a3 c0 c1 c2 c3)] w fun e w' => ∃ a0' a1' a2' a3', e = .returned (.agg (b.cells a0' a1' a2' a3' b.os.length b.gs.length b.ls.length b.ps.length)) /\ qY w' b a0' a1' a2' a3' /\ zbu w' a0' b.os /\ Below w.heap.size w w' := by
  refine (zc6 b a0 a1 a2 a3 c0 c1 c2 c3 w hl hf).mono ?_
  rintro e w' ⟨lo, g0, g1, g2, g3, he, _, ho, hb⟩
  exact ⟨_, _, _, _, he, ho.at hl.small, ho.os.has hl.os.smalls hl.os.len, hb⟩
end Go.Proofs.YtkfigdbbncjojaaGreat
