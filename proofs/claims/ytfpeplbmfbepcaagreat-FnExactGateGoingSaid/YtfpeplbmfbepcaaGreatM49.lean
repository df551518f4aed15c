import Derived.Test.YtfpeplbmfbepcaaGreatM56
import Derived.RangeFuncNested
import Derived.RangeFuncBound
import Derived.RangeFuncCalls
import Derived.RangeFuncLeaves
import Derived.Shelf.Abstract
import Derived.Shelf.RegionOpen
import Derived.WalkKit
import Derived.OwnWalkIn
import Derived.TacticsInMore
import Derived.LoopNIn
import Derived.LoopIn
import Derived.Test.YtfpeplbmfbepcaaGreatM46
namespace Go.Proofs.YtfpeplbmfbepcaaGreat
open Go.RowKit Go.Shelf
attribute [local go_sem] Oper.semAt_some
def Lk.enc (x : Lk) : Array Value := #[.agg #[.int .i64 x.pl, .int .i64 x.rl, .string x.to, .string x.nm]]
noncomputable def zdW (fs : List Fld) (vs : List ByteArray) (k : Nat) : List Lk :=
  match fs[k]?, vs[k]? with
  | some f, some v => if h : (f.kd = 4 /\ v.toList.isEmpty = false) /\ f.to.size <= maxLen /\ v.size <= maxLen then [⟨k, f.rl, f.to, v, h.2.1, h.2.2⟩] else []
  | _, _ => []
noncomputable def yG (fs : List Fld) (vs : List ByteArray) (k : Nat) : List Lk := (List.range k).flatMap (zdW fs vs)
theorem jR (fs : List Fld) (vs : List ByteArray) (k : Nat) : yG fs vs (k + 1) = yG fs vs k ++ zdW fs vs k := by
  simp [yG, List.range_succ]
theorem zpB (fs : List Fld) (vs : List ByteArray) (k : Nat) : (zdW fs vs k).length <= 1 := by
  unfold zdW
  split
  · split <;> simp
  · simp
theorem zkf (fs : List Fld) (vs : List ByteArray) : ∀ k, (yG fs vs k).length <= k
  | 0 => by simp [yG]
  | k + 1 => by
    rw [jR, List.length_append]
    have := zkf fs vs k
    have := zpB fs vs k
    omega
theorem zol {fs : List Fld} {vs : List ByteArray} {k : Nat} (h : k < fs.length) (h' : k < vs.length) (hn : ¬ (fs[k].kd = 4 /\ vs[k].toList.isEmpty = false)) : zdW fs vs k = [] := by
  unfold zdW
  rw [List.getElem?_eq_getElem h, List.getElem?_eq_getElem h']
  simp only
  rw [dif_neg (fun e => hn e.1)]
theorem zpY {fs : List Fld} {vs : List ByteArray} {k : Nat} (h : k < fs.length) (h' : k < vs.length) (hk : fs[k].kd = 4) (hv : vs[k].toList.isEmpty = false) (h1 : fs[k].to.size <= maxLen) (h2 : vs[k].size <= maxLen) : zdW fs vs k = [⟨k, fs[k].rl, fs[k].to, vs[k], h1, h2⟩] := by
  unfold zdW
  rw [List.getElem?_eq_getElem h, List.getElem?_eq_getElem h']
  simp only
  rw [dif_pos ⟨⟨hk, hv⟩, h1, h2⟩]
theorem zaw (fs : List Fld) (vs : List ByteArray) {k n : Nat} (h : k <= n) : yG fs vs k <+: yG fs vs n := by
  induction n with
  | zero =>
    have : k = 0 := by omega
    subst this; exact List.prefix_rfl
  | succ n ih =>
    rcases Nat.eq_or_lt_of_le h with e | h2
    · subst e; exact List.prefix_rfl
    · rw [jR]
      exact (ih (by omega)).trans (List.prefix_append _ _)
structure CBP (P : Nat -> Prop) (w w' : World) : Prop where
  size : w.heap.size <= w'.heap.size
  cells : ∀ (k : Nat) (C : Array Value) (t : TypeId) (z : Nat × Nat), P k -> w.heap[k]? = some (.cells C t z) -> w'.heap[k]? = some (.cells C t z)
abbrev CB (B : Nat) : World -> World -> Prop := CBP (fun k => k < B)
theorem CBP.trans {P : Nat -> Prop} {a b c : World} (h : CBP P a b) (k : CBP P b c) : CBP P a c := ⟨Nat.le_trans h.size k.size, fun i C t z hi hc => k.cells i C t z hi (h.cells i C t z hi hc)⟩
theorem CBP.of_below {P : Nat -> Prop} {B : Nat} {w w' : World} (h : Below B w w') (hP : ∀ k, P k -> k < B) : CBP P w w' := ⟨h.size, fun k _ _ _ hk hc => (h.block k (hP k hk)).trans hc⟩
theorem CB.trans {B : Nat} {a b c : World} (h : CB B a b) (k : CB B b c) : CB B a c := CBP.trans h k
theorem CB.of_below {B : Nat} {w w' : World} (h : Below B w w') : CB B w w' := CBP.of_below h fun _ hk => hk
theorem CBP.alloc {P : Nat -> Prop} {w0 w : World} (h : CBP P w0 w) (o : Obj) : CBP P w0 (w.alloc o) := ⟨Nat.le_trans h.size (by simp), fun k C t z hk hc => by
  have h1 := h.cells k C t z hk hc
  rw [Below.heap_alloc _ _ _ (Array.getElem?_eq_some_iff.1 h1).1]; exact h1⟩
theorem CBP.drew {P : Nat -> Prop} {w0 w : World} (h : CBP P w0 w) : CBP P w0 w.drew := ⟨h.size, h.cells⟩
theorem znD {w : World} {b o : Nat} {v : Value} (h : w.cell? ⟨b, o, none⟩ = some v) : ∃ C t z, w.heap[b]? = some (.cells C t z) := by
  unfold World.cell? at h
  cases hb : w.heap[b]? with
  | none => simp [hb] at h
  | some ob => cases ob <;> first | exact ⟨_, _, _, rfl⟩ | simp [hb] at h
theorem CBP.same {P : Nat -> Prop} {w w' : World} (h : CBP P w w') {b o : Nat} {v : Value} (hb : P b) (hc : w.cell? ⟨b, o, none⟩ = some v) (o' : Nat) : w'.cell? ⟨b, o', none⟩ = w.cell? ⟨b, o', none⟩ := by
  obtain ⟨C, t, z, hC⟩ := znD hc
  simp [World.cell?, hC, h.cells b C t z hb hC]
theorem CBP.cell {P : Nat -> Prop} {w w' : World} (h : CBP P w w') {b o : Nat} {v : Value} (hb : P b) (hc : w.cell? ⟨b, o, none⟩ = some v) : w'.cell? ⟨b, o, none⟩ = some v := (h.same hb hc o).trans hc
theorem CBP.box {P : Nat -> Prop} {w w' : World} {b : Nat} {X : Array Value} (h : CBP P w w') (hX : ∀ o, w.cell? ⟨b, o, none⟩ = X[o]?) (hb : P b) (h0 : 0 < X.size) : ∀ o, w'.cell? ⟨b, o, none⟩ = X[o]? := fun o =>
  (h.same hb ((hX 0).trans (Array.getElem?_eq_getElem h0)) o).trans (hX o)
theorem zif {w : World} {fa : Option Addr} {fs : List Fld} (hf : zW w fa fs) (hne : fs ≠ []) : ∀ b off, fa = some ⟨b, off, none⟩ -> b < w.heap.size := by
  intro b off e
  obtain ⟨b', off', e', hb, _⟩ := hf.rows hne
  rw [e] at e'
  cases e'
  exact hb
theorem ziE {w : World} {va : Option Addr} {vs : List ByteArray} (hv : zA w va vs) (hne : vs ≠ []) : ∀ b off, va = some ⟨b, off, none⟩ -> b < w.heap.size := by
  intro b off e
  obtain ⟨b', off', e', hb, _⟩ := hv.cells hne
  rw [e] at e'
  cases e'
  exact hb
theorem zkq {P : Nat -> Prop} {w0 : World} {va : Option Addr} {vs : List ByteArray} {J : Nat -> World -> Prop} (hv : zA w0 va vs) (hPv : vs ≠ [] -> ∀ b off, va = some ⟨b, off, none⟩ -> P b) : ∀ k (h : k < vs.length) W', J k W' -> CBP P w0 W' -> ∀ b off, va = some ⟨b, off, none⟩ -> W'.cell? ⟨b, off + k, none⟩ = some (.string vs[k]) := by
  intro k hk W' _ hB b off e
  have hne : vs ≠ [] := by rintro rfl; simp at hk
  obtain ⟨b', off', e', _, hc⟩ := hv.cells hne
  rw [e] at e'
  cases e'
  exact hB.cell (hPv hne b off e) (hc k hk)
set_option maxRecDepth 100000 in
set_option maxHeartbeats 4000000 in
theorem zpC (P : Nat -> Prop) (n : Nat) (hn : 1 <= n) (l Bs Bo : Nat) (kd : ByteArray) (fs : List Fld) (fa : Option Addr) (fcap : Nat) (o : Ob) (va ha : Option Addr) (cap cap' : Nat) (w0 : World) (hbs : Bs < w0.heap.size) (hbo : Bo < w0.heap.size)
    (hBs : ∀ j, w0.cell? ⟨Bs, j, none⟩ = (#[.string kd, .slice fa fs.length fcap] : Array Value)[j]?) (hBo : ∀ j, w0.cell? ⟨Bo, j, none⟩ = (oC o va ha cap cap')[j]?)
    (hf : zW w0 fa fs) (hv : zA w0 va o.vs) (hc : o.vs.length = fs.length) (hP : ∀ k, P k -> k < w0.heap.size) (hPo : P Bo) (hPf : fs ≠ [] -> ∀ b off, fa = some ⟨b, off, none⟩ -> P b) (J Jx : List Lk -> World -> Prop) (Jp : List PanicEntry -> List Lk -> World -> Prop) (hV : ∀ k (h : k < o.vs.length) W', J (yG fs o.vs k) W' -> CBP P w0 W' -> ∀ b off, va = some ⟨b, off, none⟩ -> W'.cell? ⟨b, off + k, none⟩ = some (.string o.vs[k])) (W : World) (hW : Below w0.heap.size w0 W) (hJ : AbidesFrom W.heap.size J)
    (hY : ∀ pre x W1, J pre W1 -> pre.length < fs.length -> pre ++ [x] <+: yG fs o.vs fs.length -> YieldAt Fence.wide (n - 1) Tryz.prog l x.enc W1 fun e W' =>
      (e = .returned (.bool true) /\ J (pre ++ [x]) W' /\ CBP P W1 W') \/ (e = .returned (.bool false) /\ Jx (pre ++ [x]) W') \/ ∃ ch, e = .panicked ch /\ Jp ch (pre ++ [x]) W') (h0 : J [] W) :
    CallsIn Fence.wide n Tryz.prog 167 #[.func (.yield l) #[] #[], .pointer (some ⟨Bs, 0, none⟩), .pointer (some ⟨Bo, 0, none⟩)] W fun e W' => ((∃ v, e = .returned v) /\
      ((∃ ys, ys = yG fs o.vs fs.length /\ J ys W') \/ (∃ pre, pre <+: yG fs o.vs fs.length /\ Jx pre W'))) \/ ∃ ch pre, e = .panicked ch /\ pre <+: yG fs o.vs fs.length /\ Jp ch pre W' := by
  refine callsIn_of_wp Tryz.func167 rfl trivial ?_ rfl
  simp only [Tryz.ntmps167, List.size_toArray, List.length_cons, List.length_nil, Nat.reduceAdd, Nat.reduceSub, Array.replicate_succ, Array.replicate_zero, List.push_toArray, List.append_toArray, List.nil_append, List.cons_append]
  have hlen := hf.len
  unfold maxLen at hlen
  have hX0 := za hBs hbs hW
  have hXo := za hBo hbo hW
  gi_wp2
  clear hX0 hXo
  gi_loopw [9] (fun i wr => ∃ k : Nat, k <= fs.length /\ i = .int .i64 k /\ J (yG fs o.vs k) wr /\ CBP P w0 wr) (fun i _ => fs.length - (intOf i).toNat)
  case atStart => exact ⟨0, Nat.zero_le _, rfl, h0, CBP.of_below hW hP⟩
  case round =>
    obtain ⟨k, hk, rfl, hJs, hB⟩ := hrel
    by_cases hlt : k < fs.length
    · have hltv : k < o.vs.length := by omega
      obtain ⟨fb, foff, rfl, hfb, hr⟩ := hf.rows (by rintro rfl; simp at hlt)
      obtain ⟨wa, wcap, hf0⟩ := hr k hlt
      obtain ⟨d0, d1, d2, d3, d4, d5, d6, d7, d8, d9, d10⟩ := hf0.load
      have hPF := hPf (by rintro rfl; simp at hlt) fb foff rfl
      have d0 := hB.cell hPF d0
      have d1 := hB.cell hPF d1
      have d2 := hB.cell hPF d2
      have d3 := hB.cell hPF d3
      have d4 := hB.cell hPF d4
      have d5 := hB.cell hPF d5
      have d6 := hB.cell hPF d6
      have d7 := hB.cell hPF d7
      have d8 := hB.cell hPF d8
      have d9 := hB.cell hPF d9
      have d10 := hB.cell hPF d10
      obtain ⟨p, po, rfl, hp, hpc⟩ := hv.cells (by intro e; rw [e] at hltv; simp at hltv)
      have hltI : (k : Int) < (fs.length : Int) := by omega
      have hltV : (k : Int) < (o.vs.length : Int) := by omega
      have hfbw : fb < wr.heap.size := Nat.lt_of_lt_of_le hfb hB.size
      have hpw : p < wr.heap.size := Nat.lt_of_lt_of_le hp hB.size
      have hbow : Bo < wr.heap.size := Nat.lt_of_lt_of_le hbo hB.size
      have cv := hV k hltv wr hJs hB p po rfl
      have hXo := hB.box hBo hPo (by simp)
      have HS : Hid (fs[k].to.size <= maxLen /\ o.vs[k].size <= maxLen) := ⟨hf0.small.to, hv.small _ (List.getElem_mem _)⟩
      have HBa : Hid (∀ ob, CBP P w0 (wr.alloc ob)) := fun ob => hB.alloc _
      have HJa : Hid (∀ ob, J (yG fs o.vs k) (wr.alloc ob)) := fun ob => hJ _ _ _ none hJs (World.grownBy_alloc wr ob none) (fun r e => by cases e)
      clear hf0 hpc hPF
      by_cases hk4 : fs[k].kd = 4
      rotate_left
      · have HN : Hid (yG fs o.vs (k + 1) = yG fs o.vs k) := by unfold Hid; rw [jR, zol hlt hltv (fun h => hk4 h.1), List.append_nil]
        have e1 : (fs[k].kd != 4) = true := by simp [hk4]
        clear hk4
        gi_wp2
        exact ⟨⟨k + 1, by omega, by go_num, by rw [HN.out]; exact HJa.out _, HBa.out _⟩, zi hlt⟩
      · by_cases hve : o.vs[k].toList.isEmpty = true
        · have HN : Hid (yG fs o.vs (k + 1) = yG fs o.vs k) := by unfold Hid; rw [jR, zol hlt hltv (fun h => by rw [hve] at h; cases h.2), List.append_nil]
          have e1 : (fs[k].kd != 4) = false := by simp [hk4]
          clear hk4
          gi_wp2
          exact ⟨⟨k + 1, by omega, by go_num, by rw [HN.out]; exact HJa.out _, HBa.out _⟩, zi hlt⟩
        · have hve' : o.vs[k].toList.isEmpty = false := by simpa using hve
          have HN : Hid (yG fs o.vs (k + 1) = yG fs o.vs k ++ [⟨k, fs[k].rl, fs[k].to, o.vs[k], HS.out.1, HS.out.2⟩]) := by unfold Hid; rw [jR, zpY hlt hltv hk4 hve' HS.out.1 HS.out.2]
          have e1 : (fs[k].kd != 4) = false := by simp [hk4]
          clear hk4 hve
          have hmx : Tryz.prog.follows .mixedOrders = true := by kernel_rfl
          gi_wp2
          have hT0 := zG wr #[.string fs[k].nm, .int .i64 fs[k].kd, .int .i64 fs[k].ls, .int .i64 fs[k].ms, .slice wa fs[k].ws.length wcap, .string fs[k].to, .int .i64 fs[k].rl, .bool fs[k].mu, .bool fs[k].fx, .string fs[k].df, .string fs[k].wg] 165
          have hT1 := za hXo hbow ((Below.refl wr.heap.size wr).alloc (Nat.le_refl _) (.cells #[.string fs[k].nm, .int .i64 fs[k].kd, .int .i64 fs[k].ls, .int .i64 fs[k].ms, .slice wa fs[k].ws.length wcap, .string fs[k].to, .int .i64 fs[k].rl, .bool fs[k].mu, .bool fs[k].fx, .string fs[k].df, .string fs[k].wg] 165))
          have hT2 := (((Below.refl wr.heap.size wr).alloc (Nat.le_refl _) (.cells #[.string fs[k].nm, .int .i64 fs[k].kd, .int .i64 fs[k].ls, .int .i64 fs[k].ms, .slice wa fs[k].ws.length wcap, .string fs[k].to, .int .i64 fs[k].rl, .bool fs[k].mu, .bool fs[k].fx, .string fs[k].df, .string fs[k].wg] 165)).cell (p := ⟨p, po + k, none⟩) hpw).trans cv
          have hW1J := HJa.out (.cells #[.string fs[k].nm, .int .i64 fs[k].kd, .int .i64 fs[k].ls, .int .i64 fs[k].ms, .slice wa fs[k].ws.length wcap, .string fs[k].to, .int .i64 fs[k].rl, .bool fs[k].mu, .bool fs[k].fx, .string fs[k].df, .string fs[k].wg] 165)
          have hW1B := HBa.out (.cells #[.string fs[k].nm, .int .i64 fs[k].kd, .int .i64 fs[k].ls, .int .i64 fs[k].ms, .slice wa fs[k].ws.length wcap, .string fs[k].to, .int .i64 fs[k].rl, .bool fs[k].mu, .bool fs[k].fx, .string fs[k].df, .string fs[k].wg] 165)
          have hzg : wr.heap.size < (wr.alloc (.cells #[.string fs[k].nm, .int .i64 fs[k].kd, .int .i64 fs[k].ls, .int .i64 fs[k].ms, .slice wa fs[k].ws.length wcap, .string fs[k].to, .int .i64 fs[k].rl, .bool fs[k].mu, .bool fs[k].fx, .string fs[k].df, .string fs[k].wg] 165)).heap.size := by simp
          obtain ⟨W1, hW1⟩ : ∃ W1, W1 = wr.alloc (.cells #[.string fs[k].nm, .int .i64 fs[k].kd, .int .i64 fs[k].ls, .int .i64 fs[k].ms, .slice wa fs[k].ws.length wcap, .string fs[k].to, .int .i64 fs[k].rl, .bool fs[k].mu, .bool fs[k].fx, .string fs[k].df, .string fs[k].wg] 165) := ⟨_, rfl⟩
          rw [<- hW1] at hT0 hT1 hT2 hW1J hW1B hzg ⊢
          clear hW1 d0 d1 d2 d3 d4 d5 d6 d7 d8 d9 d10 hXo cv
          have hJd : J (yG fs o.vs k) W1.drew := hJ _ _ _ none hW1J ⟨rfl, rfl, rfl, Nat.le_refl _, fun _ _ _ => rfl⟩ (fun r e => by cases e)
          obtain ⟨x, hx⟩ : ∃ x : Lk, x = ⟨k, fs[k].rl, fs[k].to, o.vs[k], HS.out.1, HS.out.2⟩ := ⟨_, rfl⟩
          rw [<- hx] at HN
          obtain ⟨fn, tmps, assign, body, hy, hR⟩ := hY _ x W1.drew hJd (Nat.lt_of_le_of_lt (zkf fs o.vs k) hlt) (by rw [<- HN.out]; exact zaw fs o.vs (by omega))
          rw [hx] at hy
          unfold Lk.enc at hy
          dsimp only at hy
          have HR := hR.mono (R' := fun e W' => (∃ t : Bool, e = .returned (.bool t) /\ Hid (if t = true then J (yG fs o.vs k ++ [x]) W' /\ CBP P W1.drew W' else Jx (yG fs o.vs k ++ [x]) W')) \/ ∃ ch, e = .panicked ch /\ Hid (Jp ch (yG fs o.vs k ++ [x]) W')) (by
            rintro e W' (⟨h1, h2, h3⟩ | ⟨h1, h2⟩ | ⟨ch, h1, h2⟩)
            · exact .inl ⟨true, h1, h2, h3⟩
            · exact .inl ⟨false, h1, h2⟩
            · exact .inr ⟨ch, h1, h2⟩)
          clear hR hx
          gi_region_with_o (refine HR.mono ?_; rintro e W3 (⟨t, rfl, H3⟩ | ⟨ch, rfl, H3⟩); rotate_left; exact ⟨rfl, .inr ⟨ch, _, rfl, by rw [<- HN.out]; exact zaw fs o.vs (by omega), H3.out⟩⟩)
          all_goals (try cases t)
          all_goals gi_wp2
          all_goals first
            | (refine bodyPost_ret (results_none rfl _ _ _) rfl ?_
               have h9 := H3.out
               rw [if_neg (by simp)] at h9
               refine .inl ⟨⟨_, rfl⟩, .inr ⟨_, ?_, h9⟩⟩
               rw [<- HN.out]
               exact zaw fs o.vs (by omega))
            | exact ⟨rfl, .inr ⟨ch, _, rfl, by rw [<- HN.out]; exact zaw fs o.vs (by omega), H3.out⟩⟩
            | (have h9 := H3.out
               rw [if_pos rfl] at h9
               exact ⟨⟨k + 1, by omega, by go_num, by rw [HN.out]; exact h9.1, (hW1B.drew).trans h9.2⟩, zi hlt⟩)
    · obtain rfl : k = fs.length := by omega
      gi_wp2
      go_end0
      exact .inl ⟨⟨_, rfl⟩, .inl ⟨_, rfl, hJs⟩⟩
theorem zkg (P : Nat -> Prop) (n : Nat) (hn : 1 <= n) (l Bs Bo : Nat) (kd : ByteArray) (fs : List Fld) (fa : Option Addr) (fcap : Nat) (o : Ob) (va ha : Option Addr) (cap cap' : Nat) (w0 : World) (hbs : Bs < w0.heap.size) (hbo : Bo < w0.heap.size)
    (hBs : ∀ j, w0.cell? ⟨Bs, j, none⟩ = (#[.string kd, .slice fa fs.length fcap] : Array Value)[j]?) (hBo : ∀ j, w0.cell? ⟨Bo, j, none⟩ = (oC o va ha cap cap')[j]?)
    (hf : zW w0 fa fs) (hv : zA w0 va o.vs) (hc : o.vs.length = fs.length) (hP : ∀ k, P k -> k < w0.heap.size) (hPo : P Bo) (hPf : fs ≠ [] -> ∀ b off, fa = some ⟨b, off, none⟩ -> P b) (J Jx : List Lk -> World -> Prop) (hV : ∀ k (h : k < o.vs.length) W', J (yG fs o.vs k) W' -> CBP P w0 W' -> ∀ b off, va = some ⟨b, off, none⟩ -> W'.cell? ⟨b, off + k, none⟩ = some (.string o.vs[k])) (W : World) (hW : Below w0.heap.size w0 W) (hJ : AbidesFrom W.heap.size J)
    (hY : ∀ pre x W1, J pre W1 -> pre.length < fs.length -> x ∈ yG fs o.vs fs.length -> YieldAt Fence.wide (n - 1) Tryz.prog l x.enc W1 fun e W' =>
      (e = .returned (.bool true) /\ J (pre ++ [x]) W' /\ CBP P W1 W') \/ (e = .returned (.bool false) /\ Jx (pre ++ [x]) W')) (h0 : J [] W) :
    CallsIn Fence.wide n Tryz.prog 167 #[.func (.yield l) #[] #[], .pointer (some ⟨Bs, 0, none⟩), .pointer (some ⟨Bo, 0, none⟩)] W fun e W' => (∃ v, e = .returned v) /\
      ((∃ ys, ys = yG fs o.vs fs.length /\ J ys W') \/ (∃ pre, pre <+: yG fs o.vs fs.length /\ Jx pre W')) :=
  (zpC P n hn l Bs Bo kd fs fa fcap o va ha cap cap' w0 hbs hbo hBs hBo hf hv hc hP hPo hPf J Jx (fun _ _ _ => False) hV W hW hJ (fun pre x W1 h1 h2 h3 => by
    obtain ⟨fn, tmps, assign, body, hy, hR⟩ := hY pre x W1 h1 h2 (h3.subset (by simp))
    exact ⟨fn, tmps, assign, body, hy, hR.mono fun e W' h => h.imp_right .inl⟩) h0).mono fun e W' h => h.resolve_right fun ⟨_, _, _, _, h⟩ => h
theorem zmg (n : Nat) (hn : 1 <= n) (Bs Bo : Nat) (kd : ByteArray) (fs : List Fld) (fa : Option Addr) (fcap : Nat) (o : Ob) (va ha : Option Addr) (cap cap' : Nat) (w0 : World) (hbs : Bs < w0.heap.size) (hbo : Bo < w0.heap.size)
    (hBs : ∀ j, w0.cell? ⟨Bs, j, none⟩ = (#[.string kd, .slice fa fs.length fcap] : Array Value)[j]?) (hBo : ∀ j, w0.cell? ⟨Bo, j, none⟩ = (oC o va ha cap cap')[j]?)
    (hf : zW w0 fa fs) (hv : zA w0 va o.vs) (hc : o.vs.length = fs.length) :
    SeqStopsK Fence.wide n Tryz.prog 167 #[.pointer (some ⟨Bs, 0, none⟩), .pointer (some ⟨Bo, 0, none⟩)] Lk.enc (Below w0.heap.size) (fun ys => ys = yG fs o.vs fs.length) (fun pre => pre <+: yG fs o.vs fs.length) fs.length w0 :=
  fun l J Jx W hW hJ _ hY h0 => zkg (fun k => k < w0.heap.size) n hn l Bs Bo kd fs fa fcap o va ha cap cap' w0 hbs hbo hBs hBo hf hv hc (fun _ h => h) hbo (zif hf) J Jx (zkq hv (ziE hv)) W hW hJ (fun pre x W1 h1 h2 _ => by
    obtain ⟨fn, tmps, assign, body, hy, hR⟩ := hY pre x W1 h1 h2
    exact ⟨fn, tmps, assign, body, hy, hR.mono (fun e W' h => h.imp (fun h => ⟨h.1, h.2.1, CB.of_below h.2.2⟩) id)⟩) h0
theorem zlt (P : Nat -> Prop) (n : Nat) (hn : 1 <= n) (Bs Bo : Nat) (kd : ByteArray) (fs : List Fld) (fa : Option Addr) (fcap : Nat) (o : Ob) (va ha : Option Addr) (cap cap' : Nat) (w0 : World) (hbs : Bs < w0.heap.size) (hbo : Bo < w0.heap.size)
    (hBs : ∀ j, w0.cell? ⟨Bs, j, none⟩ = (#[.string kd, .slice fa fs.length fcap] : Array Value)[j]?) (hBo : ∀ j, w0.cell? ⟨Bo, j, none⟩ = (oC o va ha cap cap')[j]?)
    (hf : zW w0 fa fs) (hv : zA w0 va o.vs) (hc : o.vs.length = fs.length) (hP : ∀ k, P k -> k < w0.heap.size) (hPo : P Bo) (hPf : fs ≠ [] -> ∀ b off, fa = some ⟨b, off, none⟩ -> P b) (hPv : o.vs ≠ [] -> ∀ b off, va = some ⟨b, off, none⟩ -> P b) :
    SeqStopsK Fence.wide n Tryz.prog 167 #[.pointer (some ⟨Bs, 0, none⟩), .pointer (some ⟨Bo, 0, none⟩)] (fun x : { x : Lk // x ∈ yG fs o.vs fs.length } => x.1.enc) (CBP P) (fun ys => ys.map (·.1) = yG fs o.vs fs.length) (fun pre => pre.map (·.1) <+: yG fs o.vs fs.length) fs.length w0 :=
  fun l J Jx W hW hJ _ hY h0 => by
  refine (zkg P n hn l Bs Bo kd fs fa fcap o va ha cap cap' w0 hbs hbo hBs hBo hf hv hc hP hPo hPf (fun pre W => ∃ p, p.map (·.1) = pre /\ J p W) (fun pre W => ∃ p, p.map (·.1) = pre /\ Jx p W) (zkq hv hPv) W hW ?_ ?_ ⟨[], rfl, h0⟩).mono ?_
  · rintro s A B row ⟨p, e, h⟩ hg hr
    exact ⟨p, e, hJ p A B row h hg hr⟩
  · rintro pre x W1 ⟨p, rfl, hp⟩ hlen hmem
    obtain ⟨fn, tmps, assign, body, hy, hR⟩ := hY p ⟨x, hmem⟩ W1 hp (by simpa using hlen)
    exact ⟨fn, tmps, assign, body, hy, hR.mono (fun e W' h => h.imp (fun h => ⟨h.1, ⟨p ++ [⟨x, hmem⟩], by simp, h.2.1⟩, h.2.2⟩) (fun h => ⟨h.1, ⟨p ++ [⟨x, hmem⟩], by simp, h.2⟩⟩))⟩
  · rintro e W' ⟨h1, h2⟩
    refine ⟨h1, h2.imp ?_ ?_⟩
    · rintro ⟨ys, rfl, p, e, hp⟩
      exact ⟨p, e, hp⟩
    · rintro ⟨pre, hpre, p, rfl, hp⟩
      exact ⟨p, hpre, hp⟩
theorem zlF (n : Nat) (hn : 1 <= n) (Bs Bo : Nat) (kd : ByteArray) (fs : List Fld) (fa : Option Addr) (fcap : Nat) (o : Ob) (va ha : Option Addr) (cap cap' : Nat) (w0 : World) (hbs : Bs < w0.heap.size) (hbo : Bo < w0.heap.size)
    (hBs : ∀ j, w0.cell? ⟨Bs, j, none⟩ = (#[.string kd, .slice fa fs.length fcap] : Array Value)[j]?) (hBo : ∀ j, w0.cell? ⟨Bo, j, none⟩ = (oC o va ha cap cap')[j]?)
    (hf : zW w0 fa fs) (hv : zA w0 va o.vs) (hc : o.vs.length = fs.length) :
    SeqStopsK Fence.wide n Tryz.prog 167 #[.pointer (some ⟨Bs, 0, none⟩), .pointer (some ⟨Bo, 0, none⟩)] (fun x : { x : Lk // x ∈ yG fs o.vs fs.length } => x.1.enc) (CB w0.heap.size) (fun ys => ys.map (·.1) = yG fs o.vs fs.length) (fun pre => pre.map (·.1) <+: yG fs o.vs fs.length) fs.length w0 :=
  zlt (fun k => k < w0.heap.size) n hn Bs Bo kd fs fa fcap o va ha cap cap' w0 hbs hbo hBs hBo hf hv hc (fun _ h => h) hbo (zif hf) (ziE hv)
end Go.Proofs.YtfpeplbmfbepcaaGreat
