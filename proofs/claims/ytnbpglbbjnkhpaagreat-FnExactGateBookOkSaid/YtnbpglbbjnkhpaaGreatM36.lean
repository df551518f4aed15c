import Derived.RangeFuncNested
import Derived.RangeFuncBound
import Derived.RangeFuncCalls
import Derived.RangeFuncLeaves
import Derived.Shelf.Abstract
import Derived.Shelf.RegionOpen
import Derived.WalkKit
import Derived.OwnWalkIn
import Derived.TacticsInMore
import Derived.LoopNIn
import Derived.LoopIn
import Derived.Test.YtnbpglbbjnkhpaaGreatM34
namespace Go.Proofs.YtnbpglbbjnkhpaaGreat
open Go.RowKit Go.Shelf

attribute [local go_sem] Oper.semAt_some

/-- A link that is set. -/
structure Lk where
  pl : Int
  rl : Int
  to : ByteArray
  nm : ByteArray
  hto : to.size ≤ maxLen
  hnm : nm.size ≤ maxLen

def Lk.enc (x : Lk) : Array Value := #[.agg #[.int .i64 x.pl, .int .i64 x.rl, .string x.to, .string x.nm]]

/-- The link at a place, if one is set there. -/
noncomputable def lkAt (fs : List Fld) (vs : List ByteArray) (k : Nat) : List Lk :=
  match fs[k]?, vs[k]? with
  | some f, some v => if h : (f.kd = 4 ∧ v.toList.isEmpty = false) ∧ f.to.size ≤ maxLen ∧ v.size ≤ maxLen then [⟨k, f.rl, f.to, v, h.2.1, h.2.2⟩] else []
  | _, _ => []
noncomputable def lksTo (fs : List Fld) (vs : List ByteArray) (k : Nat) : List Lk := (List.range k).flatMap (lkAt fs vs)

theorem lksTo_succ (fs : List Fld) (vs : List ByteArray) (k : Nat) : lksTo fs vs (k + 1) = lksTo fs vs k ++ lkAt fs vs k := by
  simp [lksTo, List.range_succ]
theorem lkAt_few (fs : List Fld) (vs : List ByteArray) (k : Nat) : (lkAt fs vs k).length ≤ 1 := by
  unfold lkAt
  split
  · split <;> simp
  · simp
theorem lksTo_few (fs : List Fld) (vs : List ByteArray) : ∀ k, (lksTo fs vs k).length ≤ k
  | 0 => by simp [lksTo]
  | k + 1 => by
    rw [lksTo_succ, List.length_append]
    have := lksTo_few fs vs k
    have := lkAt_few fs vs k
    omega
theorem lkAt_no {fs : List Fld} {vs : List ByteArray} {k : Nat} (h : k < fs.length) (h' : k < vs.length) (hn : ¬ (fs[k].kd = 4 ∧ vs[k].toList.isEmpty = false)) : lkAt fs vs k = [] := by
  unfold lkAt
  rw [List.getElem?_eq_getElem h, List.getElem?_eq_getElem h']
  simp only
  rw [dif_neg (fun e => hn e.1)]
theorem lkAt_yes {fs : List Fld} {vs : List ByteArray} {k : Nat} (h : k < fs.length) (h' : k < vs.length) (hk : fs[k].kd = 4) (hv : vs[k].toList.isEmpty = false) (h1 : fs[k].to.size ≤ maxLen) (h2 : vs[k].size ≤ maxLen) : lkAt fs vs k = [⟨k, fs[k].rl, fs[k].to, vs[k], h1, h2⟩] := by
  unfold lkAt
  rw [List.getElem?_eq_getElem h, List.getElem?_eq_getElem h']
  simp only
  rw [dif_pos ⟨⟨hk, hv⟩, h1, h2⟩]
theorem lksTo_prefix (fs : List Fld) (vs : List ByteArray) {k n : Nat} (h : k ≤ n) : lksTo fs vs k <+: lksTo fs vs n := by
  induction n with
  | zero => have : k = 0 := by omega
            subst this; exact List.prefix_rfl
  | succ n ih =>
    rcases Nat.eq_or_lt_of_le h with e | h2
    · subst e; exact List.prefix_rfl
    · rw [lksTo_succ]
      exact (ih (by omega)).trans (List.prefix_append _ _)

set_option maxRecDepth 100000 in
set_option maxHeartbeats 4000000 in
theorem links1_in (n : Nat) (hn : 1 ≤ n) (l Bs Bo : Nat) (kd : ByteArray) (fs : List Fld) (fa : Option Addr) (fcap : Nat) (o : Ob) (va ha : Option Addr) (cap cap' : Nat) (w0 : World) (hbs : Bs < w0.heap.size) (hbo : Bo < w0.heap.size)
    (hBs : ∀ j, w0.cell? ⟨Bs, j, none⟩ = (#[.string kd, .slice fa fs.length fcap] : Array Value)[j]?) (hBo : ∀ j, w0.cell? ⟨Bo, j, none⟩ = (#[.string o.kd, .string o.nm, .string o.tm, .slice va o.vs.length cap, .bool o.en, .slice ha o.hs.length cap', .int .i64 o.vr] : Array Value)[j]?)
    (hf : FldsAt w0 fa fs) (hv : StrsAt w0 va o.vs) (hc : o.vs.length = fs.length) (J Jx : List Lk → World → Prop) (W : World) (hW : Below w0.heap.size w0 W) (hJ : AbidesFrom W.heap.size J)
    (hY : ∀ pre x W1, J pre W1 → pre.length < fs.length → YieldAt Fence.wide (n - 1) Tryz.prog l x.enc W1 fun e W' =>
      (e = .returned (.bool true) ∧ J (pre ++ [x]) W' ∧ Below w0.heap.size W1 W') ∨ (e = .returned (.bool false) ∧ Jx (pre ++ [x]) W')) (h0 : J [] W) :
    CallsIn Fence.wide n Tryz.prog 189 #[.func (.yield l) #[] #[], .pointer (some ⟨Bs, 0, none⟩), .pointer (some ⟨Bo, 0, none⟩)] W fun e W' => (∃ v, e = .returned v) ∧
      ((∃ ys, ys = lksTo fs o.vs fs.length ∧ J ys W') ∨ (∃ pre, pre <+: lksTo fs o.vs fs.length ∧ Jx pre W')) := by
  refine callsIn_of_wp Tryz.func189 rfl trivial ?_ rfl
  simp only [Tryz.ntmps189, List.size_toArray, List.length_cons, List.length_nil, Nat.reduceAdd, Nat.reduceSub, Array.replicate_succ, Array.replicate_zero, List.push_toArray, List.append_toArray, List.nil_append, List.cons_append]
  have hlen := hf.len
  unfold maxLen at hlen
  have hX0 := box_later hBs hbs hW
  have hXo := box_later hBo hbo hW
  gi_wp2
  clear hX0 hXo
  gi_loopw [9] (fun i wr => ∃ k : Nat, k ≤ fs.length ∧ i = .int .i64 k ∧ J (lksTo fs o.vs k) wr ∧ Below w0.heap.size w0 wr) (fun i _ => fs.length - (intOf i).toNat)
  case atStart => exact ⟨0, Nat.zero_le _, rfl, h0, hW⟩
  case round =>
    obtain ⟨k, hk, rfl, hJs, hB⟩ := hrel
    by_cases hlt : k < fs.length
    · have hltv : k < o.vs.length := by omega
      obtain ⟨fb, foff, rfl, hfb, hr⟩ := hf.rows (by rintro rfl; simp at hlt)
      obtain ⟨wa, wcap, hf0⟩ := hr k hlt
      have hf1 := hf0.mono hfb hB
      obtain ⟨d0, d1, d2, d3, d4, d5, d6, d7, d8, d9, d10⟩ := hf1.load
      obtain ⟨p, po, rfl, hp, hpc⟩ := hv.cells (by intro e; rw [e] at hltv; simp at hltv)
      have hltI : (k : Int) < (fs.length : Int) := by omega
      have hltV : (k : Int) < (o.vs.length : Int) := by omega
      have hfbw : fb < wr.heap.size := Nat.lt_of_lt_of_le hfb hB.size
      have hpw : p < wr.heap.size := Nat.lt_of_lt_of_le hp hB.size
      have hbow : Bo < wr.heap.size := Nat.lt_of_lt_of_le hbo hB.size
      have cv := (hB.cell (p := ⟨p, po + k, none⟩) hp).trans (hpc k hltv)
      have hXo := box_later hBo hbo hB
      have HS : Hid (fs[k].to.size ≤ maxLen ∧ o.vs[k].size ≤ maxLen) := ⟨hf0.small.to, hv.small _ (List.getElem_mem _)⟩
      have HBa : Hid (∀ ob, Below w0.heap.size w0 (wr.alloc ob)) := fun ob => hB.alloc hB.size _
      have HJa : Hid (∀ ob, J (lksTo fs o.vs k) (wr.alloc ob)) := fun ob => hJ _ _ _ none hJs (World.grownBy_alloc wr ob none) (fun r e => by cases e)
      clear hf1 hf0 hpc
      by_cases hk4 : fs[k].kd = 4
      rotate_left
      · have HN : Hid (lksTo fs o.vs (k + 1) = lksTo fs o.vs k) := by unfold Hid; rw [lksTo_succ, lkAt_no hlt hltv (fun h => hk4 h.1), List.append_nil]
        have e1 : (fs[k].kd != 4) = true := by simp [hk4]
        clear hk4
        gi_wp2
        exact ⟨⟨k + 1, by omega, by go_num, by rw [HN.out]; exact HJa.out _, HBa.out _⟩, step_less' hlt⟩
      · by_cases hve : o.vs[k].toList.isEmpty = true
        · have HN : Hid (lksTo fs o.vs (k + 1) = lksTo fs o.vs k) := by unfold Hid; rw [lksTo_succ, lkAt_no hlt hltv (fun h => by rw [hve] at h; cases h.2), List.append_nil]
          have e1 : (fs[k].kd != 4) = false := by simp [hk4]
          clear hk4
          gi_wp2
          exact ⟨⟨k + 1, by omega, by go_num, by rw [HN.out]; exact HJa.out _, HBa.out _⟩, step_less' hlt⟩
        · have hve' : o.vs[k].toList.isEmpty = false := by simpa using hve
          have HN : Hid (lksTo fs o.vs (k + 1) = lksTo fs o.vs k ++ [⟨k, fs[k].rl, fs[k].to, o.vs[k], HS.out.1, HS.out.2⟩]) := by unfold Hid; rw [lksTo_succ, lkAt_yes hlt hltv hk4 hve' HS.out.1 HS.out.2]
          have e1 : (fs[k].kd != 4) = false := by simp [hk4]
          clear hk4 hve
          have hmx : Tryz.prog.follows .mixedOrders = true := by kernel_rfl
          gi_wp2
          have hT0 := box_new wr #[.string fs[k].nm, .int .i64 fs[k].kd, .int .i64 fs[k].ls, .int .i64 fs[k].ms, .slice wa fs[k].ws.length wcap, .string fs[k].to, .int .i64 fs[k].rl, .bool fs[k].mu, .bool fs[k].fx, .string fs[k].df, .string fs[k].wg] 115
          have hT1 := box_later hXo hbow ((Below.refl wr.heap.size wr).alloc (Nat.le_refl _) (.cells #[.string fs[k].nm, .int .i64 fs[k].kd, .int .i64 fs[k].ls, .int .i64 fs[k].ms, .slice wa fs[k].ws.length wcap, .string fs[k].to, .int .i64 fs[k].rl, .bool fs[k].mu, .bool fs[k].fx, .string fs[k].df, .string fs[k].wg] 115))
          have hT2 := (((Below.refl wr.heap.size wr).alloc (Nat.le_refl _) (.cells #[.string fs[k].nm, .int .i64 fs[k].kd, .int .i64 fs[k].ls, .int .i64 fs[k].ms, .slice wa fs[k].ws.length wcap, .string fs[k].to, .int .i64 fs[k].rl, .bool fs[k].mu, .bool fs[k].fx, .string fs[k].df, .string fs[k].wg] 115)).cell (p := ⟨p, po + k, none⟩) hpw).trans cv
          have hW1J := HJa.out (.cells #[.string fs[k].nm, .int .i64 fs[k].kd, .int .i64 fs[k].ls, .int .i64 fs[k].ms, .slice wa fs[k].ws.length wcap, .string fs[k].to, .int .i64 fs[k].rl, .bool fs[k].mu, .bool fs[k].fx, .string fs[k].df, .string fs[k].wg] 115)
          have hW1B := HBa.out (.cells #[.string fs[k].nm, .int .i64 fs[k].kd, .int .i64 fs[k].ls, .int .i64 fs[k].ms, .slice wa fs[k].ws.length wcap, .string fs[k].to, .int .i64 fs[k].rl, .bool fs[k].mu, .bool fs[k].fx, .string fs[k].df, .string fs[k].wg] 115)
          have hzg : wr.heap.size < (wr.alloc (.cells #[.string fs[k].nm, .int .i64 fs[k].kd, .int .i64 fs[k].ls, .int .i64 fs[k].ms, .slice wa fs[k].ws.length wcap, .string fs[k].to, .int .i64 fs[k].rl, .bool fs[k].mu, .bool fs[k].fx, .string fs[k].df, .string fs[k].wg] 115)).heap.size := by simp
          obtain ⟨W1, hW1⟩ : ∃ W1, W1 = wr.alloc (.cells #[.string fs[k].nm, .int .i64 fs[k].kd, .int .i64 fs[k].ls, .int .i64 fs[k].ms, .slice wa fs[k].ws.length wcap, .string fs[k].to, .int .i64 fs[k].rl, .bool fs[k].mu, .bool fs[k].fx, .string fs[k].df, .string fs[k].wg] 115) := ⟨_, rfl⟩
          rw [← hW1] at hT0 hT1 hT2 hW1J hW1B hzg ⊢
          clear hW1 d0 d1 d2 d3 d4 d5 d6 d7 d8 d9 d10 hXo cv
          have hJd : J (lksTo fs o.vs k) W1.drew := hJ _ _ _ none hW1J ⟨rfl, rfl, rfl, Nat.le_refl _, fun _ _ _ => rfl⟩ (fun r e => by cases e)
          obtain ⟨x, hx⟩ : ∃ x : Lk, x = ⟨k, fs[k].rl, fs[k].to, o.vs[k], HS.out.1, HS.out.2⟩ := ⟨_, rfl⟩
          rw [← hx] at HN
          obtain ⟨fn, tmps, assign, body, hy, hR⟩ := hY _ x W1.drew hJd (Nat.lt_of_le_of_lt (lksTo_few fs o.vs k) hlt)
          rw [hx] at hy
          unfold Lk.enc at hy
          dsimp only at hy
          have HR := hR.mono (R' := fun e W' => ∃ t : Bool, e = .returned (.bool t) ∧ Hid (if t = true then J (lksTo fs o.vs k ++ [x]) W' ∧ Below w0.heap.size W1.drew W' else Jx (lksTo fs o.vs k ++ [x]) W')) (by
            rintro e W' (⟨h1, h2, h3⟩ | ⟨h1, h2⟩)
            · exact ⟨true, h1, h2, h3⟩
            · exact ⟨false, h1, h2⟩)
          clear hR hx
          gi_region_with_o (refine HR.mono ?_; rintro e W3 ⟨t, rfl, H3⟩)
          all_goals cases t
          all_goals gi_wp2
          all_goals first
            | (refine bodyPost_ret (results_none rfl _ _ _) rfl ?_
               have h9 := H3.out
               rw [if_neg (by simp)] at h9
               refine ⟨⟨_, rfl⟩, .inr ⟨_, ?_, h9⟩⟩
               rw [← HN.out]
               exact lksTo_prefix fs o.vs (by omega))
            | (have h9 := H3.out
               rw [if_pos rfl] at h9
               exact ⟨⟨k + 1, by omega, by go_num, by rw [HN.out]; exact h9.1, (hW1B.drew).trans h9.2⟩, step_less' hlt⟩)
    · obtain rfl : k = fs.length := by omega
      gi_wp2
      go_end0
      exact ⟨⟨_, rfl⟩, .inl ⟨_, rfl, hJs⟩⟩

/-- What linksOf's closure is to a range over it. -/
theorem links_stops (n : Nat) (hn : 1 ≤ n) (Bs Bo : Nat) (kd : ByteArray) (fs : List Fld) (fa : Option Addr) (fcap : Nat) (o : Ob) (va ha : Option Addr) (cap cap' : Nat) (w0 : World) (hbs : Bs < w0.heap.size) (hbo : Bo < w0.heap.size)
    (hBs : ∀ j, w0.cell? ⟨Bs, j, none⟩ = (#[.string kd, .slice fa fs.length fcap] : Array Value)[j]?) (hBo : ∀ j, w0.cell? ⟨Bo, j, none⟩ = (#[.string o.kd, .string o.nm, .string o.tm, .slice va o.vs.length cap, .bool o.en, .slice ha o.hs.length cap', .int .i64 o.vr] : Array Value)[j]?)
    (hf : FldsAt w0 fa fs) (hv : StrsAt w0 va o.vs) (hc : o.vs.length = fs.length) :
    SeqStopsK Fence.wide n Tryz.prog 189 #[.pointer (some ⟨Bs, 0, none⟩), .pointer (some ⟨Bo, 0, none⟩)] Lk.enc (Below w0.heap.size) (fun ys => ys = lksTo fs o.vs fs.length) (fun pre => pre <+: lksTo fs o.vs fs.length) fs.length w0 :=
  fun l J Jx W hW hJ _ hY h0 => links1_in n hn l Bs Bo kd fs fa fcap o va ha cap cap' w0 hbs hbo hBs hBo hf hv hc J Jx W hW hJ hY h0

end Go.Proofs.YtnbpglbbjnkhpaaGreat

namespace Go.Proofs.YtnbpglbbjnkhpaaGreat
open Go.RowKit

set_option maxRecDepth 20000 in
set_option maxHeartbeats 2000000 in
theorem linksOf_any (l : Lw) (a b c : Option Addr) (ca cb cc : Nat) (o : Ob) (va ha : Option Addr) (cap cap' : Nat) (w : World) (hL : LwAt w l a b c) :
    Calls Tryz.prog 168 #[.agg #[.slice a l.ss.length ca, .slice b l.ms.length cb, .slice c l.ts.length cc], .agg #[.string o.kd, .string o.nm, .string o.tm, .slice va o.vs.length cap, .bool o.en, .slice ha o.hs.length cap', .int .i64 o.vr]] w
      fun e w' => ∃ Bs Bo fa fcap, e = .returned (.func (.func 189) #[] #[.pointer (some ⟨Bs, 0, none⟩), .pointer (some ⟨Bo, 0, none⟩)]) ∧ Bs < w'.heap.size ∧ Bo < w'.heap.size ∧ FldsAt w' fa (Gate.shapeOf l.ss o.kd).fs ∧
        (∀ j, w'.cell? ⟨Bs, j, none⟩ = (#[.string (Gate.shapeOf l.ss o.kd).kd, .slice fa (Gate.shapeOf l.ss o.kd).fs.length fcap] : Array Value)[j]?) ∧ (∀ j, w'.cell? ⟨Bo, j, none⟩ = (#[.string o.kd, .string o.nm, .string o.tm, .slice va o.vs.length cap, .bool o.en, .slice ha o.hs.length cap', .int .i64 o.vr] : Array Value)[j]?) ∧ Below w.heap.size w w' := by
  have HH : Hid (LwAt w l a b c) := hL
  clear hL
  go_enter Tryz.func168, Tryz.ntmps168
  go_wp2_with fail
  have hb2 := below2' w (.cells #[.slice a l.ss.length ca, .slice b l.ms.length cb, .slice c l.ts.length cc] 40) (.cells #[.string o.kd, .string o.nm, .string o.tm, .slice va o.vs.length cap, .bool o.en, .slice ha o.hs.length cap', .int .i64 o.vr] 104)
  refine (shapeOf_any _ _ l.ss o.kd _ (HH.out.ss.mono hb2)).mono ?_
  rintro e w1 ⟨fa, fcap, rfl, hfl0, hb1⟩
  have HFL : Hid (FldsAt w1 fa (Gate.shapeOf l.ss o.kd).fs) := hfl0.mono hb1
  have hX1 : ∀ j, w1.cell? ⟨w.heap.size + 1, j, none⟩ = (#[.string o.kd, .string o.nm, .string o.tm, .slice va o.vs.length cap, .bool o.en, .slice ha o.hs.length cap', .int .i64 o.vr] : Array Value)[j]? := fun j => cell_of_block ((hb1.block (w.heap.size + 1) (by simp)).trans (two_blocks _ _ _).2)
  have hz1 : w.heap.size + 1 < w1.heap.size := by have := hb1.size; simp at this; omega
  have HB1 : Hid (Below w.heap.size w w1) := hb2.trans (hb1.mono (by simp; omega))
  have HX1 : Hid (∀ j, w1.cell? ⟨w.heap.size + 1, j, none⟩ = (#[.string o.kd, .string o.nm, .string o.tm, .slice va o.vs.length cap, .bool o.en, .slice ha o.hs.length cap', .int .i64 o.vr] : Array Value)[j]?) := hX1
  clear hb1 hb2 hfl0
  go_wp2_with fail
  go_ret
  have hba := (Below.refl w1.heap.size w1).alloc (Nat.le_refl _) (.cells #[.string (Gate.shapeOf l.ss o.kd).kd, .slice fa (Gate.shapeOf l.ss o.kd).fs.length fcap] 127)
  exact ⟨w1.heap.size, w.heap.size + 1, fa, fcap, rfl, by simp, Nat.lt_of_lt_of_le hz1 hba.size, HFL.out.mono hba, box_new w1 _ _, box_later HX1.out hz1 hba, HB1.out.trans (hba.mono HB1.out.size)⟩

end Go.Proofs.YtnbpglbbjnkhpaaGreat

namespace Go.Proofs.YtnbpglbbjnkhpaaGreat
open Go.RowKit Go.Shelf

attribute [local go_sem] Oper.semAt_some

/-- Whether all links lead to what a map has. -/
def linksIn (f : ByteArray → ByteArray → Option Int) (xs : List Lk) : Bool := xs.all fun x => (f x.to x.nm).isSome

set_option maxRecDepth 100000 in
set_option maxHeartbeats 4000000 in
theorem isLinked_any (l : Lw) (a b c : Option Addr) (ca cb cc : Nat) (r : Nat) (f : ByteArray → ByteArray → Option Int) (o : Ob) (va ha : Option Addr) (cap cap' : Nat) (w : World) (hL : LwAt w l a b c) (hM : PairMap w r f) (ho : ObAt w o va ha) (hc : o.vs.length = (Gate.shapeOf l.ss o.kd).fs.length) :
    Calls Tryz.prog 118 #[.agg #[.slice a l.ss.length ca, .slice b l.ms.length cb, .slice c l.ts.length cc], .map (some r), .agg #[.string o.kd, .string o.nm, .string o.tm, .slice va o.vs.length cap, .bool o.en, .slice ha o.hs.length cap', .int .i64 o.vr]] w
      fun e w' => e = .returned (.bool (linksIn f (lksTo (Gate.shapeOf l.ss o.kd).fs o.vs (Gate.shapeOf l.ss o.kd).fs.length))) ∧ Below w.heap.size w w' := by
  have HH : Hid (LwAt w l a b c ∧ PairMap w r f ∧ ObAt w o va ha ∧ o.vs.length = (Gate.shapeOf l.ss o.kd).fs.length) := ⟨hL, hM, ho, hc⟩
  clear hL hM ho hc
  refine (callsIn_wide (n := 6)).1 ?_
  refine callsIn_of_wp_marks Tryz.func118 rfl trivial ?_ rfl
  simp only [Tryz.ntmps118, List.size_toArray, List.length_cons, List.length_nil, Nat.reduceAdd, Nat.reduceSub, Array.replicate_succ, Array.replicate_zero, List.push_toArray, List.append_toArray, List.nil_append, List.cons_append]
  gi_wp2_with fail
  refine ⟨trivial, ?_⟩
  have hb4 : Below w.heap.size w ((((w.alloc (.cells #[.slice a l.ss.length ca, .slice b l.ms.length cb, .slice c l.ts.length cc] 40)).alloc (.cells #[.map (some r)] 175)).alloc (.cells #[.string o.kd, .string o.nm, .string o.tm, .slice va o.vs.length cap, .bool o.en, .slice ha o.hs.length cap', .int .i64 o.vr] 104)).alloc (.cells #[.bool false] 4)) := (below_three _ _ _ _).alloc (by simp; omega) _
  have hbR := Boxed.new (((w.alloc (.cells #[.slice a l.ss.length ca, .slice b l.ms.length cb, .slice c l.ts.length cc] 40)).alloc (.cells #[.map (some r)] 175)).alloc (.cells #[.string o.kd, .string o.nm, .string o.tm, .slice va o.vs.length cap, .bool o.en, .slice ha o.hs.length cap', .int .i64 o.vr] 104)) 4 (.bool false)
  have hbP := ((Boxed.new (w.alloc (.cells #[.slice a l.ss.length ca, .slice b l.ms.length cb, .slice c l.ts.length cc] 40)) 175 (.map (some r))).alloc (.cells #[.string o.kd, .string o.nm, .string o.tm, .slice va o.vs.length cap, .bool o.en, .slice ha o.hs.length cap', .int .i64 o.vr] 104)).alloc (.cells #[.bool false] 4)
  simp only [World.size_alloc] at hbR hbP
  obtain ⟨w4, hw4⟩ : ∃ w4, w4 = ((((w.alloc (.cells #[.slice a l.ss.length ca, .slice b l.ms.length cb, .slice c l.ts.length cc] 40)).alloc (.cells #[.map (some r)] 175)).alloc (.cells #[.string o.kd, .string o.nm, .string o.tm, .slice va o.vs.length cap, .bool o.en, .slice ha o.hs.length cap', .int .i64 o.vr] 104)).alloc (.cells #[.bool false] 4)) := ⟨_, rfl⟩
  rw [← hw4] at hb4 hbR hbP ⊢
  clear hw4
  refine (callsIn_wide.2 (linksOf_any l a b c ca cb cc o va ha cap cap' w4 (HH.out.1.mono hb4))).mono ?_
  rintro e W0 ⟨Bs, Bo, fa, fcap, rfl, hBs, hBo, hfl, hXs, hXo, hb1⟩
  have bR : Boxed W0 (w.heap.size + 1 + 1 + 1) 4 (.bool false) := (hb1.block _ hbR.lt).trans hbR
  have bP : Boxed W0 (w.heap.size + 1) 175 (.map (some r)) := (hb1.block _ hbP.lt).trans hbP
  have HB0 : Hid (Below w.heap.size w W0) := hb4.trans (hb1.mono hb4.size)
  have hN : w.heap.size ≤ W0.heap.size := HB0.out.size
  have HO0 : Hid (StrsAt W0 va o.vs) := HH.out.2.2.1.vals.mono HB0.out
  clear hb1 hb4 hbR hbP
  gi_wp2_with fail
  refine wpIn_rangeFunc_ownH rfl (by omega) (gf := 189) (lb := #[.pointer (some ⟨Bs, 0, none⟩), .pointer (some ⟨Bo, 0, none⟩)]) rfl trivial (enters_of Tryz.func189 (by kernel_rfl) rfl)
    (links_stops 5 (by omega) Bs Bo (Gate.shapeOf l.ss o.kd).kd (Gate.shapeOf l.ss o.kd).fs fa fcap o va ha cap cap' W0 hBs hBo hXs hXo hfl HO0.out HH.out.2.2.2) belowK_t (belowK_b (Nat.le_refl _)) (Below.refl _ _) (fun _ => rfl)
    (fun pre W => (∀ x ∈ pre, (f x.to x.nm).isSome = true) ∧ Below W0.heap.size W0 W)
    (fun cd pre W => ((cd = .ret ∧ ∃ x ∈ pre, (f x.to x.nm).isSome = false) ∧ Boxed W (w.heap.size + 1 + 1 + 1) 4 (.bool false)) ∧ Below w.heap.size w W)
    (OwnFrom.and (ownFrom_pure _ _) (ownFrom_below (Nat.le_refl _) (Nat.le_refl _)))
    (fun cd => OwnFrom.and (OwnFrom.and (ownFrom_pure _ _) (Own.from (boxed_own _ _ _) _)) (ownFrom_below (Nat.le_refl _) hN))
    ⟨by simp, Below.refl _ _⟩
    (fun x a' W => ∃ Bx, W.heap[Bx]? = some (.cells #[.int .i64 x.pl, .int .i64 x.rl, .string x.to, .string x.nm] 231) ∧ a' = { tmps := #[.agg #[.slice a l.ss.length ca, .slice b l.ms.length cb, .slice c l.ts.length cc], .map (some r), .agg #[.string o.kd, .string o.nm, .string o.tm, .slice va o.vs.length cap, .bool o.en, .slice ha o.hs.length cap', .int .i64 o.vr], .pointer (some ⟨w.heap.size, 0, none⟩), .pointer (some ⟨w.heap.size + 1, 0, none⟩), .pointer (some ⟨w.heap.size + 1 + 1, 0, none⟩), .pointer (some ⟨w.heap.size + 1 + 1 + 1, 0, none⟩), .pointer (some ⟨Bx, 0, none⟩), undef, undef, .agg #[.slice a l.ss.length ca, .slice b l.ms.length cb, .slice c l.ts.length cc], .agg #[.string o.kd, .string o.nm, .string o.tm, .slice va o.vs.length cap, .bool o.en, .slice ha o.hs.length cap', .int .i64 o.vr], .func (.func 189) #[] #[.pointer (some ⟨Bs, 0, none⟩), .pointer (some ⟨Bo, 0, none⟩)], .agg #[.int .i64 x.pl, .int .i64 x.rl, .string x.to, .string x.nm], undef, undef, undef, undef, undef, undef, undef, undef, undef], defers := [] })
    (fun x a' _ X Y row hs hg hr => by
      obtain ⟨Bx, e1, e2⟩ := hs
      refine ⟨Bx, (hg.block Bx (Array.getElem?_eq_some_iff.1 e1).1 (fun e => ?_)).trans e1, e2⟩
      obtain ⟨_, ob, h1, h2⟩ := hr Bx e.symm
      rw [e1] at h1
      cases h1
      cases h2)
    ?assign ?body ?done ?stop
  case assign =>
    rintro l' pre x W K ⟨hp, hB1⟩ hK
    unfold Lk.enc
    gi_wp2
    exact hK _ _ ((KeepsOthers.alloc _ _).from _) ((Below.refl _ W).alloc hB1.size _) ⟨hp, hB1.alloc hB1.size _⟩ ⟨W.heap.size, World.alloc_heap_new W _, rfl⟩
  case body =>
    rintro l' pre x a' W hl ⟨rr, hr⟩ ⟨hp, hB1⟩ ⟨Bx, hBx, rfl⟩ hlt
    have cX := blk_cells hBx
    have bP1 : Boxed W (w.heap.size + 1) 175 (.map (some r)) := (hB1.block _ bP.lt).trans bP
    have cP := bP1.cell
    have bR1 : Boxed W (w.heap.size + 1 + 1 + 1) 4 (.bool false) := (hB1.block _ bR.lt).trans bR
    have cR := bR1.cell
    have fR := bR1.frozen
    have hlk := (HH.out.2.1.mono (HB0.out.trans (hB1.mono HB0.out.size))).look objectKKey Tryz.underlying175 x.to x.nm x.hto x.hnm true
    unfold pairV at hlk
    simp only [if_true] at hlk
    have HB2 : Hid (Below W0.heap.size W0 W) := hB1
    have HP : Hid (∀ x ∈ pre, (f x.to x.nm).isSome = true) := hp
    have HR1 : Hid (Boxed W (w.heap.size + 1 + 1 + 1) 4 (.bool false)) := bR1
    clear hp hB1 bR1
    cases hq : (f x.to x.nm).isSome with
    | false =>
      rw [hq] at hlk
      gi_wp2
      exact ⟨(KeepsOthers.setCell _ _ _).from _, ⟨⟨rfl, x, List.mem_append.2 (.inr (by simp)), hq⟩, HR1.out.set _⟩, (HB0.out.trans (HB2.out.mono hN)).setCell (p := ⟨(w.heap.size + 1 + 1 + 1), 0, none⟩) (by show w.heap.size ≤ (w.heap.size + 1 + 1 + 1); omega) _⟩
    | true =>
      rw [hq] at hlk
      gi_wp2
      exact ⟨KeepsFrom.refl _ _, Below.refl _ _, fun z hz => (List.mem_append.1 hz).elim (HP.out z) (fun e => by simp at e; subst e; exact hq), HB2.out⟩
  case done =>
    rintro D ys W hD rfl ⟨hp, hB1⟩ hK
    have bR1 : Boxed W (w.heap.size + 1 + 1 + 1) 4 (.bool false) := (hB1.block _ bR.lt).trans bR
    have cR := bR1.cell
    have fR := bR1.frozen
    gi_wp2
    have hK' := (KeepsOthers.setCell W ⟨(w.heap.size + 1 + 1 + 1), 0, none⟩ (.bool true)).same D _ hK rfl
    refine ⟨by simp, .inl ⟨_, _, rfl, run_takeDeferred hK', ?_⟩⟩
    have hc5 := cell_kept (World.cell?_setCell_same' W ⟨(w.heap.size + 1 + 1 + 1), 0, none⟩ (.bool true) (by rw [cR]; rfl)) (grownBy_putObj' _ D (.deferred none)) (fun r e => by cases e; exact ⟨_, hK', rfl⟩)
    have hall : linksIn f (lksTo (Gate.shapeOf l.ss o.kd).fs o.vs (Gate.shapeOf l.ss o.kd).fs.length) = true := List.all_eq_true.2 hp
    refine ⟨.bool true, ?_, by rw [hall], ((HB0.out.trans (hB1.mono hN)).setCell (p := ⟨(w.heap.size + 1 + 1 + 1), 0, none⟩) (by show w.heap.size ≤ (w.heap.size + 1 + 1 + 1); omega) _).trans (belowK_b (w := w) (Nat.le_refl _) _ D _ _ (by omega) hK' rfl rfl)⟩
    simp [results, Tryz.results118, go_sem, hc5]
  case stop =>
    rintro D cd pre W hD hpre ⟨⟨⟨rfl, x, hx, hq⟩, bR1⟩, hB⟩ hK
    gi_wp2
    refine ⟨by simp, .inl ⟨_, _, rfl, run_takeDeferred hK, ?_⟩⟩
    have hc5 := cell_kept bR1.cell (grownBy_putObj' _ D (.deferred none)) (fun r e => by cases e; exact ⟨_, hK, rfl⟩)
    have hno : linksIn f (lksTo (Gate.shapeOf l.ss o.kd).fs o.vs (Gate.shapeOf l.ss o.kd).fs.length) = false := by
      unfold linksIn
      rw [List.all_eq_false]
      exact ⟨x, hpre.subset hx, by rw [hq]; simp⟩
    refine ⟨.bool false, ?_, by rw [hno], hB.trans (belowK_b (w := w) (Nat.le_refl _) W D _ _ (by omega) hK rfl rfl)⟩
    simp [results, Tryz.results118, go_sem, hc5]

end Go.Proofs.YtnbpglbbjnkhpaaGreat

namespace Go.Proofs.YtnbpglbbjnkhpaaGreat
open Go.RowKit

namespace Gate
/-- Whether all that an object names is among the objects. -/
noncomputable def linkedOk (l : Lw) (os : List Ob) (o : Ob) : Bool := (lksTo (shapeOf l.ss o.kd).fs o.vs (shapeOf l.ss o.kd).fs.length).all fun x => os.any (isOb x.to x.nm)
noncomputable def objectAt (l : Lw) (b : Bk) (o : Ob) : Bool := within o.vr 1 b.now && (hasTeam l.ts o.tm && (isShaped l o && linkedOk l b.os o))
noncomputable def objectsOk (l : Lw) (b : Bk) : Bool := decide (b.os.length ≤ 40) && (ascB obKey b.os && b.os.all (objectAt l b))
end Gate

theorem linksIn_linked {l : Lw} {os : List Ob} {o : Ob} {f : ByteArray → ByteArray → Option Int} (h : ∀ p q, (f p q).isSome = os.any (Gate.isOb p q)) : linksIn f (lksTo (Gate.shapeOf l.ss o.kd).fs o.vs (Gate.shapeOf l.ss o.kd).fs.length) = Gate.linkedOk l os o := by
  unfold linksIn Gate.linkedOk
  congr 1
  funext x
  exact h _ _

set_option maxRecDepth 20000 in
set_option maxHeartbeats 4000000 in
theorem areObjects_any (l : Lw) (la lb lc : Option Addr) (lca lcb lcc : Nat) (b : Bk) (a0 a1 a2 a3 : Option Addr) (c0 c1 c2 c3 : Nat) (w : World) (hb : BkAt w b a0 a1 a2 a3) (hl : LwAt w l la lb lc) (hml : l.ms.length ≤ 1048576) (hok : Gate.mendsOk l.ss l.ms = true) (hfw : ∀ i (h : i < b.os.length), b.os[i].vs.length ≤ 1048576 ∧ b.os[i].hs.length ≤ 1048576) :
    Calls Tryz.prog 72 #[.agg #[.slice la l.ss.length lca, .slice lb l.ms.length lcb, .slice lc l.ts.length lcc], .agg #[.int .i64 b.now, .int .i64 b.tick, .int .i64 b.given, .slice a0 b.os.length c0, .slice a1 b.gs.length c1, .slice a2 b.ls.length c2, .slice a3 b.ps.length c3]] w fun e w' => e = .returned (.bool (Gate.objectsOk l b)) ∧ Below w.heap.size w w' := by
  have HK : Hid (BkAt w b a0 a1 a2 a3) := hb
  have HL : Hid (LwAt w l la lb lc) := hl
  have HW : Hid (Gate.mendsOk l.ss l.ms = true ∧ ∀ i (h : i < b.os.length), b.os[i].vs.length ≤ 1048576 ∧ b.os[i].hs.length ≤ 1048576) := ⟨hok, hfw⟩
  clear hb hl hok hfw
  by_cases hln : b.os.length ≤ 40
  rotate_left
  · have HF : Hid (Gate.objectsOk l b = false) := by unfold Hid Gate.objectsOk; rw [decide_eq_false hln]; rfl
    have hg : (40 : Int) < (b.os.length : Int) := by omega
    go_enter Tryz.func72, Tryz.ntmps72
    go_wp2_with fail
    go_ret
    exact ⟨ret_bool HF.out.symm, below2' _ _ _⟩
  have hg : decide ((40 : Int) < (b.os.length : Int)) = false := by simp; omega
  have HLN : Hid (b.os.length ≤ 40) := hln
  clear hln
  go_enter Tryz.func72, Tryz.ntmps72
  go_wp2_with fail
  obtain ⟨hL0, hX0⟩ := two_boxes w #[.slice la l.ss.length lca, .slice lb l.ms.length lcb, .slice lc l.ts.length lcc] #[.int .i64 b.now, .int .i64 b.tick, .int .i64 b.given, .slice a0 b.os.length c0, .slice a1 b.gs.length c1, .slice a2 b.ls.length c2, .slice a3 b.ps.length c3] 40 47
  have HB0 : Hid (Below w.heap.size w ((w.alloc (.cells #[.slice la l.ss.length lca, .slice lb l.ms.length lcb, .slice lc l.ts.length lcc] 40)).alloc (.cells #[.int .i64 b.now, .int .i64 b.tick, .int .i64 b.given, .slice a0 b.os.length c0, .slice a1 b.gs.length c1, .slice a2 b.ls.length c2, .slice a3 b.ps.length c3] 47))) := below2' w _ _
  obtain ⟨W0, hW0⟩ : ∃ W0, W0 = (w.alloc (.cells #[.slice la l.ss.length lca, .slice lb l.ms.length lcb, .slice lc l.ts.length lcc] 40)).alloc (.cells #[.int .i64 b.now, .int .i64 b.tick, .int .i64 b.given, .slice a0 b.os.length c0, .slice a1 b.gs.length c1, .slice a2 b.ls.length c2, .slice a3 b.ps.length c3] 47) := ⟨_, rfl⟩
  have hz0 : w.heap.size + 1 < W0.heap.size := by rw [hW0]; simp
  rw [← hW0] at HB0 hX0 hL0 ⊢
  clear hW0
  refine (ascendingOb_any _ _ b.os _ (HK.out.os.mono HB0.out)).mono ?_
  rintro e w1 ⟨rfl, hb1⟩
  have HB1 : Hid (Below w.heap.size w w1) := HB0.out.trans (hb1.mono HB0.out.size)
  have hX1 := box_later hX0 hz0 hb1
  have hL1 := box_later hL0 (Nat.lt_of_succ_lt hz0) hb1
  have hz1 := Nat.lt_of_lt_of_le hz0 hb1.size
  clear hb1 hX0 hL0 hz0 HB0
  by_cases has : Gate.ascB Gate.obKey b.os = true
  rotate_left
  · have has' : Gate.ascB Gate.obKey b.os = false := by simpa using has
    have HF : Hid (Gate.objectsOk l b = false) := by unfold Hid Gate.objectsOk; rw [has']; simp
    rw [has']
    clear has has'
    go_wp2_with fail
    go_ret
    exact ⟨ret_bool HF.out.symm, HB1.out⟩
  have HG : Hid (Gate.objectsOk l b = b.os.all (Gate.objectAt l b)) := by unfold Hid Gate.objectsOk; rw [has, decide_eq_true HLN.out]; rfl
  rw [has]
  clear has
  go_wp2_with fail
  refine (objectPlaces_any _ _ b.os _ (HK.out.os.mono HB1.out) (by have := HLN.out; omega)).mono ?_
  rintro e w1' ⟨⟨f, rfl, hpm, hpf⟩, hb1⟩
  have HB1' : Hid (Below w.heap.size w w1') := HB1.out.trans (hb1.mono HB1.out.size)
  have hX1' := box_later hX1 hz1 hb1
  have hL1' := box_later hL1 (Nat.lt_of_succ_lt hz1) hb1
  have hz1' := Nat.lt_of_lt_of_le hz1 hb1.size
  have HPM : Hid (PairMap w1' w1.heap.size f ∧ ∀ p q, (f p q).isSome = b.os.any (Gate.isOb p q)) := ⟨hpm, hpf⟩
  clear hb1 hX1 hL1 hz1 HB1 hpm hpf
  go_wp2_with fail
  go_loopw [24] (fun iv wr => ∃ k : Nat, k ≤ b.os.length ∧ iv = .int .i64 k ∧ Hid ((b.os.take k).all (Gate.objectAt l b) = true ∧ Below w1'.heap.size w1' wr)) (fun iv _ => b.os.length - (intOf iv).toNat)
  case atStart => exact ⟨0, Nat.zero_le _, rfl, by simp, Below.refl _ _⟩
  case round =>
    obtain ⟨k, hk, rfl, HQ⟩ := hrel
    have hkn : k ≤ 40 := by have := HLN.out; omega
    by_cases hlt : k < b.os.length
    · have HBw : Hid (∀ W, Below w1'.heap.size w1' W → Below w.heap.size w W) := fun W hW => HB1'.out.trans (hW.mono HB1'.out.size)
      obtain ⟨ob, off, v0, v1, q0, q1, rfl, hob, hsm, hl0, hl1, d0, d1, d2, d3, d4, d5, d6⟩ := HK.out.os.load (HBw.out _ HQ.out.2) k hlt
      have hltI : (k : Int) < (b.os.length : Int) := by omega
      have hob' : ob < wr.heap.size := Nat.lt_of_lt_of_le hob (HBw.out _ HQ.out.2).size
      have hX := box_later hX1' hz1' HQ.out.2
      have hL := box_later hL1' (Nat.lt_of_succ_lt hz1') HQ.out.2
      have hz : w.heap.size + 1 < wr.heap.size := Nat.lt_of_lt_of_le hz1' HQ.out.2.size
      have HOB : Hid (ObAt wr b.os[k] v0 v1) := ⟨hsm, hl0, hl1⟩
      have HSn : Hid ((b.os.take (k + 1)).all (Gate.objectAt l b) = ((b.os.take k).all (Gate.objectAt l b) && (Gate.objectAt l b) b.os[k])) := Gate.all_take_snoc _ _ _ hlt
      have HBo : Hid (∀ ob, Below w1'.heap.size w1' (wr.alloc ob)) := fun ob => HQ.out.2.alloc HQ.out.2.size _
      have HNo : Hid ((Gate.objectAt l b) b.os[k] = false → Gate.objectsOk l b = false) := fun h => by rw [HG.out]; exact Gate.all_at_no _ _ _ hlt h
      have HYes : Hid ((Gate.objectAt l b) b.os[k] = true → (b.os.take (k + 1)).all (Gate.objectAt l b) = true) := fun h => by rw [HSn.out, HQ.out.1, h]; rfl
      have HF2 : Hid (b.os[k].vs.length ≤ 1048576 ∧ b.os[k].hs.length ≤ 1048576) := HW.out.2 k hlt
      clear HQ hsm hl0 hl1
      go_wp2_with fail
      have hbN : Below wr.heap.size wr (wr.alloc (.cells #[.string b.os[k].kd, .string b.os[k].nm, .string b.os[k].tm, .slice v0 b.os[k].vs.length q0, .bool b.os[k].en, .slice v1 b.os[k].hs.length q1, .int .i64 b.os[k].vr] 104)) := (Below.refl _ _).alloc (Nat.le_refl _) _
      have hN := box_new wr #[.string b.os[k].kd, .string b.os[k].nm, .string b.os[k].tm, .slice v0 b.os[k].vs.length q0, .bool b.os[k].en, .slice v1 b.os[k].hs.length q1, .int .i64 b.os[k].vr] 104
      obtain ⟨w2, hw2⟩ : ∃ w2, w2 = wr.alloc (.cells #[.string b.os[k].kd, .string b.os[k].nm, .string b.os[k].tm, .slice v0 b.os[k].vs.length q0, .bool b.os[k].en, .slice v1 b.os[k].hs.length q1, .int .i64 b.os[k].vr] 104) := ⟨_, rfl⟩
      have hn2 : wr.heap.size < w2.heap.size := by rw [hw2]; simp
      rw [← hw2] at hbN hN ⊢
      have HB2 : Hid (Below w1'.heap.size w1' w2) := by unfold Hid; rw [hw2]; exact HBo.out _
      have HO2 : Hid (ObAt w2 b.os[k] v0 v1) := HOB.out.mono hbN
      have hX2 := box_later hX hz hbN
      have hL2 := box_later hL (Nat.lt_of_succ_lt hz) hbN
      have hz2 := Nat.lt_of_lt_of_le hz hbN.size
      have hy2 := Nat.lt_of_succ_lt hz2
      clear hw2 d0 d1 d2 d3 d4 d5 d6 hX hL hbN
      refine (isWithin_any _ _ _ _).mono ?_
      rintro e w3 ⟨rfl, rfl⟩
      by_cases t1 : Gate.within b.os[k].vr 1 b.now = true
      rotate_left
      · have HF : Hid (Gate.objectsOk l b = false) := HNo.out (by unfold Gate.objectAt; rw [Bool.eq_false_iff.2 t1]; rfl)
        rw [Bool.eq_false_iff.2 t1]
        clear t1
        go_wp2_with fail
        go_ret
        exact ⟨ret_bool HF.out.symm, HBw.out _ HB2.out⟩
      rw [t1]
      have HT1 : Hid (Gate.within b.os[k].vr 1 b.now = true) := t1
      clear t1
      go_wp2_with fail
      refine (isTeam_any _ _ l.ts b.os[k].tm _ (HL.out.ts.mono (HBw.out _ HB2.out))).mono ?_
      rintro e w4 ⟨rfl, hb4⟩
      have HB4 : Hid (Below w1'.heap.size w1' w4) := HB2.out.trans (hb4.mono HB2.out.size)
      have hN4 := box_later hN hn2 hb4
      have hX4 := box_later hX2 hz2 hb4
      have hL4 := box_later hL2 hy2 hb4
      have hn4 := Nat.lt_of_lt_of_le hn2 hb4.size
      have hz4 := Nat.lt_of_lt_of_le hz2 hb4.size
      have hy4 := Nat.lt_of_lt_of_le hy2 hb4.size
      have HO4 : Hid (ObAt w4 b.os[k] v0 v1) := HO2.out.mono hb4
      clear hb4 hN hX2 hL2 hn2 hz2 hy2
      by_cases t2 : Gate.hasTeam l.ts b.os[k].tm = true
      rotate_left
      · have HF : Hid (Gate.objectsOk l b = false) := HNo.out (by unfold Gate.objectAt; rw [HT1.out, Bool.eq_false_iff.2 t2]; rfl)
        rw [Bool.eq_false_iff.2 t2]
        clear t2
        go_wp2_with fail
        go_ret
        exact ⟨ret_bool HF.out.symm, HBw.out _ HB4.out⟩
      rw [t2]
      have HT2 : Hid (Gate.hasTeam l.ts b.os[k].tm = true) := t2
      clear t2
      go_wp2_with fail
      refine (isShaped_any l la lb lc lca lcb lcc b.os[k] v0 v1 q0 q1 _ (HL.out.mono (HBw.out _ HB4.out)) hml HO4.out HF2.out.1 HF2.out.2 HW.out.1).mono ?_
      rintro e w5 ⟨rfl, hb5⟩
      have HB5 : Hid (Below w1'.heap.size w1' w5) := HB4.out.trans (hb5.mono HB4.out.size)
      have hN5 := box_later hN4 hn4 hb5
      have hL5 := box_later hL4 hy4 hb5
      have hn5 := Nat.lt_of_lt_of_le hn4 hb5.size
      have hy5 := Nat.lt_of_lt_of_le hy4 hb5.size
      have HO5 : Hid (ObAt w5 b.os[k] v0 v1) := HO4.out.mono hb5
      clear hb5 hN4 hX4 hL4 hn4 hz4 hy4
      by_cases t3 : Gate.isShaped l b.os[k] = true
      rotate_left
      · have HF : Hid (Gate.objectsOk l b = false) := HNo.out (by unfold Gate.objectAt; rw [HT1.out, HT2.out, Bool.eq_false_iff.2 t3]; rfl)
        rw [Bool.eq_false_iff.2 t3]
        clear t3
        go_wp2_with fail
        go_ret
        exact ⟨ret_bool HF.out.symm, HBw.out _ HB5.out⟩
      have HT3 : Hid (Gate.isShaped l b.os[k] = true) := t3
      have HC : Hid (b.os[k].vs.length = (Gate.shapeOf l.ss b.os[k].kd).fs.length) := by
        have h := t3
        unfold Gate.isShaped at h
        simp only [Bool.and_eq_true, decide_eq_true_eq] at h
        exact (Gate.mend_facts (Gate.mendable_chk HW.out.1 h.1)).1
      rw [t3]
      clear t3
      go_wp2_with fail
      refine (isLinked_any l la lb lc lca lcb lcc w1.heap.size f b.os[k] v0 v1 q0 q1 _ (HL.out.mono (HBw.out _ HB5.out)) (HPM.out.1.mono HB5.out) HO5.out HC.out).mono ?_
      rintro e w6 ⟨rfl, hb6⟩
      have HB6 : Hid (Below w1'.heap.size w1' w6) := HB5.out.trans (hb6.mono HB5.out.size)
      have HLE : Hid (linksIn f (lksTo (Gate.shapeOf l.ss b.os[k].kd).fs b.os[k].vs (Gate.shapeOf l.ss b.os[k].kd).fs.length) = Gate.linkedOk l b.os b.os[k]) := linksIn_linked HPM.out.2
      rw [HLE.out]
      clear hb6
      by_cases t4 : Gate.linkedOk l b.os b.os[k] = true
      · have HY : Hid ((b.os.take (k + 1)).all (Gate.objectAt l b) = true) := HYes.out (by unfold Gate.objectAt; rw [HT1.out, HT2.out, HT3.out, t4]; rfl)
        rw [t4]
        clear t4
        go_wp2_with fail
        exact ⟨⟨k + 1, by omega, by go_num, HY.out, HB6.out⟩, step_less' hlt⟩
      · have HF : Hid (Gate.objectsOk l b = false) := HNo.out (by unfold Gate.objectAt; rw [HT1.out, HT2.out, HT3.out, Bool.eq_false_iff.2 t4]; rfl)
        rw [Bool.eq_false_iff.2 t4]
        clear t4
        go_wp2_with fail
        go_ret
        exact ⟨ret_bool HF.out.symm, HBw.out _ HB6.out⟩
    · have e : k = b.os.length := by omega
      subst e
      have HE : Hid (Gate.objectsOk l b = true) := by
        unfold Hid
        rw [HG.out]
        have h := HQ.out.1
        rw [List.take_of_length_le (Nat.le_refl _)] at h
        exact h
      have HBe : Hid (Below w.heap.size w wr) := HB1'.out.trans (HQ.out.2.mono HB1'.out.size)
      clear hlt hk HQ
      go_wp2_with fail
      go_ret
      exact ⟨ret_bool HE.out.symm, HBe.out⟩

end Go.Proofs.YtnbpglbbjnkhpaaGreat
