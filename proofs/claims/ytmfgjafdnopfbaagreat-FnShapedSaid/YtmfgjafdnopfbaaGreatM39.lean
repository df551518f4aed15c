import Derived.Test.YtmfgjafdnopfbaaGreatM27
import Derived.Test.YtmfgjafdnopfbaaGreatM06
import Derived.Test.YtmfgjafdnopfbaaGreatM37
import Derived.Test.YtmfgjafdnopfbaaGreatM07
import Derived.Test.YtmfgjafdnopfbaaGreatM38
namespace Go.Proofs.YtmfgjafdnopfbaaGreat
open Go.RowKit
structure St (lo r : Nat) (w0 : World) (p : Nat) (w : World) : Prop where
  rd : yF w r p
  fr : Below lo (clr r w0) (clr r w)
  c1 : r < lo
  c2 : lo <= w0.heap.size
theorem St.start {lo r p : Nat} {w : World} (hr : yF w r p) (h1 : r < lo) (h2 : lo <= w.heap.size) : St lo r w p w := ⟨hr, Below.refl _ _, h1, h2⟩
theorem St.le {lo r p : Nat} {w0 w : World} (h : St lo r w0 p w) : lo <= w.heap.size := by
  have := h.fr.size; rw [jA, jA] at this; exact Nat.le_trans h.c2 this
theorem St.go {lo r p p' : Nat} {w0 w w' : World} (h : St lo r w0 p w) (hr : yF w' r p') (hd : Below lo (clr r w) (clr r w')) : St lo r w0 p' w' := ⟨hr, h.fr.trans hd, h.c1, h.c2⟩
theorem St.call {lo r p p' : Nat} {w0 w w' : World} (h : St lo r w0 p w) (hr : yF w' r p') (hd : Dr r w w') : St lo r w0 p' w' := h.go hr (Below.mono hd h.le)
theorem St.down {lo r p : Nat} {w0 w w' : World} (h : St lo r w0 p w) (hb : Below lo w w') : St lo r w0 p w' := h.go (h.rd.keep (hb.mono h.c1)) (zbI hb)
theorem St.below {lo r p : Nat} {w0 w w' : World} (h : St lo r w0 p w) (hb : Below w.heap.size w w') : St lo r w0 p w' := h.down (hb.mono h.le)
theorem St.alloc {lo r p : Nat} {w0 w : World} (h : St lo r w0 p w) (o : Obj) : St lo r w0 p (w.alloc o) := h.below ((Below.refl _ _).alloc (Nat.le_refl _) _)
theorem St.drew {lo r p : Nat} {w0 w : World} (h : St lo r w0 p w) : St lo r w0 p w.drew := h.below (Below.refl _ _).drew
theorem St.set {lo r p k o : Nat} {w0 w : World} {v : Value} (h : St lo r w0 p w) (hk : lo <= k) : St lo r w0 p (w.setCell ⟨k, o, none⟩ v) := h.down ((Below.refl _ _).setCell hk v)
theorem St.put {lo r p k o : Nat} {w0 w : World} (h : St lo r w0 p w) (hk : lo <= k) (vs : List Value) : St lo r w0 p (w.setCells k o vs) := h.down (jL hk vs o w (Below.refl _ _))
theorem Tryz.zfp : (Tryz.prog.info? 63).map (fun i => (i.zero, i.size, i.bytes)) = some (some (.agg #[.string ByteArray.empty, .int .i64 0, .int .i64 0, .int .i64 0, .slice none 0 0, .string ByteArray.empty, .int .i64 0, .bool false, .bool false, .string ByteArray.empty, .string ByteArray.empty]), 11, 128) := by kernel_rfl
theorem Tryz.zfh : (Tryz.prog.info? 45).map (fun i => (i.zero, i.size, i.bytes)) = some (some (.agg #[.string ByteArray.empty, .slice none 0 0]), 2, 40) := by kernel_rfl
theorem Tryz.zeD : (Tryz.prog.info? 56).map (fun i => (i.zero, i.size, i.bytes)) = some (some (.agg #[.string ByteArray.empty, .string ByteArray.empty, .string ByteArray.empty, .string ByteArray.empty, .string ByteArray.empty, .string ByteArray.empty]), 6, 96) := by kernel_rfl
theorem zea {P : Program} {lo l b : Nat} {Q : Nat -> Value -> Prop} {t ty e : TypeId} {i : TypeInfo} {z : Value} {sz bytes : Nat} (ht : P.underlying t = some (.slice e)) (hi : P.info? e = some i) (hz : i.zero = some z) (hsize : i.size = sz) (hby : i.bytes = bytes) (hzs : z.cells.size = sz) (hsz : 0 < sz)
    (hz1 : ∀ j x, z.cells[j]? = some x -> Q j x) (h1 : ∀ j x, j < sz -> Q j x -> x.oneCell' = true) {w : World} (hg : ∀ j x, Q (j % sz) x -> zey lo b w e j x) {a : Option Addr} {n cap : Nat} {c : Option Addr} {m cp : Nat}
    (hv : qE lo l Q e sz w (.slice a n cap)) (hu : qE lo l Q e sz w (.slice c m cp)) (hnm : n + m <= l) (hb : l <= 1048576) (hbb : bytes <= 1000000) (hlo : lo <= w.heap.size) :
    ∃ a' cap' w', (Builtin.append_ #[t, t] ty #[.slice a n cap, .slice c m cp]).run P w = .ok (.slice a' (n + m) cap') w' /\ Keep lo b w w' /\ qE lo l Q e sz w' (.slice a' (n + m) cap') /\ Below lo w w' /\ ∀ (k : Nat) (C : Array Value) (t : TypeId), w.heap[k]? = some (.cells C t) -> t ≠ e -> w'.heap[k]? = some (.cells C t) := by
  obtain ⟨a', cap', w', h1, h2, h3, h4, h5⟩ := zbg lo l b Q t ty e i z sz bytes ht hi hz hsize hby hzs hsz hz1 h1 w hg a n cap c m cp hv hu (by omega) hbb hlo
  refine ⟨a', cap', w', h1, h3.keep, h2.more hnm, (Below.refl lo w).grown h4 hlo fun k hk => ?_, fun k C t hk ht => ?_⟩
  · rcases hv with h | ⟨g, _, _, _, h, h6, _⟩
    · cases h; cases hk
    · cases h; cases hk; exact h6
  · refine (h4.block k (Array.getElem?_eq_some_iff.1 hk).1 fun e1 => ?_).trans hk
    rcases hv with h | ⟨g, _, _, _, h, h6, h7, _⟩
    · cases h; cases e1
    · cases h; cases e1; rw [hk] at h7; cases h7; exact ht rfl
theorem zbj (x : Value) (h : zbM x) : x.oneCell' = true := by obtain ⟨s, rfl, _⟩ := h; rfl
theorem zim (b : Nat) (x : Value) (h : ze2 b x) : x.oneCell' = true := by obtain ⟨s, rfl, _⟩ := h; rfl
theorem zhG (x : Value) (h : zhg x) : x.oneCell' = true := by obtain ⟨s, rfl⟩ := h; rfl
theorem zh7 (lo b : Nat) (w : World) (x : Value) (h : yR lo b w x) : x.oneCell' = true := by obtain ⟨_, _, _, rfl, _⟩ := h.slice; rfl
theorem zil (lo b : Nat) (w : World) (x : Value) (h : qp lo b w x) : x.oneCell' = true := by obtain ⟨_, _, _, rfl, _⟩ := h.slice; rfl
theorem zii {lo b : Nat} {w : World} (j : Nat) (x : Value) (hj : j < 11) (h : zcd lo b w j x) : x.oneCell' = true := by
  rcases j with _ | _ | _ | _ | _ | _ | _ | _ | _ | _ | _ | j <;> first | omega | exact zbj x h | exact zim b x h | exact zhG x h | exact zh7 lo b w x h
theorem ziE {lo b : Nat} {w : World} (j : Nat) (x : Value) (hj : j < 2) (h : zd3 lo b w j x) : x.oneCell' = true := by
  rcases j with _ | _ | j <;> first | omega | exact zbj x h | exact zil lo b w x h
theorem zho (lo b : Nat) (w : World) : yD lo b w #[.string ByteArray.empty, .int .i64 0, .int .i64 0, .int .i64 0, .slice none 0 0, .string ByteArray.empty, .int .i64 0, .bool false, .bool false, .string ByteArray.empty, .string ByteArray.empty] :=
  ⟨_, _, _, _, _, _, _, _, _, _, _, _, _, rfl, by simp, by omega, by omega, by omega, Or.inl rfl, by simp, by omega, by simp, by simp⟩
theorem ziG (lo b : Nat) (w : World) (j : Nat) (x : Value) (h : (#[.string ByteArray.empty, .slice none 0 0] : Array Value)[j]? = some x) : zd3 lo b w j x := by
  rcases j with _ | _ | j <;> simp at h <;> subst h
  · exact ⟨_, rfl, by simp⟩
  · exact Or.inl rfl
theorem zgH (j : Nat) (x : Value) (h : (#[.string ByteArray.empty, .string ByteArray.empty, .string ByteArray.empty, .string ByteArray.empty, .string ByteArray.empty, .string ByteArray.empty] : Array Value)[j]? = some x) : zbM x := by
  rcases j with _ | _ | _ | _ | _ | _ | j <;> simp at h <;> subst h <;> exact ⟨_, rfl, by simp⟩
theorem zdg {lo b : Nat} {w : World} {a : Option Addr} {n cap : Nat} {c : Option Addr} {m cp : Nat} {ty : TypeId} (hv : qp lo b w (.slice a n cap)) (hu : qp lo b w (.slice c m cp)) (hnm : n + m <= 900) (_hb : b <= 1048576) (hlo : lo <= w.heap.size) :
    ∃ a' cap' w', (Builtin.append_ #[34, 34] ty #[.slice a n cap, .slice c m cp]).run Tryz.prog w = .ok (.slice a' (n + m) cap') w' /\ Keep lo b w w' /\ qp lo b w' (.slice a' (n + m) cap') /\ Below lo w w' /\ ∀ (k : Nat) (C : Array Value) (t : TypeId), w.heap[k]? = some (.cells C t) -> t ≠ 63 -> w'.heap[k]? = some (.cells C t) := by
  obtain ⟨i0, hi, hz0, hz1, hz2⟩ := info_parts Tryz.zfp
  obtain ⟨a', cap', w', h1, h2, h3, h4⟩ := zea (ty := ty) (Q := zcd lo b w) Tryz.underlying34 hi hz0 hz1 hz2 rfl (by omega) (zho lo b w).cell.2 zii (fun j x h => ⟨fun e => by simp at e, fun _ => h, fun e => by simp at e, fun e => by simp at e, fun e => by simp at e, fun e => by simp at e⟩) hv hu hnm (by omega) (by omega) hlo
  exact ⟨a', cap', w', h1, h2, qE.imp h3 (zdf h2.s), h4⟩
theorem zch {lo b : Nat} {w : World} {a : Option Addr} {n cap : Nat} {c : Option Addr} {m cp : Nat} {ty : TypeId} (hv : qM lo b w (.slice a n cap)) (hu : qM lo b w (.slice c m cp)) (hnm : n + m <= 1000) (_hb : b <= 1048576) (hlo : lo <= w.heap.size) :
    ∃ a' cap' w', (Builtin.append_ #[23, 23] ty #[.slice a n cap, .slice c m cp]).run Tryz.prog w = .ok (.slice a' (n + m) cap') w' /\ Keep lo b w w' /\ qM lo b w' (.slice a' (n + m) cap') /\ Below lo w w' /\ ∀ (k : Nat) (C : Array Value) (t : TypeId), w.heap[k]? = some (.cells C t) -> t ≠ 45 -> w'.heap[k]? = some (.cells C t) := by
  obtain ⟨i0, hi, hz0, hz1, hz2⟩ := info_parts Tryz.zfh
  obtain ⟨a', cap', w', h1, h2, h3, h4⟩ := zea (ty := ty) (Q := zd3 lo b w) Tryz.underlying23 hi hz0 hz1 hz2 rfl (by omega) (ziG lo b w) ziE (fun j x h => ⟨fun e => by simp at e, fun e => by simp at e, fun _ => h, fun e => by simp at e, fun e => by simp at e, fun e => by simp at e⟩) hv hu hnm (by omega) (by omega) hlo
  exact ⟨a', cap', w', h1, h2, qE.imp h3 (zeB h2.f), h4⟩
theorem zar {lo b : Nat} {w : World} {a : Option Addr} {n cap : Nat} {c : Option Addr} {m cp : Nat} {ty : TypeId} (hv : yE lo b w (.slice a n cap)) (hu : yE lo b w (.slice c m cp)) (hnm : n + m <= 1000) (_hb : b <= 1048576) (hlo : lo <= w.heap.size) :
    ∃ a' cap' w', (Builtin.append_ #[24, 24] ty #[.slice a n cap, .slice c m cp]).run Tryz.prog w = .ok (.slice a' (n + m) cap') w' /\ Keep lo b w w' /\ yE lo b w' (.slice a' (n + m) cap') /\ Below lo w w' /\ ∀ (k : Nat) (C : Array Value) (t : TypeId), w.heap[k]? = some (.cells C t) -> t ≠ 56 -> w'.heap[k]? = some (.cells C t) := by
  obtain ⟨i0, hi, hz0, hz1, hz2⟩ := info_parts Tryz.zeD
  obtain ⟨a', cap', w', h1, h2, h3, h4⟩ := zea (ty := ty) (Q := fun _ => zbM) Tryz.underlying24 hi hz0 hz1 hz2 rfl (by omega) zgH (fun _ x _ h => zbj x h) (fun j x h => ⟨fun e => by simp at e, fun e => by simp at e, fun e => by simp at e, fun _ => h, fun e => by simp at e, fun e => by simp at e⟩) hv hu hnm (by omega) (by omega) hlo
  exact ⟨a', cap', w', h1, h2, h3, h4⟩
theorem ziC {lo b : Nat} {w : World} {a : Option Addr} {n cap : Nat} {c : Option Addr} {m cp : Nat} {ty : TypeId} (hv : yR lo b w (.slice a n cap)) (hu : yR lo b w (.slice c m cp)) (hnm : n + m <= 1000) (_hb : b <= 1048576) (hlo : lo <= w.heap.size) :
    ∃ a' cap' w', (Builtin.append_ #[25, 25] ty #[.slice a n cap, .slice c m cp]).run Tryz.prog w = .ok (.slice a' (n + m) cap') w' /\ Keep lo b w w' /\ yR lo b w' (.slice a' (n + m) cap') /\ Below lo w w' /\ ∀ (k : Nat) (C : Array Value) (t : TypeId), w.heap[k]? = some (.cells C t) -> t ≠ 9 -> w'.heap[k]? = some (.cells C t) := by
  obtain ⟨i0, hi, hz0, hz1, hz2⟩ := info_parts Tryz.jC
  obtain ⟨a', cap', w', h1, h2, h3, h4⟩ := zea (ty := ty) (Q := fun _ => zbM) Tryz.underlying25 hi hz0 hz1 hz2 rfl (by omega) (fun j x h => by change (#[Value.string ByteArray.empty] : Array Value)[j]? = some x at h; rcases j with _ | j <;> simp at h; subst h; exact ⟨_, rfl, by simp⟩) (fun _ x _ h => zbj x h) (fun j x h => ⟨fun _ => h, fun e => by simp at e, fun e => by simp at e, fun e => by simp at e, fun e => by simp at e, fun e => by simp at e⟩) hv hu hnm (by omega) (by omega) hlo
  exact ⟨a', cap', w', h1, h2, h3, h4⟩
theorem zbS {lo b : Nat} {w : World} {cs : Array Value} (h : yD lo b w cs) (hlo : lo <= w.heap.size) (_hb : 1 <= b) : qp lo b (w.alloc (.cells cs 63)) (.slice (some ⟨w.heap.size, 0, none⟩) 1 1) :=
  jy lo 900 _ _ 11 1 w cs hlo (by rw [h.cell.1]) (by simp [maxLen]) (by omega) fun j x hx => by
    have hj : j < 11 := by have := (Array.getElem?_eq_some_iff.1 hx).1; rw [h.cell.1] at this; exact this
    rw [Nat.mod_eq_of_lt hj]
    exact (h.keep (zf lo b w _)).cell.2 j x hx
theorem jU {lo b : Nat} {w : World} {kd : ByteArray} {v : Value} (hk : kd.size <= 4000000) (h : qp lo b w v) (hlo : lo <= w.heap.size) (_hb : 1 <= b) : qM lo b (w.alloc (.cells #[.string kd, v] 45)) (.slice (some ⟨w.heap.size, 0, none⟩) 1 1) :=
  jy lo 1000 _ _ 2 1 w _ hlo (by simp) (by simp [maxLen]) (by omega) fun j x hx => by
    rcases j with _ | _ | j <;> simp at hx <;> subst hx
    · exact ⟨_, rfl, hk⟩
    · exact (zf lo b w _).f _ h
theorem qE.low {lo lo2 b : Nat} {P : Nat -> Value -> Prop} {t : TypeId} {sz : Nat} {w : World} {v : Value} (h : qE lo b P t sz w v) (hl : lo2 <= lo) : qE lo2 b P t sz w v := by
  rcases h with h | ⟨g, n, cap, C, h1, h2, h3⟩
  · exact Or.inl h
  · exact Or.inr ⟨g, n, cap, C, h1, by omega, h3⟩
theorem zaj {lo b : Nat} {w : World} {a : Option Addr} {n cap : Nat} {c : Option Addr} {m cp : Nat} {ty : TypeId} (lo2 : Nat) (hl : lo2 <= lo) (hv : yR lo b w (.slice a n cap)) (hu : yR lo b w (.slice c m cp)) (hnm : n + m <= 1000) (_hb : b <= 1048576) (hlo : lo <= w.heap.size) :
    ∃ a' cap' w', (Builtin.append_ #[25, 25] ty #[.slice a n cap, .slice c m cp]).run Tryz.prog w = .ok (.slice a' (n + m) cap') w' /\ yR lo b w' (.slice a' (n + m) cap') /\ Below lo w w' /\ (∀ (k : Nat) (C : Array Value) (t : TypeId), w.heap[k]? = some (.cells C t) -> t ≠ 9 -> w'.heap[k]? = some (.cells C t)) /\ ∀ B2, Keep lo2 B2 w w' := by
  obtain ⟨a', cap', w', h1, h2, h3, h4, h5⟩ := ziC (ty := ty) hv hu hnm _hb hlo
  refine ⟨a', cap', w', h1, h3, h4, h5, fun B2 => ?_⟩
  obtain ⟨i0, hi, hz0, hz1, hz2⟩ := info_parts Tryz.jC
  obtain ⟨a2, c2, w2, g1, _, g3, _⟩ := zbg lo2 1000 B2 (fun _ => zbM) 25 ty 9 i0 _ 1 _ Tryz.underlying25 hi hz0 hz1 hz2 rfl (by omega) (fun j x h => by change (#[Value.string ByteArray.empty] : Array Value)[j]? = some x at h; rcases j with _ | j <;> simp at h; subst h; exact ⟨_, rfl, by simp⟩) (fun _ x _ h => zbj x h) w (fun j x h => ⟨fun _ => h, fun e => by simp at e, fun e => by simp at e, fun e => by simp at e, fun e => by simp at e, fun e => by simp at e⟩) a n cap c m cp (hv.low hl) (hu.low hl) (by omega) (by omega) (by omega)
  have e := h1.symm.trans g1
  injection e with _ e2
  rw [e2]
  exact g3.keep
theorem jc {P : Program} {w w' : World} {o : Oper} {a : Act} {K : Act -> World -> Prop} {Q : Exit -> Act -> World -> Prop} {v u v' : Value} {t : TypeId} {s x : Operand} (hr : (Builtin.append_ #[t, t] o.type #[v, u]).run P w = .ok v' w')
    (ho : o.op = .call { callee := .builtin .append, args := #[s, x], argTypes := #[t, t] }) (hs : a.eval s = v) (hx : a.eval x = u) (h : K (a.put o.dst v') w') : o.wp P a w K Q := by
  unfold Oper.wp
  simp [execOp, ho, resolve, invoke, builtin, hs, hx, hr, Result.andThen]
  exact h
end Go.Proofs.YtmfgjafdnopfbaaGreat

namespace Go.Proofs.YtmfgjafdnopfbaaGreat
open Go.RowKit
set_option maxHeartbeats 4000000 in
theorem zgQ (a0 : Option Addr) (cap0 : Nat) (ss : List Shp) (o : Ob) (va ha : Option Addr) (cap cap' : Nat) (w : World) (hw : yG w a0 ss) (ho : qX w o va ha) (hA : jO va o.vs) (hA' : jO ha o.hs) (hn : va = none -> cap = 0) (hn' : ha = none -> cap' = 0) (hl : o.vs.length <= 1048576) (hl' : o.hs.length <= 1048576) :
    Calls Tryz.prog 39 #[.slice a0 ss.length cap0, .agg #[.string o.kd, .string o.nm, .string o.tm, .slice va o.vs.length cap, .bool o.en, .slice ha o.hs.length cap', .int .i64 o.vr]] w (zhF o (Gate.qz ss o) w) := by
  by_cases hc : Gate.yL ss o = true
  rotate_left
  · have HC : Hid (Gate.yL ss o = false) := by simpa [Hid] using hc
    have HRES : Hid (Gate.qz ss o = o.vs) := by unfold Hid Gate.qz; rw [if_neg hc]
    clear hc
    have HH : Hid (qX w o va ha) := ho
    clear ho
    go_enter Tryz.func39, Tryz.ntmps39
    go_wp2_with fail
    refine (zc5 o va ha cap cap' _ (HH.out.mono (yC w (.cells #[.string o.kd, .string o.nm, .string o.tm, .slice va o.vs.length cap, .bool o.en, .slice ha o.hs.length cap', .int .i64 o.vr] 27) (.cells #[.string ByteArray.empty, .string ByteArray.empty, .string ByteArray.empty, .slice none 0 0, .bool false, .slice none 0 0, .int .i64 0] 27))) hA hA' hn hn' hl hl').mono ?_
    rintro e w1 ⟨a, dap, a', dap', m, rfl, ht, hm, hsm, ht', hb1, hsA, hsA'⟩
    have HO1 : Hid (w1.heap[w.heap.size]? = some (.cells #[.string o.kd, .string o.nm, .string o.tm, .slice va o.vs.length cap, .bool o.en, .slice ha o.hs.length cap', .int .i64 o.vr] 27)) := (hb1.block w.heap.size (by simp; omega)).trans (zq _ _ _).1
    have HR1 : Hid (w1.heap[w.heap.size + 1]? = some (.cells #[.string ByteArray.empty, .string ByteArray.empty, .string ByteArray.empty, .slice none 0 0, .bool false, .slice none 0 0, .int .i64 0] 27)) := (hb1.block (w.heap.size + 1) (by simp)).trans (zq _ _ _).2
    have hX1 : ∀ j, w1.cell? ⟨w.heap.size, j, none⟩ = (#[.string o.kd, .string o.nm, .string o.tm, .slice va o.vs.length cap, .bool o.en, .slice ha o.hs.length cap', .int .i64 o.vr] : Array Value)[j]? := fun j => cell_of_block HO1.out
    have hz1 : w.heap.size + 1 < w1.heap.size := by have := hb1.size; simp at this; omega
    have hz0 : w.heap.size < w1.heap.size := by omega
    have hB1 : Below w.heap.size w w1 := (yC _ _ _).trans (hb1.mono (by simp; omega))
    have HT : Hid (zk (w.heap.size + 1 + 1) w1 a o.vs /\ (∀ g, a = some g -> g.block < m) /\ w.heap.size + 1 + 1 <= m /\ zk m w1 a' o.hs) := by
      simp only [World.size_alloc] at ht hsm
      exact ⟨ht, hm, hsm, ht'⟩
    clear ht hm hsm ht' hb1
    go_wp2_with fail
    have hbs := (Below.refl w1.heap.size w1).alloc (Nat.le_refl _) (.cells #[.string o.kd, .string o.nm, .string o.tm, .slice a o.vs.length dap, .bool o.en, .slice a' o.hs.length dap', .int .i64 o.vr] 27)
    have hBs := hB1.trans (hbs.mono hB1.size)
    refine (zdZ a0 cap0 ss o _ _ cap cap' _ (hw.mono hBs) (HH.out.mono hBs) HC.out).mono ?_
    rintro e w2 ⟨v, rfl, hb2⟩
    have hba := hbs.trans (hb2.mono hbs.size)
    have hR2 := (hba.block _ hz1).trans HR1.out
    have hU2 : ∀ j, w2.cell? ⟨w1.heap.size, j, none⟩ = (#[.string o.kd, .string o.nm, .string o.tm, .slice a o.vs.length dap, .bool o.en, .slice a' o.hs.length dap', .int .i64 o.vr] : Array Value)[j]? := ze (zo w1 _ _) (by simp) hb2
    have hRc : ∀ j, w2.cell? ⟨w.heap.size + 1, j, none⟩ = (#[.string ByteArray.empty, .string ByteArray.empty, .string ByteArray.empty, .slice none 0 0, .bool false, .slice none 0 0, .int .i64 0] : Array Value)[j]? := fun j => cell_of_block hR2
    have hRf : ∀ j, w2.frozen? ⟨w.heap.size + 1, j, none⟩ = false := fun j => za hR2
    have HX : Hid (zk (w.heap.size + 1 + 1) w2 a o.vs /\ zk m w2 a' o.hs /\ Below w.heap.size w w2) := ⟨HT.out.1.mono hba, HT.out.2.2.2.mono hba, hB1.trans (hba.mono hB1.size)⟩
    clear hbs hBs hb2 hba hR2 hX1
    go_wp2_with fail
    refine bodyPost_ret (v := (.agg #[.string o.kd, .string o.nm, .string o.tm, .slice a o.vs.length dap, .bool o.en, .slice a' o.hs.length dap', .int .i64 o.vr])) (by simp [results, Tryz.results39, go_sem, hRc]) rfl ?_
    obtain ⟨ht, ht', hB⟩ := HX.out
    rw [HRES.out]
    exact ⟨a, dap, a', dap', m, rfl, (yB ht _ (by omega) _ _ _ _ _ _ _).low (by omega), HT.out.2.1, by have := HT.out.2.2.1; omega, yB ht' _ (by have := HT.out.2.2.1; omega) _ _ _ _ _ _ _, qm hB _ (by omega) _ _ _ _ _ _ _, hsA, hsA'⟩
  have HC : Hid (Gate.yL ss o = true) := hc
  have HRES : Hid (Gate.qz ss o = Gate.qG (Gate.shapeOf ss o.kd).fs o.vs) := by unfold Hid Gate.qz; rw [if_pos hc]
  have HCC : Hid (o.vs.length = (Gate.shapeOf ss o.kd).fs.length) := by unfold Gate.yL at hc; simp only [Bool.and_eq_true, decide_eq_true_eq] at hc; exact hc.2
  clear hc
  have HH : Hid (qX w o va ha) := ho
  clear ho
  go_enter Tryz.func39, Tryz.ntmps39
  go_wp2_with fail
  refine (zc5 o va ha cap cap' _ (HH.out.mono (yC w (.cells #[.string o.kd, .string o.nm, .string o.tm, .slice va o.vs.length cap, .bool o.en, .slice ha o.hs.length cap', .int .i64 o.vr] 27) (.cells #[.string ByteArray.empty, .string ByteArray.empty, .string ByteArray.empty, .slice none 0 0, .bool false, .slice none 0 0, .int .i64 0] 27))) hA hA' hn hn' hl hl').mono ?_
  rintro e w1 ⟨a, dap, a', dap', m, rfl, ht, hm, hsm, ht', hb1, hsA, hsA'⟩
  have HO1 : Hid (w1.heap[w.heap.size]? = some (.cells #[.string o.kd, .string o.nm, .string o.tm, .slice va o.vs.length cap, .bool o.en, .slice ha o.hs.length cap', .int .i64 o.vr] 27)) := (hb1.block w.heap.size (by simp; omega)).trans (zq _ _ _).1
  have HR1 : Hid (w1.heap[w.heap.size + 1]? = some (.cells #[.string ByteArray.empty, .string ByteArray.empty, .string ByteArray.empty, .slice none 0 0, .bool false, .slice none 0 0, .int .i64 0] 27)) := (hb1.block (w.heap.size + 1) (by simp)).trans (zq _ _ _).2
  have hX1 : ∀ j, w1.cell? ⟨w.heap.size, j, none⟩ = (#[.string o.kd, .string o.nm, .string o.tm, .slice va o.vs.length cap, .bool o.en, .slice ha o.hs.length cap', .int .i64 o.vr] : Array Value)[j]? := fun j => cell_of_block HO1.out
  have hz1 : w.heap.size + 1 < w1.heap.size := by have := hb1.size; simp at this; omega
  have hz0 : w.heap.size < w1.heap.size := by omega
  have hB1 : Below w.heap.size w w1 := (yC _ _ _).trans (hb1.mono (by simp; omega))
  have HT : Hid (zk (w.heap.size + 1 + 1) w1 a o.vs /\ (∀ g, a = some g -> g.block < m) /\ w.heap.size + 1 + 1 <= m /\ zk m w1 a' o.hs) := by
    simp only [World.size_alloc] at ht hsm
    exact ⟨ht, hm, hsm, ht'⟩
  clear ht hm hsm ht' hb1
  go_wp2_with fail
  have hbs := (Below.refl w1.heap.size w1).alloc (Nat.le_refl _) (.cells #[.string o.kd, .string o.nm, .string o.tm, .slice a o.vs.length dap, .bool o.en, .slice a' o.hs.length dap', .int .i64 o.vr] 27)
  have hBs := hB1.trans (hbs.mono hB1.size)
  refine (zcP a0 cap0 ss o _ _ cap cap' w _ hw hBs HC.out).mono ?_
  rintro e w2 ⟨fa, fcap, rfl, hf, hb2⟩
  have hba := hbs.trans (hb2.mono hbs.size)
  have HR2 : Hid (w2.heap[w.heap.size + 1]? = some (.cells #[.string ByteArray.empty, .string ByteArray.empty, .string ByteArray.empty, .slice none 0 0, .bool false, .slice none 0 0, .int .i64 0] 27)) := (hba.block _ hz1).trans HR1.out
  have HU2 : Hid (w2.heap[w1.heap.size]? = some (.cells #[.string o.kd, .string o.nm, .string o.tm, .slice a o.vs.length dap, .bool o.en, .slice a' o.hs.length dap', .int .i64 o.vr] 27)) := (hb2.block _ (by simp)).trans (alloc_at _ _)
  have HX2 : Hid (zk (w.heap.size + 1 + 1) w2 a o.vs /\ zk m w2 a' o.hs /\ Below w.heap.size w w2) := ⟨HT.out.1.mono hba, HT.out.2.2.2.mono hba, hB1.trans (hba.mono hB1.size)⟩
  have hz2 : w1.heap.size < w2.heap.size := (Array.getElem?_eq_some_iff.1 HU2.out).1
  clear hbs hBs hb2 hba hX1 hw
  have hlen := hf.len
  unfold maxLen at hlen
  revert HRES HCC hf hlen
  generalize (Gate.shapeOf ss o.kd).fs = fs
  intro HRES HCC hf hlen
  go_wp2_with fail
  go_loopw [8] (fun i wr => ∃ k : Nat, k <= fs.length /\ i = .int .i64 k /\ zk (w.heap.size + 1 + 1) wr a (Gate.qP fs o.vs k) /\ zk m wr a' o.hs /\ wr.heap[w.heap.size + 1]? = some (.cells #[.string ByteArray.empty, .string ByteArray.empty, .string ByteArray.empty, .slice none 0 0, .bool false, .slice none 0 0, .int .i64 0] 27) /\ wr.heap[w1.heap.size]? = some (.cells #[.string o.kd, .string o.nm, .string o.tm, .slice a o.vs.length dap, .bool o.en, .slice a' o.hs.length dap', .int .i64 o.vr] 27) /\ Below w.heap.size w wr) (fun i _ => fs.length - (intOf i).toNat)
  case atStart => exact ⟨0, Nat.zero_le _, rfl, by rw [Gate.zdU]; exact HX2.out.1, HX2.out.2.1, HR2.out, HU2.out, HX2.out.2.2⟩
  case round =>
    obtain ⟨k, hk, rfl, ht, ht', hR, hO, hB⟩ := hrel
    have hOc : ∀ j, wr.cell? ⟨w1.heap.size, j, none⟩ = (#[.string o.kd, .string o.nm, .string o.tm, .slice a o.vs.length dap, .bool o.en, .slice a' o.hs.length dap', .int .i64 o.vr] : Array Value)[j]? := fun j => cell_of_block hO
    have hOz : w1.heap.size < wr.heap.size := (Array.getElem?_eq_some_iff.1 hO).1
    by_cases hlt : k < fs.length
    · have hltv : k < o.vs.length := by rw [HCC.out]; exact hlt
      obtain ⟨fb, foff, rfl, hfb, hr⟩ := hf.rows (by rintro rfl; simp at hlt)
      obtain ⟨wa, wcap, hf0⟩ := hr k hlt
      have hf1 := hf0.mono hfb hB
      obtain ⟨c0, c1, c2, c3, c4, c5, c6, c7, c8, c9, c10⟩ := hf1.load
      have hltI : (k : Int) < (fs.length : Int) := by omega
      have hltV : (k : Int) < (o.vs.length : Int) := by omega
      obtain ⟨g, C, hga, hgl, hgh, hgc⟩ : ∃ g C, a = some ⟨g, 0, none⟩ /\ w.heap.size + 1 + 1 <= g /\ wr.heap[g]? = some (.cells C 9) /\ ∀ i (h : i < (Gate.qP fs o.vs k).length), C[i]? = some (.string (Gate.qP fs o.vs k)[i]) := by
        rcases ht with ⟨_, h0⟩ | h0
        · have := Gate.jN HCC.out k; rw [h0] at this; simp at this; omega
        · exact h0
      have hgm : g < m := HT.out.2.1 _ hga
      have hgw1 : g < w1.heap.size := HT.out.1.lt _ hga
      have hgw : g < wr.heap.size := by omega
      subst hga
      have hcell : wr.cell? ⟨g, k, none⟩ = some (.string o.vs[k]) := by
        have h1 := Gate.zcL HCC.out k hlt
        have hkl : k < (Gate.qP fs o.vs k).length := by rw [Gate.jN HCC.out]; exact hltv
        rw [List.getElem?_eq_getElem hkl, List.getElem?_eq_getElem hltv] at h1
        rw [cell_of_block hgh, hgc k hkl, Option.some.inj h1]
      have hgf : wr.frozen? ⟨g, k, none⟩ = false := za hgh
      have HX : Hid (zk (w.heap.size + 1 + 1) wr (some ⟨g, 0, none⟩) (Gate.qP fs o.vs k) /\ zk m wr a' o.hs /\ wr.heap[w.heap.size + 1]? = some (.cells #[.string ByteArray.empty, .string ByteArray.empty, .string ByteArray.empty, .slice none 0 0, .bool false, .slice none 0 0, .int .i64 0] 27) /\ wr.heap[w1.heap.size]? = some (.cells #[.string o.kd, .string o.nm, .string o.tm, .slice (some ⟨g, 0, none⟩) o.vs.length dap, .bool o.en, .slice a' o.hs.length dap', .int .i64 o.vr] 27) /\ Below w.heap.size w wr) := ⟨ht, ht', hR, hO, hB⟩
      clear ht ht' hR hO hB hr hf0 hf1 hgh hgc hf
      by_cases hv : o.vs[k].toList.isEmpty = true
      · have HV : Hid (Gate.qY fs[k] o.vs[k] = fs[k].df) := by unfold Hid Gate.qY; rw [if_pos hv]
        go_wp2_with fail
        have hfg : fb ≠ g := by omega
        have hq1 : (wr.setCell ⟨g, k, none⟩ (.string fs[k].df)).drew.cell? ⟨w1.heap.size, 3, none⟩ = some (.slice (some ⟨g, 0, none⟩) o.vs.length dap) := (zX (by show w1.heap.size ≠ g; omega)).trans (hOc 3)
        have hq2 : (wr.setCell ⟨g, k, none⟩ (.string fs[k].df)).drew.cell? ⟨fb, foff + k * 11 + 9, none⟩ = some (.string fs[k].df) := (zX hfg).trans c9
        have hgd : wr.drew.frozen? ⟨g, k, none⟩ = false := hgf
        have hcd : wr.drew.cell? ⟨g, k, none⟩ = some (.string o.vs[k]) := hcell
        go_region_held3 (fun w' => w'.cell? ⟨w1.heap.size, 3, none⟩ = some (.slice (some ⟨g, 0, none⟩) o.vs.length dap) /\ w'.cell? ⟨fb, foff + k * 11 + 9, none⟩ = some (.string fs[k].df)) (first | exact ⟨hOc 3, c9⟩ | exact ⟨hq1, hq2⟩) (fail)
        go_wp2_with fail
        obtain ⟨ht, ht', hR, hO, hB⟩ := HX.out
        exact ⟨⟨k + 1, by omega, by go_num, by rw [Gate.zbq HCC.out k hlt, HV.out]; exact ht.set k _, ht'.setCell _ hgm _, (Below.heap_setCell _ _ _ _ (by show w.heap.size + 1 ≠ g; omega)).trans hR, (Below.heap_setCell _ _ _ _ (by show w1.heap.size ≠ g; omega)).trans hO, (hB.setCell (p := ⟨g, k, none⟩) (by show w.heap.size <= g; omega) _).drew⟩, z8 hlt⟩
      · have HV : Hid (Gate.qY fs[k] o.vs[k] = o.vs[k]) := by unfold Hid Gate.qY; rw [if_neg hv]
        go_wp2_with fail
        obtain ⟨ht, ht', hR, hO, hB⟩ := HX.out
        have hsame : (Gate.qP fs o.vs k).set k o.vs[k] = Gate.qP fs o.vs k := by
          have h1 := Gate.zcL HCC.out k hlt
          have hkl : k < (Gate.qP fs o.vs k).length := by rw [Gate.jN HCC.out]; exact hltv
          rw [List.getElem?_eq_getElem hkl, List.getElem?_eq_getElem hltv] at h1
          rw [<- Option.some.inj h1, List.set_getElem_self]
        exact ⟨⟨k + 1, by omega, by go_num, by rw [Gate.zbq HCC.out k hlt, HV.out, hsame]; exact ht, ht', hR, hO, hB⟩, z8 hlt⟩
    · have e : k = fs.length := by omega
      subst e
      rw [Gate.zek HCC.out] at ht
      have hRc : ∀ j, wr.cell? ⟨w.heap.size + 1, j, none⟩ = (#[.string ByteArray.empty, .string ByteArray.empty, .string ByteArray.empty, .slice none 0 0, .bool false, .slice none 0 0, .int .i64 0] : Array Value)[j]? := fun j => cell_of_block hR
      have hRf : ∀ j, wr.frozen? ⟨w.heap.size + 1, j, none⟩ = false := fun j => za hR
      have HX : Hid (zk (w.heap.size + 1 + 1) wr a (Gate.qG fs o.vs) /\ zk m wr a' o.hs /\ Below w.heap.size w wr) := ⟨ht, ht', hB⟩
      clear ht ht' hB hR hO hf
      go_wp2_with fail
      refine bodyPost_ret (v := (.agg #[.string o.kd, .string o.nm, .string o.tm, .slice a o.vs.length dap, .bool o.en, .slice a' o.hs.length dap', .int .i64 o.vr])) (by simp [results, Tryz.results39, go_sem, hRc]) rfl ?_
      obtain ⟨ht, ht', hB⟩ := HX.out
      rw [HRES.out]
      exact ⟨a, dap, a', dap', m, rfl, (yB ht _ (by omega) _ _ _ _ _ _ _).low (by omega), HT.out.2.1, by have := HT.out.2.2.1; omega, yB ht' _ (by have := HT.out.2.2.1; omega) _ _ _ _ _ _ _, qm hB _ (by omega) _ _ _ _ _ _ _, hsA, hsA'⟩
set_option maxHeartbeats 2000000 in
theorem zfA (a0 ma : Option Addr) (cap0 mcap : Nat) (ss : List Shp) (ms : List Mnd) (o : Ob) (va ha : Option Addr) (cap cap' : Nat) (w : World) (hw : yG w a0 ss) (hmm : qg w ma ms) (ho : qX w o va ha) (hA : jO va o.vs) (hA' : jO ha o.hs) (hn : va = none -> cap = 0) (hn' : ha = none -> cap' = 0) (hl : o.vs.length <= 1048576) (hl' : o.hs.length <= 1048576) (hok : Gate.yh ss ms = true) :
    Calls Tryz.prog 23 #[.slice a0 ss.length cap0, .slice ma ms.length mcap, .agg #[.string o.kd, .string o.nm, .string o.tm, .slice va o.vs.length cap, .bool o.en, .slice ha o.hs.length cap', .int .i64 o.vr]] w (jB o (Gate.zC ss ms o) w) := by
  have HRES : Hid (Gate.zC ss ms o = Gate.yJ ss ms ⟨o.kd, o.nm, o.tm, Gate.qz ss o, o.en, o.hs, o.vr⟩) := Gate.zf2 hok
  have HSM : Hid ((Gate.qz ss o).length <= maxLen /\ ∀ s ∈ Gate.qz ss o, s.size <= maxLen) := ⟨by rw [Gate.zaA]; exact ho.vals.len, by rw [<- Gate.zgO (Gate.zed hok)]; exact zet hw.smalls ho.vals.small⟩
  have HH := yK hw hmm ho
  clear hw hmm ho
  have hb2 := yC w (.cells #[.string o.kd, .string o.nm, .string o.tm, .slice va o.vs.length cap, .bool o.en, .slice ha o.hs.length cap', .int .i64 o.vr] 27) (.cells #[.string ByteArray.empty, .string ByteArray.empty, .string ByteArray.empty, .slice none 0 0, .bool false, .slice none 0 0, .int .i64 0] 27)
  go_enter Tryz.func23, Tryz.ntmps23
  go_wp2_with fail
  refine (zgQ a0 cap0 ss o va ha cap cap' _ (HH.out.1.mono hb2) (HH.out.2.2.mono hb2) hA hA' hn hn' hl hl').mono ?_
  rintro e w1 ⟨a1, dap1, a1', dap1', m1, rfl, ht1, hm1, hsm1, ht1', hb1, ⟨g, rfl⟩, ⟨g', rfl⟩⟩
  have HR1 : Hid (w1.heap[w.heap.size + 1]? = some (.cells #[.string ByteArray.empty, .string ByteArray.empty, .string ByteArray.empty, .slice none 0 0, .bool false, .slice none 0 0, .int .i64 0] 27)) := (hb1.block (w.heap.size + 1) (by simp)).trans (zq _ _ _).2
  have hz1 : w.heap.size + 1 < w1.heap.size := by have := hb1.size; simp at this; omega
  have hB1 : Below w.heap.size w w1 := hb2.trans (hb1.mono (by simp; omega))
  have hv1 := ht1.at HSM.out.1 HSM.out.2
  have hv1' := ht1'.at HH.out.2.2.holds.len HH.out.2.2.holds.small
  clear hb1 hb2 ht1 hm1 hsm1 ht1'
  go_wp2_with fail
  refine (zgn a0 ma cap0 mcap ss ms o (Gate.qz ss o) (Gate.zaA ss o) g 0 g' 0 _ _ _ (HH.out.1.mono hB1) (HH.out.2.1.mono hB1) HH.out.2.2.small hv1 hv1' hl hl' hok).mono ?_
  rintro e w4 ⟨a, dap, a', dap', m, rfl, ht, hm, hsm, ht', hb4⟩
  have hR4 := (hb4.block (w.heap.size + 1) hz1).trans HR1.out
  have hRc : ∀ j, w4.cell? ⟨w.heap.size + 1, j, none⟩ = (#[.string ByteArray.empty, .string ByteArray.empty, .string ByteArray.empty, .slice none 0 0, .bool false, .slice none 0 0, .int .i64 0] : Array Value)[j]? := fun j => cell_of_block hR4
  have hRf : ∀ j, w4.frozen? ⟨w.heap.size + 1, j, none⟩ = false := fun j => za hR4
  have HX : Hid (zk (w.heap.size + 1 + 1) w4 a (Gate.zC ss ms o) /\ (∀ g, a = some g -> g.block < m) /\ w.heap.size + 1 + 1 <= m /\ zk m w4 a' o.hs /\ Below w.heap.size w w4) := by rw [HRES.out]; exact ⟨ht.low hz1, hm, Nat.le_trans hz1 hsm, ht', hB1.trans (hb4.mono hB1.size)⟩
  clear ht hm hsm ht' hb4 hR4
  go_wp2_with fail
  refine bodyPost_ret (v := (.agg #[.string o.kd, .string o.nm, .string o.tm, .slice a o.vs.length dap, .bool o.en, .slice a' o.hs.length dap', .int .i64 o.vr])) (by simp [results, Tryz.results23, go_sem, hRc]) rfl ?_
  obtain ⟨ht, hm, hsm, ht', hB⟩ := HX.out
  exact ⟨a, dap, a', dap', m, rfl, (yB ht _ (by omega) _ _ _ _ _ _ _).low (by omega), hm, by omega, yB ht' _ (by omega) _ _ _ _ _ _ _, qm hB _ (by omega) _ _ _ _ _ _ _⟩
set_option maxHeartbeats 2000000 in
theorem zeK (a0 ma : Option Addr) (cap0 mcap : Nat) (ss : List Shp) (ms : List Mnd) (o : Ob) (va ha : Option Addr) (cap cap' : Nat) (w : World) (hw : yG w a0 ss) (hmm : qg w ma ms) (ho : qX w o va ha) (hA : jO va o.vs) (hA' : jO ha o.hs) (hn : va = none -> cap = 0) (hn' : ha = none -> cap' = 0) (hl : o.vs.length <= 1048576) (hl' : o.hs.length <= 1048576) :
    Calls Tryz.prog 7 #[.slice a0 ss.length cap0, .slice ma ms.length mcap, .agg #[.string o.kd, .string o.nm, .string o.tm, .slice va o.vs.length cap, .bool o.en, .slice ha o.hs.length cap', .int .i64 o.vr]] w (jB o (Gate.zC ss ms o) w) := by
  have HH : Hid (qX w o va ha) := ho
  clear ho
  have HS : Hid (Gate.qW ss ms = Gate.yh ss ms) := (Gate.zfI ss ms).symm
  by_cases hok : Gate.yh ss ms = true
  · go_enter Tryz.func7, Tryz.ntmps7
    go_wp2_with fail
    have hbb := yC w (.cells #[.string o.kd, .string o.nm, .string o.tm, .slice va o.vs.length cap, .bool o.en, .slice ha o.hs.length cap', .int .i64 o.vr] 27) (.cells #[.string ByteArray.empty, .string ByteArray.empty, .string ByteArray.empty, .slice none 0 0, .bool false, .slice none 0 0, .int .i64 0] 27)
    have h1 := zaS a0 ma cap0 mcap ss ms _ (hw.mono hbb) (hmm.mono hbb)
    rw [HS.out, hok] at h1
    refine h1.mono ?_
    rintro e w1 ⟨rfl, hb1⟩
    have hX1 : ∀ j, w1.cell? ⟨w.heap.size, j, none⟩ = (#[.string o.kd, .string o.nm, .string o.tm, .slice va o.vs.length cap, .bool o.en, .slice ha o.hs.length cap', .int .i64 o.vr] : Array Value)[j]? := fun j => cell_of_block ((hb1.block w.heap.size (by simp; omega)).trans (zq _ _ _).1)
    have HR1 : Hid (w1.heap[w.heap.size + 1]? = some (.cells #[.string ByteArray.empty, .string ByteArray.empty, .string ByteArray.empty, .slice none 0 0, .bool false, .slice none 0 0, .int .i64 0] 27)) := (hb1.block (w.heap.size + 1) (by simp)).trans (zq _ _ _).2
    have hz1 : w.heap.size + 1 < w1.heap.size := by have := hb1.size; simp at this; omega
    have hz0 : w.heap.size < w1.heap.size := by omega
    have hB1 : Below w.heap.size w w1 := (yC _ _ _).trans (hb1.mono (by simp; omega))
    clear h1 hb1 hbb
    go_wp2_with fail
    refine (zfA a0 ma cap0 mcap ss ms o va ha cap cap' _ (hw.mono hB1) (hmm.mono hB1) (HH.out.mono hB1) hA hA' hn hn' hl hl' hok).mono ?_
    rintro e w4 ⟨a, dap, a', dap', m, rfl, ht, hm, hsm, ht', hb4⟩
    have hR4 : w4.heap[w.heap.size + 1]? = some (.cells #[.string ByteArray.empty, .string ByteArray.empty, .string ByteArray.empty, .slice none 0 0, .bool false, .slice none 0 0, .int .i64 0] 27) := (hb4.block (w.heap.size + 1) hz1).trans HR1.out
    have hRc : ∀ j, w4.cell? ⟨w.heap.size + 1, j, none⟩ = (#[.string ByteArray.empty, .string ByteArray.empty, .string ByteArray.empty, .slice none 0 0, .bool false, .slice none 0 0, .int .i64 0] : Array Value)[j]? := fun j => cell_of_block hR4
    have hRf : ∀ j, w4.frozen? ⟨w.heap.size + 1, j, none⟩ = false := fun j => za hR4
    have HX : Hid (zk (w.heap.size + 1 + 1) w4 a (Gate.zC ss ms o) /\ (∀ g, a = some g -> g.block < m) /\ w.heap.size + 1 + 1 <= m /\ zk m w4 a' o.hs /\ Below w.heap.size w w4) := ⟨ht.low hz1, hm, Nat.le_trans hz1 hsm, ht', hB1.trans (hb4.mono hB1.size)⟩
    clear ht hm hsm ht' hb4 hR4 hX1
    go_wp2_with fail
    refine bodyPost_ret (v := (.agg #[.string o.kd, .string o.nm, .string o.tm, .slice a o.vs.length dap, .bool o.en, .slice a' o.hs.length dap', .int .i64 o.vr])) (by simp [results, Tryz.results7, go_sem, hRc]) rfl ?_
    obtain ⟨ht, hm, hsm, ht', hB⟩ := HX.out
    exact ⟨a, dap, a', dap', m, rfl, (yB ht _ (by omega) _ _ _ _ _ _ _).low (by omega), hm, by omega, yB ht' _ (by omega) _ _ _ _ _ _ _, qm hB _ (by omega) _ _ _ _ _ _ _⟩
  · have hok : Gate.yh ss ms = false := by simpa using hok
    have HRES : Hid (Gate.zC ss ms o = o.vs) := by unfold Hid Gate.zC Gate.zJ; rw [hok]; simp
    go_enter Tryz.func7, Tryz.ntmps7
    go_wp2_with fail
    have hbb := yC w (.cells #[.string o.kd, .string o.nm, .string o.tm, .slice va o.vs.length cap, .bool o.en, .slice ha o.hs.length cap', .int .i64 o.vr] 27) (.cells #[.string ByteArray.empty, .string ByteArray.empty, .string ByteArray.empty, .slice none 0 0, .bool false, .slice none 0 0, .int .i64 0] 27)
    have h1 := zaS a0 ma cap0 mcap ss ms _ (hw.mono hbb) (hmm.mono hbb)
    rw [HS.out, hok] at h1
    refine h1.mono ?_
    rintro e w1 ⟨rfl, hb1⟩
    have hX1 : ∀ j, w1.cell? ⟨w.heap.size, j, none⟩ = (#[.string o.kd, .string o.nm, .string o.tm, .slice va o.vs.length cap, .bool o.en, .slice ha o.hs.length cap', .int .i64 o.vr] : Array Value)[j]? := fun j => cell_of_block ((hb1.block w.heap.size (by simp; omega)).trans (zq _ _ _).1)
    have HR1 : Hid (w1.heap[w.heap.size + 1]? = some (.cells #[.string ByteArray.empty, .string ByteArray.empty, .string ByteArray.empty, .slice none 0 0, .bool false, .slice none 0 0, .int .i64 0] 27)) := (hb1.block (w.heap.size + 1) (by simp)).trans (zq _ _ _).2
    have hz1 : w.heap.size + 1 < w1.heap.size := by have := hb1.size; simp at this; omega
    have hz0 : w.heap.size < w1.heap.size := by omega
    have hB1 : Below w.heap.size w w1 := (yC _ _ _).trans (hb1.mono (by simp; omega))
    clear h1 hb1 hbb
    go_wp2_with fail
    refine (zc5 o va ha cap cap' _ (HH.out.mono hB1) hA hA' hn hn' hl hl').mono ?_
    rintro e w4 ⟨a, dap, a', dap', m, rfl, ht, hm, hsm, ht', hb4, _⟩
    have hR4 : w4.heap[w.heap.size + 1]? = some (.cells #[.string ByteArray.empty, .string ByteArray.empty, .string ByteArray.empty, .slice none 0 0, .bool false, .slice none 0 0, .int .i64 0] 27) := (hb4.block (w.heap.size + 1) hz1).trans HR1.out
    have hRc : ∀ j, w4.cell? ⟨w.heap.size + 1, j, none⟩ = (#[.string ByteArray.empty, .string ByteArray.empty, .string ByteArray.empty, .slice none 0 0, .bool false, .slice none 0 0, .int .i64 0] : Array Value)[j]? := fun j => cell_of_block hR4
    have hRf : ∀ j, w4.frozen? ⟨w.heap.size + 1, j, none⟩ = false := fun j => za hR4
    have HX : Hid (zk (w.heap.size + 1 + 1) w4 a (o.vs) /\ (∀ g, a = some g -> g.block < m) /\ w.heap.size + 1 + 1 <= m /\ zk m w4 a' o.hs /\ Below w.heap.size w w4) := ⟨ht.low hz1, hm, Nat.le_trans hz1 hsm, ht', hB1.trans (hb4.mono hB1.size)⟩
    clear ht hm hsm ht' hb4 hR4 hX1
    go_wp2_with fail
    refine bodyPost_ret (v := (.agg #[.string o.kd, .string o.nm, .string o.tm, .slice a o.vs.length dap, .bool o.en, .slice a' o.hs.length dap', .int .i64 o.vr])) (by simp [results, Tryz.results7, go_sem, hRc]) rfl ?_
    obtain ⟨ht, hm, hsm, ht', hB⟩ := HX.out
    rw [HRES.out]
    exact ⟨a, dap, a', dap', m, rfl, (yB ht _ (by omega) _ _ _ _ _ _ _).low (by omega), hm, by omega, yB ht' _ (by omega) _ _ _ _ _ _ _, qm hB _ (by omega) _ _ _ _ _ _ _⟩
end Go.Proofs.YtmfgjafdnopfbaaGreat
