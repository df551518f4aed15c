import Derived.Test.YtmfgjafdnopfbaaGreatM25
import Derived.Test.YtmfgjafdnopfbaaGreatM04
import Derived.Deep.Cut
import Derived.Deep.MidRow
import Derived.Test.YtmfgjafdnopfbaaGreatM26
import Derived.Test.YtmfgjafdnopfbaaGreatM15
import Derived.Test.YtmfgjafdnopfbaaGreatM13
import Derived.Test.YtmfgjafdnopfbaaGreatM22
namespace Go.Proofs.YtmfgjafdnopfbaaGreat
open Go.RowKit
section
variable {P : Program} {ops : Array Oper} {Q : Exit -> Act -> World -> Prop}
end
theorem zeJ {t : TypeId} {b : Nat} : ∀ (vs : List Value) (o : Nat) (w : World) (C : Array Value), w.heap[b]? = some (.cells C t) -> o + vs.length <= C.size -> ∃ C', (w.setCells b o vs).heap[b]? = some (.cells C' t) /\ C'.size = C.size /\ (∀ j, j < vs.length -> C'[o + j]? = vs[j]?) /\ ∀ x, (x < o \/ o + vs.length <= x) -> C'[x]? = C[x]?
  | [], _, _, C, h, _ => ⟨C, h, rfl, fun j hj => by simp at hj, fun _ _ => rfl⟩
  | v :: r, o, w, C, h, hs => by
    simp only [List.length_cons] at hs
    obtain ⟨C', h1, h2, h3, h4⟩ := zeJ r (o + 1) (w.setCell ⟨b, o, none⟩ v) _ (zu h v) (by simp; omega)
    refine ⟨C', h1, h2.trans (by simp), fun j hj => ?_, fun x hx => ?_⟩
    · cases j with
      | zero =>
        rw [h4 _ (by omega), Nat.add_zero, Array.getElem?_setIfInBounds, if_pos rfl, if_pos (by omega)]
        rfl
      | succ j =>
        rw [show o + (j + 1) = o + 1 + j by omega, h3 j (by simpa using hj)]
        rfl
    · simp only [List.length_cons] at hx
      rw [h4 x (by omega), Array.getElem?_setIfInBounds, if_neg (by omega)]
theorem zI {t : TypeId} {b : Nat} {w : World} {C X : Array Value} (h : w.heap[b]? = some (.cells C t)) (hs : C.size = X.size) : (w.setCells b 0 X.toList).heap[b]? = some (.cells X t) := by
  obtain ⟨C', h1, h2, h3, _⟩ := zeJ X.toList 0 w C h (by simp; omega)
  have e : C' = X := by
    apply Array.ext (h2.trans hs)
    intro i hi hi'
    have h5 := h3 i (by simpa using hi')
    rw [Nat.zero_add] at h5
    have h6 : C'[i]? = X[i]? := by simpa using h5
    rw [Array.getElem?_eq_getElem hi, Array.getElem?_eq_getElem hi'] at h6
    exact Option.some.inj h6
  rw [h1, e]
theorem jL {B b : Nat} {a : World} (hb : B <= b) : ∀ (vs : List Value) (o : Nat) (w : World), Below B a w -> Below B a (w.setCells b o vs)
  | [], _, _, h => h
  | v :: r, o, _, h => jL hb r (o + 1) _ (h.setCell hb v)
theorem zbk {k g : Nat} (h : g ≠ k) : ∀ (vs : List Value) (o : Nat) (w : World), (w.setCells k o vs).heap[g]? = w.heap[g]?
  | [], _, _ => rfl
  | v :: r, o, w => (zbk h r (o + 1) (w.setCell ⟨k, o, none⟩ v)).trans (yt h)
theorem zU {w : World} {b o n : Nat} {C : Array Value} {t : TypeId} (h : w.heap[b]? = some (.cells C t)) (hs : o + n <= C.size) : w.there b o n := fun j hj =>
  ⟨by rw [cell_of_block h, Array.getElem?_eq_getElem (by omega)]; rfl, za h⟩
theorem zY {w : World} {b : Nat} {C : Array Value} {t : TypeId} (h : w.heap[b]? = some (.cells C t)) : w.rangeAt b 0 C.toList := fun j v hv => by rw [cell_of_block h, Nat.zero_add]; simpa using hv
theorem qU {r p k o : Nat} {w : World} (h : yF w r p) (hk : r < k) (vs : List Value) : yF (w.setCells k o vs) r p := h.keep (jL (show r + 1 <= k from hk) vs o w (Below.refl _ _))
theorem qR {r k o : Nat} {w w' : World} (h : Dr r w w') (hk : w.heap.size <= k) (vs : List Value) : Dr r w (w'.setCells k o vs) := Below.trans h (zbI (jL hk vs o w' (Below.refl _ _)))
theorem ziX {lo b : Nat} {w : World} {k o : Nat} {C : Array Value} {t : TypeId} {vs : List Value} (hk : w.heap[k]? = some (.cells C t)) (hs : o + vs.length <= C.size) (h : ∀ j x, vs[j]? = some x -> zey lo b w t (o + j) x) : Chg lo b w (w.setCells k o vs) := fun k' C1 t1 _ hC => by
  by_cases e : k' = k
  · subst e
    rw [hk] at hC
    cases hC
    obtain ⟨C', h1, h2, h3, h4⟩ := zeJ vs o w C hk hs
    refine ⟨C', h1, h2, fun j x hx => ?_⟩
    by_cases hj : j < o \/ o + vs.length <= j
    · exact Or.inl (by rw [<- h4 j hj]; exact hx)
    · have e2 : o + (j - o) = j := by omega
      have h5 := h3 (j - o) (by omega)
      rw [e2] at h5
      have h6 := h (j - o) x (by rw [<- h5]; exact hx)
      rw [e2] at h6
      exact Or.inr h6
  · exact ⟨C1, (zbk e _ _ _).trans hC, rfl, fun _ _ hx => Or.inl hx⟩
theorem yj {lo b k o : Nat} {w : World} {C : Array Value} {t : TypeId} (hk : w.heap[k]? = some (.cells C t)) (ht : t ≠ 9) (vs : List Value) (v : Value) (h : yR lo b w v) : yR lo b (w.setCells k o vs) v := by
  rcases h with h | ⟨g, n, cap, D, h1, h2, h3, h4⟩
  · exact Or.inl h
  · have hne : g ≠ k := by
      rintro rfl
      rw [hk] at h3
      cases h3
      exact ht rfl
    exact Or.inr ⟨g, n, cap, D, h1, h2, (zbk hne _ _ _).trans h3, h4⟩
theorem qE.cut {lo b : Nat} {P : Nat -> Value -> Prop} {t : TypeId} {sz : Nat} {w : World} {a : Option Addr} {n cap k : Nat} (h : qE lo b P t sz w (.slice a n cap)) (hk : k <= n) : qE lo b P t sz w (.slice a k cap) := by
  rcases h with h | ⟨g, n', cap', C, h1, h2, h3, h4, h5, h6, h7, h8⟩
  · cases h
    have e : k = 0 := by omega
    subst e
    exact Or.inl rfl
  · cases h1
    exact Or.inr ⟨g, k, cap, C, rfl, h2, h3, h4, by omega, h6, by omega, h8⟩
theorem zn {P : Program} {c : Code} {Q : Exit -> Act -> World -> Prop} {a : Act} {w : World} (R : World -> Prop) (hR : R w) (h : ∀ w', R w' -> Code.wp P c Q a w') : Code.wp P c Q a w := h w hR
theorem yS {P : Program} {f : FuncId} {args : Array Value} {w : World} {Q : Ending -> World -> Prop} (R : World -> Prop) (hR : R w) (h : ∀ w', R w' -> Calls P f args w' Q) : Calls P f args w Q := h w hR
end Go.Proofs.YtmfgjafdnopfbaaGreat

namespace Go.Proofs.YtmfgjafdnopfbaaGreat.Gate
theorem zbO {ss : List Shp} (h : zT ss = true) (i : Nat) (hi : i < ss.length) : yQ ss i = true := by
  unfold zT at h
  rw [Bool.and_eq_true] at h
  exact zgu hi h.2
theorem zgS {ss : List Shp} (h : zT ss = true) : ∀ (j : Nat) (hj : j < ss.length) (i : Nat) (hi : i < j), less (ss[i]'(by omega)).kd ss[j].kd = true := by
  intro j
  induction j with
  | zero => intro _ i hi; omega
  | succ j ih =>
    intro hj i hi
    have h1 := zbO h (j + 1) hj
    rw [zdl ss j hj] at h1
    simp only [Bool.and_eq_true] at h1
    have h2 := h1.1.2
    rcases Nat.lt_or_ge i j with hlt | hge
    · exact zb9 _ _ _ (ih (by omega) i hlt) h2
    · have e : i = j := by omega
      subst e; exact h2
theorem zaY {ss : List Shp} (h : zT ss = true) (i : Nat) (hi : i < ss.length) : shapeOf ss ss[i].kd = ss[i] := by
  refine zbh ss _ i hi ?_ rfl
  unfold zy
  rw [List.any_eq_false]
  intro x hx
  obtain ⟨k, hk, rfl⟩ := List.mem_iff_getElem.1 hx
  have hk' : k < i := by simp at hk; omega
  have h1 := zgS h i hi k hk'
  simp only [List.getElem_take, decide_eq_true_eq]
  intro e
  unfold less at h1
  rw [e, zbG] at h1
  cases h1
theorem zc4 {ss : List Shp} (h : zT ss = true) (i : Nat) (hi : i < ss.length) : ss[i].fs.length <= 6 := by
  have h1 := zbO h i hi
  unfold yQ at h1
  rw [getD_at ss i _ hi] at h1
  simp only [Bool.and_eq_true] at h1
  have h2 := h1.2
  unfold yN at h2
  simp only [Bool.and_eq_true, decide_eq_true_eq] at h2
  exact h2.1
def qZ (ss : List Shp) (m : Mnd) : Bool := zy ss m.kd && jk (shapeOf ss m.kd).fs m
def rowOk (ms : List Mnd) (s : Shp) : Bool := (zA (zi s ms) s.fs.length).1
def yh (ss : List Shp) (ms : List Mnd) : Bool := decide (ms.length <= 12) && zT ss && ms.all (qZ ss) && ss.all (rowOk ms)
theorem zdj {ss : List Shp} {ms : List Mnd} (h : zT ss = true) (hm : ms.all (qZ ss) = true) (i : Nat) (hi : i < ss.length) : ∀ q, q < ss[i].fs.length -> ∀ x ∈ yg ss[i] ms q, 0 <= x /\ x < ss[i].fs.length := by
  intro q _ x hx
  unfold yg at hx
  obtain ⟨m, hmm, hx⟩ := List.mem_flatMap.1 hx
  by_cases ht : turns m ss[i] q = true
  · rw [if_pos ht] at hx
    obtain ⟨v, hv, rfl⟩ := List.mem_map.1 hx
    unfold turns at ht
    simp only [Bool.and_eq_true, decide_eq_true_eq] at ht
    have h1 := List.all_eq_true.1 hm m hmm
    unfold qZ at h1
    rw [ht.1, zaY h i hi] at h1
    simp only [Bool.and_eq_true] at h1
    have h2 := h1.2
    unfold jk at h2
    simp only [Bool.and_eq_true] at h2
    have h3 := List.all_eq_true.1 h2.1.2 v hv
    unfold qK at h3
    simp only [Bool.and_eq_true] at h3
    rcases qI ss[i].fs v with ⟨_, h5⟩ | ⟨k, hk, h4, _⟩
    · rw [jI h5] at h3; exact absurd h3.2 (by simp)
    · rw [h4]; omega
  · rw [if_neg ht] at hx; cases hx
end Go.Proofs.YtmfgjafdnopfbaaGreat.Gate

namespace Go.Proofs.YtmfgjafdnopfbaaGreat
open Go.RowKit
set_option maxRecDepth 10000 in
set_option maxHeartbeats 1000000 in
theorem zcK (r p : Nat) (w : World) (hp : p <= 40000) (hr : yF w r p) :
    Calls Tryz.prog 60 #[.pointer (some ⟨r, 0, none⟩)] w fun e w' => ∃ s : ByteArray, e = .returned (.string s) /\ s.size <= 4000000 /\ yF w' r (p + 3) /\ Dr r w w' := by
  have hlt := hr.lt
  go_enter Tryz.func60, Tryz.ntmps60
  go_wp2_with fail
  refine (zQ 2 r p w (by omega) (by omega) (by omega) hr).mono ?_
  rintro e w1 ⟨k1, rfl, hk1, hr1, D1⟩
  go_wp2_with fail
  refine (zac _ _ w1 (by decide) (by omega) (by omega)).mono ?_
  rintro e w1' ⟨t1, rfl, ht1, rfl⟩
  go_wp2_with fail
  refine (zQ 2 r (p + 1) w1' (by omega) (by omega) (by omega) hr1).mono ?_
  rintro e w2 ⟨k2, rfl, hk2, hr2, D2⟩
  go_wp2_with fail
  refine (zac _ _ w2 (by decide) (by omega) (by omega)).mono ?_
  rintro e w2' ⟨t2, rfl, ht2, rfl⟩
  go_wp2_with fail
  have hb : ∀ C, Below w2'.heap.size w2' (w2'.alloc (.cells C 9)) := fun C => (Below.refl _ _).alloc (Nat.le_refl _) _
  have hx := yH (r + 1) 16 w2' [⟨#[48]⟩, ⟨#[48, 48]⟩, ⟨#[57, 57, 57, 57, 57, 57, 57]⟩, ⟨#[49, 48, 48, 48, 48, 48, 48]⟩, ⟨#[49, 48, 48, 48, 48, 48, 49]⟩, ⟨#[97]⟩, ⟨#[65]⟩, ⟨#[120, 32, 121]⟩, ⟨#[116, 32, 116]⟩, ⟨#[255]⟩, ⟨#[45]⟩, ⟨#[48, 48, 48, 48, 48, 48, 48, 49]⟩, ⟨#[122, 122]⟩, t1, t2, ⟨#[]⟩] (hr2.lt) (by simp) (by simp [maxLen]) (by intro s hs; simp only [List.mem_cons, List.not_mem_nil, or_false] at hs; rcases hs with rfl | rfl | rfl | rfl | rfl | rfl | rfl | rfl | rfl | rfl | rfl | rfl | rfl | rfl | rfl | rfl <;> first | omega | decide)
  refine (qC _ 16 16 (r + 1) 16 r (p + 2) _ hx (by omega) (by omega) (by omega) (hr2.mono (hb _)) (by omega)).mono ?_
  rintro e w3 ⟨s, rfl, hs, hr3, D3⟩
  go_wp2_with fail
  go_ret
  exact ⟨s, rfl, hs, hr3, jq D1 (jq D2 (jq (qV (hb _)) D3))⟩
def yD (lo b : Nat) (w : World) (cs : Array Value) : Prop := ∃ (nm : ByteArray) (kd ls ms : Int) (a : Option Addr) (n c : Nat) (to : ByteArray) (rl : Int) (mu fx : Bool) (df wg : ByteArray), cs = #[.string nm, .int .i64 kd, .int .i64 ls, .int .i64 ms, .slice a n c, .string to, .int .i64 rl, .bool mu, .bool fx, .string df, .string wg] /\ nm.size <= 4000000 /\ (-(b : Int) <= kd /\ kd <= b) /\ (-(b : Int) <= ls /\ ls <= b) /\ (-(b : Int) <= ms /\ ms <= b) /\ yR lo b w (.slice a n c) /\ to.size <= 4000000 /\ (-(b : Int) <= rl /\ rl <= b) /\ df.size <= 4000000 /\ wg.size <= 4000000
theorem yD.cell {lo b : Nat} {w : World} {cs : Array Value} (h : yD lo b w cs) : cs.size = 11 /\ ∀ j x, cs[j]? = some x -> zcd lo b w j x := by
  obtain ⟨nm, kd, ls, ms, a, n, c, to, rl, mu, fx, df, wg, rfl, h1, h2, h3, h4, h5, h6, h7, h8, h9⟩ := h
  refine ⟨rfl, fun j x hx => ?_⟩
  rcases j with _ | _ | _ | _ | _ | _ | _ | _ | _ | _ | _ | j <;> simp at hx <;> subst hx
  · exact ⟨_, rfl, h1⟩
  · exact ⟨_, rfl, h2.1, h2.2⟩
  · exact ⟨_, rfl, h3.1, h3.2⟩
  · exact ⟨_, rfl, h4.1, h4.2⟩
  · exact h5
  · exact ⟨_, rfl, h6⟩
  · exact ⟨_, rfl, h7.1, h7.2⟩
  · exact ⟨_, rfl⟩
  · exact ⟨_, rfl⟩
  · exact ⟨_, rfl, h8⟩
  · exact ⟨_, rfl, h9⟩
theorem yD.keep {lo b : Nat} {w w' : World} {cs : Array Value} (h : yD lo b w cs) (hk : Keep lo b w w') : yD lo b w' cs := by
  obtain ⟨nm, kd, ls, ms, a, n, c, to, rl, mu, fx, df, wg, rfl, h1, h2, h3, h4, h5, h6⟩ := h
  exact ⟨nm, kd, ls, ms, a, n, c, to, rl, mu, fx, df, wg, rfl, h1, h2, h3, h4, hk.s _ h5, h6⟩
theorem ziU {lo b : Nat} {w : World} (f : Nat -> Value) (h : ∀ j, j < 11 -> zcd lo b w j (f j)) : yD lo b w #[f 0, f 1, f 2, f 3, f 4, f 5, f 6, f 7, f 8, f 9, f 10] := by
  obtain ⟨nm, e0, h0⟩ := h 0 (by omega)
  obtain ⟨kd, e1, h1⟩ := h 1 (by omega)
  obtain ⟨ls, e2, h2⟩ := h 2 (by omega)
  obtain ⟨ms, e3, h3⟩ := h 3 (by omega)
  have h4 : yR lo b w (f 4) := h 4 (by omega)
  obtain ⟨a, n, c, e4, -⟩ := h4.slice
  obtain ⟨to, e5, h5⟩ := h 5 (by omega)
  obtain ⟨rl, e6, h6⟩ := h 6 (by omega)
  obtain ⟨mu, e7⟩ := h 7 (by omega)
  obtain ⟨fx, e8⟩ := h 8 (by omega)
  obtain ⟨df, e9, h9⟩ := h 9 (by omega)
  obtain ⟨wg, e10, h10⟩ := h 10 (by omega)
  rw [e4] at h4
  exact ⟨nm, kd, ls, ms, a, n, c, to, rl, mu, fx, df, wg, by rw [e0, e1, e2, e3, e4, e5, e6, e7, e8, e9, e10], h0, h1, h2, h3, h4, h5, h6, h9, h10⟩
theorem zfU {lo b : Nat} {w : World} {cs : Array Value} (h0 : cs.size = 11) (h : ∀ j x, cs[j]? = some x -> zcd lo b w j x) : yD lo b w cs := by
  have e : cs = #[cs[0], cs[1], cs[2], cs[3], cs[4], cs[5], cs[6], cs[7], cs[8], cs[9], cs[10]] := by
    apply Array.ext
    · simpa using h0
    · intro i h1 h2
      have h3 : i < 11 := by omega
      rcases i with _ | _ | _ | _ | _ | _ | _ | _ | _ | _ | _ | i <;> first | rfl | omega
  have := ziU (lo := lo) (b := b) (w := w) (fun j => cs.getD j undef) (fun j hj => by
    have hl : j < cs.size := by omega
    refine h j _ ?_
    simp [Array.getD, hl])
  simp only [Array.getD, h0] at this
  rw [e]
  exact this
theorem yD.more {lo b b' : Nat} {w : World} {cs : Array Value} (h : yD lo b w cs) (hb : b <= b') : yD lo b' w cs :=
  zfU h.cell.1 fun j x hx => zfr hb j x (h.cell.2 j x hx)
theorem yD.set {lo b : Nat} {w : World} {cs : Array Value} (h : yD lo b w cs) {j : Nat} {v : Value} (hv : zcd lo b w j v) : yD lo b w (cs.setIfInBounds j v) :=
  zfU (by rw [Array.size_setIfInBounds]; exact h.cell.1) fun i x hx => by
    rw [Array.getElem?_setIfInBounds] at hx
    split at hx
    · rename_i e; subst e
      split at hx
      · cases hx; exact hv
      · cases hx
    · exact h.cell.2 i x hx
theorem yD.qw {lo b : Nat} {w w' : World} {cs : Array Value} (h : yD lo b w cs) (hk : ∀ v, yR lo b w v -> yR lo b w' v) : yD lo b w' cs := by
  obtain ⟨nm, kd, ls, ms, a, n, c, to, rl, mu, fx, df, wg, rfl, h1, h2, h3, h4, h5, h6⟩ := h
  exact ⟨nm, kd, ls, ms, a, n, c, to, rl, mu, fx, df, wg, rfl, h1, h2, h3, h4, hk _ h5, h6⟩
structure FB (lo b r : Nat) (w0 : World) (kR kF p : Nat) (w : World) : Prop where
  rd : yF w r p
  dr : Dr r w0 w
  c1 : r < lo
  c2 : lo <= w0.heap.size
  c3 : w0.heap.size <= kR
  c4 : kR ≠ kF
  c5 : w0.heap.size <= kF
  res : w.heap[kR]? = some (.cells #[.string ⟨#[]⟩, .int .i64 0, .int .i64 0, .int .i64 0, .slice none 0 0, .string ⟨#[]⟩, .int .i64 0, .bool false, .bool false, .string ⟨#[]⟩, .string ⟨#[]⟩] 63)
  ex : ∃ cs, w.heap[kF]? = some (.cells cs 63) /\ yD lo b w cs
theorem FB.call {lo b r : Nat} {w0 : World} {kR kF p p' : Nat} {w w' : World} (h : FB lo b r w0 kR kF p w) (hr : yF w' r p') (hd : Dr r w w') : FB lo b r w0 kR kF p' w' := by
  obtain ⟨cs, h1, h2⟩ := h.ex
  have e1 := h.c1; have e2 := h.c2; have e3 := h.c3; have e4 := h.c4; have e5 := h.c5
  exact ⟨hr, jq h.dr hd, e1, e2, e3, e4, e5, (zH hd (Array.getElem?_eq_some_iff.1 h.res).1 (by omega)).trans h.res, cs, (zH hd (Array.getElem?_eq_some_iff.1 h1).1 (by omega)).trans h1, h2.keep (zN e1 hd)⟩
theorem FB.alloc {lo b r : Nat} {w0 : World} {kR kF p : Nat} {w : World} (h : FB lo b r w0 kR kF p w) (o : Obj) : FB lo b r w0 kR kF p (w.alloc o) :=
  h.call (h.rd.mono ((Below.refl _ _).alloc (Nat.le_refl _) _)) (qV ((Below.refl _ _).alloc (Nat.le_refl _) _))
theorem FB.drew {lo b r : Nat} {w0 : World} {kR kF p : Nat} {w : World} (h : FB lo b r w0 kR kF p w) : FB lo b r w0 kR kF p w.drew :=
  h.call (h.rd.mono (Below.refl _ _).drew) (qV (Below.refl _ _).drew)
theorem FB.more {lo b b' r : Nat} {w0 : World} {kR kF p : Nat} {w : World} (h : FB lo b r w0 kR kF p w) (hb : b <= b') : FB lo b' r w0 kR kF p w := by
  obtain ⟨cs, h1, h2⟩ := h.ex
  exact ⟨h.rd, h.dr, h.c1, h.c2, h.c3, h.c4, h.c5, h.res, cs, h1, h2.more hb⟩
theorem FB.set {lo b r : Nat} {w0 : World} {kR kF p : Nat} {w : World} (h : FB lo b r w0 kR kF p w) {j : Nat} {v : Value} (hj : j < 11) (hv : zcd lo b w j v) : FB lo b r w0 kR kF p (w.setCell ⟨kF, j, none⟩ v) := by
  obtain ⟨cs, h1, h2⟩ := h.ex
  have e1 := h.c1; have e2 := h.c2; have e3 := h.c3; have e4 := h.c4; have e5 := h.c5
  have hk : Keep lo b w (w.setCell ⟨kF, j, none⟩ v) := zaO h1 ⟨fun e => by simp at e, fun _ => by rw [Nat.mod_eq_of_lt hj]; exact hv, fun e => by simp at e, fun e => by simp at e, fun e => by simp at e, fun e => by simp at e⟩
  exact ⟨zja h.rd (by omega), zi9 h.dr (by omega), e1, e2, e3, e4, e5, (yt (by omega)).trans h.res, _, zu h1 v, (h2.set hv).keep hk⟩
theorem FB.open {lo b r : Nat} {w0 : World} {kR kF p : Nat} {w : World} (h : FB lo b r w0 kR kF p w) : ∃ (nm : ByteArray) (kd ls ms : Int) (a : Option Addr) (n c : Nat) (to : ByteArray) (rl : Int) (mu fx : Bool) (df wg : ByteArray), w.heap[kF]? = some (.cells #[.string nm, .int .i64 kd, .int .i64 ls, .int .i64 ms, .slice a n c, .string to, .int .i64 rl, .bool mu, .bool fx, .string df, .string wg] 63) /\ kF < w.heap.size /\ Hid (yD lo b w #[.string nm, .int .i64 kd, .int .i64 ls, .int .i64 ms, .slice a n c, .string to, .int .i64 rl, .bool mu, .bool fx, .string df, .string wg]) /\ (-(b : Int) <= ls /\ ls <= b) /\ (-(b : Int) <= ms /\ ms <= b) /\ Hid (yR lo b w (.slice a n c)) := by
  obtain ⟨cs, h1, h2⟩ := h.ex
  obtain ⟨nm, kd, ls, ms, a, n, c, to, rl, mu, fx, df, wg, rfl, g1, g2, g3, g4, g5, g6⟩ := id h2
  exact ⟨nm, kd, ls, ms, a, n, c, to, rl, mu, fx, df, wg, h1, (Array.getElem?_eq_some_iff.1 h1).1, h2, g3, g4, g5⟩
end Go.Proofs.YtmfgjafdnopfbaaGreat

namespace Go.Proofs.YtmfgjafdnopfbaaGreat
open Go.RowKit
set_option maxHeartbeats 400000 in
theorem qx (a : Option Addr) (cap : Nat) (fs : List Fld) (v : ByteArray) (w : World) (hw : yc w a fs) :
    Calls Tryz.prog 68 #[.slice a fs.length cap, .string v] w fun e w' => e = .returned (.int .i64 (Gate.zG fs v)) /\ w' = w := by
  have hl := hw.len
  unfold maxLen at hl
  go_enter Tryz.func68, Tryz.ntmps68
  go_wp2
  go_loop [5] (fun i => ∃ k : Nat, k <= fs.length /\ i = .int .i64 k /\ Gate.hasName (fs.take k) v = false) (fun i => fs.length - (intOf i).toNat)
  case atStart => exact ⟨0, Nat.zero_le _, rfl, rfl⟩
  case round =>
    obtain ⟨k, hk, rfl, hno⟩ := hrel
    by_cases hlt : k < fs.length
    · obtain ⟨b, off, rfl, hb, hr⟩ := hw.rows (by rintro rfl; simp at hlt)
      obtain ⟨wa, wcap, hf⟩ := hr k hlt
      obtain ⟨c0, c1, c2, c3, c4, c5, c6, c7, c8, c9, c10⟩ := hf.load
      clear hw hr hf c1 c2 c3 c4 c5 c6 c7 c8 c9 c10
      by_cases he : fs[k].nm = v
      · have hbe : (fs[k].nm.toList == v.toList) = true := by rw [Gate.beq_toList]; simpa using he
        have HB : Hid (Gate.zG fs v = (k : Int)) := Gate.zaz fs v k hlt hno he
        clear he hno
        go_wp2
        go_ret
        exact ⟨by rw [HB.out]; rfl, rfl⟩
      · have hbe : (fs[k].nm.toList == v.toList) = false := by rw [Gate.beq_toList]; simpa using he
        have HS : Hid (Gate.hasName (fs.take (k + 1)) v = false) := by unfold Hid; rw [Gate.zaX fs v k hlt, hno, decide_eq_false he]; rfl
        clear he hno
        go_wp2
        go_round
        case rel => exact ⟨k + 1, by omega, by go_num, HS.out⟩
        case measure => simp [intOf]; omega
    · have HA : Hid (Gate.zG fs v = -1) := Gate.zaV fs v (by rw [<- Gate.zcm fs v k (by omega)]; exact hno)
      clear hno hw
      go_wp2
      go_ret
      exact ⟨by rw [HA.out]; rfl, rfl⟩
set_option maxHeartbeats 1000000 in
theorem zx (a : Option Addr) (cap : Nat) (fs : List Fld) (v : ByteArray) (w : World) (hw : yc w a fs) :
    Calls Tryz.prog 66 #[.slice a fs.length cap, .string v] w fun e w' => e = .returned (.bool (Gate.plain fs v)) /\ Below w.heap.size w w' := by
  have hl := hw.len
  unfold maxLen at hl
  rcases Gate.qI fs v with ⟨h1, h2⟩ | ⟨i, hi, h1, h2, h3⟩
  · have HP : Hid (Gate.plain fs v = false) := Gate.jI h2
    go_enter Tryz.func66, Tryz.ntmps66
    go_wp2_with fail
    have h := qx a cap fs v w hw
    rw [h1] at h
    refine h.mono ?_
    rintro e w1 ⟨rfl, rfl⟩
    clear h
    go_wp2_with fail
    go_ret
    exact ⟨by rw [HP.out]; rfl, Below.refl _ _⟩
  · have HP : Hid (Gate.plain fs v = decide (fs[i].kd ≠ 4)) := Gate.zev h3
    obtain ⟨b, off, rfl, hb, hr⟩ := hw.rows (by rintro rfl; simp at hi)
    obtain ⟨wa, wcap, hf0⟩ := hr i hi
    go_enter Tryz.func66, Tryz.ntmps66
    go_wp2_with fail
    have h := qx (some ⟨b, off, none⟩) cap fs v w hw
    rw [h1] at h
    refine h.mono ?_
    rintro e w1 ⟨rfl, rfl⟩
    obtain ⟨c0, c1, c2, c3, c4, c5, c6, c7, c8, c9, c10⟩ := hf0.load
    have hiI : (i : Int) < (fs.length : Int) := by omega
    have hge : decide ((i : Int) ≥ 0) = true := by simp
    clear h hw hr hf0 h3 h2 h1
    go_wp2_with fail
    go_ret
    exact ⟨by rw [HP.out]; exact zi1 fs[i].kd, Below.refl _ _⟩
namespace Gate
def yI (fs : List Fld) (m : Mnd) : Bool :=
  plain fs m.fd && (!isSet m.wh || plain fs m.wh) && (!isSet m.fr || plain fs m.fr) && !decide (m.wh = m.fd) && !decide (m.fr = m.fd) && yw fs m
theorem zhR (s : ByteArray) : isSet s = true ↔ s ≠ ByteArray.empty := by
  unfold isSet
  rw [zW]
  constructor
  · intro h e; subst e; simp at h
  · intro h
    simp only [Bool.not_eq_true', decide_eq_false_iff_not]
    intro h0
    apply h
    have : s.data.size = 0 := h0
    cases s with
    | mk d => simp only at this; have := Array.eq_empty_of_size_eq_zero this; subst this; rfl
end Gate
end Go.Proofs.YtmfgjafdnopfbaaGreat

namespace Go.Proofs.YtmfgjafdnopfbaaGreat
open Go.RowKit
set_option maxRecDepth 20000 in
set_option maxHeartbeats 4000000 in
theorem zca (a a' : Option Addr) (cap cap' : Nat) (ss : List Shp) (ms : List Mnd) (w : World) (hw : yG w a ss) (hm : qg w a' ms) (hml : ms.length <= 1048576) :
    Calls Tryz.prog 8 #[.slice a ss.length cap, .slice a' ms.length cap'] w fun e w' => e = .returned (.bool (Gate.yh ss ms)) /\ Below w.heap.size w w' := by
  have HW := qO hw hm
  have hl := hw.len
  unfold maxLen at hl
  clear hw hm
  by_cases h12 : ms.length <= 12
  rotate_left
  · have HF : Hid (Gate.yh ss ms = false) := by unfold Hid Gate.yh; rw [decide_eq_false h12]; simp
    go_enter Tryz.func8, Tryz.ntmps8
    go_wp2_with fail
    go_ret
    exact ⟨by rw [HF.out]; rfl, Below.refl _ _⟩
  have h12I : (ms.length : Int) <= 12 := by omega
  by_cases hok : Gate.zT ss = true
  rotate_left
  · have hokf : Gate.zT ss = false := by simpa using hok
    have HF : Hid (Gate.yh ss ms = false) := by unfold Hid Gate.yh; rw [hokf]; simp
    go_enter Tryz.func8, Tryz.ntmps8
    go_wp2_with fail
    have h := jG a cap ss w HW.out.1
    rw [hokf] at h
    refine h.mono ?_
    rintro e w1 ⟨rfl, hb1⟩
    clear h
    go_wp2_with fail
    go_ret
    exact ⟨by rw [HF.out]; rfl, hb1⟩
  have HOK := hid hok
  go_enter Tryz.func8, Tryz.ntmps8
  go_wp2_with fail
  have h := jG a cap ss w HW.out.1
  rw [hok] at h
  refine h.mono ?_
  rintro e w1 ⟨rfl, hb1⟩
  have HB1 := hid hb1
  clear h hb1 hok
  go_wp2_with fail
  refine (zcu _).mono ?_
  rintro e w2 ⟨rfl, hw2⟩
  have HB2 : Hid (Below w.heap.size w w2 /\ w2.heap[w1.heap.size]? = some (.map yU 4) /\ w1.heap.size < w2.heap.size) := by
    rw [hw2]; exact ⟨HB1.out.trans (((Below.refl _ _).alloc (Nat.le_refl _) _).mono HB1.out.size), alloc_at _ _, by simp⟩
  clear hw2
  go_wp2_with fail
  go_loopw [25] (fun iv wr => ∃ k : Nat, k <= ms.length /\ iv = .int .i64 k /\ (ms.take k).all (Gate.qZ ss) = true /\ Below w2.heap.size w2 wr) (fun iv _ => ms.length - (intOf iv).toNat)
  case atStart => exact ⟨0, Nat.zero_le _, rfl, rfl, Below.refl _ _⟩
  case round =>
    obtain ⟨k, hk, rfl, hall, hB⟩ := hrel
    have HB := qO hB (HB2.out.1.trans (hB.mono HB2.out.1.size))
    have HA := hid hall
    clear hall hB
    by_cases hlt : k < ms.length
    · obtain ⟨b, off, rfl, hb, c0, c1, c2, c3, c4, c5⟩ := HW.out.2.load HB.out.2 k hlt
      have hltI : (k : Int) < (ms.length : Int) := by omega
      have hsm := HW.out.2.small k hlt
      have HTK : Hid ((ms.take (k + 1)).all (Gate.qZ ss) = Gate.qZ ss ms[k]) := by
        unfold Hid; rw [List.take_succ_eq_append_getElem hlt, List.all_append, HA.out]; simp
      have HNO : Hid (Gate.qZ ss ms[k] = false -> Gate.yh ss ms = false) := by
        intro h
        have : ms.all (Gate.qZ ss) = false := by rw [List.all_eq_false]; exact ⟨_, List.getElem_mem hlt, by rw [h]; simp⟩
        unfold Gate.yh; rw [this]; simp
      have hba := (Below.refl wr.heap.size wr).alloc (Nat.le_refl _) (.cells #[.string ms[k].kd, .string ms[k].fd, .string ms[k].wh, .string ms[k].wi, .string ms[k].pt, .string ms[k].fr] 56)
      have HSM := hid hsm
      clear hsm
      go_wp2_with fail
      have h := qN a cap ss ms[k].kd _ (HW.out.1.mono (HB.out.2.trans (hba.mono HB.out.2.size)))
      by_cases hkk : Gate.zy ss ms[k].kd = true
      rotate_left
      · have hkf : Gate.zy ss ms[k].kd = false := by simpa using hkk
        rw [hkf] at h
        refine h.mono ?_
        rintro e w3 ⟨fa, fcap, rfl, hfl, hb3⟩
        have HF := qO (HNO.out (by unfold Gate.qZ; rw [hkf]; rfl)) (HB.out.2.trans ((hba.trans (hb3.mono hba.size)).mono HB.out.2.size))
        clear h hba hfl hb3 c0 c1 c2 c3 c4 c5
        go_wp2_with fail
        go_ret
        exact ⟨by rw [HF.out.1]; rfl, HF.out.2.alloc HF.out.2.size _⟩
      rw [hkk] at h
      refine h.mono ?_
      rintro e w3 ⟨fa, fcap, rfl, hfl, hb3⟩
      have hX3 := ze (zo wr _ _) (by simp) hb3
      have hz3 : wr.heap.size < w3.heap.size := by have := hb3.size; simp at this; omega
      have HB3 := hid (hba.trans (hb3.mono hba.size))
      have hbs := (Below.refl w3.heap.size w3).alloc (Nat.le_refl _) (.cells #[.string (Gate.shapeOf ss ms[k].kd).kd, .slice fa (Gate.shapeOf ss ms[k].kd).fs.length fcap] 45)
      have HB4 := hid (HB3.out.trans (hbs.mono HB3.out.size))
      have HFL := hid ((hfl.mono hb3).mono hbs)
      have HMA : Hid (Gate.qZ ss ms[k] = Gate.jk (Gate.shapeOf ss ms[k].kd).fs ms[k]) := by unfold Hid Gate.qZ; rw [hkk]; simp
      have HRM : Hid ((w3.alloc (.cells #[.string (Gate.shapeOf ss ms[k].kd).kd, .slice fa (Gate.shapeOf ss ms[k].kd).fs.length fcap] 45)).heap[w1.heap.size]? = some (.map yU 4)) := by
        have h1 := HB.out.1.size
        have h2 := HB2.out.2.2
        exact (HB4.out.block w1.heap.size (by omega)).trans ((HB.out.1.block w1.heap.size h2).trans HB2.out.2.1)
      clear h hba hfl hb3 hbs hkk c0 c1 c2 c3 c4 c5
      go_wp2_with fail
      have h := zg4 w1.heap.size fa fcap (Gate.shapeOf ss ms[k].kd).fs ms[k] _ HRM.out HFL.out HSM.out
      by_cases hmo : Gate.jk (Gate.shapeOf ss ms[k].kd).fs ms[k] = true
      · rw [hmo] at h
        refine h.mono ?_
        rintro e w5 ⟨rfl, hb5⟩
        have HY : Hid ((ms.take (k + 1)).all (Gate.qZ ss) = true /\ Below w2.heap.size w2 w5) := ⟨by rw [HTK.out, HMA.out]; exact hmo, HB.out.1.trans ((HB4.out.trans (hb5.mono HB4.out.size)).mono HB.out.1.size)⟩
        clear h hb5 hmo hX3
        go_wp2_with fail
        exact ⟨⟨k + 1, by omega, by go_num, HY.out.1, HY.out.2⟩, z8 hlt⟩
      · have hmf : Gate.jk (Gate.shapeOf ss ms[k].kd).fs ms[k] = false := by simpa using hmo
        rw [hmf] at h
        refine h.mono ?_
        rintro e w5 ⟨rfl, hb5⟩
        have HF := qO (HNO.out (by rw [HMA.out]; exact hmf)) (HB.out.2.trans ((HB4.out.trans (hb5.mono HB4.out.size)).mono HB.out.2.size))
        clear h hb5 hmo hX3
        go_wp2_with fail
        go_ret
        exact ⟨by rw [HF.out.1]; rfl, HF.out.2⟩
    · have e : k = ms.length := by omega
      have hall := HA.out
      rw [e, List.take_of_length_le (Nat.le_refl _)] at hall
      have HALL := hid hall
      subst e
      clear hall HA
      go_wp2_with fail
      have HBw := hid HB.out.2
      clear HB
      go_loopw [49] (fun iv wq => ∃ k : Nat, k <= ss.length /\ iv = .int .i64 k /\ (ss.take k).all (Gate.rowOk ms) = true /\ Below w.heap.size w wq) (fun iv _ => ss.length - (intOf iv).toNat)
      case atStart => exact ⟨0, Nat.zero_le _, rfl, rfl, HBw.out⟩
      case round =>
        obtain ⟨k, hk, rfl, hall, hB⟩ := hrel
        have HB := hid hB
        have HA := hid hall
        clear hall hB
        by_cases hlt : k < ss.length
        · obtain ⟨b, off, rfl, hb, hr⟩ := HW.out.1.rows (by rintro rfl; simp at hlt)
          obtain ⟨fa, fcap, hs0⟩ := hr k hlt
          have hs := hs0.mono hb HB.out
          have hck := hs.kind
          have hcl := hs.list
          have hfl := hs.flds
          have hltI : (k : Int) < (ss.length : Int) := by omega
          have HTK : Hid ((ss.take (k + 1)).all (Gate.rowOk ms) = Gate.rowOk ms ss[k]) := by
            unfold Hid; rw [List.take_succ_eq_append_getElem hlt, List.all_append, HA.out]; simp
          have HNO : Hid (Gate.rowOk ms ss[k] = false -> Gate.yh ss ms = false) := by
            intro h
            have : ss.all (Gate.rowOk ms) = false := by rw [List.all_eq_false]; exact ⟨_, List.getElem_mem hlt, by rw [h]; simp⟩
            unfold Gate.yh; rw [this]; simp
          have hba := (Below.refl wr.heap.size wr).alloc (Nat.le_refl _) (.cells #[.string ss[k].kd, .slice fa ss[k].fs.length fcap] 45)
          have HFL := hid (hfl.mono hba)
          have HBA : Hid (Below w.heap.size w (wr.alloc (.cells #[.string ss[k].kd, .slice fa ss[k].fs.length fcap] 45))) := HB.out.trans (hba.mono HB.out.size)
          clear hr hs0 hs hfl hba
          go_wp2_with fail
          have h := zdQ ss[k] ms a' fa cap' fcap _ (HW.out.2.mono HBA.out) HFL.out hml (Gate.zc4 HOK.out k hlt) (Gate.zdj HOK.out HALL.out k hlt)
          by_cases hrk : Gate.rowOk ms ss[k] = true
          · have hrk' : (Gate.zA (Gate.zi ss[k] ms) ss[k].fs.length).1 = true := hrk
            refine h.mono ?_
            rintro e w5 ⟨v5, rfl, hb5, _⟩
            have HY : Hid ((ss.take (k + 1)).all (Gate.rowOk ms) = true /\ Below w.heap.size w w5) := ⟨by rw [HTK.out]; exact hrk, HBA.out.trans (hb5.mono HBA.out.size)⟩
            rw [hrk']
            clear h hb5 hrk hrk' hck hcl
            go_wp2_with fail
            exact ⟨⟨k + 1, by omega, by go_num, HY.out.1, HY.out.2⟩, z8 hlt⟩
          · have hrf : Gate.rowOk ms ss[k] = false := by simpa using hrk
            have hrk' : (Gate.zA (Gate.zi ss[k] ms) ss[k].fs.length).1 = false := hrf
            refine h.mono ?_
            rintro e w5 ⟨v5, rfl, hb5, _⟩
            have HF : Hid (Gate.yh ss ms = false /\ Below w.heap.size w w5) := ⟨HNO.out hrf, HBA.out.trans (hb5.mono HBA.out.size)⟩
            rw [hrk']
            clear h hb5 hrk hrk' hck hcl
            go_wp2_with fail
            go_ret
            exact ⟨by rw [HF.out.1]; rfl, HF.out.2⟩
        · have e : k = ss.length := by omega
          have hall := HA.out
          rw [e, List.take_of_length_le (Nat.le_refl _)] at hall
          have HF : Hid (Gate.yh ss ms = true) := by unfold Hid Gate.yh; rw [HALL.out, HOK.out, hall, decide_eq_true h12]; rfl
          subst e
          clear hall HA
          go_wp2_with fail
          go_ret
          exact ⟨by rw [HF.out]; rfl, HB.out⟩
end Go.Proofs.YtmfgjafdnopfbaaGreat
