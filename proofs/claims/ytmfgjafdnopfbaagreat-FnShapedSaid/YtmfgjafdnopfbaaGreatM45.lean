import Derived.Test.YtmfgjafdnopfbaaGreatM44
namespace Go.Proofs.YtmfgjafdnopfbaaGreat
open Go.RowKit
def ObA (lo b : Nat) (w : World) (cs : Array Value) : Prop := ∃ (kd nm tm : ByteArray) (va : Option Addr) (vn vc : Nat) (en : Bool) (ha : Option Addr) (hn hc : Nat) (vr : Int), cs = #[.string kd, .string nm, .string tm, .slice va vn vc, .bool en, .slice ha hn hc, .int .i64 vr] /\ kd.size <= 4000000 /\ nm.size <= 4000000 /\ tm.size <= 4000000 /\ yR lo b w (.slice va vn vc) /\ yR lo b w (.slice ha hn hc) /\ (-(b : Int) <= vr /\ vr <= b)
theorem ObA.cell {lo b : Nat} {w : World} {cs : Array Value} (h : ObA lo b w cs) : cs.size = 7 /\ ∀ j x, cs[j]? = some x -> ObC lo b w j x := by
  obtain ⟨kd, nm, tm, va, vn, vc, en, ha, hn, hc, vr, rfl, h1, h2, h3, h4, h5, h6⟩ := h
  refine ⟨rfl, fun j x hx => ?_⟩
  rcases j with _ | _ | _ | _ | _ | _ | _ | j <;> simp at hx <;> subst hx
  · exact ⟨_, rfl, h1⟩
  · exact ⟨_, rfl, h2⟩
  · exact ⟨_, rfl, h3⟩
  · exact h4
  · exact ⟨_, rfl⟩
  · exact h5
  · exact ⟨_, rfl, h6.1, h6.2⟩
theorem zi5 {lo b : Nat} {w : World} {cs : Array Value} (h0 : cs.size = 7) (h : ∀ j x, cs[j]? = some x -> ObC lo b w j x) : ObA lo b w cs := by
  have hg : ∀ j (hj : j < 7), ObC lo b w j (cs[j]'(by omega)) := fun j hj => h j _ (Array.getElem?_eq_getElem (by omega))
  have e : cs = #[cs[0], cs[1], cs[2], cs[3], cs[4], cs[5], cs[6]] := by
    apply Array.ext
    · simpa using h0
    · intro i h1 h2
      have h3 : i < 7 := by omega
      rcases i with _ | _ | _ | _ | _ | _ | _ | i <;> first | rfl | omega
  obtain ⟨kd, e0, h0'⟩ := hg 0 (by omega)
  obtain ⟨nm, e1, h1⟩ := hg 1 (by omega)
  obtain ⟨tm, e2, h2⟩ := hg 2 (by omega)
  have h3 : yR lo b w _ := hg 3 (by omega)
  obtain ⟨va, vn, vc, e3, -⟩ := h3.slice
  obtain ⟨en, e4⟩ := hg 4 (by omega)
  have h5 : yR lo b w _ := hg 5 (by omega)
  obtain ⟨ha, hn, hc, e5, -⟩ := h5.slice
  obtain ⟨vr, e6, h6⟩ := hg 6 (by omega)
  rw [e3] at h3
  rw [e5] at h5
  exact ⟨kd, nm, tm, va, vn, vc, en, ha, hn, hc, vr, by rw [e, e0, e1, e2, e3, e4, e5, e6], h0', h1, h2, h3, h5, h6⟩
theorem ObA.qw {lo b : Nat} {w w' : World} {cs : Array Value} (h : ObA lo b w cs) (hk : ∀ v, yR lo b w v -> yR lo b w' v) : ObA lo b w' cs := by
  obtain ⟨kd, nm, tm, va, vn, vc, en, ha, hn, hc, vr, rfl, h1, h2, h3, h4, h5, h6⟩ := h
  exact ⟨kd, nm, tm, va, vn, vc, en, ha, hn, hc, vr, rfl, h1, h2, h3, hk _ h4, hk _ h5, h6⟩
theorem ObA.low {lo lo2 b : Nat} {w : World} {cs : Array Value} (h : ObA lo b w cs) (hl : lo2 <= lo) : ObA lo2 b w cs := by
  obtain ⟨kd, nm, tm, va, vn, vc, en, ha, hn, hc, vr, rfl, h1, h2, h3, h4, h5, h6⟩ := h
  exact ⟨kd, nm, tm, va, vn, vc, en, ha, hn, hc, vr, rfl, h1, h2, h3, h4.low hl, h5.low hl, h6⟩
theorem ObA.set {lo b : Nat} {w : World} {cs : Array Value} (h : ObA lo b w cs) {j : Nat} {v : Value} (hv : ObC lo b w j v) : ObA lo b w (cs.setIfInBounds j v) :=
  zi5 (by rw [Array.size_setIfInBounds]; exact h.cell.1) fun i x hx => by
    rw [Array.getElem?_setIfInBounds] at hx
    split at hx
    · rename_i e; subst e
      split at hx
      · cases hx; exact hv
      · cases hx
    · exact h.cell.2 i x hx
structure OB (lo b r : Nat) (w0 : World) (kR kO p : Nat) (w : World) : Prop where
  st : St lo r w0 p w
  c3 : lo <= kR
  c4 : kR ≠ kO
  c5 : lo <= kO
  res : w.heap[kR]? = some (.cells #[.string ⟨#[]⟩, .string ⟨#[]⟩, .string ⟨#[]⟩, .slice none 0 0, .bool false, .slice none 0 0, .int .i64 0] 27)
  ex : ∃ cs, w.heap[kO]? = some (.cells cs 27) /\ ObA lo b w cs
theorem OB.go {lo b r : Nat} {w0 : World} {kR kO p p' : Nat} {w w' : World} (h : OB lo b r w0 kR kO p w) (hS : St lo r w0 p' w') (hk : ∀ (k : Nat) (C : Array Value), lo <= k -> w.heap[k]? = some (.cells C 27) -> w'.heap[k]? = some (.cells C 27)) (hT : ∀ v, yR lo b w v -> yR lo b w' v) : OB lo b r w0 kR kO p' w' := by
  obtain ⟨cs, h1, h2⟩ := h.ex
  exact ⟨hS, h.c3, h.c4, h.c5, hk _ _ h.c3 h.res, cs, hk _ _ h.c5 h1, h2.qw hT⟩
theorem OB.call {lo b r : Nat} {w0 : World} {kR kO p p' : Nat} {w w' : World} (h : OB lo b r w0 kR kO p w) (hr : yF w' r p') (hd : Dr r w w') : OB lo b r w0 kR kO p' w' :=
  h.go (h.st.call hr hd) (fun k _ hl hk => (zH hd (Array.getElem?_eq_some_iff.1 hk).1 (by have := h.st.c1; omega)).trans hk) (zN (b := b) h.st.c1 hd).s
theorem OB.below {lo b r : Nat} {w0 : World} {kR kO p : Nat} {w w' : World} (h : OB lo b r w0 kR kO p w) (hb : Below w.heap.size w w') : OB lo b r w0 kR kO p w' :=
  h.call (h.st.rd.mono hb) (qV hb)
theorem OB.alloc {lo b r : Nat} {w0 : World} {kR kO p : Nat} {w : World} (h : OB lo b r w0 kR kO p w) (o : Obj) : OB lo b r w0 kR kO p (w.alloc o) := h.below ((Below.refl _ _).alloc (Nat.le_refl _) _)
theorem OB.drew {lo b r : Nat} {w0 : World} {kR kO p : Nat} {w : World} (h : OB lo b r w0 kR kO p w) : OB lo b r w0 kR kO p w.drew := h.below (Below.refl _ _).drew
theorem zaN {lo b : Nat} {w : World} {k o : Nat} {v : Value} {C : Array Value} (hk : w.heap[k]? = some (.cells C 27)) (h : ObC lo b w (o % 7) v) : Keep lo b w (w.setCell ⟨k, o, none⟩ v) :=
  zaO hk ⟨fun e => by simp at e, fun e => by simp at e, fun e => by simp at e, fun e => by simp at e, fun _ => h, fun e => by simp at e⟩
theorem OB.set {lo b r : Nat} {w0 : World} {kR kO p : Nat} {w : World} (h : OB lo b r w0 kR kO p w) {j : Nat} {v : Value} (hj : j < 7) (hv : ObC lo b w j v) : OB lo b r w0 kR kO p (w.setCell ⟨kO, j, none⟩ v) := by
  obtain ⟨cs, h1, h2⟩ := h.ex
  exact ⟨h.st.set h.c5, h.c3, h.c4, h.c5, (yt h.c4).trans h.res, _, zu h1 v, (h2.set hv).qw (zaN h1 (by rw [Nat.mod_eq_of_lt hj]; exact hv)).s⟩
theorem OB.open {lo b r : Nat} {w0 : World} {kR kO p : Nat} {w : World} (h : OB lo b r w0 kR kO p w) : ∃ (kd nm tm : ByteArray) (va : Option Addr) (vn vc : Nat) (en : Bool) (ha : Option Addr) (hn hc : Nat) (vr : Int), w.heap[kO]? = some (.cells #[.string kd, .string nm, .string tm, .slice va vn vc, .bool en, .slice ha hn hc, .int .i64 vr] 27) /\ kO < w.heap.size /\ Hid (ObA lo b w #[.string kd, .string nm, .string tm, .slice va vn vc, .bool en, .slice ha hn hc, .int .i64 vr]) /\ Hid (yR lo b w (.slice va vn vc)) := by
  obtain ⟨cs, h1, h2⟩ := h.ex
  obtain ⟨kd, nm, tm, va, vn, vc, en, ha, hn, hc, vr, rfl, g1, g2, g3, g4, g5⟩ := id h2
  exact ⟨kd, nm, tm, va, vn, vc, en, ha, hn, hc, vr, h1, (Array.getElem?_eq_some_iff.1 h1).1, h2, g4⟩
end Go.Proofs.YtmfgjafdnopfbaaGreat
