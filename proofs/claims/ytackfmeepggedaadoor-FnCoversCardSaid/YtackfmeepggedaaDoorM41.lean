import Derived.Test.YtackfmeepggedaaDoorM40
namespace Go.Proofs.YtackfmeepggedaaDoor
open Go.RowKit

/-- What is kept while rules are drawn. -/
structure CovI (r k7 : Nat) (w0 w : World) (p : Nat) (at' : Option Addr) (nt ct : Nat) (ss : List ByteArray) (q : Rl) (gq cq : Nat) (a : Option Addr) (cap : Nat) (xs : List RlE) : Prop where
  rd : RdAt w r p
  tm : TeamRow (r + 1) w at' nt ct ss
  rl : RlDrew (r + 1) w q gq cq
  b7 : w.heap[k7]? = some (.cells (q.cells (some ⟨gq, 0, none⟩) cq) 27)
  rs : RuleRow (k7 + 1) w a cap xs
  nn : a ≠ none
  b4 : w.heap[w0.heap.size]? = some (.cells #[.slice none 0 0, .string ByteArray.empty, .string ByteArray.empty, .string ByteArray.empty] 27)
  l7 : r < k7
  l4 : w0.heap.size < r
  b : Below w0.heap.size w0 w
theorem covI_dr {r k7 : Nat} {w0 w : World} {p : Nat} {at' : Option Addr} {nt ct : Nat} {ss : List ByteArray} {q : Rl} {gq cq : Nat} {a : Option Addr} {cap : Nat} {xs : List RlE} {w' : World} {p' : Nat} (h : CovI r k7 w0 w p at' nt ct ss q gq cq a cap xs) (hd : Dr r w w') (hr : RdAt w' r p') : CovI r k7 w0 w' p' at' nt ct ss q gq cq a cap xs := by
  have h7 := (Array.getElem?_eq_some_iff.1 h.b7).1
  have h4 := (Array.getElem?_eq_some_iff.1 h.b4).1
  have l7 := h.l7
  have l4 := h.l4
  exact ⟨hr, h.tm.dr hd (by omega), rlDrew_dr h.rl hd (by omega), (dr_block hd h7 (by omega)).trans h.b7, ruleRow_dr h.rs hd (by omega), h.nn, (dr_block hd h4 (by omega)).trans h.b4, l7, l4, h.b.trans (dr_back hd (by omega) (by omega))⟩
theorem grown_at {w w' : World} {o : Obj} {row : Option Nat} {k : Nat} (hg : (w.alloc o).grownBy w' row) (hk : k < w.heap.size) (h : ∀ g, row = some g → k ≠ g) : w'.heap[k]? = w.heap[k]? :=
  (grown_block hg (by simp; omega) h).trans (Below.heap_alloc _ _ _ hk)
theorem covI_more {r k7 : Nat} {w0 w : World} {p : Nat} {at' : Option Addr} {nt ct : Nat} {ss : List ByteArray} {q : Rl} {gq cq : Nat} {a : Option Addr} {cap : Nat} {xs : List RlE} {w' : World} {a' : Option Addr} {cap' : Nat} {x : RlE} {o : Obj} (h : CovI r k7 w0 w p at' nt ct ss q gq cq a cap xs) (hx : RlEnt (k7 + 1) w x.q x.g x.cap) (ho : w'.ownsRow (k7 + 1) 27 4 (.slice a' (xs.length + 1) cap') (xs.length + 1) (xs.flatMap RlE.row ++ x.row)) (hn : a' ≠ none) (hg : (w.alloc o).grownBy w' (Value.slice a xs.length cap).ownBlock) : CovI r k7 w0 w' p at' nt ct ss q gq cq a' cap' (xs ++ [x]) := by
  have h7 := (Array.getElem?_eq_some_iff.1 h.b7).1
  have h4 := (Array.getElem?_eq_some_iff.1 h.b4).1
  have l7 := h.l7
  have l4 := h.l4
  have hlo : ∀ g, (Value.slice a xs.length cap).ownBlock = some g → k7 + 1 ≤ g := fun g hg => (h.rs.own.lt g hg).1
  have hty : ∀ g, (Value.slice a xs.length cap).ownBlock = some g → ∃ cur, w.heap[g]? = some (.cells cur 27) := fun g hg => by
    obtain ⟨_, ⟨h0, _⟩ | ⟨g', cp, cur, e', _, h2, _⟩⟩ := id h.rs.own
    · rw [h0] at hg; cases hg
    · rw [e'] at hg; cases hg; exact ⟨cur, h2⟩
  have hb : Below (k7 + 1) w w' := grown_b (Below.refl (k7 + 1) w) (by omega) hg hlo
  have hsame : ∀ (e : TypeId) (k : Nat) (cur : Array Value), w.heap[k]? = some (.cells cur e) → e ≠ 27 → w'.heap[k]? = w.heap[k]? := fun e k cur hk he => grown_at hg (Array.getElem?_eq_some_iff.1 hk).1 (fun g hgg e' => by
    subst e'
    obtain ⟨c2, h2⟩ := hty k hgg
    rw [h2] at hk
    simp at hk
    exact he hk.2.symm)
  refine ⟨h.rd.keep (hb.mono (by omega)), ⟨ownsRow_same h.tm.own fun g hgg => ?_, h.tm.small⟩, ⟨h.rl.small, h.rl.px, h.rl.len, ownsRow_same h.rl.own fun g hgg => ?_⟩, (hb.block k7 (by omega)).trans h.b7, ruleRow_more h.rs hx ho hg, hn, (hb.block _ (by omega)).trans h.b4, l7, l4, h.b.trans (hb.mono (by omega))⟩
  · obtain ⟨_, ⟨h0, _⟩ | ⟨g', cp, cur, e', _, h2, _⟩⟩ := id h.tm.own
    · rw [h0] at hgg; cases hgg
    · rw [e'] at hgg; cases hgg; exact hsame 69 g' cur h2 (by decide)
  · cases hgg
    obtain ⟨cur, h2⟩ := owns_heap h.rl.own
    exact hsame 3 gq cur h2 (by decide)
theorem cell_s4 {k k' j : Nat} {w : World} (h : k ≠ k') (a b c d : Value) : ((((w.setCell ⟨k', 0, none⟩ a).setCell ⟨k', 1, none⟩ b).setCell ⟨k', 2, none⟩ c).setCell ⟨k', 3, none⟩ d).drew.cell? ⟨k, j, none⟩ = w.drew.cell? ⟨k, j, none⟩ := by
  show World.cell? _ _ = World.cell? _ _
  have e : ((((w.setCell ⟨k', 0, none⟩ a).setCell ⟨k', 1, none⟩ b).setCell ⟨k', 2, none⟩ c).setCell ⟨k', 3, none⟩ d).heap[k]? = w.heap[k]? := by rw [setCell_other h, setCell_other h, setCell_other h, setCell_other h]
  simp only [World.cell?, World.drew]
  rw [e]
theorem dr_four (k : Nat) (w : World) (a b c d : Value) : Dr k w ((((w.setCell ⟨k, 0, none⟩ a).setCell ⟨k, 1, none⟩ b).setCell ⟨k, 2, none⟩ c).setCell ⟨k, 3, none⟩ d).drew :=
  Below.trans (clr_setCell k _ w 0 a) (Below.trans (clr_setCell k _ _ 1 b) (Below.trans (clr_setCell k _ _ 2 c) (Below.trans (clr_setCell k _ _ 3 d) (below_clr (Below.refl _ _).drew))))
theorem owns_cap {w : World} {lo : Nat} {e : TypeId} {sz g n cap : Nat} {xs : List Value} (h : w.ownsRow lo e sz (.slice (some ⟨g, 0, none⟩) n cap) n xs) : n ≤ cap := by
  obtain ⟨_, ⟨h9, _⟩ | ⟨g', cp, cur, e', h1, h2, h3, _⟩⟩ := h
  · cases h9
  · cases e'; exact h3
theorem owns_take {w : World} {lo : Nat} {e : TypeId} {g cap m : Nat} {vs : List Int} (h : w.ownsRow lo e 1 (.slice (some ⟨g, 0, none⟩) vs.length cap) vs.length (vs.map (Value.int .i64))) (hm : m ≤ vs.length) : w.ownsRow lo e 1 (.slice (some ⟨g, 0, none⟩) (vs.take m).length cap) (vs.take m).length ((vs.take m).map (Value.int .i64)) := by
  obtain ⟨h0, ⟨h9, _⟩ | ⟨g', cp, cur, e', h1, h2, h3, h4, h5, h6⟩⟩ := h
  · cases h9
  · cases e'
    refine ⟨by simp, Or.inr ⟨g, cap, cur, rfl, h1, h2, by simp; omega, h4, h5, ?_⟩⟩
    rw [List.map_take, ← h6, List.take_take]
    simp
theorem four_news {w : World} (x y z u : Value) (t : TypeId) {n : Nat} (hn : n = w.heap.size) : ∀ j v, [x, y, z, u][j]? = some v → (w.alloc (.cells #[x, y, z, u] t)).cell? ((⟨n, 0, none⟩ : Addr).add j) = some v := by
  subst hn
  intro j v hj
  rw [Addr.add_mid, Nat.zero_add, cell_of_block (MapKept.heap_alloc w _).1]
  simpa using hj
theorem Tryd.infoRule : (Tryd.prog.info? 27).map (fun i => (i.zero, i.size, i.bytes)) = some (some (.agg #[.slice none 0 0, .string ByteArray.empty, .string ByteArray.empty, .string ByteArray.empty]), 4, 72) := by kernel_rfl

end Go.Proofs.YtackfmeepggedaaDoor
