import Derived.Test.YtimhinpekngceaaDoorM26
import Derived.Maps.AppendAt
import Derived.Test.YtimhinpekngceaaDoorM01
namespace Go.Proofs.YtimhinpekngceaaDoor
open Go.RowKit

theorem one_new (w : World) (x : Value) (t : TypeId) : ∀ j u, [x][j]? = some u → (w.alloc (.cells #[x] t)).cell? ((⟨w.heap.size, 0, none⟩ : Addr).add j) = some u := by
  intro j u hj
  rcases j with _ | j
  · have e : (⟨w.heap.size, 0, none⟩ : Addr).add 0 = ⟨w.heap.size, 0, none⟩ := rfl
    rw [e, World.cell?_alloc_at (hn := rfl)]
    simpa using hj
  · simp at hj

theorem infoStr : (Tryd.prog.info? 9).map (fun i => (i.zero, i.size, i.bytes)) = some (some (.string ByteArray.empty), 1, 16) := by kernel_rfl

/-- Two rows of strings of one's own that lie apart. -/
structure TwoRows (B : Nat) (w : World) (kv nv : Value) (K N : List ByteArray) : Prop where
  k : w.ownsRow B 9 1 kv K.length (K.map Value.string)
  n : w.ownsRow B 9 1 nv N.length (N.map Value.string)
  apart : ∀ g, kv.ownBlock = some g → nv.ownBlock ≠ some g

theorem TwoRows.swap {B : Nat} {w : World} {kv nv : Value} {K N : List ByteArray} (h : TwoRows B w kv nv K N) : TwoRows B w nv kv N K :=
  ⟨h.n, h.k, fun g h1 h2 => h.apart g h2 h1⟩

theorem TwoRows.push {B : Nat} {w w1 : World} {kv nv v' : Value} {K N : List ByteArray} {x : ByteArray} {o : Obj} (h : TwoRows B w kv nv K N) (hown : w1.ownsRow B 9 1 v' (K.length + 1) (K.map Value.string ++ [.string x]))
    (hgr : (w.alloc o).grownBy w1 kv.ownBlock) (hat : v'.ownBlock = kv.ownBlock ∨ v'.ownBlock = some (w.alloc o).heap.size) : TwoRows B w1 v' nv (K ++ [x]) N := by
  refine ⟨by rw [List.length_append, List.map_append]; exact hown, (h.n.alloc o).kept hgr ?_, fun g hg hn => ?_⟩
  · cases hn : nv.ownBlock with
    | none => exact Or.inl rfl
    | some g => exact Or.inr (fun e => h.apart g e.symm hn)
  · rcases hat with e | e
    · rw [e] at hg; exact h.apart g hg hn
    · rw [e] at hg
      cases hg
      have := (h.n.lt _ hn).2
      rw [World.size_alloc] at this
      omega

theorem TwoRows.below {B : Nat} {w0 w w1 : World} {kv nv : Value} {K N : List ByteArray} {o : Obj} (h : TwoRows B w kv nv K N) (hb : Below B w0 w) (hB : B ≤ w.heap.size) (hgr : (w.alloc o).grownBy w1 kv.ownBlock) : Below B w0 w1 :=
  (hb.alloc hB _).grown hgr (by simp; omega) fun k hk => (h.k.lt k hk).1

theorem TwoRows.new (w : World) : TwoRows w.heap.size ((w.alloc (.cells #[] 9)).alloc (.cells #[] 9)) (.slice (some ⟨w.heap.size, 0, none⟩) 0 0) (.slice (some ⟨w.heap.size + 1, 0, none⟩) 0 0) [] [] := by
  refine ⟨(World.ownsRow_made w #[] 0 (Nat.le_refl _) (by unfold maxLen; omega) rfl).alloc _, ?_, ?_⟩
  · have h := World.ownsRow_made (base := w.heap.size) (size := 1) (e := 9) (w.alloc (.cells #[] 9)) #[] 0 (by simp) (by unfold maxLen; omega) rfl
    rw [World.size_alloc] at h
    exact h
  · intro g h1 h2
    have e1 : w.heap.size = g := Option.some.inj h1
    have e2 : w.heap.size + 1 = g := Option.some.inj h2
    omega

end Go.Proofs.YtimhinpekngceaaDoor

namespace Go.Proofs.YtimhinpekngceaaDoor
open Go.RowKit

theorem ownsRow_strs {w : World} {lo : Nat} {a : Option Addr} {n cap : Nat} {row : List ByteArray} (h : w.ownsRow lo 9 1 (.slice a n cap) row.length (row.map Value.string)) (hl : row.length ≤ maxLen) (hs : ∀ s ∈ row, s.size ≤ maxLen) : StrsAt w a row := by
  refine ⟨hl, hs, fun hne => ?_⟩
  obtain ⟨_, ⟨h0, h1⟩ | ⟨g, cp, cur, h0, h1⟩⟩ := id h
  · exact absurd (List.length_eq_zero_iff.1 h1) hne
  · cases h0
    refine ⟨g, 0, rfl, (h.lt g rfl).2, fun i hi => ?_⟩
    rw [Nat.zero_add, h.cellAt i (by omega)]
    simp [hi]

theorem ownsRow_strsSlice {w : World} {lo : Nat} {v : Value} {row : List ByteArray} (h : w.ownsRow lo 9 1 v row.length (row.map Value.string)) : ∃ a cap, v = .slice a row.length cap := by
  obtain ⟨_, ⟨h0, h1⟩ | ⟨g, cp, cur, h0, h1⟩⟩ := id h
  · rw [h1]; exact ⟨_, _, h0⟩
  · exact ⟨_, _, h0⟩

end Go.Proofs.YtimhinpekngceaaDoor
