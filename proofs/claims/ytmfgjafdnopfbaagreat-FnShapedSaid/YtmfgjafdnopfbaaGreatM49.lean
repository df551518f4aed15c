import Derived.Test.YtmfgjafdnopfbaaGreatM48
import Derived.Test.YtmfgjafdnopfbaaGreatM18
namespace Go.Proofs.YtmfgjafdnopfbaaGreat
open Go.RowKit
theorem zcw {α : Type} (P : Nat -> α -> Prop) : ∀ n, (∀ i, i < n -> ∃ x, P i x) -> ∃ l : List α, l.length = n /\ ∀ i (h : i < l.length), P i l[i]
  | 0, _ => ⟨[], rfl, fun i h => absurd h (by simp)⟩
  | n + 1, h => by
    obtain ⟨l, hl, hp⟩ := zcw P n fun i hi => h i (by omega)
    obtain ⟨x, hx⟩ := h n (by omega)
    refine ⟨l ++ [x], by simp [hl], fun i hi => ?_⟩
    by_cases e : i < l.length
    · rw [List.getElem_append_left e]; exact hp i e
    · have e2 : i = l.length := by simp at hi; omega
      subst e2
      rw [List.getElem_append_right (by omega)]
      simp
      rw [hl]; exact hx
theorem jH {s : ByteArray} (h : s.size <= 4000000) : s.size <= maxLen := by unfold maxLen; omega
theorem zfE {lo b : Nat} {w : World} {a : Option Addr} {n cap : Nat} (h : yR lo b w (.slice a n cap)) : ∃ ss : List ByteArray, ss.length = n /\ zZ w a ss /\ jO a ss /\ (a = none -> cap = 0) /\ n <= 1000 := by
  obtain ⟨_, _, _, e, hn, -⟩ := h.slice
  cases e
  obtain ⟨ss, hl, hp⟩ := zcw (fun i (s : ByteArray) => s.size <= 4000000 /\ ∀ g, a = some ⟨g, 0, none⟩ -> w.cell? ⟨g, i, none⟩ = some (.string s)) n fun i hi => by
    obtain ⟨g, C, rfl, _, _, _, hc⟩ := h.cell hi
    obtain ⟨x, hx, s, rfl, hs⟩ := hc 0 (by omega)
    exact ⟨s, hs, fun g' e => by cases e; simpa using hx⟩
  refine ⟨ss, hl, ⟨by rw [hl]; unfold maxLen; omega, fun s hs => ?_, fun hne => ?_⟩, ?_, fun e => ?_, hn⟩
  · obtain ⟨i, hi, rfl⟩ := List.getElem_of_mem hs
    exact jH (hp i hi).1
  · have h0 : 0 < n := by rw [<- hl]; exact List.length_pos_iff.2 hne
    obtain ⟨g, C, rfl, _, hC, _⟩ := h.cell h0
    exact ⟨g, 0, rfl, (Array.getElem?_eq_some_iff.1 hC).1, fun i hi => by rw [Nat.zero_add]; exact (hp i hi).2 g rfl⟩
  · rcases h with h | ⟨g, _, _, _, h, _⟩
    · cases h; exact Or.inl ⟨rfl, List.length_eq_zero_iff.1 hl⟩
    · cases h; exact Or.inr ⟨g, 0, rfl⟩
  · subst e
    rcases h with h | ⟨g, _, _, _, h, _⟩
    · cases h; rfl
    · cases h
theorem ziO {lo b : Nat} {w : World} {a : Option Addr} {n cap : Nat} (h : qp lo b w (.slice a n cap)) : ∃ fs : List Fld, fs.length = n /\ yc w a fs := by
  obtain ⟨_, _, _, e, hn, -⟩ := h.slice
  cases e
  obtain ⟨fs, hl, hp⟩ := zcw (fun i (f : Fld) => ∀ g, a = some ⟨g, 0, none⟩ -> ∃ wa wc, zcS w g (i * 11) f wa wc) n fun i hi => by
    obtain ⟨g, C, rfl, _, _, _, hc⟩ := h.cell hi
    obtain ⟨x0, c0, nm, rfl, h0⟩ := hc 0 (by omega)
    obtain ⟨x1, c1, kd, rfl, _⟩ := hc 1 (by omega)
    obtain ⟨x2, c2, ls, rfl, _⟩ := hc 2 (by omega)
    obtain ⟨x3, c3, ms, rfl, _⟩ := hc 3 (by omega)
    obtain ⟨x4, c4, h4⟩ := hc 4 (by omega)
    have h4 : yR lo b w x4 := h4
    obtain ⟨wa, wn, wc, rfl, _⟩ := h4.slice
    obtain ⟨x5, c5, to, rfl, h5⟩ := hc 5 (by omega)
    obtain ⟨x6, c6, rl, rfl, _⟩ := hc 6 (by omega)
    obtain ⟨x7, c7, mu, rfl⟩ := hc 7 (by omega)
    obtain ⟨x8, c8, fx, rfl⟩ := hc 8 (by omega)
    obtain ⟨x9, c9, df, rfl, h9⟩ := hc 9 (by omega)
    obtain ⟨x10, c10, wg, rfl, h10⟩ := hc 10 (by omega)
    obtain ⟨ws, hwl, hws, -⟩ := zfE h4
    subst hwl
    refine ⟨⟨nm, kd, ls, ms, ws, to, rl, mu, fx, df, wg⟩, fun g' e => ?_⟩
    cases e
    refine ⟨wa, wc, ⟨jH h0, jH h5, jH h9, jH h10⟩, hws, fun j hj => ?_⟩
    rcases j with _ | _ | _ | _ | _ | _ | _ | _ | _ | _ | _ | j
    · exact c0
    · exact c1
    · exact c2
    · exact c3
    · exact c4
    · exact c5
    · exact c6
    · exact c7
    · exact c8
    · exact c9
    · exact c10
    · omega
  refine ⟨fs, hl, by rw [hl]; unfold maxLen; omega, fun hne => ?_⟩
  have h0 : 0 < n := by rw [<- hl]; exact List.length_pos_iff.2 hne
  obtain ⟨g, C, rfl, _, hC, _⟩ := h.cell h0
  exact ⟨g, 0, rfl, (Array.getElem?_eq_some_iff.1 hC).1, fun i hi => by rw [Nat.zero_add]; exact hp i hi g rfl⟩
theorem zhe {lo b : Nat} {w : World} {a : Option Addr} {n cap : Nat} (h : qM lo b w (.slice a n cap)) : ∃ ss : List Shp, ss.length = n /\ yG w a ss := by
  obtain ⟨_, _, _, e, hn, -⟩ := h.slice
  cases e
  obtain ⟨ss, hl, hp⟩ := zcw (fun i (s : Shp) => ∀ g, a = some ⟨g, 0, none⟩ -> ∃ fa fc, zfb w g (i * 2) s fa fc) n fun i hi => by
    obtain ⟨g, kd, fa, fn, fc, C, rfl, _, _, _, c0, c1, hk, hf⟩ := qM.at h hi
    obtain ⟨fs, hfl, hfs⟩ := ziO hf
    subst hfl
    refine ⟨⟨kd, fs⟩, fun g' e => ?_⟩
    cases e
    exact ⟨fa, fc, jH hk, hfs, c0, c1⟩
  refine ⟨ss, hl, by rw [hl]; unfold maxLen; omega, fun hne => ?_⟩
  have h0 : 0 < n := by rw [<- hl]; exact List.length_pos_iff.2 hne
  obtain ⟨g, C, rfl, _, hC, _⟩ := qE.cell h h0
  exact ⟨g, 0, rfl, (Array.getElem?_eq_some_iff.1 hC).1, fun i hi => by rw [Nat.zero_add]; exact hp i hi g rfl⟩
theorem zhl {lo b : Nat} {w : World} {a : Option Addr} {n cap : Nat} (h : yE lo b w (.slice a n cap)) : ∃ ms : List Mnd, ms.length = n /\ qg w a ms /\ n <= 1000 := by
  obtain ⟨_, _, _, e, hn, -⟩ := h.slice
  cases e
  obtain ⟨ms, hl, hp⟩ := zcw (fun i (m : Mnd) => m.Small /\ ∀ g, a = some ⟨g, 0, none⟩ -> ∀ j, j < 6 -> w.cell? ⟨g, i * 6 + j, none⟩ = m.cells[j]?) n fun i hi => by
    obtain ⟨g, C, rfl, _, _, _, hc⟩ := qE.cell h hi
    obtain ⟨x0, c0, s0, rfl, z0⟩ := hc 0 (by omega)
    obtain ⟨x1, c1, s1, rfl, z1⟩ := hc 1 (by omega)
    obtain ⟨x2, c2, s2, rfl, z2⟩ := hc 2 (by omega)
    obtain ⟨x3, c3, s3, rfl, z3⟩ := hc 3 (by omega)
    obtain ⟨x4, c4, s4, rfl, z4⟩ := hc 4 (by omega)
    obtain ⟨x5, c5, s5, rfl, z5⟩ := hc 5 (by omega)
    refine ⟨⟨s0, s1, s2, s3, s4, s5⟩, ⟨jH z0, jH z1, jH z2, jH z3, jH z4, jH z5⟩, fun g' e j hj => ?_⟩
    cases e
    rcases j with _ | _ | _ | _ | _ | _ | j
    · exact c0
    · exact c1
    · exact c2
    · exact c3
    · exact c4
    · exact c5
    · omega
  refine ⟨ms, hl, ⟨by rw [hl]; unfold maxLen; omega, fun i hi => (hp i hi).1, fun hne => ?_⟩, hn⟩
  have h0 : 0 < n := by rw [<- hl]; exact List.length_pos_iff.2 hne
  obtain ⟨g, C, rfl, _, hC, _⟩ := qE.cell h h0
  exact ⟨g, 0, rfl, (Array.getElem?_eq_some_iff.1 hC).1, fun i hi j hj => by rw [Nat.zero_add]; exact (hp i hi).2 g rfl j hj⟩
end Go.Proofs.YtmfgjafdnopfbaaGreat
