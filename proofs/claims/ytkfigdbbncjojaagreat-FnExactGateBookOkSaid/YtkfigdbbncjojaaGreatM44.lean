import Derived.Test.YtkfigdbbncjojaaGreatM43
import Derived.Test.YtkfigdbbncjojaaGreatM22
import Derived.Test.YtkfigdbbncjojaaGreatM39
import Derived.Test.YtkfigdbbncjojaaGreatM19
namespace Go.Proofs.YtkfigdbbncjojaaGreat.Gate
def qp (fs : List Fld) (vs : List ByteArray) (v : ByteArray) : ByteArray := match fs.findIdx? (fun f => decide (f.nm = v)) with | some j => vs.getD j ByteArray.empty | none => ByteArray.empty
def gives (s : Shp) (vs : List ByteArray) (p : Nat) (m : Mnd) : Option ByteArray :=
  if turns m s p = true /\ ¬ (isSet m.wh = true /\ qp s.fs vs m.wh ≠ m.wi) then
    if isSet m.fr = true then (if isSet (qp s.fs vs m.fr) = true then some (qp s.fs vs m.fr) else none) else some m.pt
  else none
def decided (s : Shp) (ms : List Mnd) (p : Nat) (vs : List ByteArray) : ByteArray := (ms.findSome? (gives s vs p)).getD (vs.getD p ByteArray.empty)
theorem zer {fs : List Fld} {vs : List ByteArray} {v : ByteArray} {j : Nat} (h : zQ fs v = (j : Int)) : qp fs vs v = vs.getD j ByteArray.empty := by
  unfold zQ at h
  unfold qp
  cases hf : fs.findIdx? (fun f => decide (f.nm = v)) with
  | none => rw [hf] at h; simp at h
  | some k =>
    rw [hf] at h
    have : k = j := by simp only at h; omega
    rw [this]
theorem zd1 {fs : List Fld} {vs : List ByteArray} {v : ByteArray} (h : zQ fs v = -1) : qp fs vs v = ByteArray.empty := by
  unfold zQ at h
  unfold qp
  cases hf : fs.findIdx? (fun f => decide (f.nm = v)) with
  | none => rfl
  | some k => rw [hf] at h; simp only at h; omega
theorem zc3 {α β : Type} {f g : α -> Option β} : ∀ {l : List α}, (∀ x ∈ l, f x = g x) -> l.findSome? f = l.findSome? g
  | [], _ => rfl
  | a :: l, h => by
    have h1 := h a (by simp)
    have h2 := zc3 (f := f) (g := g) (l := l) (fun x hx => h x (by simp [hx]))
    rw [List.findSome?_cons, List.findSome?_cons, h1, h2]
theorem ziB {us vs : List ByteArray} {q : Nat} (e : us[q]? = vs[q]?) : us.getD q ByteArray.empty = vs.getD q ByteArray.empty := by
  rw [List.getD_eq_getElem?_getD, List.getD_eq_getElem?_getD, e]
theorem zkx (s : Shp) (ms : List Mnd) (p : Nat) (us vs : List ByteArray) (hr : ∀ q ∈ zh s ms p, us[q]? = vs[q]?) : ms.findSome? (gives s us p) = ms.findSome? (gives s vs p) := by
  apply zc3
  intro m hmm
  unfold gives
  by_cases ht : turns m s p = true
  · have hread : ∀ v ∈ zI m, qp s.fs us v = qp s.fs vs v := by
      intro v hv'
      rcases qX s.fs v with ⟨h1, _⟩ | ⟨k, _, h1, _⟩
      · rw [zd1 h1, zd1 h1]
      · rw [zer h1, zer h1]
        apply ziB
        apply hr
        unfold zh
        rw [List.mem_map]
        refine ⟨(k : Int), ?_, Int.toNat_natCast _⟩
        unfold zZ
        rw [List.mem_flatMap]
        refine ⟨m, hmm, ?_⟩
        rw [if_pos ht, List.mem_map]
        exact ⟨v, hv', h1⟩
    have hw : isSet m.wh = true -> qp s.fs us m.wh = qp s.fs vs m.wh := fun hs => hread _ (by unfold zI; rw [List.mem_filter]; exact ⟨by simp, hs⟩)
    have hf : isSet m.fr = true -> qp s.fs us m.fr = qp s.fs vs m.fr := fun hs => hread _ (by unfold zI; rw [List.mem_filter]; exact ⟨by simp, hs⟩)
    have c1 : (isSet m.wh = true /\ qp s.fs us m.wh ≠ m.wi) ↔ (isSet m.wh = true /\ qp s.fs vs m.wh ≠ m.wi) := by
      constructor
      · rintro ⟨a, b⟩; exact ⟨a, by rw [<- hw a]; exact b⟩
      · rintro ⟨a, b⟩; exact ⟨a, by rw [hw a]; exact b⟩
    have c2 : (if isSet m.fr = true then (if isSet (qp s.fs us m.fr) = true then some (qp s.fs us m.fr) else none) else some m.pt) = (if isSet m.fr = true then (if isSet (qp s.fs vs m.fr) = true then some (qp s.fs vs m.fr) else none) else some m.pt) := by
      by_cases hsf : isSet m.fr = true
      · rw [hf hsf]
      · rw [if_neg hsf, if_neg hsf]
    rw [c2]
    by_cases hc : turns m s p = true /\ ¬ (isSet m.wh = true /\ qp s.fs us m.wh ≠ m.wi)
    · have hc' : turns m s p = true /\ ¬ (isSet m.wh = true /\ qp s.fs vs m.wh ≠ m.wi) := ⟨hc.1, fun h' => hc.2 (c1.2 h')⟩
      rw [if_pos hc, if_pos hc']
    · have hc' : ¬ (turns m s p = true /\ ¬ (isSet m.wh = true /\ qp s.fs vs m.wh ≠ m.wi)) := fun h' => hc ⟨h'.1, fun h'' => h'.2 (c1.1 h'')⟩
      rw [if_neg hc, if_neg hc']
  · simp [ht]
theorem zhS (s : Shp) (ms : List Mnd) : znX (zh s ms) s.fs.length (decided s ms) := by
  intro p _ us vs _ _ hr hown
  unfold decided
  rw [zkx s ms p us vs hr, ziB hown]
end Go.Proofs.YtkfigdbbncjojaaGreat.Gate

namespace Go.Proofs.YtkfigdbbncjojaaGreat
open Go.RowKit
def Gate.zbe (l : Lw) : Bool := Gate.zY l.ss l.ms && Gate.zaB l.ts
set_option maxHeartbeats 1000000 in
theorem zie (l : Lw) (a b c : Option Addr) (ca cb cc : Nat) (w : World) (hl : qO w l a b c) (hf : l.Few) :
    Calls Tryz.prog 31 #[.agg (l.cells a b c ca cb cc)] w fun e w' => e = .returned (.bool (Gate.zbe l)) /\ Below w.heap.size w w' := by
  have HL : Hid (qO w l a b c) := hl
  have HF : Hid l.Few := hf
  clear hl hf
  unfold Lw.cells
  by_cases h1 : Gate.zY l.ss l.ms = true
  · have HQ : Hid (Gate.zbe l = Gate.zaB l.ts) := by unfold Hid Gate.zbe; rw [h1]; rfl
    have HM : Hid (Gate.zY l.ss l.ms = true) := h1
    clear h1
    go_enter Tryz.func31, Tryz.ntmps31
    go_wp2_with fail
    refine (zu HM.out (zcS _ _ _ _ l.ss l.ms _ (HL.out.ss.mono ((Below.refl _ _).alloc (Nat.le_refl _) _)) (HL.out.ms.mono ((Below.refl _ _).alloc (Nat.le_refl _) _)) HF.out.ms)).mono ?_
    rintro e w1 ⟨rfl, hb⟩
    have hX1 := za (zH w (lC l a b c ca cb cc) 40) (by simp) hb
    have hz1 : w.heap.size < w1.heap.size := by have := hb.size; simp at this; omega
    have hB1 : Below w.heap.size w w1 := ((Below.refl _ _).alloc (Nat.le_refl _) _).trans (hb.mono (by simp))
    clear hb
    go_wp2_with fail
    refine (zfY _ _ l.ts _ (HL.out.ts.mono hB1)).mono ?_
    rintro e w2 ⟨rfl, hb⟩
    have hB2 := hB1.trans (hb.mono hB1.size)
    clear hb hX1 hz1 hB1
    go_wp2_with fail
    go_ret
    exact ⟨ze HQ.out.symm, hB2⟩
  · have h1' : Gate.zY l.ss l.ms = false := by simpa using h1
    have HQ : Hid (Gate.zbe l = false) := by unfold Hid Gate.zbe; rw [h1']; rfl
    have HM : Hid (Gate.zY l.ss l.ms = false) := h1'
    clear h1 h1'
    go_enter Tryz.func31, Tryz.ntmps31
    go_wp2_with fail
    refine (zu HM.out (zcS _ _ _ _ l.ss l.ms _ (HL.out.ss.mono ((Below.refl _ _).alloc (Nat.le_refl _) _)) (HL.out.ms.mono ((Below.refl _ _).alloc (Nat.le_refl _) _)) HF.out.ms)).mono ?_
    rintro e w1 ⟨rfl, hb⟩
    have hB1 : Below w.heap.size w w1 := ((Below.refl _ _).alloc (Nat.le_refl _) _).trans (hb.mono (by simp))
    clear hb
    go_wp2_with fail
    go_ret
    exact ⟨ze HQ.out.symm, hB1⟩
set_option maxHeartbeats 1000000 in
theorem zh6 (l : Lw) (a b c : Option Addr) (ca cb cc : Nat) (w : World) (hl : qO w l a b c) :
    Calls Tryz.prog 19 #[.agg (l.cells a b c ca cb cc)] w fun e w' => e = .returned (.bool (Gate.zbe l)) /\ Below w.heap.size w w' := by
  have HL : Hid (qO w l a b c) := hl
  clear hl
  unfold Lw.cells
  by_cases h1 : Gate.zY l.ss l.ms = true
  · have HQ : Hid (Gate.zbe l = Gate.jQ l.ts) := by unfold Hid Gate.zbe; rw [h1, Gate.zjF]; rfl
    have HM : Hid (Gate.qD l.ss l.ms = true) := by unfold Hid; rw [<- Gate.zd8]; exact h1
    clear h1
    go_enter Tryz.func19, Tryz.ntmps19
    go_wp2_with fail
    refine (zu HM.out (zcX _ _ _ _ l.ss l.ms _ (HL.out.ss.mono ((Below.refl _ _).alloc (Nat.le_refl _) _)) (HL.out.ms.mono ((Below.refl _ _).alloc (Nat.le_refl _) _)))).mono ?_
    rintro e w1 ⟨rfl, hb⟩
    have hX1 := za (zH w (lC l a b c ca cb cc) 40) (by simp) hb
    have hz1 : w.heap.size < w1.heap.size := by have := hb.size; simp at this; omega
    have hB1 : Below w.heap.size w w1 := ((Below.refl _ _).alloc (Nat.le_refl _) _).trans (hb.mono (by simp))
    clear hb
    go_wp2_with fail
    refine (zfR _ _ l.ts _ (HL.out.ts.mono hB1)).mono ?_
    rintro e w2 ⟨rfl, hb⟩
    have hB2 := hB1.trans (hb.mono hB1.size)
    clear hb hX1 hz1 hB1
    go_wp2_with fail
    go_ret
    exact ⟨ze HQ.out.symm, hB2⟩
  · have h1' : Gate.zY l.ss l.ms = false := by simpa using h1
    have HQ : Hid (Gate.zbe l = false) := by unfold Hid Gate.zbe; rw [h1']; rfl
    have HM : Hid (Gate.qD l.ss l.ms = false) := by unfold Hid; rw [<- Gate.zd8]; exact h1'
    clear h1 h1'
    go_enter Tryz.func19, Tryz.ntmps19
    go_wp2_with fail
    refine (zu HM.out (zcX _ _ _ _ l.ss l.ms _ (HL.out.ss.mono ((Below.refl _ _).alloc (Nat.le_refl _) _)) (HL.out.ms.mono ((Below.refl _ _).alloc (Nat.le_refl _) _)))).mono ?_
    rintro e w1 ⟨rfl, hb⟩
    have hB1 : Below w.heap.size w w1 := ((Below.refl _ _).alloc (Nat.le_refl _) _).trans (hb.mono (by simp))
    clear hb
    go_wp2_with fail
    go_ret
    exact ⟨ze HQ.out.symm, hB1⟩
end Go.Proofs.YtkfigdbbncjojaaGreat
