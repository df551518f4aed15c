import Derived.Test.YtackfmeepggedaaDoorM15
namespace Go.Proofs.YtackfmeepggedaaDoor
open Go.RowKit

/-- What drawing leaves: all but the reader. -/
abbrev Dr (r : Nat) (w w' : World) : Prop := Below w.heap.size (clr r w) (clr r w')
theorem dr_refl (r : Nat) (w : World) : Dr r w w := Below.refl _ _
theorem dr_below {r : Nat} {w w' : World} (h : Below w.heap.size w w') : Dr r w w' := below_clr h
theorem dr_le {r : Nat} {w w' : World} (h : Dr r w w') : w.heap.size ≤ w'.heap.size := by have := h.size; rwa [clr_size, clr_size] at this
theorem dr_trans {r : Nat} {a b c : World} (h : Dr r a b) (k : Dr r b c) : Dr r a c := Below.trans h (Below.mono k (dr_le h))
theorem dr_tms {r : Nat} {w w' : World} {a : Option Addr} {ts : List Tm} (h : Dr r w w') (ht : TmsAt (clr r w) a ts) : TmsAt (clr r w') a ts := ht.mono (by rw [clr_size]; exact h)
theorem dr_ints {r : Nat} {w w' : World} {a : Option Addr} {vs : List Int} (h : Dr r w w') (ht : IntsAt (clr r w) a vs) : IntsAt (clr r w') a vs := ht.mono (by rw [clr_size]; exact h)
theorem dr_rls {r : Nat} {w w' : World} {a : Option Addr} {rs : List Rl} (h : Dr r w w') (ht : RlsAt (clr r w) a rs) : RlsAt (clr r w') a rs := ht.mono (by rw [clr_size]; exact h)
theorem dr_block {r k : Nat} {w w' : World} (h : Dr r w w') (hk : k < w.heap.size) (hr : k ≠ r) : w'.heap[k]? = w.heap[k]? := by
  have := h.block k hk
  rwa [clr_other w hr, clr_other w' hr] at this
theorem clr_ints {r b : Nat} {w : World} {vs : List Int} {t : TypeId} (hb : b ≠ r) (h : w.heap[b]? = some (.cells (intArr vs) t)) (hl : vs.length ≤ maxLen) : IntsAt (clr r w) (some ⟨b, 0, none⟩) vs :=
  heap_ints (t := t) (by rw [clr_other w hb]; exact h) hl

set_option maxHeartbeats 1000000 in
theorem ofLit (ss : List ByteArray) (r p : Nat) (w : World) (hne : ss ≠ []) (hl : ss.length ≤ 1000) (hsm : ∀ s ∈ ss, s.size ≤ 1000) (hp : p ≤ 50000) (hr : RdAt w r p) :
    Calls Tryd.prog 32 #[.pointer (some ⟨r, 0, none⟩), .slice (some ⟨w.heap.size, 0, none⟩) ss.length ss.length] (w.alloc (.cells (strArr ss) 9)) fun e w' => ∃ s : ByteArray, e = .returned (.string s) ∧ s.size ≤ 1000 ∧ RdAt w' r (p + 1) ∧ Dr r w w' := by
  have hb : Below w.heap.size w (w.alloc (.cells (strArr ss) 9)) := (Below.refl _ _).alloc (Nat.le_refl _) _
  have hlt := hr.lt
  have h1 : StrsAt (w.alloc (.cells (strArr ss) 9)) (some ⟨w.heap.size, 0, none⟩) ss := heap_strs (t := 9) (MapKept.heap_alloc w _).1 (by unfold maxLen; omega) (fun s hs => by have := hsm s hs; unfold maxLen; omega)
  refine (of_any _ _ ss r p _ h1 hne hl hp (hr.mono hb) (fun b off e => by cases e; omega)).mono ?_
  rintro e w1 ⟨s, hs, rfl, hr1, hz, hB⟩
  exact ⟨s, rfl, hsm s hs, hr1, dr_trans (dr_below hb) hB⟩

set_option maxHeartbeats 1000000 in
theorem l1Open_any (a : Option Addr) (m cap : Nat) (w : World) (hu : U8sAt w a m) (hc : m ≤ cap) :
    Calls Tryd.prog 11 #[.slice a m cap] w fun e w' => e = .returned (.pointer (some ⟨w.heap.size, 0, none⟩)) ∧ RdAt w' w.heap.size 0 ∧ Below w.heap.size w w' := by
  have hl := hu.len
  unfold maxLen at hl
  have HU : Hid (U8sAt w a m) := hu
  clear hu
  have key : ∀ k c', k ≤ m → k ≤ 2000 → RdAt (w.alloc (.cells #[.slice a k c', .int .i64 ((0 : Nat) : Int)] 62)) w.heap.size 0 := fun k c' hk h2 => by
    refine ⟨a, k, c', h2, (MapKept.heap_alloc w _).1, fun hp => ?_⟩
    obtain ⟨b, off, ha, hb, hx⟩ := HU.out.cells (by omega)
    refine ⟨b, off, ha, hb, fun i hi => ?_⟩
    obtain ⟨x, x0, x1, hc⟩ := hx i (by omega)
    have hbl : Below w.heap.size w (w.alloc (.cells #[.slice a k c', .int .i64 ((0 : Nat) : Int)] 62)) := (Below.refl _ _).alloc (Nat.le_refl _) _
    exact ⟨x, x0, x1, (hbl.cell (p := ⟨b, off + i, none⟩) hb).trans hc⟩
  have HK : Hid (∀ k c', k ≤ m → k ≤ 2000 → RdAt (w.alloc (.cells #[.slice a k c', .int .i64 ((0 : Nat) : Int)] 62)) w.heap.size 0) := key
  clear key
  by_cases h2 : 2000 < m
  · have hd : decide ((2000 : Int) < (m : Int)) = true := by simp; omega
    go_enter Tryd.func11, Tryd.ntmps11
    go_wp2_with fail
    go_ret
    exact ⟨rfl, HK.out 2000 _ (by omega) (by omega), (Below.refl _ _).alloc (Nat.le_refl _) _⟩
  · have hd : decide ((2000 : Int) < (m : Int)) = false := by simp; omega
    go_enter Tryd.func11, Tryd.ntmps11
    go_wp2_with fail
    go_ret
    exact ⟨rfl, HK.out m _ (by omega) (by omega), (Below.refl _ _).alloc (Nat.le_refl _) _⟩

set_option maxRecDepth 10000 in
set_option maxHeartbeats 1000000 in
theorem l4DrawTeam_any (r p : Nat) (w : World) (hp : p ≤ 45000) (hr : RdAt w r p) :
    Calls Tryd.prog 53 #[.pointer (some ⟨r, 0, none⟩)] w fun e w' => ∃ s : ByteArray, e = .returned (.string s) ∧ s.size ≤ 1000 ∧ RdAt w' r (p + 1) ∧ Dr r w w' := by
  go_enter Tryd.func53, Tryd.ntmps53
  go_wp2_with fail
  refine (ofLit [⟨#[100, 101, 118]⟩, ⟨#[108, 97, 98]⟩, ⟨#[111, 112, 115]⟩, ⟨#[114, 49]⟩, ⟨#[114, 50]⟩, ⟨#[114, 51]⟩, ⟨#[110, 111, 110, 101]⟩, ⟨#[]⟩] r p _ (by simp) (by simp) (by simp +decide) (by omega) hr).mono ?_
  rintro e w1 ⟨s, rfl, hs, hr1, hD⟩
  go_wp2_with fail
  go_ret
  exact ⟨s, rfl, hs, hr1, hD⟩

end Go.Proofs.YtackfmeepggedaaDoor
