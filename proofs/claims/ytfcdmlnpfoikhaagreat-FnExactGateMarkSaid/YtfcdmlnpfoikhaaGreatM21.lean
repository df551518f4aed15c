import Derived.Test.YtfcdmlnpfoikhaaGreatM15
import Derived.Test.YtfcdmlnpfoikhaaGreatM18
import Derived.Test.YtfcdmlnpfoikhaaGreatM14
import Derived.Test.YtfcdmlnpfoikhaaGreatM12
import Derived.Shelf.Lay
import Derived.Shelf.LaySoft
import Derived.Shelf.LaysM
import Derived.Shelf.Small.Strs
import Derived.Deep.RegionHeld3
import Derived.Test.YtfcdmlnpfoikhaaGreatM06
import Derived.Test.YtfcdmlnpfoikhaaGreatM02
import Derived.Test.YtfcdmlnpfoikhaaGreatM07
namespace Go.Proofs.YtfcdmlnpfoikhaaGreat
open Go.RowKit
structure Bk where
  now : Int
  tick : Int
  given : Int
  os : List Ob
  gs : List Gr
  ls : List Lg
  ps : List Pu
abbrev bC (b : Bk) (a0 a1 a2 a3 : Option Addr) (c0 c1 c2 c3 : Nat) : Array Value := #[.int .i64 b.now, .int .i64 b.tick, .int .i64 b.given, .slice a0 b.os.length c0, .slice a1 b.gs.length c1, .slice a2 b.ls.length c2, .slice a3 b.ps.length c3]
abbrev bZ : Array Value := #[.int .i64 0, .int .i64 0, .int .i64 0, .slice none 0 0, .slice none 0 0, .slice none 0 0, .slice none 0 0]
def Bk.cells (b : Bk) (a0 a1 a2 a3 : Option Addr) (c0 c1 c2 c3 : Nat) : Array Value := #[.int .i64 b.now, .int .i64 b.tick, .int .i64 b.given, .slice a0 b.os.length c0, .slice a1 b.gs.length c1, .slice a2 b.ls.length c2, .slice a3 b.ps.length c3]
structure qD (w : World) (b : Bk) (a0 a1 a2 a3 : Option Addr) : Prop where
  os : zbf w a0 b.os
  gs : zbZ w a1 b.gs
  ls : zb7 w a2 b.ls
  ps : zcE w a3 b.ps
theorem qD.mono {w w' : World} {b : Bk} {a0 a1 a2 a3 : Option Addr} (h : qD w b a0 a1 a2 a3) (hb : Below w.heap.size w w') : qD w' b a0 a1 a2 a3 := ⟨h.os.mono hb, h.gs.mono hb, h.ls.mono hb, h.ps.mono hb⟩
def Bk.sz (b : Bk) : Nat := yX b.os + zbw b.gs + zb3 b.ls + zcl b.ps
structure Bk.Few (b : Bk) : Prop where
  os : b.os.length <= 1048576 /\ ∀ i (h : i < b.os.length), b.os[i].vs.length <= 1048576 /\ b.os[i].hs.length <= 1048576
  gs : b.gs.length <= 1048576 /\ ∀ i (h : i < b.gs.length), b.gs[i].r.vs.length <= 1048576
  ls : b.ls.length <= 1048576
  ps : b.ps.length <= 1048576
theorem Bk.few {b : Bk} (h : (b.sz : Int) <= 1048576) : b.Few := by
  unfold Bk.sz at h
  refine ⟨zkh (left := 1048576) (by omega) (by omega), zpa (left := 1048576) (by omega) (by omega), ?_, ?_⟩
  · unfold zb3 at h; omega
  · unfold zcl at h; omega
structure Bk.Small (b : Bk) : Prop where
  os : ze5 b.os
  lo : b.os.length <= maxLen
  gs : ziA b.gs
  lg : b.gs.length <= maxLen
  ls : ∀ i (h : i < b.ls.length), b.ls[i].Small
  ll : b.ls.length <= maxLen
  ps : ∀ i (h : i < b.ps.length), b.ps[i].Small
  lp : b.ps.length <= maxLen
theorem qD.small {w : World} {b : Bk} {a0 a1 a2 a3 : Option Addr} (h : qD w b a0 a1 a2 a3) : b.Small := ⟨h.os.smalls, h.os.len, h.gs.smalls, h.gs.len, h.ls.small, h.ls.len, h.ps.small, h.ps.len⟩
structure zgn (lo : Nat) (w : World) (b : Bk) (g0 g1 g2 g3 : Nat) : Prop where
  os : qV lo w g0 b.os b.os.length
  gs : jC lo w g1 b.gs b.gs.length
  ls : jA lo w g2 b.ls b.ls.length
  ps : jr lo w g3 b.ps b.ps.length
theorem zgn.above {lo : Nat} {w w' : World} {b : Bk} {g0 g1 g2 g3 : Nat} (h : zgn lo w b g0 g1 g2 g3) (ha : yt lo w w') : zgn lo w' b g0 g1 g2 g3 := ⟨h.os.above ha, h.gs.above ha, h.ls.above ha, h.ps.above ha⟩
theorem zgn.at {lo : Nat} {w : World} {b : Bk} {g0 g1 g2 g3 : Nat} (h : zgn lo w b g0 g1 g2 g3) (hs : b.Small) : qD w b (some ⟨g0, 0, none⟩) (some ⟨g1, 0, none⟩) (some ⟨g2, 0, none⟩) (some ⟨g3, 0, none⟩) := ⟨h.os.at hs.os hs.lo, h.gs.at hs.gs hs.lg, h.ls.at hs.ls hs.ll, h.ps.at hs.ps hs.lp⟩
set_option maxHeartbeats 2000000 in
theorem zhL (b : Bk) (a0 a1 a2 a3 : Option Addr) (c0 c1 c2 c3 : Nat) (left : Int) (w : World) (hl : qD w b a0 a1 a2 a3) (h0 : 0 <= left) (h1 : left <= 1048576) :
    Calls Tryz.prog 5 #[.agg (b.cells a0 a1 a2 a3 c0 c1 c2 c3), .int .i64 left] w fun e w' => e = .returned (.int .i64 (zF b.sz left)) /\ Below w.heap.size w w' := by
  have HL : Hid (qD w b a0 a1 a2 a3) := hl
  clear hl
  unfold Bk.cells
  go_enter Tryz.func5, Tryz.ntmps5
  go_wp2_with fail
  refine (zfd _ _ b.os _ _ (HL.out.os.mono ((Below.refl _ _).alloc (Nat.le_refl _) _)) h0 h1).mono ?_
  rintro e w1 ⟨rfl, hb⟩
  have hX1 := za (zH w (bC b a0 a1 a2 a3 c0 c1 c2 c3) 32) (by simp) hb
  have hz1 : w.heap.size < w1.heap.size := by have := hb.size; simp at this; omega
  have hB1 : Below w.heap.size w w1 := ((Below.refl _ _).alloc (Nat.le_refl _) _).trans (hb.mono (by simp))
  clear hb
  by_cases q1 : (yX b.os : Int) <= left
  rotate_left
  · have HF : Hid (zF b.sz left = -1) := zx (by unfold Bk.sz; omega)
    rw [zx q1]
    go_wp2_with fail
    go_ret
    exact ⟨zl HF.out.symm, hB1⟩
  rw [zG q1]
  go_wp2_with fail
  refine (zfN _ _ b.gs _ _ (HL.out.gs.mono hB1) (by omega) (by omega)).mono ?_
  rintro e w2 ⟨rfl, hb⟩
  have hX2 := za hX1 hz1 hb
  have hz2 := Nat.lt_of_lt_of_le hz1 hb.size
  have hB2 := hB1.trans (hb.mono hB1.size)
  clear hb hX1 hz1 hB1
  by_cases q2 : (zbw b.gs : Int) <= left - yX b.os
  rotate_left
  · have HF : Hid (zF b.sz left = -1) := zx (by unfold Bk.sz; omega)
    rw [zx q2]
    go_wp2_with fail
    go_ret
    exact ⟨zl HF.out.symm, hB2⟩
  rw [zG q2]
  go_wp2_with fail
  refine (ze0 _ _ b.ls _ _ (HL.out.ls.mono hB2) (by omega) (by omega)).mono ?_
  rintro e w3 ⟨rfl, hb⟩
  have hX3 := za hX2 hz2 hb
  have hz3 := Nat.lt_of_lt_of_le hz2 hb.size
  have hB3 := hB2.trans (hb.mono hB2.size)
  clear hb hX2 hz2 hB2
  by_cases q3 : (zb3 b.ls : Int) <= left - yX b.os - zbw b.gs
  rotate_left
  · have HF : Hid (zF b.sz left = -1) := zx (by unfold Bk.sz; omega)
    rw [zx q3]
    go_wp2_with fail
    go_ret
    exact ⟨zl HF.out.symm, hB3⟩
  rw [zG q3]
  go_wp2_with fail
  refine (zfZ _ _ b.ps _ _ (HL.out.ps.mono hB3) (by omega) (by omega)).mono ?_
  rintro e w4 ⟨rfl, hb⟩
  have hX4 := za hX3 hz3 hb
  have hz4 := Nat.lt_of_lt_of_le hz3 hb.size
  have hB4 := hB3.trans (hb.mono hB3.size)
  clear hb hX3 hz3 hB3
  by_cases q4 : (zcl b.ps : Int) <= left - yX b.os - zbw b.gs - zb3 b.ls
  rotate_left
  · have HF : Hid (zF b.sz left = -1) := zx (by unfold Bk.sz; omega)
    rw [zx q4]
    go_wp2_with fail
    go_ret
    exact ⟨zl HF.out.symm, hB4⟩
  have HF : Hid (zF b.sz left = left - yX b.os - zbw b.gs - zb3 b.ls - zcl b.ps) := by
    unfold Hid; rw [zG (by unfold Bk.sz; omega)]; unfold Bk.sz; omega
  rw [zG q4]
  go_wp2_with fail
  go_ret
  exact ⟨zl HF.out.symm, hB4⟩
set_option maxHeartbeats 1000000 in
theorem zh4 (b : Bk) (a0 a1 a2 a3 : Option Addr) (c0 c1 c2 c3 : Nat) (a0' a1' a2' a3' : Option Addr) (c0' c1' c2' c3' : Nat) (w : World) (hl : qD w b a0 a1 a2 a3) (hl' : qD w b a0' a1' a2' a3') :
    Calls Tryz.prog 12 #[.agg (b.cells a0 a1 a2 a3 c0 c1 c2 c3), .agg (b.cells a0' a1' a2' a3' c0' c1' c2' c3')] w fun e w' => e = .returned (.bool true) /\ Below w.heap.size w w' := by
  have HL : Hid (qD w b a0 a1 a2 a3 /\ qD w b a0' a1' a2' a3') := ⟨hl, hl'⟩
  clear hl hl'
  have n1 : (b.now != b.now) = false := by simp
  have n2 : (b.tick != b.tick) = false := by simp
  have n3 : (b.given != b.given) = false := by simp
  unfold Bk.cells
  go_enter Tryz.func12, Tryz.ntmps12
  go_wp2_with fail
  refine (zfj _ _ _ _ b.os _ (HL.out.1.os.mono (zq _ _ _)) (HL.out.2.os.mono (zq _ _ _))).mono ?_
  rintro e w1 ⟨rfl, hb⟩
  have hX1 := za (za (zH w _ _) (by simp) ((Below.refl _ _).alloc (Nat.le_refl _) _)) (by simp; omega) hb
  have hY1 := za (zH (w.alloc (.cells (bC b a0 a1 a2 a3 c0 c1 c2 c3) 48)) (bC b a0' a1' a2' a3' c0' c1' c2' c3') 48) (by simp) hb
  have hz1 : w.heap.size + 1 < w1.heap.size := by have := hb.size; simp at this; omega
  have hB1 := (zq w _ _).trans (hb.mono (by simp; omega))
  rw [World.size_alloc] at hY1
  clear hb
  go_wp2_with fail
  refine (zfV _ _ _ _ b.gs _ (HL.out.1.gs.mono hB1) (HL.out.2.gs.mono hB1)).mono ?_
  rintro e w2 ⟨rfl, hb⟩
  have hX2 := za hX1 (Nat.lt_of_succ_lt hz1) hb
  have hY2 := za hY1 hz1 hb
  have hz2 := Nat.lt_of_lt_of_le hz1 hb.size
  have hB2 := hB1.trans (hb.mono hB1.size)
  clear hb hX1 hY1 hz1 hB1
  go_wp2_with fail
  refine (zfn _ _ _ _ b.ls _ (HL.out.1.ls.mono hB2) (HL.out.2.ls.mono hB2)).mono ?_
  rintro e w3 ⟨rfl, hb⟩
  have hX3 := za hX2 (Nat.lt_of_succ_lt hz2) hb
  have hY3 := za hY2 hz2 hb
  have hz3 := Nat.lt_of_lt_of_le hz2 hb.size
  have hB3 := hB2.trans (hb.mono hB2.size)
  clear hb hX2 hY2 hz2 hB2
  go_wp2_with fail
  refine (zgd _ _ _ _ b.ps _ (HL.out.1.ps.mono hB3) (HL.out.2.ps.mono hB3)).mono ?_
  rintro e w4 ⟨rfl, hb⟩
  have hX4 := za hX3 (Nat.lt_of_succ_lt hz3) hb
  have hY4 := za hY3 hz3 hb
  have hz4 := Nat.lt_of_lt_of_le hz3 hb.size
  have hB4 := hB3.trans (hb.mono hB3.size)
  clear hb hX3 hY3 hz3 hB3
  go_wp2_with fail
  go_ret
  exact ⟨rfl, hB4⟩
end Go.Proofs.YtfcdmlnpfoikhaaGreat

namespace Go.Proofs
open Go.Shelf
shelf_lay Lays.n106 Nm 106 at Tryz as YtfcdmlnpfoikhaaGreat.lays106
end Go.Proofs
namespace Go.Proofs.YtfcdmlnpfoikhaaGreat
open Go.RowKit
namespace Gate
def key (a b : ByteArray) : Int := Lib.compareBytes a.data.toList b.data.toList
theorem zlE : ∀ a b : List UInt8, Lib.compareBytes a b = -1 \/ Lib.compareBytes a b = 0 \/ Lib.compareBytes a b = 1
  | [], [] => by simp [Lib.compareBytes]
  | [], _ :: _ => by simp [Lib.compareBytes]
  | _ :: _, [] => by simp [Lib.compareBytes]
  | a :: xs, b :: ys => by
    simp only [Lib.compareBytes]
    split
    · simp
    · split
      · simp
      · exact zlE xs ys
theorem zlF : ∀ a b : List UInt8, Op.bytesLess a b = decide (Lib.compareBytes a b = -1)
  | [], [] => by simp [Lib.compareBytes, Op.bytesLess]
  | [], _ :: _ => by simp [Lib.compareBytes, Op.bytesLess]
  | _ :: _, [] => by simp [Lib.compareBytes, Op.bytesLess]
  | a :: xs, b :: ys => by
    simp only [Lib.compareBytes, Op.bytesLess]
    rw [zlF xs ys]
    by_cases h : a < b
    · simp [h]
    · by_cases h' : b < a
      · have hne : ¬ a = b := fun e => by subst e; exact h h'
        simp [h, h', hne]
      · have he : a = b := by
          have h1 : ¬ a.toNat < b.toNat := h
          have h2 : ¬ b.toNat < a.toNat := h'
          exact UInt8.toNat_inj.1 (by omega)
        simp [he]
theorem zkX : ∀ a b : List UInt8, Lib.compareBytes b a = - Lib.compareBytes a b
  | [], [] => by simp [Lib.compareBytes]
  | [], _ :: _ => by simp [Lib.compareBytes]
  | _ :: _, [] => by simp [Lib.compareBytes]
  | a :: xs, b :: ys => by
    simp only [Lib.compareBytes]
    by_cases h : a < b
    · have h' : ¬ b < a := fun h2 => absurd (UInt8.lt_trans h h2) (UInt8.lt_irrefl _)
      simp [h, h']
    · by_cases h' : b < a
      · simp [h, h']
      · simp [h, h', zkX xs ys]
theorem zoC (a b : ByteArray) : key b a = - key a b := zkX _ _
theorem zlX (a b : ByteArray) : key a b = -1 \/ key a b = 0 \/ key a b = 1 := zlE _ _
theorem zhK (a b : ByteArray) : less a b = decide (key a b = -1) := by
  unfold less key
  rw [<- zlF, ByteArray.toList_eq, ByteArray.toList_eq]
theorem zlK : ∀ a b : List UInt8, Lib.compareBytes a b = 0 ↔ a = b
  | [], [] => by simp [Lib.compareBytes]
  | [], _ :: _ => by simp [Lib.compareBytes]
  | _ :: _, [] => by simp [Lib.compareBytes]
  | a :: xs, b :: ys => by
    simp only [Lib.compareBytes]
    by_cases h : a < b
    · have hne : ¬ a = b := fun e => by subst e; exact UInt8.lt_irrefl _ h
      simp [h, hne]
    · by_cases h' : b < a
      · have hne : ¬ a = b := fun e => by subst e; exact UInt8.lt_irrefl _ h'
        simp [h, h', hne]
      · have he : a = b := by
          have h1 : ¬ a.toNat < b.toNat := h
          have h2 : ¬ b.toNat < a.toNat := h'
          exact UInt8.toNat_inj.1 (by omega)
        simp [he, zlK xs ys]
theorem za7 (a b : ByteArray) : key a b = 0 ↔ a = b := by
  unfold key
  rw [zlK]
  constructor
  · intro h
    cases a; cases b
    simp only at h
    rw [Array.toList_inj.1 h]
  · rintro rfl; rfl
def zci (vs : List Int) : Int := (vs.find? (fun v => decide (¬ v = 0))).getD 0
theorem zjW (a b : Int) : zci [a, b] = if a = 0 then b else a := by
  unfold zci
  by_cases h : a = 0
  · by_cases h2 : b = 0 <;> simp [h, h2]
  · simp [h]
theorem zlu (a b c : Int) : zci [a, b, c] = if a = 0 then (if b = 0 then c else b) else a := by
  unfold zci
  by_cases h : a = 0
  · by_cases h2 : b = 0
    · by_cases h3 : c = 0 <;> simp [h, h2, h3]
    · simp [h, h2]
  · simp [h]
def key2 (a b c d : ByteArray) : Int := if key a c = 0 then key b d else key a c
def zbI (a b : Ob) : Int := key2 a.kd a.nm b.kd b.nm
def yT (a b : Lg) : Int := key2 a.tm a.rs b.tm b.rs
def jL (a b : Pu) : Int := if key a.dr b.dr = 0 then key2 a.tm a.rs b.tm b.rs else key a.dr b.dr
end Gate
theorem zdI (a b : ByteArray) (w : World) : Calls Tryz.prog 190 #[.string a, .string b] w fun e w' => e = .returned (.int .i64 (Gate.key a b)) /\ w' = w :=
  Any.strings_Compare lays106 a b w
set_option maxHeartbeats 400000 in
theorem zjQ (a : Option Addr) (cap : Nat) (vs : List Int) (w : World) (hw : yL w a vs) (hl : vs.length <= 100) :
    Calls Tryz.prog 189 #[.slice a vs.length cap] w fun e w' => e = .returned (.int .i64 (Gate.zci vs)) /\ w' = w := by
  go_enter Tryz.func189, Tryz.ntmps189
  go_wp2_with fail
  go_loopw [8] (fun i wr => ∃ k : Nat, k <= vs.length /\ i = .int .i64 k /\ Hid (∀ v ∈ vs.take k, v = 0) /\ wr = w) (fun i _ => vs.length - (intOf i).toNat)
  case atStart => exact ⟨0, Nat.zero_le _, rfl, fun v hv => by simp at hv, rfl⟩
  case round =>
    obtain ⟨k, hk, rfl, hz, rfl⟩ := hrel
    by_cases hlt : k < vs.length
    · obtain ⟨b, off, rfl, hb, hck⟩ := hw.load (Below.refl _ _) k hlt
      have hltI : (k : Int) < (vs.length : Int) := by omega
      clear hw
      by_cases h0 : vs[k] = 0
      · have e0 : (vs[k] != 0) = false := by simpa using h0
        have HZ : Hid (∀ v ∈ vs.take (k + 1), v = 0) := by
          intro v hv
          rw [List.take_succ_eq_append_getElem hlt, List.mem_append, List.mem_singleton] at hv
          rcases hv with hv | hv
          · exact hz.out v hv
          · rw [hv]; exact h0
        clear h0
        go_wp2_with fail
        exact ⟨⟨k + 1, by omega, by go_num, HZ.out, trivial⟩, by simp [intOf]; omega⟩
      · have e0 : (vs[k] != 0) = true := by simpa using h0
        have HF : Hid (Gate.zci vs = vs[k]) := by
          unfold Hid Gate.zci
          have e : vs = vs.take k ++ vs[k] :: vs.drop (k + 1) := by rw [<- List.drop_eq_getElem_cons hlt, List.take_append_drop]
          have hn : (vs.take k).find? (fun v => decide (¬ v = 0)) = none := by
            rw [List.find?_eq_none]; intro v hv; simp [hz.out v hv]
          have : vs.find? (fun v => decide (¬ v = 0)) = some vs[k] := by
            rw [List.find?_eq_some_iff_append]
            refine ⟨by simpa using h0, vs.take k, vs.drop (k + 1), e, fun v hv => by simp [hz.out v hv]⟩
          rw [this]; rfl
        clear h0
        go_wp2_with fail
        go_ret
        exact ⟨zl HF.out.symm, rfl⟩
    · have HF : Hid (Gate.zci vs = 0) := by
        unfold Hid Gate.zci
        have h := hz.out
        rw [List.take_of_length_le (by omega)] at h
        have : vs.find? (fun v => decide (¬ v = 0)) = none := by
          rw [List.find?_eq_none]; intro v hv; simp [h v hv]
        rw [this]; rfl
      clear hw
      go_wp2_with fail
      go_ret
      exact ⟨zl HF.out.symm, rfl⟩
end Go.Proofs.YtfcdmlnpfoikhaaGreat

namespace Go.Proofs.YtfcdmlnpfoikhaaGreat
open Go.RowKit
theorem zj0 (W : World) (k1 k2 : Int) : Calls Tryz.prog 189 #[.slice (some ⟨W.heap.size, 0, none⟩) 2 2] (W.alloc (.cells #[.int .i64 k1, .int .i64 k2] 3)).drew fun e w' => e = .returned (.int .i64 (Gate.zci [k1, k2])) /\ w' = (W.alloc (.cells #[.int .i64 k1, .int .i64 k2] 3)).drew :=
  zjQ (some ⟨W.heap.size, 0, none⟩) 2 [k1, k2] _ ((zeb (alloc_at _ _) (by simp [maxLen])).mono (Below.refl _ _).drew) (by simp)
theorem zl7 (W : World) (k1 k2 k3 : Int) : Calls Tryz.prog 189 #[.slice (some ⟨W.heap.size, 0, none⟩) 3 3] (W.alloc (.cells #[.int .i64 k1, .int .i64 k2, .int .i64 k3] 3)).drew fun e w' => e = .returned (.int .i64 (Gate.zci [k1, k2, k3])) /\ w' = (W.alloc (.cells #[.int .i64 k1, .int .i64 k2, .int .i64 k3] 3)).drew :=
  zjQ (some ⟨W.heap.size, 0, none⟩) 3 [k1, k2, k3] _ ((zeb (alloc_at _ _) (by simp [maxLen])).mono (Below.refl _ _).drew) (by simp)
set_option maxHeartbeats 2000000 in
theorem zhc (o p : Ob) (a0 a1 b0 b1 : Option Addr) (c0 c1 d0 d1 : Nat) (w : World) :
    Calls Tryz.prog 147 #[.agg (o.row a0 a1 c0 c1), .agg (p.row b0 b1 d0 d1)] w fun e w' => e = .returned (.int .i64 (Gate.zbI o p)) /\ Below w.heap.size w w' := by
  have HR : Hid (Gate.zci [Gate.key o.kd p.kd, Gate.key o.nm p.nm] = Gate.zbI o p) := by unfold Hid; rw [Gate.zjW]; rfl
  unfold Ob.row
  go_enter Tryz.func147, Tryz.ntmps147
  go_wp2_with fail
  obtain ⟨hX0, hY0⟩ := yR w (oC o a0 a1 c0 c1) (oC p b0 b1 d0 d1) 115 115
  have HB0 : Hid (Below w.heap.size w ((w.alloc (.cells (oC o a0 a1 c0 c1) 115)).alloc (.cells (oC p b0 b1 d0 d1) 115))) := zq w _ _
  obtain ⟨W0, hW0⟩ : ∃ W0, W0 = (w.alloc (.cells (oC o a0 a1 c0 c1) 115)).alloc (.cells (oC p b0 b1 d0 d1) 115) := ⟨_, rfl⟩
  have hz0 : w.heap.size + 1 < W0.heap.size := by rw [hW0]; simp
  rw [<- hW0] at HB0 hX0 hY0 ⊢
  clear hW0
  have hS : (∀ j, W0.drew.cell? ⟨w.heap.size, j, none⟩ = (oC o a0 a1 c0 c1)[j]?) /\ (∀ j, W0.drew.cell? ⟨w.heap.size + 1, j, none⟩ = (oC p b0 b1 d0 d1)[j]?) := ⟨hX0, hY0⟩
  have hSa : ∀ ob, (∀ j, (W0.alloc ob).drew.cell? ⟨w.heap.size, j, none⟩ = (oC o a0 a1 c0 c1)[j]?) /\ (∀ j, (W0.alloc ob).drew.cell? ⟨w.heap.size + 1, j, none⟩ = (oC p b0 b1 d0 d1)[j]?) := fun ob => ⟨za (b := w.heap.size) (wk := W0) hX0 (Nat.lt_of_succ_lt hz0) (((Below.refl _ _).alloc (Nat.le_refl _) _).drew), za (b := w.heap.size + 1) (wk := W0) hY0 hz0 (((Below.refl _ _).alloc (Nat.le_refl _) _).drew)⟩
  clear hX0 hY0
  go_region_held3 (fun w' => (∀ j, w'.cell? ⟨w.heap.size, j, none⟩ = (oC o a0 a1 c0 c1)[j]?) /\ (∀ j, w'.cell? ⟨w.heap.size + 1, j, none⟩ = (oC p b0 b1 d0 d1)[j]?)) (first | exact hS | exact hSa _) (first
    | (go_at_call 190; refine (zdI _ _ _).mono ?_; rintro e w3 ⟨rfl, rfl⟩)
    | (go_at_call 189; refine (zj0 _ _ _).mono ?_; rintro e w3 ⟨rfl, rfl⟩))
  go_wp2_with fail
  go_ret
  exact ⟨zl HR.out, (HB0.out.alloc HB0.out.size _).drew⟩
set_option maxHeartbeats 2000000 in
theorem zbF (o p : Lg) (w : World) :
    Calls Tryz.prog 155 #[.agg o.cells, .agg p.cells] w fun e w' => e = .returned (.int .i64 (Gate.yT o p)) /\ Below w.heap.size w w' := by
  have HR : Hid (Gate.zci [Gate.key o.tm p.tm, Gate.key o.rs p.rs] = Gate.yT o p) := by unfold Hid; rw [Gate.zjW]; rfl
  unfold Lg.cells
  go_enter Tryz.func155, Tryz.ntmps155
  go_wp2_with fail
  obtain ⟨hX0, hY0⟩ := yR w #[.string o.tm, .string o.rs, .int .i64 o.mo, .int .i64 o.fr] #[.string p.tm, .string p.rs, .int .i64 p.mo, .int .i64 p.fr] 130 130
  have HB0 : Hid (Below w.heap.size w ((w.alloc (.cells #[.string o.tm, .string o.rs, .int .i64 o.mo, .int .i64 o.fr] 130)).alloc (.cells #[.string p.tm, .string p.rs, .int .i64 p.mo, .int .i64 p.fr] 130))) := zq w _ _
  obtain ⟨W0, hW0⟩ : ∃ W0, W0 = (w.alloc (.cells #[.string o.tm, .string o.rs, .int .i64 o.mo, .int .i64 o.fr] 130)).alloc (.cells #[.string p.tm, .string p.rs, .int .i64 p.mo, .int .i64 p.fr] 130) := ⟨_, rfl⟩
  have hz0 : w.heap.size + 1 < W0.heap.size := by rw [hW0]; simp
  rw [<- hW0] at HB0 hX0 hY0 ⊢
  clear hW0
  have hS : (∀ j, W0.drew.cell? ⟨w.heap.size, j, none⟩ = (#[.string o.tm, .string o.rs, .int .i64 o.mo, .int .i64 o.fr] : Array Value)[j]?) /\ (∀ j, W0.drew.cell? ⟨w.heap.size + 1, j, none⟩ = (#[.string p.tm, .string p.rs, .int .i64 p.mo, .int .i64 p.fr] : Array Value)[j]?) := ⟨hX0, hY0⟩
  have hSa : ∀ ob, (∀ j, (W0.alloc ob).drew.cell? ⟨w.heap.size, j, none⟩ = (#[.string o.tm, .string o.rs, .int .i64 o.mo, .int .i64 o.fr] : Array Value)[j]?) /\ (∀ j, (W0.alloc ob).drew.cell? ⟨w.heap.size + 1, j, none⟩ = (#[.string p.tm, .string p.rs, .int .i64 p.mo, .int .i64 p.fr] : Array Value)[j]?) := fun ob => ⟨za (b := w.heap.size) (wk := W0) hX0 (Nat.lt_of_succ_lt hz0) (((Below.refl _ _).alloc (Nat.le_refl _) _).drew), za (b := w.heap.size + 1) (wk := W0) hY0 hz0 (((Below.refl _ _).alloc (Nat.le_refl _) _).drew)⟩
  clear hX0 hY0
  go_region_held3 (fun w' => (∀ j, w'.cell? ⟨w.heap.size, j, none⟩ = (#[.string o.tm, .string o.rs, .int .i64 o.mo, .int .i64 o.fr] : Array Value)[j]?) /\ (∀ j, w'.cell? ⟨w.heap.size + 1, j, none⟩ = (#[.string p.tm, .string p.rs, .int .i64 p.mo, .int .i64 p.fr] : Array Value)[j]?)) (first | exact hS | exact hSa _) (first
    | (go_at_call 190; refine (zdI _ _ _).mono ?_; rintro e w3 ⟨rfl, rfl⟩)
    | (go_at_call 189; refine (zj0 _ _ _).mono ?_; rintro e w3 ⟨rfl, rfl⟩))
  go_wp2_with fail
  go_ret
  exact ⟨zl HR.out, (HB0.out.alloc HB0.out.size _).drew⟩
set_option maxHeartbeats 2000000 in
theorem zib (o p : Pu) (w : World) :
    Calls Tryz.prog 158 #[.agg o.cells, .agg p.cells] w fun e w' => e = .returned (.int .i64 (Gate.jL o p)) /\ Below w.heap.size w w' := by
  have HR : Hid (Gate.zci [Gate.key o.dr p.dr, Gate.key o.tm p.tm, Gate.key o.rs p.rs] = Gate.jL o p) := by unfold Hid; rw [Gate.zlu]; rfl
  unfold Pu.cells
  go_enter Tryz.func158, Tryz.ntmps158
  go_wp2_with fail
  obtain ⟨hX0, hY0⟩ := yR w #[.string o.dr, .string o.tm, .string o.rs, .int .i64 o.am, .int .i64 o.un] #[.string p.dr, .string p.tm, .string p.rs, .int .i64 p.am, .int .i64 p.un] 132 132
  have HB0 : Hid (Below w.heap.size w ((w.alloc (.cells #[.string o.dr, .string o.tm, .string o.rs, .int .i64 o.am, .int .i64 o.un] 132)).alloc (.cells #[.string p.dr, .string p.tm, .string p.rs, .int .i64 p.am, .int .i64 p.un] 132))) := zq w _ _
  obtain ⟨W0, hW0⟩ : ∃ W0, W0 = (w.alloc (.cells #[.string o.dr, .string o.tm, .string o.rs, .int .i64 o.am, .int .i64 o.un] 132)).alloc (.cells #[.string p.dr, .string p.tm, .string p.rs, .int .i64 p.am, .int .i64 p.un] 132) := ⟨_, rfl⟩
  have hz0 : w.heap.size + 1 < W0.heap.size := by rw [hW0]; simp
  rw [<- hW0] at HB0 hX0 hY0 ⊢
  clear hW0
  have hS : (∀ j, W0.drew.cell? ⟨w.heap.size, j, none⟩ = (#[.string o.dr, .string o.tm, .string o.rs, .int .i64 o.am, .int .i64 o.un] : Array Value)[j]?) /\ (∀ j, W0.drew.cell? ⟨w.heap.size + 1, j, none⟩ = (#[.string p.dr, .string p.tm, .string p.rs, .int .i64 p.am, .int .i64 p.un] : Array Value)[j]?) := ⟨hX0, hY0⟩
  have hSa : ∀ ob, (∀ j, (W0.alloc ob).drew.cell? ⟨w.heap.size, j, none⟩ = (#[.string o.dr, .string o.tm, .string o.rs, .int .i64 o.am, .int .i64 o.un] : Array Value)[j]?) /\ (∀ j, (W0.alloc ob).drew.cell? ⟨w.heap.size + 1, j, none⟩ = (#[.string p.dr, .string p.tm, .string p.rs, .int .i64 p.am, .int .i64 p.un] : Array Value)[j]?) := fun ob => ⟨za (b := w.heap.size) (wk := W0) hX0 (Nat.lt_of_succ_lt hz0) (((Below.refl _ _).alloc (Nat.le_refl _) _).drew), za (b := w.heap.size + 1) (wk := W0) hY0 hz0 (((Below.refl _ _).alloc (Nat.le_refl _) _).drew)⟩
  clear hX0 hY0
  go_region_held3 (fun w' => (∀ j, w'.cell? ⟨w.heap.size, j, none⟩ = (#[.string o.dr, .string o.tm, .string o.rs, .int .i64 o.am, .int .i64 o.un] : Array Value)[j]?) /\ (∀ j, w'.cell? ⟨w.heap.size + 1, j, none⟩ = (#[.string p.dr, .string p.tm, .string p.rs, .int .i64 p.am, .int .i64 p.un] : Array Value)[j]?)) (first | exact hS | exact hSa _) (first
    | (go_at_call 190; refine (zdI _ _ _).mono ?_; rintro e w3 ⟨rfl, rfl⟩)
    | (go_at_call 189; refine (zl7 _ _ _ _).mono ?_; rintro e w3 ⟨rfl, rfl⟩))
  go_wp2_with fail
  go_ret
  exact ⟨zl HR.out, (HB0.out.alloc HB0.out.size _).drew⟩
end Go.Proofs.YtfcdmlnpfoikhaaGreat

namespace Go.Proofs.YtfcdmlnpfoikhaaGreat
open Go.ChangeShapes Go.WideShapes Go.ChangeAt Go.RowKit
theorem Tryz.zgC : Tryz.prog.cellsOf 108 = 4 := by kernel_rfl
theorem Tryz.ziE : Tryz.prog.cellsOf 111 = 5 := by kernel_rfl
theorem Tryz.ziI : Tryz.prog.cellsOf 105 = 7 := by kernel_rfl
theorem Tryz.zn2 : Tryz.prog.cellsOf 32 = 7 := by kernel_rfl
theorem Tryz.zkP : Tryz.prog.cellsOf 27 = 1 := by kernel_rfl
theorem Tryz.zlI : Tryz.prog.cellsOf 28 = 1 := by kernel_rfl
theorem Tryz.zkM : Tryz.prog.cellsOf 29 = 1 := by kernel_rfl
theorem Tryz.zlf : Tryz.prog.cellsOf 30 = 1 := by kernel_rfl
section
variable {H : Type} {enc : TypeId × Value -> H} {w : World} {base : Nat} {spare : Nat -> Bool} {held : Bool}
theorem zng {P : Program} {t : TypeId} {fs : Array Field} {fuel : Nat} {cs : List Value} {x : DataW H × List MemPlace} (ht : P.underlying t = some (.struct fs)) (h : DataW.trod enc P w base spare held fuel t cs = some x)
    (i tf off n : Nat) (hf : (fs[i]?).map (fun f => (f.type, f.offset)) = some (tf, off)) (hn : P.cellsOf tf = n) : ∃ m y, DataW.trod enc P w base spare held m tf ((cs.drop off).take n) = some y := by
  obtain ⟨f, hf1, hf2⟩ := Option.map_eq_some_iff.1 hf
  simp only [Prod.mk.injEq] at hf2
  obtain ⟨rfl, rfl⟩ := hf2
  subst hn
  exact zhD ht h i f hf1
theorem zl4 {fuel : Nat} {cs : List Value} {x : DataW H × List MemPlace} (h : DataW.trod enc Tryz.prog w base spare held fuel 108 cs = some x) :
    ∃ m : Lg, cs = m.cells.toList /\ m.Small := by
  have hlen : cs.length = 4 := by
    obtain ⟨_, _, _, _, hl, _, _⟩ := DataW.trod_struct Tryz.underlying108 h
    rw [hl]; exact Tryz.zgC
  match cs, hlen with
  | [c0, c1, c2, c3], _ =>
    have hf := jJ Tryz.underlying108 h
    obtain ⟨_, _, f0⟩ := hf 0 9 0 c0 rfl Tryz.zL rfl
    obtain ⟨_, _, f1⟩ := hf 1 9 1 c1 rfl Tryz.zL rfl
    obtain ⟨_, _, f2⟩ := hf 2 3 2 c2 rfl Tryz.jk rfl
    obtain ⟨_, _, f3⟩ := hf 3 3 3 c3 rfl Tryz.jk rfl
    obtain ⟨x0, e0, _, s0⟩ := DataW.trod_string Tryz.underlying9 f0
    obtain ⟨x1, e1, _, s1⟩ := DataW.trod_string Tryz.underlying9 f1
    obtain ⟨x2, e2, _, _⟩ := DataW.trod_int Tryz.underlying3 f2
    obtain ⟨x3, e3, _, _⟩ := DataW.trod_int Tryz.underlying3 f3
    simp only [List.cons.injEq, and_true] at e0 e1 e2 e3
    subst e0 e1 e2 e3
    exact ⟨⟨x0, x1, x2, x3⟩, rfl, s0, s1⟩
theorem zkE {fuel : Nat} {cs : List Value} {x : DataW H × List MemPlace} (h : DataW.trod enc Tryz.prog w base spare held fuel 29 cs = some x) :
    ∃ a cap ms, cs = [.slice a (List.length ms) cap] /\ zb7 w a ms := by
  obtain ⟨a, len, cap, rfl, hm, hr⟩ := zar Tryz.underlying29 Tryz.zgC (by omega) h
  rcases Nat.eq_zero_or_pos len with h0 | hp
  · subst h0
    exact ⟨a, cap, [], rfl, ⟨by simp [maxLen], fun i h => absurd h (by simp), fun h => absurd rfl h⟩⟩
  · obtain ⟨b, off, rfl, hb, hrow⟩ := hr hp
    have hf : ∀ i, i < len -> ∃ m : Lg, m.Small /\ ∀ j, j < 4 -> w.cell? ⟨b, off + i * 4 + j, none⟩ = m.cells[j]? := by
      intro i hi
      obtain ⟨es, n, y, hel, hcell, hy⟩ := hrow i hi
      obtain ⟨m, rfl, hs⟩ := zl4 hy
      exact ⟨m, hs, fun j hj => by rw [hcell j hj]; simp⟩
    obtain ⟨ms, hl, hms⟩ := zbv len hf
    exact ⟨_, cap, ms, by rw [hl], ⟨by omega, fun i hi => (hms i hi).1, fun _ => ⟨b, off, rfl, hb, fun i hi => (hms i hi).2⟩⟩⟩
theorem zm2 {fuel : Nat} {cs : List Value} {x : DataW H × List MemPlace} (h : DataW.trod enc Tryz.prog w base spare held fuel 111 cs = some x) :
    ∃ m : Pu, cs = m.cells.toList /\ m.Small := by
  have hlen : cs.length = 5 := by
    obtain ⟨_, _, _, _, hl, _, _⟩ := DataW.trod_struct Tryz.underlying111 h
    rw [hl]; exact Tryz.ziE
  match cs, hlen with
  | [c0, c1, c2, c3, c4], _ =>
    have hf := jJ Tryz.underlying111 h
    obtain ⟨_, _, f0⟩ := hf 0 9 0 c0 rfl Tryz.zL rfl
    obtain ⟨_, _, f1⟩ := hf 1 9 1 c1 rfl Tryz.zL rfl
    obtain ⟨_, _, f2⟩ := hf 2 9 2 c2 rfl Tryz.zL rfl
    obtain ⟨_, _, f3⟩ := hf 3 3 3 c3 rfl Tryz.jk rfl
    obtain ⟨_, _, f4⟩ := hf 4 3 4 c4 rfl Tryz.jk rfl
    obtain ⟨x0, e0, _, s0⟩ := DataW.trod_string Tryz.underlying9 f0
    obtain ⟨x1, e1, _, s1⟩ := DataW.trod_string Tryz.underlying9 f1
    obtain ⟨x2, e2, _, s2⟩ := DataW.trod_string Tryz.underlying9 f2
    obtain ⟨x3, e3, _, _⟩ := DataW.trod_int Tryz.underlying3 f3
    obtain ⟨x4, e4, _, _⟩ := DataW.trod_int Tryz.underlying3 f4
    simp only [List.cons.injEq, and_true] at e0 e1 e2 e3 e4
    subst e0 e1 e2 e3 e4
    exact ⟨⟨x0, x1, x2, x3, x4⟩, rfl, s0, s1, s2⟩
theorem zlw {fuel : Nat} {cs : List Value} {x : DataW H × List MemPlace} (h : DataW.trod enc Tryz.prog w base spare held fuel 30 cs = some x) :
    ∃ a cap ms, cs = [.slice a (List.length ms) cap] /\ zcE w a ms := by
  obtain ⟨a, len, cap, rfl, hm, hr⟩ := zar Tryz.underlying30 Tryz.ziE (by omega) h
  rcases Nat.eq_zero_or_pos len with h0 | hp
  · subst h0
    exact ⟨a, cap, [], rfl, ⟨by simp [maxLen], fun i h => absurd h (by simp), fun h => absurd rfl h⟩⟩
  · obtain ⟨b, off, rfl, hb, hrow⟩ := hr hp
    have hf : ∀ i, i < len -> ∃ m : Pu, m.Small /\ ∀ j, j < 5 -> w.cell? ⟨b, off + i * 5 + j, none⟩ = m.cells[j]? := by
      intro i hi
      obtain ⟨es, n, y, hel, hcell, hy⟩ := hrow i hi
      obtain ⟨m, rfl, hs⟩ := zm2 hy
      exact ⟨m, hs, fun j hj => by rw [hcell j hj]; simp⟩
    obtain ⟨ms, hl, hms⟩ := zbv len hf
    exact ⟨_, cap, ms, by rw [hl], ⟨by omega, fun i hi => (hms i hi).1, fun _ => ⟨b, off, rfl, hb, fun i hi => (hms i hi).2⟩⟩⟩
theorem zkN {fuel : Nat} {cs : List Value} {x : DataW H × List MemPlace} (h : DataW.trod enc Tryz.prog w base spare held fuel 27 cs = some x) :
    ∃ a cap ms, cs = [.slice a (List.length ms) cap] /\ zbf w a ms := by
  obtain ⟨a, len, cap, rfl, hm, hr⟩ := zar Tryz.underlying27 Tryz.zgq (by omega) h
  rcases Nat.eq_zero_or_pos len with h0 | hp
  · subst h0
    exact ⟨a, cap, [], rfl, ⟨by simp [maxLen], fun h => absurd rfl h⟩⟩
  · obtain ⟨b, off, rfl, hb, hrow⟩ := hr hp
    have hf : ∀ i, i < len -> ∃ o : Ob, ∃ a0 a1 c0 c1, znR w b (off + i * 7) o a0 a1 c0 c1 := by
      intro i hi
      obtain ⟨es, n, y, hel, hcell, hy⟩ := hrow i hi
      obtain ⟨o, a0, a1, c0, c1, rfl, hs⟩ := zl0 hy
      exact ⟨o, a0, a1, c0, c1, hs.small, hs.vals, hs.holds, fun j hj => by rw [hcell j hj]; simp [Ob.row]⟩
    obtain ⟨ms, hl, hms⟩ := zbv len hf
    exact ⟨_, cap, ms, by rw [hl], ⟨by omega, fun _ => ⟨b, off, rfl, hb, hms⟩⟩⟩
theorem zme {fuel : Nat} {cs : List Value} {x : DataW H × List MemPlace} (h : DataW.trod enc Tryz.prog w base spare held fuel 105 cs = some x) :
    ∃ (g : Gr) (a : Option Addr) (cap : Nat), cs = (g.cells a cap).toList /\ g.Small /\ yL w a g.r.vs := by
  have hlen : cs.length = 7 := by
    obtain ⟨_, _, _, _, hl, _, _⟩ := DataW.trod_struct Tryz.underlying105 h
    rw [hl]; exact Tryz.ziI
  match cs, hlen with
  | [c0, c1, c2, c3, c4, c5, c6], _ =>
    have hf := jJ Tryz.underlying105 h
    obtain ⟨_, _, f0⟩ := hf 0 3 0 c0 rfl Tryz.jk rfl
    obtain ⟨_, _, f1⟩ := hf 1 9 1 c1 rfl Tryz.zL rfl
    obtain ⟨_, _, f2⟩ := hf 2 9 2 c2 rfl Tryz.zL rfl
    obtain ⟨_, _, f3⟩ := zng Tryz.underlying105 h 3 103 3 4 rfl Tryz.zjN
    obtain ⟨x0, e0, _, _⟩ := DataW.trod_int Tryz.underlying3 f0
    obtain ⟨x1, e1, _, s1⟩ := DataW.trod_string Tryz.underlying9 f1
    obtain ⟨x2, e2, _, s2⟩ := DataW.trod_string Tryz.underlying9 f2
    obtain ⟨r, a, cap, e3, hs, hI⟩ := znN f3
    simp only [List.cons.injEq, and_true] at e0 e1 e2
    subst e0 e1 e2
    have e3' : [c3, c4, c5, c6] = (r.cells a cap).toList := e3
    unfold Rl.cells at e3'
    simp only [List.cons.injEq, and_true] at e3'
    obtain ⟨e3, e4, e5, e6⟩ := e3'
    subst e3 e4 e5 e6
    exact ⟨⟨x0, x1, x2, r⟩, a, cap, rfl, ⟨s1, s2, hs⟩, hI⟩
theorem zli {fuel : Nat} {cs : List Value} {x : DataW H × List MemPlace} (h : DataW.trod enc Tryz.prog w base spare held fuel 28 cs = some x) :
    ∃ a cap ms, cs = [.slice a (List.length ms) cap] /\ zbZ w a ms := by
  obtain ⟨a, len, cap, rfl, hm, hr⟩ := zar Tryz.underlying28 Tryz.ziI (by omega) h
  rcases Nat.eq_zero_or_pos len with h0 | hp
  · subst h0
    exact ⟨a, cap, [], rfl, ⟨by simp [maxLen], fun h => absurd rfl h⟩⟩
  · obtain ⟨b, off, rfl, hb, hrow⟩ := hr hp
    have hf : ∀ i, i < len -> ∃ g : Gr, ∃ a0 c0, zov w b (off + i * 7) g a0 c0 := by
      intro i hi
      obtain ⟨es, n, y, hel, hcell, hy⟩ := hrow i hi
      obtain ⟨g, a0, c0, rfl, hs, hI⟩ := zme hy
      exact ⟨g, a0, c0, hs, hI, fun j hj => by rw [hcell j hj]; simp⟩
    obtain ⟨ms, hl, hms⟩ := zbv len hf
    exact ⟨_, cap, ms, by rw [hl], ⟨by omega, fun _ => ⟨b, off, rfl, hb, hms⟩⟩⟩
theorem zob {fuel : Nat} {cs : List Value} {x : DataW H × List MemPlace} (h : DataW.trod enc Tryz.prog w base spare held fuel 32 cs = some x) :
    ∃ (b : Bk) (a0 a1 a2 a3 : Option Addr) (k0 k1 k2 k3 : Nat), cs = (b.cells a0 a1 a2 a3 k0 k1 k2 k3).toList /\ qD w b a0 a1 a2 a3 := by
  have hlen : cs.length = 7 := by
    obtain ⟨_, _, _, _, hl, _, _⟩ := DataW.trod_struct Tryz.underlying32 h
    rw [hl]; exact Tryz.zn2
  match cs, hlen with
  | [c0, c1, c2, c3, c4, c5, c6], _ =>
    have hf := jJ Tryz.underlying32 h
    obtain ⟨_, _, f0⟩ := hf 0 3 0 c0 rfl Tryz.jk rfl
    obtain ⟨_, _, f1⟩ := hf 1 3 1 c1 rfl Tryz.jk rfl
    obtain ⟨_, _, f2⟩ := hf 2 3 2 c2 rfl Tryz.jk rfl
    obtain ⟨_, _, f3⟩ := hf 3 27 3 c3 rfl Tryz.zkP rfl
    obtain ⟨_, _, f4⟩ := hf 4 28 4 c4 rfl Tryz.zlI rfl
    obtain ⟨_, _, f5⟩ := hf 5 29 5 c5 rfl Tryz.zkM rfl
    obtain ⟨_, _, f6⟩ := hf 6 30 6 c6 rfl Tryz.zlf rfl
    obtain ⟨x0, e0, _, _⟩ := DataW.trod_int Tryz.underlying3 f0
    obtain ⟨x1, e1, _, _⟩ := DataW.trod_int Tryz.underlying3 f1
    obtain ⟨x2, e2, _, _⟩ := DataW.trod_int Tryz.underlying3 f2
    obtain ⟨a0, k0, os, e3, hO⟩ := zkN f3
    obtain ⟨a1, k1, gs, e4, hG⟩ := zli f4
    obtain ⟨a2, k2, ls, e5, hL⟩ := zkE f5
    obtain ⟨a3, k3, ps, e6, hP⟩ := zlw f6
    simp only [List.cons.injEq, and_true] at e0 e1 e2 e3 e4 e5 e6
    subst e0 e1 e2 e3 e4 e5 e6
    exact ⟨⟨x0, x1, x2, os, gs, ls, ps⟩, a0, a1, a2, a3, k0, k1, k2, k3, rfl, ⟨hO, hG, hL, hP⟩⟩
end
end Go.Proofs.YtfcdmlnpfoikhaaGreat
