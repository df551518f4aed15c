import Derived.Test.YtfpeplbmfbepcaaGreatM21
import Derived.Test.YtfpeplbmfbepcaaGreatM22
import Derived.Test.YtfpeplbmfbepcaaGreatM15
import Derived.Shelf.Lay
import Derived.Shelf.LaySoft
import Derived.Shelf.LaysM
import Derived.Shelf.Small.Strs
import Derived.Deep.RegionHeld3
import Derived.Test.YtfpeplbmfbepcaaGreatM05
import Derived.Test.YtfpeplbmfbepcaaGreatM07
namespace Go.Proofs.YtfpeplbmfbepcaaGreat
open Go.RowKit
structure Bk where
  now : Int
  tick : Int
  given : Int
  os : List Ob
  gs : List Gr
  ls : List Lg
  ps : List Pu
abbrev bC (b : Bk) (a0 a1 a2 a3 : Option Addr) (c0 c1 c2 c3 : Nat) : Array Value := #[.int .i64 b.now, .int .i64 b.tick, .int .i64 b.given, .slice a0 b.os.length c0, .slice a1 b.gs.length c1, .slice a2 b.ls.length c2, .slice a3 b.ps.length c3]
abbrev bZ : Array Value := #[.int .i64 0, .int .i64 0, .int .i64 0, .slice none 0 0, .slice none 0 0, .slice none 0 0, .slice none 0 0]
def Bk.cells (b : Bk) (a0 a1 a2 a3 : Option Addr) (c0 c1 c2 c3 : Nat) : Array Value := #[.int .i64 b.now, .int .i64 b.tick, .int .i64 b.given, .slice a0 b.os.length c0, .slice a1 b.gs.length c1, .slice a2 b.ls.length c2, .slice a3 b.ps.length c3]
structure y9 (w : World) (b : Bk) (a0 a1 a2 a3 : Option Addr) : Prop where
  os : zbn w a0 b.os
  gs : zcd w a1 b.gs
  ls : zck w a2 b.ls
  ps : zcV w a3 b.ps
theorem y9.mono {w w' : World} {b : Bk} {a0 a1 a2 a3 : Option Addr} (h : y9 w b a0 a1 a2 a3) (hb : Below w.heap.size w w') : y9 w' b a0 a1 a2 a3 := ⟨h.os.mono hb, h.gs.mono hb, h.ls.mono hb, h.ps.mono hb⟩
def Bk.sz (b : Bk) : Nat := yZ b.os + zbJ b.gs + zch b.ls + zcC b.ps
structure Bk.Few (b : Bk) : Prop where
  os : b.os.length <= 1048576 /\ ∀ i (h : i < b.os.length), b.os[i].vs.length <= 1048576 /\ b.os[i].hs.length <= 1048576
  gs : b.gs.length <= 1048576 /\ ∀ i (h : i < b.gs.length), b.gs[i].r.vs.length <= 1048576
  ls : b.ls.length <= 1048576
  ps : b.ps.length <= 1048576
theorem Bk.few {b : Bk} (h : (b.sz : Int) <= 1048576) : b.Few := by
  unfold Bk.sz at h
  refine ⟨zkZ (left := 1048576) (by omega) (by omega), zqb (left := 1048576) (by omega) (by omega), ?_, ?_⟩
  · unfold zch at h; omega
  · unfold zcC at h; omega
structure Bk.Small (b : Bk) : Prop where
  os : zfv b.os
  lo : b.os.length <= maxLen
  gs : zi7 b.gs
  lg : b.gs.length <= maxLen
  ls : ∀ i (h : i < b.ls.length), b.ls[i].Small
  ll : b.ls.length <= maxLen
  ps : ∀ i (h : i < b.ps.length), b.ps[i].Small
  lp : b.ps.length <= maxLen
theorem y9.small {w : World} {b : Bk} {a0 a1 a2 a3 : Option Addr} (h : y9 w b a0 a1 a2 a3) : b.Small := ⟨h.os.smalls, h.os.len, h.gs.smalls, h.gs.len, h.ls.small, h.ls.len, h.ps.small, h.ps.len⟩
structure zgO (lo : Nat) (w : World) (b : Bk) (g0 g1 g2 g3 : Nat) : Prop where
  os : qV lo w g0 b.os b.os.length
  gs : jE lo w g1 b.gs b.gs.length
  ls : jC lo w g2 b.ls b.ls.length
  ps : jB lo w g3 b.ps b.ps.length
theorem zgO.above {lo : Nat} {w w' : World} {b : Bk} {g0 g1 g2 g3 : Nat} (h : zgO lo w b g0 g1 g2 g3) (ha : yt lo w w') : zgO lo w' b g0 g1 g2 g3 := ⟨h.os.above ha, h.gs.above ha, h.ls.above ha, h.ps.above ha⟩
theorem zgO.at {lo : Nat} {w : World} {b : Bk} {g0 g1 g2 g3 : Nat} (h : zgO lo w b g0 g1 g2 g3) (hs : b.Small) : y9 w b (some ⟨g0, 0, none⟩) (some ⟨g1, 0, none⟩) (some ⟨g2, 0, none⟩) (some ⟨g3, 0, none⟩) := ⟨h.os.at hs.os hs.lo, h.gs.at hs.gs hs.lg, h.ls.at hs.ls hs.ll, h.ps.at hs.ps hs.lp⟩
set_option maxHeartbeats 2000000 in
theorem zik (b : Bk) (a0 a1 a2 a3 : Option Addr) (c0 c1 c2 c3 : Nat) (left : Int) (w : World) (hl : y9 w b a0 a1 a2 a3) (h0 : 0 <= left) (h1 : left <= 1048576) :
    Calls Tryz.prog 5 #[.agg (b.cells a0 a1 a2 a3 c0 c1 c2 c3), .int .i64 left] w fun e w' => e = .returned (.int .i64 (zF b.sz left)) /\ Below w.heap.size w w' := by
  have HL : Hid (y9 w b a0 a1 a2 a3) := hl
  clear hl
  unfold Bk.cells
  go_enter Tryz.func5, Tryz.ntmps5
  go_wp2_with fail
  refine (zfE _ _ b.os _ _ (HL.out.os.mono ((Below.refl _ _).alloc (Nat.le_refl _) _)) h0 h1).mono ?_
  rintro e w1 ⟨rfl, hb⟩
  have hX1 := za (zG w (bC b a0 a1 a2 a3 c0 c1 c2 c3) 32) (by simp) hb
  have hz1 : w.heap.size < w1.heap.size := by have := hb.size; simp at this; omega
  have hB1 : Below w.heap.size w w1 := ((Below.refl _ _).alloc (Nat.le_refl _) _).trans (hb.mono (by simp))
  clear hb
  by_cases q1 : (yZ b.os : Int) <= left
  rotate_left
  · have HF : Hid (zF b.sz left = -1) := zx (by unfold Bk.sz; omega)
    rw [zx q1]
    go_wp2_with fail
    go_ret
    exact ⟨zl HF.out.symm, hB1⟩
  rw [zH q1]
  go_wp2_with fail
  refine (zge _ _ b.gs _ _ (HL.out.gs.mono hB1) (by omega) (by omega)).mono ?_
  rintro e w2 ⟨rfl, hb⟩
  have hX2 := za hX1 hz1 hb
  have hz2 := Nat.lt_of_lt_of_le hz1 hb.size
  have hB2 := hB1.trans (hb.mono hB1.size)
  clear hb hX1 hz1 hB1
  by_cases q2 : (zbJ b.gs : Int) <= left - yZ b.os
  rotate_left
  · have HF : Hid (zF b.sz left = -1) := zx (by unfold Bk.sz; omega)
    rw [zx q2]
    go_wp2_with fail
    go_ret
    exact ⟨zl HF.out.symm, hB2⟩
  rw [zH q2]
  go_wp2_with fail
  refine (zfq _ _ b.ls _ _ (HL.out.ls.mono hB2) (by omega) (by omega)).mono ?_
  rintro e w3 ⟨rfl, hb⟩
  have hX3 := za hX2 hz2 hb
  have hz3 := Nat.lt_of_lt_of_le hz2 hb.size
  have hB3 := hB2.trans (hb.mono hB2.size)
  clear hb hX2 hz2 hB2
  by_cases q3 : (zch b.ls : Int) <= left - yZ b.os - zbJ b.gs
  rotate_left
  · have HF : Hid (zF b.sz left = -1) := zx (by unfold Bk.sz; omega)
    rw [zx q3]
    go_wp2_with fail
    go_ret
    exact ⟨zl HF.out.symm, hB3⟩
  rw [zH q3]
  go_wp2_with fail
  refine (zgp _ _ b.ps _ _ (HL.out.ps.mono hB3) (by omega) (by omega)).mono ?_
  rintro e w4 ⟨rfl, hb⟩
  have hX4 := za hX3 hz3 hb
  have hz4 := Nat.lt_of_lt_of_le hz3 hb.size
  have hB4 := hB3.trans (hb.mono hB3.size)
  clear hb hX3 hz3 hB3
  by_cases q4 : (zcC b.ps : Int) <= left - yZ b.os - zbJ b.gs - zch b.ls
  rotate_left
  · have HF : Hid (zF b.sz left = -1) := zx (by unfold Bk.sz; omega)
    rw [zx q4]
    go_wp2_with fail
    go_ret
    exact ⟨zl HF.out.symm, hB4⟩
  have HF : Hid (zF b.sz left = left - yZ b.os - zbJ b.gs - zch b.ls - zcC b.ps) := by
    unfold Hid; rw [zH (by unfold Bk.sz; omega)]; unfold Bk.sz; omega
  rw [zH q4]
  go_wp2_with fail
  go_ret
  exact ⟨zl HF.out.symm, hB4⟩
set_option maxHeartbeats 1000000 in
theorem ziF (b : Bk) (a0 a1 a2 a3 : Option Addr) (c0 c1 c2 c3 : Nat) (a0' a1' a2' a3' : Option Addr) (c0' c1' c2' c3' : Nat) (w : World) (hl : y9 w b a0 a1 a2 a3) (hl' : y9 w b a0' a1' a2' a3') :
    Calls Tryz.prog 12 #[.agg (b.cells a0 a1 a2 a3 c0 c1 c2 c3), .agg (b.cells a0' a1' a2' a3' c0' c1' c2' c3')] w fun e w' => e = .returned (.bool true) /\ Below w.heap.size w w' := by
  have HL : Hid (y9 w b a0 a1 a2 a3 /\ y9 w b a0' a1' a2' a3') := ⟨hl, hl'⟩
  clear hl hl'
  have n1 : (b.now != b.now) = false := by simp
  have n2 : (b.tick != b.tick) = false := by simp
  have n3 : (b.given != b.given) = false := by simp
  unfold Bk.cells
  go_enter Tryz.func12, Tryz.ntmps12
  go_wp2_with fail
  refine (zfK _ _ _ _ b.os _ (HL.out.1.os.mono (zn _ _ _)) (HL.out.2.os.mono (zn _ _ _))).mono ?_
  rintro e w1 ⟨rfl, hb⟩
  have hX1 := za (za (zG w _ _) (by simp) ((Below.refl _ _).alloc (Nat.le_refl _) _)) (by simp; omega) hb
  have hY1 := za (zG (w.alloc (.cells (bC b a0 a1 a2 a3 c0 c1 c2 c3) 48)) (bC b a0' a1' a2' a3' c0' c1' c2' c3') 48) (by simp) hb
  have hz1 : w.heap.size + 1 < w1.heap.size := by have := hb.size; simp at this; omega
  have hB1 := (zn w _ _).trans (hb.mono (by simp; omega))
  rw [World.size_alloc] at hY1
  clear hb
  go_wp2_with fail
  refine (zgl _ _ _ _ b.gs _ (HL.out.1.gs.mono hB1) (HL.out.2.gs.mono hB1)).mono ?_
  rintro e w2 ⟨rfl, hb⟩
  have hX2 := za hX1 (Nat.lt_of_succ_lt hz1) hb
  have hY2 := za hY1 hz1 hb
  have hz2 := Nat.lt_of_lt_of_le hz1 hb.size
  have hB2 := hB1.trans (hb.mono hB1.size)
  clear hb hX1 hY1 hz1 hB1
  go_wp2_with fail
  refine (zfP _ _ _ _ b.ls _ (HL.out.1.ls.mono hB2) (HL.out.2.ls.mono hB2)).mono ?_
  rintro e w3 ⟨rfl, hb⟩
  have hX3 := za hX2 (Nat.lt_of_succ_lt hz2) hb
  have hY3 := za hY2 hz2 hb
  have hz3 := Nat.lt_of_lt_of_le hz2 hb.size
  have hB3 := hB2.trans (hb.mono hB2.size)
  clear hb hX2 hY2 hz2 hB2
  go_wp2_with fail
  refine (zgE _ _ _ _ b.ps _ (HL.out.1.ps.mono hB3) (HL.out.2.ps.mono hB3)).mono ?_
  rintro e w4 ⟨rfl, hb⟩
  have hX4 := za hX3 (Nat.lt_of_succ_lt hz3) hb
  have hY4 := za hY3 hz3 hb
  have hz4 := Nat.lt_of_lt_of_le hz3 hb.size
  have hB4 := hB3.trans (hb.mono hB3.size)
  clear hb hX3 hY3 hz3 hB3
  go_wp2_with fail
  go_ret
  exact ⟨rfl, hB4⟩
end Go.Proofs.YtfpeplbmfbepcaaGreat

namespace Go.Proofs
open Go.Shelf
shelf_lay Lays.n106 Nm 106 at Tryz as YtfpeplbmfbepcaaGreat.lays106
end Go.Proofs
namespace Go.Proofs.YtfpeplbmfbepcaaGreat
open Go.RowKit
namespace Gate
def key (a b : ByteArray) : Int := Lib.compareBytes a.data.toList b.data.toList
theorem zmx : ∀ a b : List UInt8, Lib.compareBytes a b = -1 \/ Lib.compareBytes a b = 0 \/ Lib.compareBytes a b = 1
  | [], [] => by simp [Lib.compareBytes]
  | [], _ :: _ => by simp [Lib.compareBytes]
  | _ :: _, [] => by simp [Lib.compareBytes]
  | a :: xs, b :: ys => by
    simp only [Lib.compareBytes]
    split
    · simp
    · split
      · simp
      · exact zmx xs ys
theorem zmy : ∀ a b : List UInt8, Op.bytesLess a b = decide (Lib.compareBytes a b = -1)
  | [], [] => by simp [Lib.compareBytes, Op.bytesLess]
  | [], _ :: _ => by simp [Lib.compareBytes, Op.bytesLess]
  | _ :: _, [] => by simp [Lib.compareBytes, Op.bytesLess]
  | a :: xs, b :: ys => by
    simp only [Lib.compareBytes, Op.bytesLess]
    rw [zmy xs ys]
    by_cases h : a < b
    · simp [h]
    · by_cases h' : b < a
      · have hne : ¬ a = b := fun e => by subst e; exact h h'
        simp [h, h', hne]
      · have he : a = b := by
          have h1 : ¬ a.toNat < b.toNat := h
          have h2 : ¬ b.toNat < a.toNat := h'
          exact UInt8.toNat_inj.1 (by omega)
        simp [he]
theorem zlO : ∀ a b : List UInt8, Lib.compareBytes b a = - Lib.compareBytes a b
  | [], [] => by simp [Lib.compareBytes]
  | [], _ :: _ => by simp [Lib.compareBytes]
  | _ :: _, [] => by simp [Lib.compareBytes]
  | a :: xs, b :: ys => by
    simp only [Lib.compareBytes]
    by_cases h : a < b
    · have h' : ¬ b < a := fun h2 => absurd (UInt8.lt_trans h h2) (UInt8.lt_irrefl _)
      simp [h, h']
    · by_cases h' : b < a
      · simp [h, h']
      · simp [h, h', zlO xs ys]
theorem zpD (a b : ByteArray) : key b a = - key a b := zlO _ _
theorem zmS (a b : ByteArray) : key a b = -1 \/ key a b = 0 \/ key a b = 1 := zmx _ _
theorem zij (a b : ByteArray) : less a b = decide (key a b = -1) := by
  unfold less key
  rw [<- zmy, ByteArray.toList_eq, ByteArray.toList_eq]
theorem zmE : ∀ a b : List UInt8, Lib.compareBytes a b = 0 ↔ a = b
  | [], [] => by simp [Lib.compareBytes]
  | [], _ :: _ => by simp [Lib.compareBytes]
  | _ :: _, [] => by simp [Lib.compareBytes]
  | a :: xs, b :: ys => by
    simp only [Lib.compareBytes]
    by_cases h : a < b
    · have hne : ¬ a = b := fun e => by subst e; exact UInt8.lt_irrefl _ h
      simp [h, hne]
    · by_cases h' : b < a
      · have hne : ¬ a = b := fun e => by subst e; exact UInt8.lt_irrefl _ h'
        simp [h, h', hne]
      · have he : a = b := by
          have h1 : ¬ a.toNat < b.toNat := h
          have h2 : ¬ b.toNat < a.toNat := h'
          exact UInt8.toNat_inj.1 (by omega)
        simp [he, zmE xs ys]
theorem zbj (a b : ByteArray) : key a b = 0 ↔ a = b := by
  unfold key
  rw [zmE]
  constructor
  · intro h
    cases a; cases b
    simp only at h
    rw [Array.toList_inj.1 h]
  · rintro rfl; rfl
def zcx (vs : List Int) : Int := (vs.find? (fun v => decide (¬ v = 0))).getD 0
theorem zkA (a b : Int) : zcx [a, b] = if a = 0 then b else a := by
  unfold zcx
  by_cases h : a = 0
  · by_cases h2 : b = 0 <;> simp [h, h2]
  · simp [h]
theorem zmn (a b c : Int) : zcx [a, b, c] = if a = 0 then (if b = 0 then c else b) else a := by
  unfold zcx
  by_cases h : a = 0
  · by_cases h2 : b = 0
    · by_cases h3 : c = 0 <;> simp [h, h2, h3]
    · simp [h, h2]
  · simp [h]
def key2 (a b c d : ByteArray) : Int := if key a c = 0 then key b d else key a c
def zbc (a b : Ob) : Int := key2 a.kd a.nm b.kd b.nm
def yU (a b : Lg) : Int := key2 a.tm a.rs b.tm b.rs
def jO (a b : Pu) : Int := if key a.dr b.dr = 0 then key2 a.tm a.rs b.tm b.rs else key a.dr b.dr
end Gate
theorem zd1 (a b : ByteArray) (w : World) : Calls Tryz.prog 194 #[.string a, .string b] w fun e w' => e = .returned (.int .i64 (Gate.key a b)) /\ w' = w :=
  Any.strings_Compare lays106 a b w
set_option maxHeartbeats 400000 in
theorem zkv (a : Option Addr) (cap : Nat) (vs : List Int) (w : World) (hw : yM w a vs) (hl : vs.length <= 100) :
    Calls Tryz.prog 193 #[.slice a vs.length cap] w fun e w' => e = .returned (.int .i64 (Gate.zcx vs)) /\ w' = w := by
  go_enter Tryz.func193, Tryz.ntmps193
  go_wp2_with fail
  go_loopw [8] (fun i wr => ∃ k : Nat, k <= vs.length /\ i = .int .i64 k /\ Hid (∀ v ∈ vs.take k, v = 0) /\ wr = w) (fun i _ => vs.length - (intOf i).toNat)
  case atStart => exact ⟨0, Nat.zero_le _, rfl, fun v hv => by simp at hv, rfl⟩
  case round =>
    obtain ⟨k, hk, rfl, hz, rfl⟩ := hrel
    by_cases hlt : k < vs.length
    · obtain ⟨b, off, rfl, hb, hck⟩ := hw.load (Below.refl _ _) k hlt
      have hltI : (k : Int) < (vs.length : Int) := by omega
      clear hw
      by_cases h0 : vs[k] = 0
      · have e0 : (vs[k] != 0) = false := by simpa using h0
        have HZ : Hid (∀ v ∈ vs.take (k + 1), v = 0) := by
          intro v hv
          rw [List.take_succ_eq_append_getElem hlt, List.mem_append, List.mem_singleton] at hv
          rcases hv with hv | hv
          · exact hz.out v hv
          · rw [hv]; exact h0
        clear h0
        go_wp2_with fail
        exact ⟨⟨k + 1, by omega, by go_num, HZ.out, trivial⟩, by simp [intOf]; omega⟩
      · have e0 : (vs[k] != 0) = true := by simpa using h0
        have HF : Hid (Gate.zcx vs = vs[k]) := by
          unfold Hid Gate.zcx
          have e : vs = vs.take k ++ vs[k] :: vs.drop (k + 1) := by rw [<- List.drop_eq_getElem_cons hlt, List.take_append_drop]
          have hn : (vs.take k).find? (fun v => decide (¬ v = 0)) = none := by
            rw [List.find?_eq_none]; intro v hv; simp [hz.out v hv]
          have : vs.find? (fun v => decide (¬ v = 0)) = some vs[k] := by
            rw [List.find?_eq_some_iff_append]
            refine ⟨by simpa using h0, vs.take k, vs.drop (k + 1), e, fun v hv => by simp [hz.out v hv]⟩
          rw [this]; rfl
        clear h0
        go_wp2_with fail
        go_ret
        exact ⟨zl HF.out.symm, rfl⟩
    · have HF : Hid (Gate.zcx vs = 0) := by
        unfold Hid Gate.zcx
        have h := hz.out
        rw [List.take_of_length_le (by omega)] at h
        have : vs.find? (fun v => decide (¬ v = 0)) = none := by
          rw [List.find?_eq_none]; intro v hv; simp [h v hv]
        rw [this]; rfl
      clear hw
      go_wp2_with fail
      go_ret
      exact ⟨zl HF.out.symm, rfl⟩
end Go.Proofs.YtfpeplbmfbepcaaGreat

namespace Go.Proofs.YtfpeplbmfbepcaaGreat
open Go.RowKit
theorem zkF (W : World) (k1 k2 : Int) : Calls Tryz.prog 193 #[.slice (some ⟨W.heap.size, 0, none⟩) 2 2] (W.alloc (.cells #[.int .i64 k1, .int .i64 k2] 3)).drew fun e w' => e = .returned (.int .i64 (Gate.zcx [k1, k2])) /\ w' = (W.alloc (.cells #[.int .i64 k1, .int .i64 k2] 3)).drew :=
  zkv (some ⟨W.heap.size, 0, none⟩) 2 [k1, k2] _ ((zey (alloc_at _ _) (by simp [maxLen])).mono (Below.refl _ _).drew) (by simp)
theorem zm2 (W : World) (k1 k2 k3 : Int) : Calls Tryz.prog 193 #[.slice (some ⟨W.heap.size, 0, none⟩) 3 3] (W.alloc (.cells #[.int .i64 k1, .int .i64 k2, .int .i64 k3] 3)).drew fun e w' => e = .returned (.int .i64 (Gate.zcx [k1, k2, k3])) /\ w' = (W.alloc (.cells #[.int .i64 k1, .int .i64 k2, .int .i64 k3] 3)).drew :=
  zkv (some ⟨W.heap.size, 0, none⟩) 3 [k1, k2, k3] _ ((zey (alloc_at _ _) (by simp [maxLen])).mono (Below.refl _ _).drew) (by simp)
set_option maxHeartbeats 2000000 in
theorem zhG (o p : Ob) (a0 a1 b0 b1 : Option Addr) (c0 c1 d0 d1 : Nat) (w : World) :
    Calls Tryz.prog 152 #[.agg (o.row a0 a1 c0 c1), .agg (p.row b0 b1 d0 d1)] w fun e w' => e = .returned (.int .i64 (Gate.zbc o p)) /\ Below w.heap.size w w' := by
  have HR : Hid (Gate.zcx [Gate.key o.kd p.kd, Gate.key o.nm p.nm] = Gate.zbc o p) := by unfold Hid; rw [Gate.zkA]; rfl
  unfold Ob.row
  go_enter Tryz.func152, Tryz.ntmps152
  go_wp2_with fail
  obtain ⟨hX0, hY0⟩ := yP w (oC o a0 a1 c0 c1) (oC p b0 b1 d0 d1) 119 119
  have HB0 : Hid (Below w.heap.size w ((w.alloc (.cells (oC o a0 a1 c0 c1) 119)).alloc (.cells (oC p b0 b1 d0 d1) 119))) := zn w _ _
  obtain ⟨W0, hW0⟩ : ∃ W0, W0 = (w.alloc (.cells (oC o a0 a1 c0 c1) 119)).alloc (.cells (oC p b0 b1 d0 d1) 119) := ⟨_, rfl⟩
  have hz0 : w.heap.size + 1 < W0.heap.size := by rw [hW0]; simp
  rw [<- hW0] at HB0 hX0 hY0 ⊢
  clear hW0
  have hS : (∀ j, W0.drew.cell? ⟨w.heap.size, j, none⟩ = (oC o a0 a1 c0 c1)[j]?) /\ (∀ j, W0.drew.cell? ⟨w.heap.size + 1, j, none⟩ = (oC p b0 b1 d0 d1)[j]?) := ⟨hX0, hY0⟩
  have hSa : ∀ ob, (∀ j, (W0.alloc ob).drew.cell? ⟨w.heap.size, j, none⟩ = (oC o a0 a1 c0 c1)[j]?) /\ (∀ j, (W0.alloc ob).drew.cell? ⟨w.heap.size + 1, j, none⟩ = (oC p b0 b1 d0 d1)[j]?) := fun ob => ⟨za (b := w.heap.size) (wk := W0) hX0 (Nat.lt_of_succ_lt hz0) (((Below.refl _ _).alloc (Nat.le_refl _) _).drew), za (b := w.heap.size + 1) (wk := W0) hY0 hz0 (((Below.refl _ _).alloc (Nat.le_refl _) _).drew)⟩
  clear hX0 hY0
  go_region_held3 (fun w' => (∀ j, w'.cell? ⟨w.heap.size, j, none⟩ = (oC o a0 a1 c0 c1)[j]?) /\ (∀ j, w'.cell? ⟨w.heap.size + 1, j, none⟩ = (oC p b0 b1 d0 d1)[j]?)) (first | exact hS | exact hSa _) (first
    | (go_at_call 194; refine (zd1 _ _ _).mono ?_; rintro e w3 ⟨rfl, rfl⟩)
    | (go_at_call 193; refine (zkF _ _ _).mono ?_; rintro e w3 ⟨rfl, rfl⟩))
  go_wp2_with fail
  go_ret
  exact ⟨zl HR.out, (HB0.out.alloc HB0.out.size _).drew⟩
set_option maxHeartbeats 2000000 in
theorem zbS (o p : Lg) (w : World) :
    Calls Tryz.prog 159 #[.agg o.cells, .agg p.cells] w fun e w' => e = .returned (.int .i64 (Gate.yU o p)) /\ Below w.heap.size w w' := by
  have HR : Hid (Gate.zcx [Gate.key o.tm p.tm, Gate.key o.rs p.rs] = Gate.yU o p) := by unfold Hid; rw [Gate.zkA]; rfl
  unfold Lg.cells
  go_enter Tryz.func159, Tryz.ntmps159
  go_wp2_with fail
  obtain ⟨hX0, hY0⟩ := yP w #[.string o.tm, .string o.rs, .int .i64 o.mo, .int .i64 o.fr] #[.string p.tm, .string p.rs, .int .i64 p.mo, .int .i64 p.fr] 134 134
  have HB0 : Hid (Below w.heap.size w ((w.alloc (.cells #[.string o.tm, .string o.rs, .int .i64 o.mo, .int .i64 o.fr] 134)).alloc (.cells #[.string p.tm, .string p.rs, .int .i64 p.mo, .int .i64 p.fr] 134))) := zn w _ _
  obtain ⟨W0, hW0⟩ : ∃ W0, W0 = (w.alloc (.cells #[.string o.tm, .string o.rs, .int .i64 o.mo, .int .i64 o.fr] 134)).alloc (.cells #[.string p.tm, .string p.rs, .int .i64 p.mo, .int .i64 p.fr] 134) := ⟨_, rfl⟩
  have hz0 : w.heap.size + 1 < W0.heap.size := by rw [hW0]; simp
  rw [<- hW0] at HB0 hX0 hY0 ⊢
  clear hW0
  have hS : (∀ j, W0.drew.cell? ⟨w.heap.size, j, none⟩ = (#[.string o.tm, .string o.rs, .int .i64 o.mo, .int .i64 o.fr] : Array Value)[j]?) /\ (∀ j, W0.drew.cell? ⟨w.heap.size + 1, j, none⟩ = (#[.string p.tm, .string p.rs, .int .i64 p.mo, .int .i64 p.fr] : Array Value)[j]?) := ⟨hX0, hY0⟩
  have hSa : ∀ ob, (∀ j, (W0.alloc ob).drew.cell? ⟨w.heap.size, j, none⟩ = (#[.string o.tm, .string o.rs, .int .i64 o.mo, .int .i64 o.fr] : Array Value)[j]?) /\ (∀ j, (W0.alloc ob).drew.cell? ⟨w.heap.size + 1, j, none⟩ = (#[.string p.tm, .string p.rs, .int .i64 p.mo, .int .i64 p.fr] : Array Value)[j]?) := fun ob => ⟨za (b := w.heap.size) (wk := W0) hX0 (Nat.lt_of_succ_lt hz0) (((Below.refl _ _).alloc (Nat.le_refl _) _).drew), za (b := w.heap.size + 1) (wk := W0) hY0 hz0 (((Below.refl _ _).alloc (Nat.le_refl _) _).drew)⟩
  clear hX0 hY0
  go_region_held3 (fun w' => (∀ j, w'.cell? ⟨w.heap.size, j, none⟩ = (#[.string o.tm, .string o.rs, .int .i64 o.mo, .int .i64 o.fr] : Array Value)[j]?) /\ (∀ j, w'.cell? ⟨w.heap.size + 1, j, none⟩ = (#[.string p.tm, .string p.rs, .int .i64 p.mo, .int .i64 p.fr] : Array Value)[j]?)) (first | exact hS | exact hSa _) (first
    | (go_at_call 194; refine (zd1 _ _ _).mono ?_; rintro e w3 ⟨rfl, rfl⟩)
    | (go_at_call 193; refine (zkF _ _ _).mono ?_; rintro e w3 ⟨rfl, rfl⟩))
  go_wp2_with fail
  go_ret
  exact ⟨zl HR.out, (HB0.out.alloc HB0.out.size _).drew⟩
set_option maxHeartbeats 2000000 in
theorem ziN (o p : Pu) (w : World) :
    Calls Tryz.prog 162 #[.agg o.cells, .agg p.cells] w fun e w' => e = .returned (.int .i64 (Gate.jO o p)) /\ Below w.heap.size w w' := by
  have HR : Hid (Gate.zcx [Gate.key o.dr p.dr, Gate.key o.tm p.tm, Gate.key o.rs p.rs] = Gate.jO o p) := by unfold Hid; rw [Gate.zmn]; rfl
  unfold Pu.cells
  go_enter Tryz.func162, Tryz.ntmps162
  go_wp2_with fail
  obtain ⟨hX0, hY0⟩ := yP w #[.string o.dr, .string o.tm, .string o.rs, .int .i64 o.am, .int .i64 o.un] #[.string p.dr, .string p.tm, .string p.rs, .int .i64 p.am, .int .i64 p.un] 136 136
  have HB0 : Hid (Below w.heap.size w ((w.alloc (.cells #[.string o.dr, .string o.tm, .string o.rs, .int .i64 o.am, .int .i64 o.un] 136)).alloc (.cells #[.string p.dr, .string p.tm, .string p.rs, .int .i64 p.am, .int .i64 p.un] 136))) := zn w _ _
  obtain ⟨W0, hW0⟩ : ∃ W0, W0 = (w.alloc (.cells #[.string o.dr, .string o.tm, .string o.rs, .int .i64 o.am, .int .i64 o.un] 136)).alloc (.cells #[.string p.dr, .string p.tm, .string p.rs, .int .i64 p.am, .int .i64 p.un] 136) := ⟨_, rfl⟩
  have hz0 : w.heap.size + 1 < W0.heap.size := by rw [hW0]; simp
  rw [<- hW0] at HB0 hX0 hY0 ⊢
  clear hW0
  have hS : (∀ j, W0.drew.cell? ⟨w.heap.size, j, none⟩ = (#[.string o.dr, .string o.tm, .string o.rs, .int .i64 o.am, .int .i64 o.un] : Array Value)[j]?) /\ (∀ j, W0.drew.cell? ⟨w.heap.size + 1, j, none⟩ = (#[.string p.dr, .string p.tm, .string p.rs, .int .i64 p.am, .int .i64 p.un] : Array Value)[j]?) := ⟨hX0, hY0⟩
  have hSa : ∀ ob, (∀ j, (W0.alloc ob).drew.cell? ⟨w.heap.size, j, none⟩ = (#[.string o.dr, .string o.tm, .string o.rs, .int .i64 o.am, .int .i64 o.un] : Array Value)[j]?) /\ (∀ j, (W0.alloc ob).drew.cell? ⟨w.heap.size + 1, j, none⟩ = (#[.string p.dr, .string p.tm, .string p.rs, .int .i64 p.am, .int .i64 p.un] : Array Value)[j]?) := fun ob => ⟨za (b := w.heap.size) (wk := W0) hX0 (Nat.lt_of_succ_lt hz0) (((Below.refl _ _).alloc (Nat.le_refl _) _).drew), za (b := w.heap.size + 1) (wk := W0) hY0 hz0 (((Below.refl _ _).alloc (Nat.le_refl _) _).drew)⟩
  clear hX0 hY0
  go_region_held3 (fun w' => (∀ j, w'.cell? ⟨w.heap.size, j, none⟩ = (#[.string o.dr, .string o.tm, .string o.rs, .int .i64 o.am, .int .i64 o.un] : Array Value)[j]?) /\ (∀ j, w'.cell? ⟨w.heap.size + 1, j, none⟩ = (#[.string p.dr, .string p.tm, .string p.rs, .int .i64 p.am, .int .i64 p.un] : Array Value)[j]?)) (first | exact hS | exact hSa _) (first
    | (go_at_call 194; refine (zd1 _ _ _).mono ?_; rintro e w3 ⟨rfl, rfl⟩)
    | (go_at_call 193; refine (zm2 _ _ _ _).mono ?_; rintro e w3 ⟨rfl, rfl⟩))
  go_wp2_with fail
  go_ret
  exact ⟨zl HR.out, (HB0.out.alloc HB0.out.size _).drew⟩
end Go.Proofs.YtfpeplbmfbepcaaGreat
