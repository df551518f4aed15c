import Derived.Test.YthldiefbpemoaaaGreatM08
import Derived.Test.YthldiefbpemoaaaGreatM04
import Derived.Test.YthldiefbpemoaaaGreatM02
import Derived.Deep.RegionHeld3
import Derived.Test.YthldiefbpemoaaaGreatM01
import Derived.Test.YthldiefbpemoaaaGreatM07
import Derived.Test.YthldiefbpemoaaaGreatM06
namespace Go.Proofs.YthldiefbpemoaaaGreat
open Go.RowKit

/-- What an ask holds. -/
structure Ak where
  who : ByteArray
  vb : Int
  kd : ByteArray
  nm : ByteArray
  tm : ByteArray
  vs : List ByteArray
  hs : List ByteArray
  sn : Int
  hd : ByteArray
  to : ByteArray
  r : Rl
  no : Int

def Ak.cells (x : Ak) (a0 a1 a2 : Option Addr) (c0 c1 c2 : Nat) : Array Value := #[.string x.who, .int .i64 x.vb, .string x.kd, .string x.nm, .string x.tm, .slice a0 x.vs.length c0, .slice a1 x.hs.length c1, .int .i64 x.sn, .string x.hd, .string x.to, .slice a2 x.r.vs.length c2, .string x.r.kd, .string x.r.tm, .string x.r.px, .int .i64 x.no]
structure Ak.Small (x : Ak) : Prop where
  who : x.who.size ≤ maxLen
  kd : x.kd.size ≤ maxLen
  nm : x.nm.size ≤ maxLen
  tm : x.tm.size ≤ maxLen
  hd : x.hd.size ≤ maxLen
  to : x.to.size ≤ maxLen
  r : x.r.Small
structure AkAt (w : World) (x : Ak) (a0 a1 a2 : Option Addr) : Prop where
  small : x.Small
  vs : StrsAt w a0 x.vs
  hs : StrsAt w a1 x.hs
  r : IntsAt w a2 x.r.vs
theorem AkAt.mono {w w' : World} {x : Ak} {a0 a1 a2 : Option Addr} (h : AkAt w x a0 a1 a2) (hb : Below w.heap.size w w') : AkAt w' x a0 a1 a2 := ⟨h.small, h.vs.mono hb, h.hs.mono hb, h.r.mono hb⟩
def Ak.sz (x : Ak) : Nat := x.who.size + x.kd.size + x.nm.size + x.tm.size + strsSz x.vs + strsSz x.hs + x.hd.size + x.to.size + x.r.sz
structure Ak.Few (x : Ak) : Prop where
  vs : x.vs.length ≤ 1048576
  hs : x.hs.length ≤ 1048576
  r : x.r.vs.length ≤ 1048576
theorem Ak.few {x : Ak} (h : (x.sz : Int) ≤ 1048576) : x.Few := by
  unfold Ak.sz Rl.sz strsSz at h
  exact ⟨by omega, by omega, by omega⟩

theorem two_boxesK (w : World) (X Y : Array Value) (s t : TypeId) : (∀ j, ((w.alloc (.cells X s)).alloc (.cells Y t)).cell? ⟨w.heap.size, j, none⟩ = X[j]?) ∧ ∀ j, ((w.alloc (.cells X s)).alloc (.cells Y t)).cell? ⟨w.heap.size + 1, j, none⟩ = Y[j]? := by
  refine ⟨box_later (box_new w X s) (by simp) ((Below.refl _ _).alloc (Nat.le_refl _) _), fun j => ?_⟩
  have h := box_new (w.alloc (.cells X s)) Y t j
  rw [World.size_alloc] at h
  exact h

set_option maxHeartbeats 4000000 in
theorem szGateAsk_any (x : Ak) (a0 a1 a2 : Option Addr) (c0 c1 c2 : Nat) (left : Int) (w : World) (ho : AkAt w x a0 a1 a2) (h0 : 0 ≤ left) (h1 : left ≤ 1048576) :
    Calls Tryz.prog 5 #[.agg (x.cells a0 a1 a2 c0 c1 c2), .int .i64 left] w fun e w' => e = .returned (.int .i64 (szRes x.sz left)) ∧ Below w.heap.size w w' := by
  have k1 := ho.small.who
  have k2 := ho.small.kd
  have k3 := ho.small.nm
  have k4 := ho.small.tm
  have k5 := ho.small.hd
  have k6 := ho.small.to
  have hv := ho.vs
  have hh := ho.hs
  have HM : Hid (x.r.Small ∧ x.r.vs.length ≤ maxLen) := ⟨ho.small.r, ho.r.len⟩
  clear ho
  unfold maxLen at k1 k2 k3 k4 k5 k6
  unfold Ak.cells
  have hB : ∀ ob, Below w.heap.size w (w.alloc ob) := fun ob => (Below.refl _ _).alloc (Nat.le_refl _) _
  by_cases c1 : (x.who.size : Int) ≤ left
  rotate_left
  · have HF : Hid (szRes x.sz left = -1) := szRes_no (by unfold Ak.sz; omega)
    go_enter Tryz.func5, Tryz.ntmps5
    go_wp2_with fail
    go_ret
    exact ⟨ret_int HF.out.symm, hB _⟩
  by_cases c2 : (x.kd.size : Int) ≤ left - x.who.size
  rotate_left
  · have HF : Hid (szRes x.sz left = -1) := szRes_no (by unfold Ak.sz; omega)
    go_enter Tryz.func5, Tryz.ntmps5
    go_wp2_with fail
    go_ret
    exact ⟨ret_int HF.out.symm, hB _⟩
  by_cases c3 : (x.nm.size : Int) ≤ left - x.who.size - x.kd.size
  rotate_left
  · have HF : Hid (szRes x.sz left = -1) := szRes_no (by unfold Ak.sz; omega)
    go_enter Tryz.func5, Tryz.ntmps5
    go_wp2_with fail
    go_ret
    exact ⟨ret_int HF.out.symm, hB _⟩
  by_cases c4 : (x.tm.size : Int) ≤ left - x.who.size - x.kd.size - x.nm.size
  rotate_left
  · have HF : Hid (szRes x.sz left = -1) := szRes_no (by unfold Ak.sz; omega)
    go_enter Tryz.func5, Tryz.ntmps5
    go_wp2_with fail
    go_ret
    exact ⟨ret_int HF.out.symm, hB _⟩
  by_cases c5 : (strsSz x.vs : Int) ≤ left - x.who.size - x.kd.size - x.nm.size - x.tm.size
  rotate_left
  · have HF : Hid (szRes x.sz left = -1) := szRes_no (by unfold Ak.sz; omega)
    go_enter Tryz.func5, Tryz.ntmps5
    go_wp2_with fail
    refine (szStringS_no _ _ _ _ _ (hv.mono (hB _)) (by omega) (by omega) (by omega)).mono ?_
    rintro e w1 ⟨rfl, rfl⟩
    go_wp2_with fail
    go_ret
    exact ⟨ret_int HF.out.symm, hB _⟩
  by_cases c6 : (strsSz x.hs : Int) ≤ left - x.who.size - x.kd.size - x.nm.size - x.tm.size - strsSz x.vs
  rotate_left
  · have HF : Hid (szRes x.sz left = -1) := szRes_no (by unfold Ak.sz; omega)
    go_enter Tryz.func5, Tryz.ntmps5
    go_wp2_with fail
    refine (szStringS_yes _ _ _ _ _ (hv.mono (hB _)) (by omega) (by omega) (by omega)).mono ?_
    rintro e w1 ⟨rfl, rfl⟩
    go_wp2_with fail
    refine (szStringS_no _ _ _ _ _ (hh.mono (hB _)) (by omega) (by omega) (by omega)).mono ?_
    rintro e w1 ⟨rfl, rfl⟩
    go_wp2_with fail
    go_ret
    exact ⟨ret_int HF.out.symm, hB _⟩
  by_cases c7 : (x.hd.size : Int) ≤ left - x.who.size - x.kd.size - x.nm.size - x.tm.size - strsSz x.vs - strsSz x.hs
  rotate_left
  · have HF : Hid (szRes x.sz left = -1) := szRes_no (by unfold Ak.sz; omega)
    go_enter Tryz.func5, Tryz.ntmps5
    go_wp2_with fail
    refine (szStringS_yes _ _ _ _ _ (hv.mono (hB _)) (by omega) (by omega) (by omega)).mono ?_
    rintro e w1 ⟨rfl, rfl⟩
    go_wp2_with fail
    refine (szStringS_yes _ _ _ _ _ (hh.mono (hB _)) (by omega) (by omega) (by omega)).mono ?_
    rintro e w1 ⟨rfl, rfl⟩
    go_wp2_with fail
    go_ret
    exact ⟨ret_int HF.out.symm, hB _⟩
  by_cases c8 : (x.to.size : Int) ≤ left - x.who.size - x.kd.size - x.nm.size - x.tm.size - strsSz x.vs - strsSz x.hs - x.hd.size
  rotate_left
  · have HF : Hid (szRes x.sz left = -1) := szRes_no (by unfold Ak.sz; omega)
    go_enter Tryz.func5, Tryz.ntmps5
    go_wp2_with fail
    refine (szStringS_yes _ _ _ _ _ (hv.mono (hB _)) (by omega) (by omega) (by omega)).mono ?_
    rintro e w1 ⟨rfl, rfl⟩
    go_wp2_with fail
    refine (szStringS_yes _ _ _ _ _ (hh.mono (hB _)) (by omega) (by omega) (by omega)).mono ?_
    rintro e w1 ⟨rfl, rfl⟩
    go_wp2_with fail
    go_ret
    exact ⟨ret_int HF.out.symm, hB _⟩
  by_cases c9 : (x.r.sz : Int) ≤ left - x.who.size - x.kd.size - x.nm.size - x.tm.size - strsSz x.vs - strsSz x.hs - x.hd.size - x.to.size
  rotate_left
  · have HF : Hid (szRes x.sz left = -1) := szRes_no (by unfold Ak.sz; omega)
    have HC : Hid (¬ (x.r.sz : Int) ≤ left - x.who.size - x.kd.size - x.nm.size - x.tm.size - strsSz x.vs - strsSz x.hs - x.hd.size - x.to.size) := c9
    clear c9
    go_enter Tryz.func5, Tryz.ntmps5
    go_wp2_with fail
    refine (szStringS_yes _ _ _ _ _ (hv.mono (hB _)) (by omega) (by omega) (by omega)).mono ?_
    rintro e w1 ⟨rfl, rfl⟩
    go_wp2_with fail
    refine (szStringS_yes _ _ _ _ _ (hh.mono (hB _)) (by omega) (by omega) (by omega)).mono ?_
    rintro e w1 ⟨rfl, rfl⟩
    go_wp2_with fail
    refine (szGateRule_any x.r _ _ _ _ HM.out.1 HM.out.2 (by omega) (by omega)).mono ?_
    rintro e w1 ⟨rfl, hb⟩
    rw [szRes_no (by have := HC.out; omega)]
    have hB1 := (hB _).trans (hb.mono (by simp))
    clear hb
    go_wp2_with fail
    go_ret
    exact ⟨ret_int HF.out.symm, hB1⟩
  · have HF : Hid (szRes x.sz left = left - x.who.size - x.kd.size - x.nm.size - x.tm.size - strsSz x.vs - strsSz x.hs - x.hd.size - x.to.size - x.r.sz) := by
      unfold Hid; rw [szRes_yes (by unfold Ak.sz; omega)]; unfold Ak.sz; omega
    go_enter Tryz.func5, Tryz.ntmps5
    go_wp2_with fail
    refine (szStringS_yes _ _ _ _ _ (hv.mono (hB _)) (by omega) (by omega) (by omega)).mono ?_
    rintro e w1 ⟨rfl, rfl⟩
    go_wp2_with fail
    refine (szStringS_yes _ _ _ _ _ (hh.mono (hB _)) (by omega) (by omega) (by omega)).mono ?_
    rintro e w1 ⟨rfl, rfl⟩
    go_wp2_with fail
    refine (szGateRule_any x.r _ _ _ _ HM.out.1 HM.out.2 (by omega) (by omega)).mono ?_
    rintro e w1 ⟨rfl, hb⟩
    rw [szRes_yes c9]
    have hB1 := (hB _).trans (hb.mono (by simp))
    clear hb
    go_wp2_with fail
    go_ret
    exact ⟨ret_int HF.out.symm, hB1⟩

set_option maxHeartbeats 4000000 in
theorem eqGateAsk_yes (x : Ak) (a0 a1 a2 : Option Addr) (c0 c1 c2 : Nat) (b0 b1 b2 : Option Addr) (d0 d1 d2 : Nat) (w : World) (ho : AkAt w x a0 a1 a2) (ho' : AkAt w x b0 b1 b2) :
    Calls Tryz.prog 11 #[.agg (x.cells a0 a1 a2 c0 c1 c2), .agg (x.cells b0 b1 b2 d0 d1 d2)] w fun e w' => e = .returned (.bool true) ∧ Below w.heap.size w w' := by
  have HA : Hid (AkAt w x a0 a1 a2 ∧ AkAt w x b0 b1 b2) := ⟨ho, ho'⟩
  have hn1 : (x.vb != x.vb) = false := by simp
  have hn2 : (x.sn != x.sn) = false := by simp
  have hn3 : (x.no != x.no) = false := by simp
  clear ho ho'
  unfold Ak.cells
  go_enter Tryz.func11, Tryz.ntmps11
  go_wp2_with fail
  obtain ⟨hX0, hY0⟩ := two_boxesK w #[.string x.who, .int .i64 x.vb, .string x.kd, .string x.nm, .string x.tm, .slice a0 x.vs.length c0, .slice a1 x.hs.length c1, .int .i64 x.sn, .string x.hd, .string x.to, .slice a2 x.r.vs.length c2, .string x.r.kd, .string x.r.tm, .string x.r.px, .int .i64 x.no] #[.string x.who, .int .i64 x.vb, .string x.kd, .string x.nm, .string x.tm, .slice b0 x.vs.length d0, .slice b1 x.hs.length d1, .int .i64 x.sn, .string x.hd, .string x.to, .slice b2 x.r.vs.length d2, .string x.r.kd, .string x.r.tm, .string x.r.px, .int .i64 x.no] 44 44
  have hB0 := below2' w (.cells #[.string x.who, .int .i64 x.vb, .string x.kd, .string x.nm, .string x.tm, .slice a0 x.vs.length c0, .slice a1 x.hs.length c1, .int .i64 x.sn, .string x.hd, .string x.to, .slice a2 x.r.vs.length c2, .string x.r.kd, .string x.r.tm, .string x.r.px, .int .i64 x.no] 44) (.cells #[.string x.who, .int .i64 x.vb, .string x.kd, .string x.nm, .string x.tm, .slice b0 x.vs.length d0, .slice b1 x.hs.length d1, .int .i64 x.sn, .string x.hd, .string x.to, .slice b2 x.r.vs.length d2, .string x.r.kd, .string x.r.tm, .string x.r.px, .int .i64 x.no] 44)
  obtain ⟨W0, hW0⟩ : ∃ W0, W0 = (w.alloc (.cells #[.string x.who, .int .i64 x.vb, .string x.kd, .string x.nm, .string x.tm, .slice a0 x.vs.length c0, .slice a1 x.hs.length c1, .int .i64 x.sn, .string x.hd, .string x.to, .slice a2 x.r.vs.length c2, .string x.r.kd, .string x.r.tm, .string x.r.px, .int .i64 x.no] 44)).alloc (.cells #[.string x.who, .int .i64 x.vb, .string x.kd, .string x.nm, .string x.tm, .slice b0 x.vs.length d0, .slice b1 x.hs.length d1, .int .i64 x.sn, .string x.hd, .string x.to, .slice b2 x.r.vs.length d2, .string x.r.kd, .string x.r.tm, .string x.r.px, .int .i64 x.no] 44) := ⟨_, rfl⟩
  have hz0 : w.heap.size + 1 < W0.heap.size := by rw [hW0]; simp
  rw [← hW0] at hB0 hX0 hY0 ⊢
  clear hW0
  refine (eqStringS_yes _ _ _ _ _ _ (HA.out.1.vs.mono hB0) (HA.out.2.vs.mono hB0)).mono ?_
  rintro e w1 ⟨rfl, hb⟩
  have hX1 := box_later hX0 (Nat.lt_of_succ_lt hz0) hb
  have hY1 := box_later hY0 hz0 hb
  have hz1 := Nat.lt_of_lt_of_le hz0 hb.size
  have hB1 := hB0.trans (hb.mono hB0.size)
  clear hb hX0 hY0 hz0 hB0
  go_wp2_with fail
  refine (eqStringS_yes _ _ _ _ _ _ (HA.out.1.hs.mono hB1) (HA.out.2.hs.mono hB1)).mono ?_
  rintro e w2 ⟨rfl, hb⟩
  have hX2 := box_later hX1 (Nat.lt_of_succ_lt hz1) hb
  have hY2 := box_later hY1 hz1 hb
  have hz2 := Nat.lt_of_lt_of_le hz1 hb.size
  have hB2 := hB1.trans (hb.mono hB1.size)
  clear hb hX1 hY1 hz1 hB1
  go_wp2_with fail
  refine (eqGateRule_yes x.r _ _ _ _ _ (HA.out.1.r.mono hB2) (HA.out.2.r.mono hB2)).mono ?_
  rintro e w3 ⟨rfl, hb⟩
  have hX3 := box_later hX2 (Nat.lt_of_succ_lt hz2) hb
  have hY3 := box_later hY2 hz2 hb
  have hz3 := Nat.lt_of_lt_of_le hz2 hb.size
  have hB3 := hB2.trans (hb.mono hB2.size)
  clear hb hX2 hY2 hz2 hB2
  go_wp2_with fail
  go_ret
  exact ⟨rfl, hB3⟩

end Go.Proofs.YthldiefbpemoaaaGreat

namespace Go.Proofs.YthldiefbpemoaaaGreat
open Go.RowKit

def Gate.within (n lo hi : Int) : Bool := decide (lo ≤ n) && decide (n ≤ hi)

set_option maxHeartbeats 400000 in
theorem isWithin_any (n lo hi : Int) (w : World) :
    Calls Tryz.prog 52 #[.int .i64 n, .int .i64 lo, .int .i64 hi] w fun e w' => e = .returned (.bool (Gate.within n lo hi)) ∧ w' = w := by
  by_cases h1 : lo ≤ n
  · by_cases h2 : n ≤ hi
    · have HF : Hid (Gate.within n lo hi = true) := by unfold Hid Gate.within; simp [h1, h2]
      go_enter Tryz.func52, Tryz.ntmps52
      go_wp2_with fail
      go_ret
      exact ⟨ret_bool HF.out.symm, rfl⟩
    · have HF : Hid (Gate.within n lo hi = false) := by unfold Hid Gate.within; simp [h2]
      go_enter Tryz.func52, Tryz.ntmps52
      go_wp2_with fail
      go_ret
      exact ⟨ret_bool HF.out.symm, rfl⟩
  · have HF : Hid (Gate.within n lo hi = false) := by unfold Hid Gate.within; simp [h1]
    go_enter Tryz.func52, Tryz.ntmps52
    go_wp2_with fail
    go_ret
    exact ⟨ret_bool HF.out.symm, rfl⟩

end Go.Proofs.YthldiefbpemoaaaGreat

namespace Go.Proofs.YthldiefbpemoaaaGreat
open Go.RowKit

namespace Gate
/-- An ask has nothing but who asks, and a verb. -/
def unused (x : Ak) : Bool := x.kd.toList.isEmpty && (x.nm.toList.isEmpty && (x.tm.toList.isEmpty && (x.hd.toList.isEmpty && (x.to.toList.isEmpty && (decide (x.sn = 0) && (decide (x.no = 0) && (decide (x.vs.length = 0) && (decide (x.hs.length = 0) && (decide (x.r.vs.length = 0) && (x.r.kd.toList.isEmpty && (x.r.tm.toList.isEmpty && x.r.px.toList.isEmpty)))))))))))
def noRule : Rl := ⟨[], ByteArray.empty, ByteArray.empty, ByteArray.empty⟩
/-- An ask without what its verb uses. -/
def restOf (x : Ak) : Ak :=
  if x.vb = 1 then { x with kd := ByteArray.empty, nm := ByteArray.empty, tm := ByteArray.empty, vs := [], hs := [] }
  else if x.vb = 2 then { x with kd := ByteArray.empty, nm := ByteArray.empty, vs := [], sn := 0 }
  else if x.vb = 3 then { x with kd := ByteArray.empty, nm := ByteArray.empty, sn := 0 }
  else if x.vb = 4 then { x with kd := ByteArray.empty, nm := ByteArray.empty, hd := ByteArray.empty }
  else if x.vb = 5 then { x with to := ByteArray.empty, r := noRule }
  else { x with no := 0 }
def keyOk (l : Lw) (x : Ak) : Bool := hasKind l.ss x.kd && nameOk x.nm
def countOk (l : Lw) (x : Ak) : Bool := decide (x.vs.length = (shapeOf l.ss x.kd).fs.length)
def useMake (l : Lw) (x : Ak) : Bool := keyOk l x && (hasTeam l.ts x.tm && (countOk l x && (decide (x.hs.length ≤ 3) && asc x.hs)))
def useChange (l : Lw) (x : Ak) : Bool := keyOk l x && (countOk l x && decide (0 ≤ x.sn))
def useEnd (l : Lw) (x : Ak) : Bool := keyOk l x && decide (0 ≤ x.sn)
def useLetGo (l : Lw) (x : Ak) : Bool := keyOk l x && nameOk x.hd
def useGive (x : Ak) : Bool := nameOk x.to && ruleOk x.r
def useTake (x : Ak) : Bool := decide (1 ≤ x.no)
/-- What a verb uses of an ask is as said. -/
def useOf (l : Lw) (x : Ak) : Bool :=
  if x.vb = 1 then useMake l x
  else if x.vb = 2 then useChange l x
  else if x.vb = 3 then useEnd l x
  else if x.vb = 4 then useLetGo l x
  else if x.vb = 5 then useGive x
  else useTake x
def isAsk (l : Lw) (x : Ak) : Bool := (nameOk x.who && within x.vb 1 6) && (useOf l x && unused (restOf x))
end Gate

end Go.Proofs.YthldiefbpemoaaaGreat
