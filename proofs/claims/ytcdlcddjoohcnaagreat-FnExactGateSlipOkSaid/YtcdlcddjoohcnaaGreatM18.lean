import Derived.Test.YtcdlcddjoohcnaaGreatM16
import Derived.Test.YtcdlcddjoohcnaaGreatM07
import Derived.Test.YtcdlcddjoohcnaaGreatM10
import Derived.Test.YtcdlcddjoohcnaaGreatM08
import Derived.Test.YtcdlcddjoohcnaaGreatM17
import Derived.Test.YtcdlcddjoohcnaaGreatM06
namespace Go.Proofs.YtcdlcddjoohcnaaGreat
open Go.RowKit

/-- What a slip holds. -/
structure Sl where
  dr : ByteArray
  x : Ak
  gv : Int
  ws : List Wt

def Sl.cells (s : Sl) (a0 a1 a2 a3 : Option Addr) (c0 c1 c2 c3 : Nat) : Array Value := #[.string s.dr, .string s.x.who, .int .i64 s.x.vb, .string s.x.kd, .string s.x.nm, .string s.x.tm, .slice a0 s.x.vs.length c0, .slice a1 s.x.hs.length c1, .int .i64 s.x.sn, .string s.x.hd, .string s.x.to, .slice a2 s.x.r.vs.length c2, .string s.x.r.kd, .string s.x.r.tm, .string s.x.r.px, .int .i64 s.x.no, .int .i64 s.gv, .slice a3 s.ws.length c3]
structure SlAt (w : World) (s : Sl) (a0 a1 a2 a3 : Option Addr) : Prop where
  dr : s.dr.size ≤ maxLen
  x : AkAt w s.x a0 a1 a2
  ws : WtsAt w a3 s.ws
theorem SlAt.mono {w w' : World} {s : Sl} {a0 a1 a2 a3 : Option Addr} (h : SlAt w s a0 a1 a2 a3) (hb : Below w.heap.size w w') : SlAt w' s a0 a1 a2 a3 := ⟨h.dr, h.x.mono hb, h.ws.mono hb⟩
def Sl.sz (s : Sl) : Nat := s.dr.size + s.x.sz + szWts s.ws
structure Sl.Few (s : Sl) : Prop where
  x : s.x.Few
  ws : s.ws.length ≤ 1048576
theorem Sl.few {s : Sl} (h : (s.sz : Int) ≤ 1048576) : s.Few := by
  unfold Sl.sz szWts at h
  exact ⟨Ak.few (by omega), by omega⟩

set_option maxHeartbeats 4000000 in
theorem szGateSlip_any (s : Sl) (a0 a1 a2 a3 : Option Addr) (c0 c1 c2 c3 : Nat) (left : Int) (w : World) (ho : SlAt w s a0 a1 a2 a3) (h0 : 0 ≤ left) (h1 : left ≤ 1048576) :
    Calls Tryz.prog 5 #[.agg (s.cells a0 a1 a2 a3 c0 c1 c2 c3), .int .i64 left] w fun e w' => e = .returned (.int .i64 (szRes s.sz left)) ∧ Below w.heap.size w w' := by
  have k1 := ho.dr
  have HX : Hid (AkAt w s.x a0 a1 a2) := ho.x
  have HW : Hid (WtsAt w a3 s.ws) := ho.ws
  clear ho
  unfold maxLen at k1
  unfold Sl.cells
  by_cases p1 : (s.dr.size : Int) ≤ left
  rotate_left
  · have HF : Hid (szRes s.sz left = -1) := szRes_no (by unfold Sl.sz; omega)
    go_enter Tryz.func5, Tryz.ntmps5
    go_wp2_with fail
    go_ret
    exact ⟨ret_int HF.out.symm, (Below.refl _ _).alloc (Nat.le_refl _) _⟩
  by_cases p2 : (s.x.sz : Int) ≤ left - s.dr.size
  rotate_left
  · have HF : Hid (szRes s.sz left = -1) := szRes_no (by unfold Sl.sz; omega)
    have HC : Hid (¬ (s.x.sz : Int) ≤ left - s.dr.size) := p2
    clear p2
    go_enter Tryz.func5, Tryz.ntmps5
    go_wp2_with fail
    have hX0 := box_new w #[.string s.dr, .string s.x.who, .int .i64 s.x.vb, .string s.x.kd, .string s.x.nm, .string s.x.tm, .slice a0 s.x.vs.length c0, .slice a1 s.x.hs.length c1, .int .i64 s.x.sn, .string s.x.hd, .string s.x.to, .slice a2 s.x.r.vs.length c2, .string s.x.r.kd, .string s.x.r.tm, .string s.x.r.px, .int .i64 s.x.no, .int .i64 s.gv, .slice a3 s.ws.length c3] 35
    have hB0 : Below w.heap.size w (w.alloc (.cells #[.string s.dr, .string s.x.who, .int .i64 s.x.vb, .string s.x.kd, .string s.x.nm, .string s.x.tm, .slice a0 s.x.vs.length c0, .slice a1 s.x.hs.length c1, .int .i64 s.x.sn, .string s.x.hd, .string s.x.to, .slice a2 s.x.r.vs.length c2, .string s.x.r.kd, .string s.x.r.tm, .string s.x.r.px, .int .i64 s.x.no, .int .i64 s.gv, .slice a3 s.ws.length c3] 35)) := (Below.refl _ _).alloc (Nat.le_refl _) _
    obtain ⟨W0, hW0⟩ : ∃ W0, W0 = w.alloc (.cells #[.string s.dr, .string s.x.who, .int .i64 s.x.vb, .string s.x.kd, .string s.x.nm, .string s.x.tm, .slice a0 s.x.vs.length c0, .slice a1 s.x.hs.length c1, .int .i64 s.x.sn, .string s.x.hd, .string s.x.to, .slice a2 s.x.r.vs.length c2, .string s.x.r.kd, .string s.x.r.tm, .string s.x.r.px, .int .i64 s.x.no, .int .i64 s.gv, .slice a3 s.ws.length c3] 35) := ⟨_, rfl⟩
    have hz0 : w.heap.size < W0.heap.size := by rw [hW0]; simp
    rw [← hW0] at hB0 hX0 ⊢
    clear hW0
    refine (szGateAsk_any s.x _ _ _ _ _ _ _ _ (HX.out.mono hB0) (by omega) (by omega)).mono ?_
    rintro e w1 ⟨rfl, hb⟩
    have hX1 := box_later hX0 hz0 hb
    have hz1 := Nat.lt_of_lt_of_le hz0 hb.size
    have hB1 := hB0.trans (hb.mono hB0.size)
    clear hb hX0 hz0 hB0
    rw [szRes_no (by have := HC.out; omega)]
    go_wp2_with fail
    go_ret
    exact ⟨ret_int HF.out.symm, hB1⟩
  by_cases p3 : (szWts s.ws : Int) ≤ left - s.dr.size - s.x.sz
  rotate_left
  · have HF : Hid (szRes s.sz left = -1) := szRes_no (by unfold Sl.sz; omega)
    have HC : Hid (¬ (szWts s.ws : Int) ≤ left - s.dr.size - s.x.sz) := p3
    clear p3
    go_enter Tryz.func5, Tryz.ntmps5
    go_wp2_with fail
    have hX0 := box_new w #[.string s.dr, .string s.x.who, .int .i64 s.x.vb, .string s.x.kd, .string s.x.nm, .string s.x.tm, .slice a0 s.x.vs.length c0, .slice a1 s.x.hs.length c1, .int .i64 s.x.sn, .string s.x.hd, .string s.x.to, .slice a2 s.x.r.vs.length c2, .string s.x.r.kd, .string s.x.r.tm, .string s.x.r.px, .int .i64 s.x.no, .int .i64 s.gv, .slice a3 s.ws.length c3] 35
    have hB0 : Below w.heap.size w (w.alloc (.cells #[.string s.dr, .string s.x.who, .int .i64 s.x.vb, .string s.x.kd, .string s.x.nm, .string s.x.tm, .slice a0 s.x.vs.length c0, .slice a1 s.x.hs.length c1, .int .i64 s.x.sn, .string s.x.hd, .string s.x.to, .slice a2 s.x.r.vs.length c2, .string s.x.r.kd, .string s.x.r.tm, .string s.x.r.px, .int .i64 s.x.no, .int .i64 s.gv, .slice a3 s.ws.length c3] 35)) := (Below.refl _ _).alloc (Nat.le_refl _) _
    obtain ⟨W0, hW0⟩ : ∃ W0, W0 = w.alloc (.cells #[.string s.dr, .string s.x.who, .int .i64 s.x.vb, .string s.x.kd, .string s.x.nm, .string s.x.tm, .slice a0 s.x.vs.length c0, .slice a1 s.x.hs.length c1, .int .i64 s.x.sn, .string s.x.hd, .string s.x.to, .slice a2 s.x.r.vs.length c2, .string s.x.r.kd, .string s.x.r.tm, .string s.x.r.px, .int .i64 s.x.no, .int .i64 s.gv, .slice a3 s.ws.length c3] 35) := ⟨_, rfl⟩
    have hz0 : w.heap.size < W0.heap.size := by rw [hW0]; simp
    rw [← hW0] at hB0 hX0 ⊢
    clear hW0
    refine (szGateAsk_any s.x _ _ _ _ _ _ _ _ (HX.out.mono hB0) (by omega) (by omega)).mono ?_
    rintro e w1 ⟨rfl, hb⟩
    have hX1 := box_later hX0 hz0 hb
    have hz1 := Nat.lt_of_lt_of_le hz0 hb.size
    have hB1 := hB0.trans (hb.mono hB0.size)
    clear hb hX0 hz0 hB0
    rw [szRes_yes p2]
    go_wp2_with fail
    refine (szGateWantS_any _ _ s.ws _ _ (HW.out.mono hB1) (by omega) (by omega)).mono ?_
    rintro e w2 ⟨rfl, hb⟩
    have hB2 := hB1.trans (hb.mono hB1.size)
    clear hb hX1 hz1 hB1
    rw [szRes_no (by have := HC.out; omega)]
    go_wp2_with fail
    go_ret
    exact ⟨ret_int HF.out.symm, hB2⟩
  · have HF : Hid (szRes s.sz left = left - s.dr.size - s.x.sz - szWts s.ws) := by
      unfold Hid; rw [szRes_yes (by unfold Sl.sz; omega)]; unfold Sl.sz; omega
    go_enter Tryz.func5, Tryz.ntmps5
    go_wp2_with fail
    have hX0 := box_new w #[.string s.dr, .string s.x.who, .int .i64 s.x.vb, .string s.x.kd, .string s.x.nm, .string s.x.tm, .slice a0 s.x.vs.length c0, .slice a1 s.x.hs.length c1, .int .i64 s.x.sn, .string s.x.hd, .string s.x.to, .slice a2 s.x.r.vs.length c2, .string s.x.r.kd, .string s.x.r.tm, .string s.x.r.px, .int .i64 s.x.no, .int .i64 s.gv, .slice a3 s.ws.length c3] 35
    have hB0 : Below w.heap.size w (w.alloc (.cells #[.string s.dr, .string s.x.who, .int .i64 s.x.vb, .string s.x.kd, .string s.x.nm, .string s.x.tm, .slice a0 s.x.vs.length c0, .slice a1 s.x.hs.length c1, .int .i64 s.x.sn, .string s.x.hd, .string s.x.to, .slice a2 s.x.r.vs.length c2, .string s.x.r.kd, .string s.x.r.tm, .string s.x.r.px, .int .i64 s.x.no, .int .i64 s.gv, .slice a3 s.ws.length c3] 35)) := (Below.refl _ _).alloc (Nat.le_refl _) _
    obtain ⟨W0, hW0⟩ : ∃ W0, W0 = w.alloc (.cells #[.string s.dr, .string s.x.who, .int .i64 s.x.vb, .string s.x.kd, .string s.x.nm, .string s.x.tm, .slice a0 s.x.vs.length c0, .slice a1 s.x.hs.length c1, .int .i64 s.x.sn, .string s.x.hd, .string s.x.to, .slice a2 s.x.r.vs.length c2, .string s.x.r.kd, .string s.x.r.tm, .string s.x.r.px, .int .i64 s.x.no, .int .i64 s.gv, .slice a3 s.ws.length c3] 35) := ⟨_, rfl⟩
    have hz0 : w.heap.size < W0.heap.size := by rw [hW0]; simp
    rw [← hW0] at hB0 hX0 ⊢
    clear hW0
    refine (szGateAsk_any s.x _ _ _ _ _ _ _ _ (HX.out.mono hB0) (by omega) (by omega)).mono ?_
    rintro e w1 ⟨rfl, hb⟩
    have hX1 := box_later hX0 hz0 hb
    have hz1 := Nat.lt_of_lt_of_le hz0 hb.size
    have hB1 := hB0.trans (hb.mono hB0.size)
    clear hb hX0 hz0 hB0
    rw [szRes_yes p2]
    go_wp2_with fail
    refine (szGateWantS_any _ _ s.ws _ _ (HW.out.mono hB1) (by omega) (by omega)).mono ?_
    rintro e w2 ⟨rfl, hb⟩
    have hB2 := hB1.trans (hb.mono hB1.size)
    clear hb hX1 hz1 hB1
    rw [szRes_yes p3]
    go_wp2_with fail
    go_ret
    exact ⟨ret_int HF.out.symm, hB2⟩

set_option maxHeartbeats 4000000 in
theorem eqGateSlip_yes (s : Sl) (a0 a1 a2 a3 : Option Addr) (c0 c1 c2 c3 : Nat) (b0 b1 b2 b3 : Option Addr) (d0 d1 d2 d3 : Nat) (w : World) (ho : SlAt w s a0 a1 a2 a3) (ho' : SlAt w s b0 b1 b2 b3) :
    Calls Tryz.prog 11 #[.agg (s.cells a0 a1 a2 a3 c0 c1 c2 c3), .agg (s.cells b0 b1 b2 b3 d0 d1 d2 d3)] w fun e w' => e = .returned (.bool true) ∧ Below w.heap.size w w' := by
  have HA : Hid (SlAt w s a0 a1 a2 a3 ∧ SlAt w s b0 b1 b2 b3) := ⟨ho, ho'⟩
  have hn1 : (s.gv != s.gv) = false := by simp
  clear ho ho'
  unfold Sl.cells
  go_enter Tryz.func11, Tryz.ntmps11
  go_wp2_with fail
  obtain ⟨hX0, hY0⟩ := two_boxesK w #[.string s.dr, .string s.x.who, .int .i64 s.x.vb, .string s.x.kd, .string s.x.nm, .string s.x.tm, .slice a0 s.x.vs.length c0, .slice a1 s.x.hs.length c1, .int .i64 s.x.sn, .string s.x.hd, .string s.x.to, .slice a2 s.x.r.vs.length c2, .string s.x.r.kd, .string s.x.r.tm, .string s.x.r.px, .int .i64 s.x.no, .int .i64 s.gv, .slice a3 s.ws.length c3] #[.string s.dr, .string s.x.who, .int .i64 s.x.vb, .string s.x.kd, .string s.x.nm, .string s.x.tm, .slice b0 s.x.vs.length d0, .slice b1 s.x.hs.length d1, .int .i64 s.x.sn, .string s.x.hd, .string s.x.to, .slice b2 s.x.r.vs.length d2, .string s.x.r.kd, .string s.x.r.tm, .string s.x.r.px, .int .i64 s.x.no, .int .i64 s.gv, .slice b3 s.ws.length d3] 50 50
  have hB0 := below2' w (.cells #[.string s.dr, .string s.x.who, .int .i64 s.x.vb, .string s.x.kd, .string s.x.nm, .string s.x.tm, .slice a0 s.x.vs.length c0, .slice a1 s.x.hs.length c1, .int .i64 s.x.sn, .string s.x.hd, .string s.x.to, .slice a2 s.x.r.vs.length c2, .string s.x.r.kd, .string s.x.r.tm, .string s.x.r.px, .int .i64 s.x.no, .int .i64 s.gv, .slice a3 s.ws.length c3] 50) (.cells #[.string s.dr, .string s.x.who, .int .i64 s.x.vb, .string s.x.kd, .string s.x.nm, .string s.x.tm, .slice b0 s.x.vs.length d0, .slice b1 s.x.hs.length d1, .int .i64 s.x.sn, .string s.x.hd, .string s.x.to, .slice b2 s.x.r.vs.length d2, .string s.x.r.kd, .string s.x.r.tm, .string s.x.r.px, .int .i64 s.x.no, .int .i64 s.gv, .slice b3 s.ws.length d3] 50)
  obtain ⟨W0, hW0⟩ : ∃ W0, W0 = (w.alloc (.cells #[.string s.dr, .string s.x.who, .int .i64 s.x.vb, .string s.x.kd, .string s.x.nm, .string s.x.tm, .slice a0 s.x.vs.length c0, .slice a1 s.x.hs.length c1, .int .i64 s.x.sn, .string s.x.hd, .string s.x.to, .slice a2 s.x.r.vs.length c2, .string s.x.r.kd, .string s.x.r.tm, .string s.x.r.px, .int .i64 s.x.no, .int .i64 s.gv, .slice a3 s.ws.length c3] 50)).alloc (.cells #[.string s.dr, .string s.x.who, .int .i64 s.x.vb, .string s.x.kd, .string s.x.nm, .string s.x.tm, .slice b0 s.x.vs.length d0, .slice b1 s.x.hs.length d1, .int .i64 s.x.sn, .string s.x.hd, .string s.x.to, .slice b2 s.x.r.vs.length d2, .string s.x.r.kd, .string s.x.r.tm, .string s.x.r.px, .int .i64 s.x.no, .int .i64 s.gv, .slice b3 s.ws.length d3] 50) := ⟨_, rfl⟩
  have hz0 : w.heap.size + 1 < W0.heap.size := by rw [hW0]; simp
  rw [← hW0] at hB0 hX0 hY0 ⊢
  clear hW0
  refine (eqGateAsk_yes s.x _ _ _ _ _ _ _ _ _ _ _ _ _ (HA.out.1.x.mono hB0) (HA.out.2.x.mono hB0)).mono ?_
  rintro e w1 ⟨rfl, hb⟩
  have hX1 := box_later hX0 (Nat.lt_of_succ_lt hz0) hb
  have hY1 := box_later hY0 hz0 hb
  have hz1 := Nat.lt_of_lt_of_le hz0 hb.size
  have hB1 := hB0.trans (hb.mono hB0.size)
  clear hb hX0 hY0 hz0 hB0
  go_wp2_with fail
  refine (eqGateWantS_yes _ _ _ _ s.ws _ (HA.out.1.ws.mono hB1) (HA.out.2.ws.mono hB1)).mono ?_
  rintro e w2 ⟨rfl, hb⟩
  have hX2 := box_later hX1 (Nat.lt_of_succ_lt hz1) hb
  have hY2 := box_later hY1 hz1 hb
  have hz2 := Nat.lt_of_lt_of_le hz1 hb.size
  have hB2 := hB1.trans (hb.mono hB1.size)
  clear hb hX1 hY1 hz1 hB1
  go_wp2_with fail
  go_ret
  exact ⟨rfl, hB2⟩

end Go.Proofs.YtcdlcddjoohcnaaGreat

namespace Go.Proofs.YtcdlcddjoohcnaaGreat
open Go.RowKit

namespace Gate
/-- An ask has nothing but who asks, and a verb. -/
def unused (x : Ak) : Bool := x.kd.toList.isEmpty && (x.nm.toList.isEmpty && (x.tm.toList.isEmpty && (x.hd.toList.isEmpty && (x.to.toList.isEmpty && (decide (x.sn = 0) && (decide (x.no = 0) && (decide (x.vs.length = 0) && (decide (x.hs.length = 0) && (decide (x.r.vs.length = 0) && (x.r.kd.toList.isEmpty && (x.r.tm.toList.isEmpty && x.r.px.toList.isEmpty)))))))))))
def noRule : Rl := ⟨[], ByteArray.empty, ByteArray.empty, ByteArray.empty⟩
/-- An ask without what its verb uses. -/
def restOf (x : Ak) : Ak :=
  if x.vb = 1 then { x with kd := ByteArray.empty, nm := ByteArray.empty, tm := ByteArray.empty, vs := [], hs := [] }
  else if x.vb = 2 then { x with kd := ByteArray.empty, nm := ByteArray.empty, vs := [], sn := 0 }
  else if x.vb = 3 then { x with kd := ByteArray.empty, nm := ByteArray.empty, sn := 0 }
  else if x.vb = 4 then { x with kd := ByteArray.empty, nm := ByteArray.empty, hd := ByteArray.empty }
  else if x.vb = 5 then { x with to := ByteArray.empty, r := noRule }
  else { x with no := 0 }
def keyOk (l : Lw) (x : Ak) : Bool := hasKind l.ss x.kd && nameOk x.nm
def countOk (l : Lw) (x : Ak) : Bool := decide (x.vs.length = (shapeOf l.ss x.kd).fs.length)
def useMake (l : Lw) (x : Ak) : Bool := keyOk l x && (hasTeam l.ts x.tm && (countOk l x && (decide (x.hs.length ≤ 3) && asc x.hs)))
def useChange (l : Lw) (x : Ak) : Bool := keyOk l x && (countOk l x && decide (0 ≤ x.sn))
def useEnd (l : Lw) (x : Ak) : Bool := keyOk l x && decide (0 ≤ x.sn)
def useLetGo (l : Lw) (x : Ak) : Bool := keyOk l x && nameOk x.hd
def useGive (x : Ak) : Bool := nameOk x.to && ruleOk x.r
def useTake (x : Ak) : Bool := decide (1 ≤ x.no)
/-- What a verb uses of an ask is as said. -/
def useOf (l : Lw) (x : Ak) : Bool :=
  if x.vb = 1 then useMake l x
  else if x.vb = 2 then useChange l x
  else if x.vb = 3 then useEnd l x
  else if x.vb = 4 then useLetGo l x
  else if x.vb = 5 then useGive x
  else useTake x
def isAsk (l : Lw) (x : Ak) : Bool := (nameOk x.who && within x.vb 1 6) && (useOf l x && unused (restOf x))
end Gate

end Go.Proofs.YtcdlcddjoohcnaaGreat

namespace Go.Proofs.YtcdlcddjoohcnaaGreat
open Go.RowKit

theorem Gate.kd_cases (s : ByteArray) : s.toList.isEmpty = true ∨ (s.toList.isEmpty = false ∧ Hid (Gate.nameOk s = true)) ∨ (s.toList.isEmpty = false ∧ Hid (Gate.nameOk s = false)) := by
  by_cases h : s.toList.isEmpty = true
  · exact Or.inl h
  · by_cases h2 : Gate.nameOk s = true
    · exact Or.inr (Or.inl ⟨by simpa using h, h2⟩)
    · exact Or.inr (Or.inr ⟨by simpa using h, by simpa [Hid] using h2⟩)

set_option maxHeartbeats 2000000 in
theorem isRule_any (r : Rl) (a : Option Addr) (cap : Nat) (w : World) (hm : r.Small) (hw : IntsAt w a r.vs) :
    Calls Tryz.prog 177 #[.agg (r.cells a cap)] w fun e w' => e = .returned (.bool (Gate.ruleOk r)) ∧ Below w.heap.size w w' := by
  have hskd := hm.kd
  have hstm := hm.tm
  have hspx := hm.px
  have hpx := hm.px
  unfold maxLen at hpx
  unfold Rl.cells
  have HB : Hid (∀ ob, Below w.heap.size w (w.alloc ob)) := fun ob => (Below.refl _ _).alloc (Nat.le_refl _) _
  have HI : Hid (∀ ob, IntsAt (w.alloc ob) a r.vs) := fun ob => hw.mono (HB.out ob)
  clear hw hm
  rcases Gate.kd_cases r.kd with hk | ⟨hk, HK⟩ | ⟨hk, HK⟩
  · rcases Gate.kd_cases r.tm with ht | ⟨ht, HT⟩ | ⟨ht, HT⟩
    · have HKD : Hid (Gate.kindsOk r = true) := by unfold Hid Gate.kindsOk; rw [hk, ht]; simp
      by_cases hv : Gate.verbsOk r.vs = true
      rotate_left
      · have HV : Hid (Gate.verbsOk r.vs = false) := by simpa [Hid] using hv
        have HF : Hid (Gate.ruleOk r = false) := by unfold Hid Gate.ruleOk; rw [HV.out]; simp
        clear hv
        go_enter Tryz.func177, Tryz.ntmps177
        go_wp2_with (first | (go_at_call 178; refine (as_bool HV.out (areVerbs_any _ _ r.vs _ (by exact HI.out _))).mono ?_; rintro e w' ⟨rfl, rfl⟩))
        go_ret
        exact ⟨ret_bool HF.out.symm, HB.out _⟩
      have HV : Hid (Gate.verbsOk r.vs = true) := hv
      clear hv
      by_cases h16 : r.px.size ≤ 16
      · have HF : Hid (Gate.ruleOk r = Gate.allName r.px) := by unfold Hid Gate.ruleOk; rw [HKD.out, HV.out, decide_eq_true h16]; rfl
        have h16I : (r.px.size : Int) ≤ 16 := by omega
        clear h16
        go_enter Tryz.func177, Tryz.ntmps177
        go_wp2_with (first | (go_at_call 178; refine (as_bool HV.out (areVerbs_any _ _ r.vs _ (by exact HI.out _))).mono ?_; rintro e w' ⟨rfl, rfl⟩) | (go_at_call 84; refine (isNameBytes_any r.px _ hspx).mono ?_; rintro e w' ⟨rfl, rfl⟩))
        go_ret
        exact ⟨ret_bool HF.out.symm, HB.out _⟩
      · have HF : Hid (Gate.ruleOk r = false) := by unfold Hid Gate.ruleOk; rw [decide_eq_false h16]; simp
        have h16I : decide ((r.px.size : Int) ≤ 16) = false := by simp; omega
        clear h16
        go_enter Tryz.func177, Tryz.ntmps177
        go_wp2_with (first | (go_at_call 178; refine (as_bool HV.out (areVerbs_any _ _ r.vs _ (by exact HI.out _))).mono ?_; rintro e w' ⟨rfl, rfl⟩))
        go_ret
        exact ⟨ret_bool HF.out.symm, HB.out _⟩
    · have HKD : Hid (Gate.kindsOk r = true) := by unfold Hid Gate.kindsOk; rw [hk, HT.out]; simp
      by_cases hv : Gate.verbsOk r.vs = true
      rotate_left
      · have HV : Hid (Gate.verbsOk r.vs = false) := by simpa [Hid] using hv
        have HF : Hid (Gate.ruleOk r = false) := by unfold Hid Gate.ruleOk; rw [HV.out]; simp
        clear hv
        go_enter Tryz.func177, Tryz.ntmps177
        go_wp2_with (first | (go_at_call_of 49 (Value.string r.tm); refine (as_bool HT.out (isName_any r.tm _ hstm)).mono ?_; rintro e w' ⟨rfl, rfl⟩) | (go_at_call 178; refine (as_bool HV.out (areVerbs_any _ _ r.vs _ (by exact HI.out _))).mono ?_; rintro e w' ⟨rfl, rfl⟩))
        go_ret
        exact ⟨ret_bool HF.out.symm, HB.out _⟩
      have HV : Hid (Gate.verbsOk r.vs = true) := hv
      clear hv
      by_cases h16 : r.px.size ≤ 16
      · have HF : Hid (Gate.ruleOk r = Gate.allName r.px) := by unfold Hid Gate.ruleOk; rw [HKD.out, HV.out, decide_eq_true h16]; rfl
        have h16I : (r.px.size : Int) ≤ 16 := by omega
        clear h16
        go_enter Tryz.func177, Tryz.ntmps177
        go_wp2_with (first | (go_at_call_of 49 (Value.string r.tm); refine (as_bool HT.out (isName_any r.tm _ hstm)).mono ?_; rintro e w' ⟨rfl, rfl⟩) | (go_at_call 178; refine (as_bool HV.out (areVerbs_any _ _ r.vs _ (by exact HI.out _))).mono ?_; rintro e w' ⟨rfl, rfl⟩) | (go_at_call 84; refine (isNameBytes_any r.px _ hspx).mono ?_; rintro e w' ⟨rfl, rfl⟩))
        go_ret
        exact ⟨ret_bool HF.out.symm, HB.out _⟩
      · have HF : Hid (Gate.ruleOk r = false) := by unfold Hid Gate.ruleOk; rw [decide_eq_false h16]; simp
        have h16I : decide ((r.px.size : Int) ≤ 16) = false := by simp; omega
        clear h16
        go_enter Tryz.func177, Tryz.ntmps177
        go_wp2_with (first | (go_at_call_of 49 (Value.string r.tm); refine (as_bool HT.out (isName_any r.tm _ hstm)).mono ?_; rintro e w' ⟨rfl, rfl⟩) | (go_at_call 178; refine (as_bool HV.out (areVerbs_any _ _ r.vs _ (by exact HI.out _))).mono ?_; rintro e w' ⟨rfl, rfl⟩))
        go_ret
        exact ⟨ret_bool HF.out.symm, HB.out _⟩
    · have HF : Hid (Gate.ruleOk r = false) := by unfold Hid Gate.ruleOk Gate.kindsOk; rw [ht, HT.out]; simp
      go_enter Tryz.func177, Tryz.ntmps177
      go_wp2_with (first | (go_at_call_of 49 (Value.string r.tm); refine (as_bool HT.out (isName_any r.tm _ hstm)).mono ?_; rintro e w' ⟨rfl, rfl⟩))
      go_ret
      exact ⟨ret_bool HF.out.symm, HB.out _⟩
  · rcases Gate.kd_cases r.tm with ht | ⟨ht, HT⟩ | ⟨ht, HT⟩
    · have HKD : Hid (Gate.kindsOk r = true) := by unfold Hid Gate.kindsOk; rw [HK.out, ht]; simp
      by_cases hv : Gate.verbsOk r.vs = true
      rotate_left
      · have HV : Hid (Gate.verbsOk r.vs = false) := by simpa [Hid] using hv
        have HF : Hid (Gate.ruleOk r = false) := by unfold Hid Gate.ruleOk; rw [HV.out]; simp
        clear hv
        go_enter Tryz.func177, Tryz.ntmps177
        go_wp2_with (first | (go_at_call_of 49 (Value.string r.kd); refine (as_bool HK.out (isName_any r.kd _ hskd)).mono ?_; rintro e w' ⟨rfl, rfl⟩) | (go_at_call 178; refine (as_bool HV.out (areVerbs_any _ _ r.vs _ (by exact HI.out _))).mono ?_; rintro e w' ⟨rfl, rfl⟩))
        go_ret
        exact ⟨ret_bool HF.out.symm, HB.out _⟩
      have HV : Hid (Gate.verbsOk r.vs = true) := hv
      clear hv
      by_cases h16 : r.px.size ≤ 16
      · have HF : Hid (Gate.ruleOk r = Gate.allName r.px) := by unfold Hid Gate.ruleOk; rw [HKD.out, HV.out, decide_eq_true h16]; rfl
        have h16I : (r.px.size : Int) ≤ 16 := by omega
        clear h16
        go_enter Tryz.func177, Tryz.ntmps177
        go_wp2_with (first | (go_at_call_of 49 (Value.string r.kd); refine (as_bool HK.out (isName_any r.kd _ hskd)).mono ?_; rintro e w' ⟨rfl, rfl⟩) | (go_at_call 178; refine (as_bool HV.out (areVerbs_any _ _ r.vs _ (by exact HI.out _))).mono ?_; rintro e w' ⟨rfl, rfl⟩) | (go_at_call 84; refine (isNameBytes_any r.px _ hspx).mono ?_; rintro e w' ⟨rfl, rfl⟩))
        go_ret
        exact ⟨ret_bool HF.out.symm, HB.out _⟩
      · have HF : Hid (Gate.ruleOk r = false) := by unfold Hid Gate.ruleOk; rw [decide_eq_false h16]; simp
        have h16I : decide ((r.px.size : Int) ≤ 16) = false := by simp; omega
        clear h16
        go_enter Tryz.func177, Tryz.ntmps177
        go_wp2_with (first | (go_at_call_of 49 (Value.string r.kd); refine (as_bool HK.out (isName_any r.kd _ hskd)).mono ?_; rintro e w' ⟨rfl, rfl⟩) | (go_at_call 178; refine (as_bool HV.out (areVerbs_any _ _ r.vs _ (by exact HI.out _))).mono ?_; rintro e w' ⟨rfl, rfl⟩))
        go_ret
        exact ⟨ret_bool HF.out.symm, HB.out _⟩
    · have HKD : Hid (Gate.kindsOk r = true) := by unfold Hid Gate.kindsOk; rw [HK.out, HT.out]; simp
      by_cases hv : Gate.verbsOk r.vs = true
      rotate_left
      · have HV : Hid (Gate.verbsOk r.vs = false) := by simpa [Hid] using hv
        have HF : Hid (Gate.ruleOk r = false) := by unfold Hid Gate.ruleOk; rw [HV.out]; simp
        clear hv
        go_enter Tryz.func177, Tryz.ntmps177
        go_wp2_with (first | (go_at_call_of 49 (Value.string r.kd); refine (as_bool HK.out (isName_any r.kd _ hskd)).mono ?_; rintro e w' ⟨rfl, rfl⟩) | (go_at_call_of 49 (Value.string r.tm); refine (as_bool HT.out (isName_any r.tm _ hstm)).mono ?_; rintro e w' ⟨rfl, rfl⟩) | (go_at_call 178; refine (as_bool HV.out (areVerbs_any _ _ r.vs _ (by exact HI.out _))).mono ?_; rintro e w' ⟨rfl, rfl⟩))
        go_ret
        exact ⟨ret_bool HF.out.symm, HB.out _⟩
      have HV : Hid (Gate.verbsOk r.vs = true) := hv
      clear hv
      by_cases h16 : r.px.size ≤ 16
      · have HF : Hid (Gate.ruleOk r = Gate.allName r.px) := by unfold Hid Gate.ruleOk; rw [HKD.out, HV.out, decide_eq_true h16]; rfl
        have h16I : (r.px.size : Int) ≤ 16 := by omega
        clear h16
        go_enter Tryz.func177, Tryz.ntmps177
        go_wp2_with (first | (go_at_call_of 49 (Value.string r.kd); refine (as_bool HK.out (isName_any r.kd _ hskd)).mono ?_; rintro e w' ⟨rfl, rfl⟩) | (go_at_call_of 49 (Value.string r.tm); refine (as_bool HT.out (isName_any r.tm _ hstm)).mono ?_; rintro e w' ⟨rfl, rfl⟩) | (go_at_call 178; refine (as_bool HV.out (areVerbs_any _ _ r.vs _ (by exact HI.out _))).mono ?_; rintro e w' ⟨rfl, rfl⟩) | (go_at_call 84; refine (isNameBytes_any r.px _ hspx).mono ?_; rintro e w' ⟨rfl, rfl⟩))
        go_ret
        exact ⟨ret_bool HF.out.symm, HB.out _⟩
      · have HF : Hid (Gate.ruleOk r = false) := by unfold Hid Gate.ruleOk; rw [decide_eq_false h16]; simp
        have h16I : decide ((r.px.size : Int) ≤ 16) = false := by simp; omega
        clear h16
        go_enter Tryz.func177, Tryz.ntmps177
        go_wp2_with (first | (go_at_call_of 49 (Value.string r.kd); refine (as_bool HK.out (isName_any r.kd _ hskd)).mono ?_; rintro e w' ⟨rfl, rfl⟩) | (go_at_call_of 49 (Value.string r.tm); refine (as_bool HT.out (isName_any r.tm _ hstm)).mono ?_; rintro e w' ⟨rfl, rfl⟩) | (go_at_call 178; refine (as_bool HV.out (areVerbs_any _ _ r.vs _ (by exact HI.out _))).mono ?_; rintro e w' ⟨rfl, rfl⟩))
        go_ret
        exact ⟨ret_bool HF.out.symm, HB.out _⟩
    · have HF : Hid (Gate.ruleOk r = false) := by unfold Hid Gate.ruleOk Gate.kindsOk; rw [ht, HT.out]; simp
      go_enter Tryz.func177, Tryz.ntmps177
      go_wp2_with (first | (go_at_call_of 49 (Value.string r.kd); refine (as_bool HK.out (isName_any r.kd _ hskd)).mono ?_; rintro e w' ⟨rfl, rfl⟩) | (go_at_call_of 49 (Value.string r.tm); refine (as_bool HT.out (isName_any r.tm _ hstm)).mono ?_; rintro e w' ⟨rfl, rfl⟩))
      go_ret
      exact ⟨ret_bool HF.out.symm, HB.out _⟩
  · have HF : Hid (Gate.ruleOk r = false) := by unfold Hid Gate.ruleOk Gate.kindsOk; rw [hk, HK.out]; simp
    go_enter Tryz.func177, Tryz.ntmps177
    go_wp2_with (first | (go_at_call_of 49 (Value.string r.kd); refine (as_bool HK.out (isName_any r.kd _ hskd)).mono ?_; rintro e w' ⟨rfl, rfl⟩))
    go_ret
    exact ⟨ret_bool HF.out.symm, HB.out _⟩

end Go.Proofs.YtcdlcddjoohcnaaGreat

namespace Go.Proofs.YtcdlcddjoohcnaaGreat
open Go.RowKit

theorem Gate.any_deep (ts : List Tm) : (!(ts.any fun t => !Gate.deepOk ts t)) = Gate.up (Gate.deepAt ts) ts.length := by
  rw [Bool.eq_iff_iff, Gate.up_eq_true]
  simp only [Bool.not_eq_true', List.any_eq_false]
  constructor
  · intro h i hi
    have := h ts[i] (List.getElem_mem hi)
    unfold Gate.deepAt
    rw [Gate.getD_at ts i _ hi]
    simpa using this
  · intro h x hx
    obtain ⟨k, hk, rfl⟩ := List.mem_iff_getElem.1 hx
    have := h k hk
    unfold Gate.deepAt at this
    rw [Gate.getD_at ts k _ hk] at this
    simp [this]

theorem Gate.teamAt_at (ts : List Tm) (k : Nat) (h : k < ts.length) (b : Bool) (hb : (decide (k = 0) || Gate.less (ts.getD (k - 1) Gate.noTeam).nm ts[k].nm) = b) :
    Gate.teamAt ts k = (Gate.nameOk ts[k].nm && b && (ts[k].ov.toList.isEmpty || Gate.hasTeam ts ts[k].ov)) := by
  unfold Gate.teamAt; rw [Gate.getD_at ts k _ h, hb]

set_option maxHeartbeats 4000000 in
theorem implTeamsOk_any (a : Option Addr) (cap : Nat) (ts : List Tm) (w : World) (hw : TmsAt w a ts) :
    Calls Tryz.prog 48 #[.slice a ts.length cap] w fun e w' => e = .returned (.bool (Gate.teamsOk ts)) ∧ Below w.heap.size w w' := by
  have hl := hw.len
  unfold maxLen at hl
  by_cases h12 : ts.length ≤ 12
  rotate_left
  · have HF : Hid (Gate.teamsOk ts = false) := by simp [Hid, Gate.teamsOk, h12]
    clear hw
    go_enter Tryz.func48, Tryz.ntmps48
    go_wp2_with fail
    go_ret
    exact ⟨ret_bool HF.out.symm, (Below.refl _ _).alloc (Nat.le_refl _) _⟩
  have HG : Hid (Gate.teamsOk ts = (Gate.up (Gate.teamAt ts) ts.length && Gate.up (Gate.deepAt ts) ts.length)) := by simp [Hid, Gate.teamsOk, h12]
  have h12I : (ts.length : Int) ≤ 12 := by omega
  go_enter Tryz.func48, Tryz.ntmps48
  go_wp2_with fail
  have hB00 : Below w.heap.size w (w.alloc (.cells #[.slice a ts.length cap] 41)) := (Below.refl _ _).alloc (Nat.le_refl _) _
  have hX00 := box_new w #[.slice a ts.length cap] 41
  have hz00 : w.heap.size < (w.alloc (.cells #[.slice a ts.length cap] 41)).heap.size := by simp
  obtain ⟨w0, hw0⟩ : ∃ w0, w0 = w.alloc (.cells #[.slice a ts.length cap] 41) := ⟨_, rfl⟩
  rw [← hw0] at hB00 hX00 hz00 ⊢
  have HW0 : Hid (TmsAt w0 a ts) := hw.mono hB00
  have HB00 : Hid (Below w.heap.size w w0) := hB00
  clear hw0 hw hB00
  go_loopw [10] (fun i wr => ∃ k : Nat, k ≤ ts.length ∧ i = .int .i64 k ∧ Gate.up (Gate.teamAt ts) k = true ∧ Below w0.heap.size w0 wr) (fun i _ => ts.length - (intOf i).toNat)
  case atStart => exact ⟨0, Nat.zero_le _, rfl, rfl, Below.refl _ _⟩
  case round =>
    obtain ⟨k, hk, rfl, hup, hB⟩ := hrel
    have hsz := hB.size
    have hX := box_later hX00 hz00 hB
    have hX0 : wr.cell? ⟨w.heap.size, 0, none⟩ = some (.slice a ts.length cap) := hX 0
    have hzr : w.heap.size < wr.heap.size := by omega
    have HBr : Hid (Below w.heap.size w wr) := HB00.out.trans (hB.mono (by omega))
    clear hX hX00
    by_cases hlt : k < ts.length
    · obtain ⟨b, off, rfl, hb, c0, c1⟩ := HW0.out.load hB k hlt
      have hbr : b < wr.heap.size := by omega
      have hsm := HW0.out.small k hlt
      have hsn := hsm.nm
      have HS : Hid (Gate.teamAt ts k = true → Gate.up (Gate.teamAt ts) (k + 1) = true) := fun h => by rw [Gate.up_succ, hup, h]; rfl
      have HN : Hid (Gate.teamAt ts k = false → Gate.teamsOk ts = false) := fun h => by rw [HG.out, Gate.up_not hlt h]; rfl
      have hltI : (k : Int) < (ts.length : Int) := by omega
      have HB : Hid (Below w0.heap.size w0 wr) := hB
      clear hup hsm hB
      by_cases hn : Gate.nameOk ts[k].nm = true
      rotate_left
      · have HNm : Hid (Gate.nameOk ts[k].nm = false) := by simpa [Hid] using hn
        have HF : Hid (Gate.teamAt ts k = false) := by unfold Hid; rw [Gate.teamAt_at ts k hlt _ rfl, HNm.out]; rfl
        clear hn
        go_wp2_with fail
        go_quiet ((go_at_call 49; exact Calls.quiet_of_same (as_bool HNm.out (isName_any _ _ hsn))))
        go_wp2_with fail
        go_ret
        exact ⟨ret_bool (HN.out HF.out).symm, below_drewN (HBr.out.alloc (by omega) _) _⟩
      have HNm : Hid (Gate.nameOk ts[k].nm = true) := hn
      clear hn
      by_cases hbad : 0 < k ∧ Gate.less (ts.getD (k - 1) Gate.noTeam).nm ts[k].nm = false
      · obtain ⟨hkpos, hls⟩ := hbad
        have HF : Hid (Gate.teamAt ts k = false) := by
          unfold Hid; rw [Gate.teamAt_at ts k hlt false (by rw [hls, decide_eq_false (show ¬ k = 0 by omega)]; rfl)]; simp
        obtain ⟨m, rfl⟩ : ∃ m, k = m + 1 := ⟨k - 1, by omega⟩
        rw [Nat.add_sub_cancel, Gate.getD_at ts m _ (by omega)] at hls
        obtain ⟨b', off', e', hb', d0, d1⟩ := HW0.out.load HB.out m (by omega)
        simp only [Option.some.injEq, Addr.mk.injEq] at e'
        obtain ⟨rfl, rfl, _⟩ := e'
        have hls' : Op.bytesLess ts[m].nm.toList ts[m + 1].nm.toList = false := hls
        have hmI : (m : Int) < 12 := by omega
        have hm0 : (0 : Int) ≤ (m : Int) := by omega
        have hml : (m : Int) < (ts.length : Int) := by omega
        have hmw : IntKind.i64.wrap (m : Int) = m := by rw [IntKind.wrap_i64]; omega
        clear hls
        go_wp2_with fail
        go_quiet ((go_at_call 49; exact Calls.quiet_of_same (as_bool HNm.out (isName_any _ _ hsn))))
        go_wp2_with fail
        go_ret
        exact ⟨ret_bool (HN.out HF.out).symm, below_drewN (HBr.out.alloc (by omega) _) _⟩
      have hgd : (decide (k = 0) || Gate.less (ts.getD (k - 1) Gate.noTeam).nm ts[k].nm) = true := by
        by_cases hk0 : k = 0
        · simp [hk0]
        · cases hq : Gate.less (ts.getD (k - 1) Gate.noTeam).nm ts[k].nm
          · exact absurd ⟨by omega, hq⟩ hbad
          · simp
      have HA : Hid (Gate.teamAt ts k = (ts[k].ov.toList.isEmpty || Gate.hasTeam ts ts[k].ov)) := by
        unfold Hid; rw [Gate.teamAt_at ts k hlt true hgd, HNm.out]; rfl
      have hgood : (decide (0 < k) = false) ∨ (decide (0 < k) = true ∧ ∃ m, k = m + 1 ∧ ∃ h : m < ts.length, Op.bytesLess ts[m].nm.toList ts[k].nm.toList = true ∧ wr.cell? ⟨b, off + m * 2, none⟩ = some (.string ts[m].nm)) := by
        by_cases hk0 : k = 0
        · exact Or.inl (by simp; omega)
        · refine Or.inr ⟨by simp; omega, k - 1, by omega, by omega, ?_, ?_⟩
          · rw [decide_eq_false hk0, Gate.getD_at ts (k - 1) _ (by omega)] at hgd
            exact hgd
          · obtain ⟨b', off', e', hb', d0, d1⟩ := HW0.out.load HB.out (k - 1) (by omega)
            simp only [Option.some.injEq, Addr.mk.injEq] at e'
            obtain ⟨rfl, rfl, _⟩ := e'
            exact d0
      clear hbad hgd
      have HBx : Hid (∀ (ob : Obj) (n : Nat), Below wr.heap.size wr ((wr.alloc ob).drewN n)) := fun ob n => below_drewN ((Below.refl _ _).alloc (Nat.le_refl _) _) _
      by_cases hov : ts[k].ov.toList.isEmpty = true
      · have HT : Hid (Gate.teamAt ts k = true) := by unfold Hid; rw [HA.out, hov]; rfl
        rcases hgood with hg | ⟨hg, m, rfl, hm, hls', d0⟩
        · go_wp2_with fail
          go_quiet ((go_at_call 49; exact Calls.quiet_of_same (as_bool HNm.out (isName_any _ _ hsn))))
          go_wp2_with fail
          exact ⟨⟨k + 1, by omega, by go_num, HS.out HT.out, HB.out.trans ((HBx.out _ _).mono hsz)⟩, by simp [intOf]; omega⟩
        · have hmI : (m : Int) < 12 := by omega
          have hm0 : (0 : Int) ≤ (m : Int) := by omega
          have hml : (m : Int) < (ts.length : Int) := by omega
          have hmw : IntKind.i64.wrap (m : Int) = m := by rw [IntKind.wrap_i64]; omega
          go_wp2_with fail
          go_quiet ((go_at_call 49; exact Calls.quiet_of_same (as_bool HNm.out (isName_any _ _ hsn))))
          go_wp2_with fail
          exact ⟨⟨m + 1 + 1, by omega, by go_num, HS.out HT.out, HB.out.trans ((HBx.out _ _).mono hsz)⟩, by simp [intOf]; omega⟩
      · have hov' : ts[k].ov.toList.isEmpty = false := by simpa using hov
        clear hov
        by_cases hit : Gate.hasTeam ts ts[k].ov = true
        · have HI : Hid (Gate.hasTeam ts ts[k].ov = true) := hit
          have HT : Hid (Gate.teamAt ts k = true) := by unfold Hid; rw [HA.out, hit]; simp
          clear hit
          rcases hgood with hg | ⟨hg, m, rfl, hm, hls', d0⟩
          · go_wp2_with fail
            go_quiet ((go_at_call 49; exact Calls.quiet_of_same (as_bool HNm.out (isName_any _ _ hsn))))
            go_wp2_with fail
            refine (as_bool HI.out (isTeam_any _ _ ts _ _ ((HW0.out.mono HB.out).mono (HBx.out _ _)))).mono ?_
            rintro e w3 ⟨rfl, hb3⟩
            have hB3 : Below w0.heap.size w0 w3 := (HB.out.trans ((HBx.out _ _).mono hsz)).trans (hb3.mono (by simp; omega))
            clear hb3
            go_wp2_with fail
            exact ⟨⟨k + 1, by omega, by go_num, HS.out HT.out, hB3⟩, by simp [intOf]; omega⟩
          · have hmI : (m : Int) < 12 := by omega
            have hm0 : (0 : Int) ≤ (m : Int) := by omega
            have hml : (m : Int) < (ts.length : Int) := by omega
            have hmw : IntKind.i64.wrap (m : Int) = m := by rw [IntKind.wrap_i64]; omega
            go_wp2_with fail
            go_quiet ((go_at_call 49; exact Calls.quiet_of_same (as_bool HNm.out (isName_any _ _ hsn))))
            go_wp2_with fail
            refine (as_bool HI.out (isTeam_any _ _ ts _ _ ((HW0.out.mono HB.out).mono (HBx.out _ _)))).mono ?_
            rintro e w3 ⟨rfl, hb3⟩
            have hB3 : Below w0.heap.size w0 w3 := (HB.out.trans ((HBx.out _ _).mono hsz)).trans (hb3.mono (by simp; omega))
            clear hb3
            go_wp2_with fail
            exact ⟨⟨m + 1 + 1, by omega, by go_num, HS.out HT.out, hB3⟩, by simp [intOf]; omega⟩
        · have HI : Hid (Gate.hasTeam ts ts[k].ov = false) := by simpa [Hid] using hit
          have HF : Hid (Gate.teamAt ts k = false) := by unfold Hid; rw [HA.out, HI.out, hov']; rfl
          clear hit
          rcases hgood with hg | ⟨hg, m, rfl, hm, hls', d0⟩
          · go_wp2_with fail
            go_quiet ((go_at_call 49; exact Calls.quiet_of_same (as_bool HNm.out (isName_any _ _ hsn))))
            go_wp2_with fail
            refine (as_bool HI.out (isTeam_any _ _ ts _ _ ((HW0.out.mono HB.out).mono (HBx.out _ _)))).mono ?_
            rintro e w3 ⟨rfl, hb3⟩
            have hB3 : Below w.heap.size w w3 := (HBr.out.trans ((HBx.out _ _).mono (by omega))).trans (hb3.mono (by simp; omega))
            clear hb3
            go_wp2_with fail
            go_ret
            exact ⟨ret_bool (HN.out HF.out).symm, hB3⟩
          · have hmI : (m : Int) < 12 := by omega
            have hm0 : (0 : Int) ≤ (m : Int) := by omega
            have hml : (m : Int) < (ts.length : Int) := by omega
            have hmw : IntKind.i64.wrap (m : Int) = m := by rw [IntKind.wrap_i64]; omega
            go_wp2_with fail
            go_quiet ((go_at_call 49; exact Calls.quiet_of_same (as_bool HNm.out (isName_any _ _ hsn))))
            go_wp2_with fail
            refine (as_bool HI.out (isTeam_any _ _ ts _ _ ((HW0.out.mono HB.out).mono (HBx.out _ _)))).mono ?_
            rintro e w3 ⟨rfl, hb3⟩
            have hB3 : Below w.heap.size w w3 := (HBr.out.trans ((HBx.out _ _).mono (by omega))).trans (hb3.mono (by simp; omega))
            clear hb3
            go_wp2_with fail
            go_ret
            exact ⟨ret_bool (HN.out HF.out).symm, hB3⟩
    · have HF : Hid (Gate.teamsOk ts = !(ts.any fun t => !Gate.deepOk ts t)) := by
        have e : k = ts.length := by omega
        subst e; rw [Hid, HG.out, hup, Gate.any_deep]; rfl
      have HWr : Hid (TmsAt wr a ts) := HW0.out.mono hB
      clear hup hB
      go_wp2_with fail
      refine (ContainsFuncU_any _ _ ts _ _ _ HWr.out (deepFn_fn _ _ ts _ _ HWr.out hzr hX0)).mono ?_
      rintro e w3 ⟨rfl, hb3⟩
      have hB3 : Below w.heap.size w w3 := HBr.out.trans (hb3.mono (by omega))
      clear hb3
      go_wp2_with fail
      go_ret
      exact ⟨ret_bool HF.out.symm, hB3⟩

end Go.Proofs.YtcdlcddjoohcnaaGreat

namespace Go.Proofs.YtcdlcddjoohcnaaGreat
open Go.RowKit

set_option maxHeartbeats 400000 in
theorem nameIs_any (nm : ByteArray) (kd ls ms : Int) (sl : Value) (to : ByteArray) (rl : Int) (mu fx : Bool) (df wg : ByteArray) (v : ByteArray) (bn : Nat) (w : World) (hb : bn < w.heap.size) (hn : w.cell? ⟨bn, 0, none⟩ = some (.string v)) :
    Calls Tryz.prog 120 #[.agg #[.string nm, .int .i64 kd, .int .i64 ls, .int .i64 ms, sl, .string to, .int .i64 rl, .bool mu, .bool fx, .string df, .string wg], .pointer (some ⟨bn, 0, none⟩)] w fun e w' => e = .returned (.bool (nm.toList == v.toList)) ∧ Below w.heap.size w w' := by
  go_enter Tryz.func120, Tryz.ntmps120
  go_wp2
  go_ret
  exact ⟨rfl, (Below.refl _ _).alloc (Nat.le_refl _) _⟩

set_option maxHeartbeats 1000000 in
theorem IndexFunc_any (a : Option Addr) (cap : Nat) (fs : List Fld) (v : ByteArray) (bn : Nat) (w : World) (hw : FldsAt w a fs) (hbn : bn < w.heap.size) (hn : w.cell? ⟨bn, 0, none⟩ = some (.string v)) :
    Calls Tryz.prog 119 #[.slice a fs.length cap, .func (.func 120) #[] #[.pointer (some ⟨bn, 0, none⟩)]] w fun e w' => e = .returned (.int .i64 (Gate.fieldIx fs v)) ∧ Below w.heap.size w w' := by
  have hl := hw.len
  unfold maxLen at hl
  go_enter Tryz.func119, Tryz.ntmps119
  go_wp2
  go_loopw [8] (fun i wr => ∃ k : Nat, k ≤ fs.length ∧ i = .int .i64 k ∧ Gate.hasName (fs.take k) v = false ∧ Below w.heap.size w wr) (fun i _ => fs.length - (intOf i).toNat)
  case atStart => exact ⟨0, Nat.zero_le _, rfl, rfl, Below.refl _ _⟩
  case round =>
    obtain ⟨k, hk, rfl, hno, hB⟩ := hrel
    by_cases hlt : k < fs.length
    · obtain ⟨b, off, rfl, hb, hr⟩ := hw.rows (by rintro rfl; simp at hlt)
      obtain ⟨wa, wcap, hf⟩ := hr k hlt
      obtain ⟨c0, c1, c2, c3, c4, c5, c6, c7, c8, c9, c10⟩ := (hf.mono hb hB).load
      have hn1 := (hB.cell (p := ⟨bn, 0, none⟩) hbn).trans hn
      have hbn1 : bn < wr.heap.size := Nat.lt_of_lt_of_le hbn hB.size
      clear hw hr hf hn
      by_cases he : fs[k].nm = v
      · have HA : Hid (Gate.fieldIx fs v = k) := Gate.fieldIx_at fs v k hlt hno he
        have HE : Hid ((fs[k].nm.toList == v.toList) = true) := by unfold Hid; rw [Gate.beq_toList]; simpa using he
        clear he hno
        go_wp2_with fail
        refine (as_bool HE.out (nameIs_any _ _ _ _ _ _ _ _ _ _ _ _ _ _ hbn1 hn1)).mono ?_
        rintro e w2 ⟨rfl, hb2⟩
        go_wp2_with fail
        go_ret
        exact ⟨ret_int HA.out.symm, hB.trans (hb2.mono hB.size)⟩
      · have HS : Hid (Gate.hasName (fs.take (k + 1)) v = false) := by unfold Hid; rw [Gate.hasName_snoc fs v k hlt, hno, decide_eq_false he]; rfl
        have HE : Hid ((fs[k].nm.toList == v.toList) = false) := by unfold Hid; rw [Gate.beq_toList]; simpa using he
        clear he hno
        go_wp2_with fail
        refine (as_bool HE.out (nameIs_any _ _ _ _ _ _ _ _ _ _ _ _ _ _ hbn1 hn1)).mono ?_
        rintro e w2 ⟨rfl, hb2⟩
        go_wp2_with fail
        exact ⟨⟨k + 1, by omega, by go_num, HS.out, hB.trans (hb2.mono hB.size)⟩, by simp [intOf]; omega⟩
    · have HA : Hid (Gate.fieldIx fs v = -1) := Gate.fieldIx_none fs v (by rw [← Gate.hasName_all fs v k (by omega)]; exact hno)
      clear hno hw
      go_wp2
      go_ret
      exact ⟨ret_int HA.out.symm, hB⟩

set_option maxHeartbeats 400000 in
theorem fieldPlace_any (a : Option Addr) (cap : Nat) (fs : List Fld) (v : ByteArray) (w : World) (hw : FldsAt w a fs) :
    Calls Tryz.prog 107 #[.slice a fs.length cap, .string v] w fun e w' => e = .returned (.int .i64 (Gate.fieldIx fs v)) ∧ Below w.heap.size w w' := by
  go_enter Tryz.func107, Tryz.ntmps107
  go_wp2_with fail
  refine (IndexFunc_any _ _ _ v _ _ (hw.mono ((Below.refl _ _).alloc (Nat.le_refl _) _)) (by simp) (by rw [World.cell?_alloc_at _ _ _ _ rfl]; rfl)).mono ?_
  rintro e w2 ⟨rfl, hb2⟩
  go_wp2_with fail
  go_ret
  exact ⟨rfl, ((Below.refl _ _).alloc (Nat.le_refl _) _).trans (hb2.mono (by simp))⟩

end Go.Proofs.YtcdlcddjoohcnaaGreat
