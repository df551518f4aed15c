import Derived.Test.YtfpeplbmfbepcaaGreatM41
import Derived.Test.YtfpeplbmfbepcaaGreatM06
namespace Go.Proofs.YtfpeplbmfbepcaaGreat
open Go.RowKit
namespace Gate
def zdQ {α : Type} (p : α -> Bool) (l : List α) : Int := if l.any p = true then (l.findIdx p : Int) else -1
theorem zom {α : Type} {p : α -> Bool} {l : List α} {k : Nat} (hk : k < l.length) (h : ∀ i (hi : i < l.length), i < k -> p l[i] = false) (hp : p l[k] = true) : zdQ p l = k := by
  unfold zdQ
  rw [if_pos (List.any_eq_true.2 ⟨l[k], List.getElem_mem _, hp⟩)]
  have e : l.findIdx p = k := (List.findIdx_eq hk).2 ⟨hp, fun j hj => h j (by omega) hj⟩
  rw [e]
theorem zkn {α : Type} {p : α -> Bool} {l : List α} (h : ∀ i (hi : i < l.length), p l[i] = false) : zdQ p l = -1 := by
  unfold zdQ
  rw [if_neg]
  intro hc
  obtain ⟨x, hx, hp⟩ := List.any_eq_true.1 hc
  obtain ⟨i, hi, rfl⟩ := List.mem_iff_getElem.1 hx
  rw [h i hi] at hp
  cases hp
theorem zfz {α : Type} (p : α -> Bool) (l : List α) : zdQ p l < 0 ↔ l.any p = false := by
  unfold zdQ
  split
  · rename_i h; rw [h]; constructor
    · intro h'; omega
    · intro h'; cases h'
  · rename_i h
    exact ⟨fun _ => by simpa using h, fun _ => by omega⟩
def jV (kd nm : ByteArray) (o : Ob) : Bool := decide (o.kd = kd) && decide (o.nm = nm)
def ze5 (tm rs : ByteArray) (g : Lg) : Bool := decide (g.tm = tm) && decide (g.rs = rs)
def zob (tm rs : ByteArray) (p : Pu) : Bool := decide (p.tm = tm) && decide (p.rs = rs)
def zaW (ps : List Pu) (tm rs : ByteArray) : Nat -> Int
  | 0 => 0
  | k + 1 => zaW ps tm rs k + (match ps[k]? with | some p => if zob tm rs p = true then p.am else 0 | none => 0)
def out (ps : List Pu) (tm rs : ByteArray) : Int := zaW ps tm rs ps.length
theorem zev (ps : List Pu) (tm rs : ByteArray) (k : Nat) (h : k < ps.length) : zaW ps tm rs (k + 1) = zaW ps tm rs k + (if zob tm rs ps[k] = true then ps[k].am else 0) := by
  simp only [zaW, List.getElem?_eq_getElem h]
theorem zbZ (ps : List Pu) (tm rs : ByteArray) (ha : ∀ i (h : i < ps.length), 0 <= ps[i].am /\ ps[i].am <= 1000000) : ∀ k, k <= ps.length -> 0 <= zaW ps tm rs k /\ zaW ps tm rs k <= k * 1000000
  | 0, _ => by simp [zaW]
  | k + 1, h => by
    have h1 := zbZ ps tm rs ha k (by omega)
    have h2 := ha k h
    rw [zev ps tm rs k h]
    split <;> omega
end Gate
set_option maxHeartbeats 400000 in
theorem zgb (x y : ByteArray) (w : World) : Calls Tryz.prog 131 #[.string x, .string y] w fun e w' => e = .returned (.int .i64 (Gate.key x y)) /\ w' = w := by
  have k1 := Gate.zij x y
  have k2 := Gate.zij y x
  have k3 := Gate.zpD x y
  have k4 := Gate.zmS x y
  unfold Gate.less at k1 k2
  by_cases h1 : Gate.key x y = -1
  · have HF := zi1 h1
    have e1 : Op.bytesLess x.toList y.toList = true := by rw [k1]; simpa using h1
    clear k1 k2 k3 k4 h1
    go_enter Tryz.func131, Tryz.ntmps131
    go_wp2_with fail
    go_ret
    exact ⟨zl HF.out.symm, rfl⟩
  · have e1 : Op.bytesLess x.toList y.toList = false := by rw [k1]; simpa using h1
    by_cases h2 : Gate.key y x = -1
    · have HF : Hid (Gate.key x y = 1) := by unfold Hid; omega
      have e2 : Op.bytesLess y.toList x.toList = true := by rw [k2]; simpa using h2
      have e3 : (x.toList == y.toList) = false := by rw [Gate.beq_toList, decide_eq_false_iff_not]; intro e; have := (Gate.zbj x y).2 e; omega
      clear k1 k2 k3 k4 h1 h2
      go_enter Tryz.func131, Tryz.ntmps131
      go_wp2_with fail
      go_ret
      exact ⟨zl HF.out.symm, rfl⟩
    · have HF : Hid (Gate.key x y = 0) := by unfold Hid; omega
      have e2 : Op.bytesLess y.toList x.toList = false := by rw [k2]; simpa using h2
      have e3 : (x.toList == y.toList) = true := by rw [Gate.beq_toList, decide_eq_true_eq]; exact (Gate.zbj x y).1 HF.out
      clear k1 k2 k3 k4 h1 h2
      go_enter Tryz.func131, Tryz.ntmps131
      go_wp2_with fail
      go_ret
      exact ⟨zl HF.out.symm, rfl⟩
set_option maxHeartbeats 400000 in
theorem zgr (x y z u : ByteArray) (w : World) : Calls Tryz.prog 92 #[.string x, .string y, .string z, .string u] w fun e w' => e = .returned (.int .i64 (Gate.key2 x y z u)) /\ w' = w := by
  by_cases h : Gate.key x z = 0
  · have HF : Hid (Gate.key2 x y z u = Gate.key y u) := by unfold Hid Gate.key2; rw [if_pos h]
    have e1 : (Gate.key x z != 0) = false := by simpa using h
    clear h
    go_enter Tryz.func92, Tryz.ntmps92
    go_wp2_with (go_at_call 131; refine (zgb _ _ _).mono ?_; rintro e w2 ⟨rfl, rfl⟩)
    go_ret
    exact ⟨zl HF.out.symm, rfl⟩
  · have HF : Hid (Gate.key2 x y z u = Gate.key x z) := by unfold Hid Gate.key2; rw [if_neg h]
    have e1 : (Gate.key x z != 0) = true := by simpa using h
    clear h
    go_enter Tryz.func92, Tryz.ntmps92
    go_wp2_with (go_at_call 131; refine (zgb _ _ _).mono ?_; rintro e w2 ⟨rfl, rfl⟩)
    go_ret
    exact ⟨zl HF.out.symm, rfl⟩
set_option maxHeartbeats 400000 in
theorem zjf (p q : Pu) (w : World) : Calls Tryz.prog 100 #[.agg p.cells, .agg q.cells] w fun e w' => e = .returned (.int .i64 (Gate.jO p q)) /\ Below w.heap.size w w' := by
  unfold Pu.cells
  by_cases h : p.dr = q.dr
  · have HF : Hid (Gate.jO p q = Gate.key2 p.tm p.rs q.tm q.rs) := by unfold Hid Gate.jO; rw [if_pos ((Gate.zbj _ _).2 h)]
    have e1 : (p.dr.toList == q.dr.toList) = true := by rw [Gate.beq_toList]; simpa using h
    clear h
    go_enter Tryz.func100, Tryz.ntmps100
    go_wp2_with fail
    refine (zgr _ _ _ _ _).mono ?_
    rintro e w2 ⟨rfl, rfl⟩
    go_wp2_with fail
    go_ret
    exact ⟨zl HF.out.symm, zn _ _ _⟩
  · have HF : Hid (Gate.jO p q = Gate.key p.dr q.dr) := by unfold Hid Gate.jO; rw [if_neg (fun e => h ((Gate.zbj _ _).1 e))]
    have e1 : (p.dr.toList == q.dr.toList) = false := by rw [Gate.beq_toList]; simpa using h
    clear h
    go_enter Tryz.func100, Tryz.ntmps100
    go_wp2_with fail
    refine (zgb _ _ _).mono ?_
    rintro e w2 ⟨rfl, rfl⟩
    go_wp2_with fail
    go_ret
    exact ⟨zl HF.out.symm, zn _ _ _⟩
set_option maxHeartbeats 2000000 in
theorem zpj (b : Bk) (a0 a1 a2 a3 : Option Addr) (c0 c1 c2 c3 : Nat) (kd nm : ByteArray) (w : World) (hb : y9 w b a0 a1 a2 a3) (hl : b.os.length <= 1048576) :
    Calls Tryz.prog 96 #[.agg (b.cells a0 a1 a2 a3 c0 c1 c2 c3), .string kd, .string nm] w fun e w' => e = .returned (.int .i64 (Gate.zdQ (Gate.jV kd nm) b.os)) /\ Below w.heap.size w w' := by
  have HK : Hid (y9 w b a0 a1 a2 a3) := hb
  clear hb
  unfold Bk.cells
  go_enter Tryz.func96, Tryz.ntmps96
  go_wp2_with fail
  have hX0 := zG w (bC b a0 a1 a2 a3 c0 c1 c2 c3) 48
  have HB0 : Hid (Below w.heap.size w (w.alloc (.cells (bC b a0 a1 a2 a3 c0 c1 c2 c3) 48))) := (Below.refl _ _).alloc (Nat.le_refl _) _
  obtain ⟨W0, hW0⟩ : ∃ W0, W0 = w.alloc (.cells (bC b a0 a1 a2 a3 c0 c1 c2 c3) 48) := ⟨_, rfl⟩
  have hz0 : w.heap.size < W0.heap.size := by rw [hW0]; simp
  rw [<- hW0] at HB0 hX0 ⊢
  clear hW0
  go_loopw [7] (fun iv wr => ∃ k : Nat, k <= b.os.length /\ iv = .int .i64 k /\ Hid (∀ i (hi : i < b.os.length), i < k -> Gate.jV kd nm b.os[i] = false) /\ wr = W0) (fun iv _ => b.os.length - (intOf iv).toNat)
  case atStart => exact ⟨0, Nat.zero_le _, rfl, fun i hi h => by omega, rfl⟩
  case round =>
    obtain ⟨k, hk, rfl, HQ, rfl⟩ := hrel
    have hkn : k <= 1048576 := by omega
    by_cases hlt : k < b.os.length
    · obtain ⟨ob, off, v0, v1, q0, q1, rfl, hob, hsm, hl0, hl1, d0, d1, d2, d3, d4, d5, d6⟩ := HK.out.os.load HB0.out k hlt
      have hltI : (k : Int) < (b.os.length : Int) := by omega
      clear hsm hl0 hl1
      by_cases h1 : b.os[k].kd = kd
      · have e1 : (b.os[k].kd.toList == kd.toList) = true := by rw [Gate.beq_toList]; simpa using h1
        by_cases h2 : b.os[k].nm = nm
        · have e2 : (b.os[k].nm.toList == nm.toList) = true := by rw [Gate.beq_toList]; simpa using h2
          have HF : Hid (Gate.zdQ (Gate.jV kd nm) b.os = k) := Gate.zom hlt HQ.out (by unfold Gate.jV; simp [h1, h2])
          clear h1 h2
          go_wp2_with fail
          go_ret
          exact ⟨zl HF.out.symm, HB0.out⟩
        · have e2 : (b.os[k].nm.toList == nm.toList) = false := by rw [Gate.beq_toList]; simpa using h2
          have HN : Hid (∀ i (hi : i < b.os.length), i < k + 1 -> Gate.jV kd nm b.os[i] = false) := by
            intro i hi h
            rcases Nat.eq_or_lt_of_le (Nat.le_of_lt_succ h) with e | h'
            · subst e; unfold Gate.jV; simp [h2]
            · exact HQ.out i hi h'
          clear h1 h2
          go_wp2_with fail
          exact ⟨⟨k + 1, by omega, by go_num, HN.out, trivial⟩, zi hlt⟩
      · have e1 : (b.os[k].kd.toList == kd.toList) = false := by rw [Gate.beq_toList]; simpa using h1
        have HN : Hid (∀ i (hi : i < b.os.length), i < k + 1 -> Gate.jV kd nm b.os[i] = false) := by
          intro i hi h
          rcases Nat.eq_or_lt_of_le (Nat.le_of_lt_succ h) with e | h'
          · subst e; unfold Gate.jV; simp [h1]
          · exact HQ.out i hi h'
        clear h1
        go_wp2_with fail
        exact ⟨⟨k + 1, by omega, by go_num, HN.out, trivial⟩, zi hlt⟩
    · have HF : Hid (Gate.zdQ (Gate.jV kd nm) b.os = -1) := Gate.zkn fun i hi => HQ.out i hi (by omega)
      clear HQ
      go_wp2_with fail
      go_ret
      exact ⟨zl HF.out.symm, HB0.out⟩
set_option maxHeartbeats 2000000 in
theorem zk2 (b : Bk) (a0 a1 a2 a3 : Option Addr) (c0 c1 c2 c3 : Nat) (tm rs : ByteArray) (w : World) (hb : y9 w b a0 a1 a2 a3) (hl : b.ls.length <= 1048576) :
    Calls Tryz.prog 99 #[.agg (b.cells a0 a1 a2 a3 c0 c1 c2 c3), .string tm, .string rs] w fun e w' => e = .returned (.int .i64 (Gate.zdQ (Gate.ze5 tm rs) b.ls)) /\ Below w.heap.size w w' := by
  have HK : Hid (y9 w b a0 a1 a2 a3) := hb
  clear hb
  unfold Bk.cells
  go_enter Tryz.func99, Tryz.ntmps99
  go_wp2_with fail
  have hX0 := zG w (bC b a0 a1 a2 a3 c0 c1 c2 c3) 48
  have HB0 : Hid (Below w.heap.size w (w.alloc (.cells (bC b a0 a1 a2 a3 c0 c1 c2 c3) 48))) := (Below.refl _ _).alloc (Nat.le_refl _) _
  obtain ⟨W0, hW0⟩ : ∃ W0, W0 = w.alloc (.cells (bC b a0 a1 a2 a3 c0 c1 c2 c3) 48) := ⟨_, rfl⟩
  have hz0 : w.heap.size < W0.heap.size := by rw [hW0]; simp
  rw [<- hW0] at HB0 hX0 ⊢
  clear hW0
  go_loopw [7] (fun iv wr => ∃ k : Nat, k <= b.ls.length /\ iv = .int .i64 k /\ Hid (∀ i (hi : i < b.ls.length), i < k -> Gate.ze5 tm rs b.ls[i] = false) /\ wr = W0) (fun iv _ => b.ls.length - (intOf iv).toNat)
  case atStart => exact ⟨0, Nat.zero_le _, rfl, fun i hi h => by omega, rfl⟩
  case round =>
    obtain ⟨k, hk, rfl, HQ, rfl⟩ := hrel
    have hkn : k <= 1048576 := by omega
    by_cases hlt : k < b.ls.length
    · obtain ⟨ob, off, rfl, hob, d0, d1, d2, d3⟩ := HK.out.ls.load HB0.out k hlt
      have hltI : (k : Int) < (b.ls.length : Int) := by omega
      clear d2 d3
      by_cases h1 : b.ls[k].tm = tm
      · have e1 : (b.ls[k].tm.toList == tm.toList) = true := by rw [Gate.beq_toList]; simpa using h1
        by_cases h2 : b.ls[k].rs = rs
        · have e2 : (b.ls[k].rs.toList == rs.toList) = true := by rw [Gate.beq_toList]; simpa using h2
          have HF : Hid (Gate.zdQ (Gate.ze5 tm rs) b.ls = k) := Gate.zom hlt HQ.out (by unfold Gate.ze5; simp [h1, h2])
          clear h1 h2
          go_wp2_with fail
          go_ret
          exact ⟨zl HF.out.symm, HB0.out⟩
        · have e2 : (b.ls[k].rs.toList == rs.toList) = false := by rw [Gate.beq_toList]; simpa using h2
          have HN : Hid (∀ i (hi : i < b.ls.length), i < k + 1 -> Gate.ze5 tm rs b.ls[i] = false) := by
            intro i hi h
            rcases Nat.eq_or_lt_of_le (Nat.le_of_lt_succ h) with e | h'
            · subst e; unfold Gate.ze5; simp [h2]
            · exact HQ.out i hi h'
          clear h1 h2
          go_wp2_with fail
          exact ⟨⟨k + 1, by omega, by go_num, HN.out, trivial⟩, zi hlt⟩
      · have e1 : (b.ls[k].tm.toList == tm.toList) = false := by rw [Gate.beq_toList]; simpa using h1
        have HN : Hid (∀ i (hi : i < b.ls.length), i < k + 1 -> Gate.ze5 tm rs b.ls[i] = false) := by
          intro i hi h
          rcases Nat.eq_or_lt_of_le (Nat.le_of_lt_succ h) with e | h'
          · subst e; unfold Gate.ze5; simp [h1]
          · exact HQ.out i hi h'
        clear h1
        go_wp2_with fail
        exact ⟨⟨k + 1, by omega, by go_num, HN.out, trivial⟩, zi hlt⟩
    · have HF : Hid (Gate.zdQ (Gate.ze5 tm rs) b.ls = -1) := Gate.zkn fun i hi => HQ.out i hi (by omega)
      clear HQ
      go_wp2_with fail
      go_ret
      exact ⟨zl HF.out.symm, HB0.out⟩
end Go.Proofs.YtfpeplbmfbepcaaGreat

namespace Go.Proofs.YtfpeplbmfbepcaaGreat
open Go.RowKit
set_option maxHeartbeats 2000000 in
theorem zos (b : Bk) (a0 a1 a2 a3 : Option Addr) (c0 c1 c2 c3 : Nat) (tm rs : ByteArray) (w : World) (hb : y9 w b a0 a1 a2 a3) (hl : b.ps.length <= 1000) (ha : ∀ i (h : i < b.ps.length), 0 <= b.ps[i].am /\ b.ps[i].am <= 1000000) :
    Calls Tryz.prog 102 #[.agg (b.cells a0 a1 a2 a3 c0 c1 c2 c3), .string tm, .string rs] w fun e w' => e = .returned (.int .i64 (Gate.out b.ps tm rs)) /\ Below w.heap.size w w' := by
  have HK := hid hb
  have HA : Hid (∀ i (h : i < b.ps.length), 0 <= b.ps[i].am /\ b.ps[i].am <= 1000000) := ha
  clear hb ha
  unfold Bk.cells
  go_enter Tryz.func102, Tryz.ntmps102
  go_wp2_with fail
  have hX0 := zG w (bC b a0 a1 a2 a3 c0 c1 c2 c3) 48
  have HB0 : Hid (Below w.heap.size w (w.alloc (.cells (bC b a0 a1 a2 a3 c0 c1 c2 c3) 48))) := (Below.refl _ _).alloc (Nat.le_refl _) _
  obtain ⟨W0, hW0⟩ : ∃ W0, W0 = w.alloc (.cells (bC b a0 a1 a2 a3 c0 c1 c2 c3) 48) := ⟨_, rfl⟩
  have hz0 : w.heap.size < W0.heap.size := by rw [hW0]; simp
  rw [<- hW0] at HB0 hX0 ⊢
  clear hW0
  go_loopw [7, 8] (fun nv iv wr => ∃ (k : Nat) (s : Int), k <= b.ps.length /\ iv = .int .i64 k /\ nv = .int .i64 s /\ Hid (s = Gate.zaW b.ps tm rs k) /\ wr = W0) (fun _ iv _ => b.ps.length - (intOf iv).toNat)
  case atStart => exact ⟨0, 0, Nat.zero_le _, rfl, rfl, by simp [Gate.zaW, Hid], rfl⟩
  case round =>
    obtain ⟨k, s, hk, rfl, rfl, HQ, rfl⟩ := hrel
    have hkn : k <= 1000 := by omega
    have hsb : 0 <= s /\ s <= 1000000000 := by have h1 := HQ.out; have h2 := Gate.zbZ b.ps tm rs HA.out k hk; omega
    by_cases hlt : k < b.ps.length
    · obtain ⟨ob, off, rfl, hob, d0, d1, d2, d3, d4⟩ := HK.out.ps.load HB0.out k hlt
      have hltI : (k : Int) < (b.ps.length : Int) := by omega
      have HSt := hid (Gate.zev b.ps tm rs k hlt)
      have hab := HA.out k hlt
      clear d0 d4
      by_cases h1 : b.ps[k].tm = tm
      · have e1 : (b.ps[k].tm.toList == tm.toList) = true := by rw [Gate.beq_toList]; simpa using h1
        by_cases h2 : b.ps[k].rs = rs
        · have e2 : (b.ps[k].rs.toList == rs.toList) = true := by rw [Gate.beq_toList]; simpa using h2
          have HN : Hid (Gate.zaW b.ps tm rs (k + 1) = s + b.ps[k].am) := by unfold Hid; rw [HSt.out, <- HQ.out, if_pos (by unfold Gate.zob; simp [h1, h2])]
          clear h1 h2
          go_wp2_with fail
          exact ⟨⟨k + 1, s + b.ps[k].am, by omega, by go_num, by go_num, HN.out.symm, trivial⟩, zi hlt⟩
        · have e2 : (b.ps[k].rs.toList == rs.toList) = false := by rw [Gate.beq_toList]; simpa using h2
          have HN : Hid (Gate.zaW b.ps tm rs (k + 1) = s) := by unfold Hid; rw [HSt.out, <- HQ.out, if_neg (by unfold Gate.zob; simp [h2])]; omega
          clear h1 h2
          go_wp2_with fail
          exact ⟨⟨k + 1, s, by omega, by go_num, rfl, HN.out.symm, trivial⟩, zi hlt⟩
      · have e1 : (b.ps[k].tm.toList == tm.toList) = false := by rw [Gate.beq_toList]; simpa using h1
        have HN : Hid (Gate.zaW b.ps tm rs (k + 1) = s) := by unfold Hid; rw [HSt.out, <- HQ.out, if_neg (by unfold Gate.zob; simp [h1])]; omega
        clear h1
        go_wp2_with fail
        exact ⟨⟨k + 1, s, by omega, by go_num, rfl, HN.out.symm, trivial⟩, zi hlt⟩
    · have e : k = b.ps.length := by omega
      subst e
      have HE : Hid (Gate.out b.ps tm rs = s) := by unfold Hid Gate.out; exact HQ.out.symm
      clear HQ hlt hk
      go_wp2_with fail
      go_ret
      exact ⟨zl HE.out.symm, HB0.out⟩
set_option maxHeartbeats 2000000 in
theorem zhA (a c : Option Addr) (ca cc : Nat) (xs ys : List ByteArray) (w : World) (hx : zA w a xs) (hy : zA w c ys) (hl : xs.length <= 1048576) (hl' : ys.length <= 1048576) :
    Calls Tryz.prog 93 #[.slice a xs.length ca, .slice c ys.length cc] w fun e w' => e = .returned (.bool (decide (xs = ys))) /\ Below w.heap.size w w' := by
  obtain ⟨r, hr⟩ : ∃ r, r = decide (xs = ys) := ⟨_, rfl⟩
  rw [<- hr]
  have HR := hid hr
  have HX := qJ hx hy
  clear hr hx hy
  by_cases hn : xs.length = ys.length
  rotate_left
  · have HF : Hid (r = false) := by unfold Hid; rw [HR.out, decide_eq_false_iff_not]; intro e; exact hn (by rw [e])
    have e1 : ((xs.length : Int) != (ys.length : Int)) = true := by simp; omega
    clear hn
    go_enter Tryz.func93, Tryz.ntmps93
    go_wp2_with fail
    go_ret
    exact ⟨ze HF.out.symm, Below.refl _ _⟩
  have e1 : ((xs.length : Int) != (ys.length : Int)) = false := by simp; omega
  have HN := hid hn
  clear hn
  go_enter Tryz.func93, Tryz.ntmps93
  go_wp2_with fail
  go_loopw [5] (fun iv wr => ∃ k : Nat, k <= xs.length /\ iv = .int .i64 k /\ Hid ((∀ i (h : i < xs.length) (h' : i < ys.length), i < k -> xs[i] = ys[i]) /\ Below w.heap.size w wr)) (fun iv _ => xs.length - (intOf iv).toNat)
  case atStart => exact ⟨0, Nat.zero_le _, rfl, fun i h h' hk => by omega, Below.refl _ _⟩
  case round =>
    obtain ⟨k, hk, rfl, HQ⟩ := hrel
    have hkn : k <= 1048576 := by omega
    by_cases hlt : k < xs.length
    · have hlt' : k < ys.length := by have := HN.out; omega
      obtain ⟨p, po, rfl, hp, hpc⟩ := HX.out.1.cells (by intro e; rw [e] at hlt; simp at hlt)
      obtain ⟨q, qo, rfl, hq, hqc⟩ := HX.out.2.cells (by intro e; rw [e] at hlt'; simp at hlt')
      have c1 := (HQ.out.2.cell (p := ⟨p, po + k, none⟩) hp).trans (hpc k hlt)
      have c2 := (HQ.out.2.cell (p := ⟨q, qo + k, none⟩) hq).trans (hqc k hlt')
      have hltI : (k : Int) < (xs.length : Int) := by omega
      have hltI' : (k : Int) < (ys.length : Int) := by omega
      have hp' := Nat.lt_of_lt_of_le hp HQ.out.2.size
      have hq' := Nat.lt_of_lt_of_le hq HQ.out.2.size
      have HB := hid HQ.out.2
      clear hpc hqc
      by_cases he : xs[k] = ys[k]
      · have e2 : (xs[k].toList == ys[k].toList) = true := by rw [Gate.beq_toList]; simpa using he
        have HA : Hid (∀ i (h : i < xs.length) (h' : i < ys.length), i < k + 1 -> xs[i] = ys[i]) := by
          intro i h h' hi
          rcases Nat.eq_or_lt_of_le (Nat.le_of_lt_succ hi) with e | h2
          · subst e; exact he
          · exact HQ.out.1 i h h' h2
        clear he HQ
        go_wp2_with fail
        go_quiet (fail)
        go_wp2_with fail
        exact ⟨⟨k + 1, by omega, by go_num, HA.out, below_drewN HB.out _⟩, zi hlt⟩
      · have e2 : (xs[k].toList == ys[k].toList) = false := by rw [Gate.beq_toList]; simpa using he
        have HF : Hid (r = false) := by
          unfold Hid
          rw [HR.out, decide_eq_false_iff_not]
          intro e
          subst e
          exact he rfl
        clear he HQ
        go_wp2_with fail
        go_quiet (fail)
        go_wp2_with fail
        go_ret
        exact ⟨ze HF.out.symm, below_drewN HB.out _⟩
    · have HF : Hid (r = true) := by
        unfold Hid
        rw [HR.out, decide_eq_true_eq]
        exact List.ext_getElem HN.out fun i h h' => HQ.out.1 i h h' (by omega)
      have HB := hid HQ.out.2
      clear HQ
      go_wp2_with fail
      go_ret
      exact ⟨ze HF.out.symm, HB.out⟩
end Go.Proofs.YtfpeplbmfbepcaaGreat

namespace Go.Proofs.YtfpeplbmfbepcaaGreat
open Go.RowKit
theorem zN.new (w : World) : zN (w.alloc (.map #[] 0)) w.heap.size (fun _ _ => none) :=
  ⟨⟨#[], 0, Array.getElem?_push_size, fun x hx => (by simp at hx), fun a b v h => (by cases h), fun i j x y hx => (by simp at hx)⟩, fun es c h => by
    have e : (w.alloc (.map #[] 0)).heap[w.heap.size]? = some (.map #[] 0) := Array.getElem?_push_size
    rw [e] at h
    cases h
    exact ⟨fun x hx => (by simp at hx), by simp⟩⟩
theorem zdl.below {r B : Nat} {w0 w w' : World} (h : zdl r w w') (hb : Below B w0 w) (hr : B <= r) : Below B w0 w' :=
  ⟨h.os.trans hb.os, h.tape.trans hb.tape, h.output.trans hb.output, by rw [h.size]; exact hb.size, fun k hk => (h.out k (by omega)).trans (hb.block k hk)⟩
set_option maxHeartbeats 1000000 in
theorem j4 (o : Ob) (a0 a1 : Option Addr) (c0 c1 : Nat) (w : World) : Calls Tryz.prog 119 #[.agg (oC o a0 a1 c0 c1)] w fun e w' => e = .returned (yO o.kd o.nm) /\ Below w.heap.size w w' := by
  unfold yO
  go_enter Tryz.func119, Tryz.ntmps119
  go_wp2_with fail
  refine bodyPost_ret (v := .agg #[.string o.kd, .string o.nm]) (by simp [results, Tryz.results119, go_sem]) rfl ⟨rfl, ?_⟩
  first | exact zn _ _ _ | exact ((zn _ _ _).setCell (by simp) _).setCell (by simp) _ | exact ((zn _ _ _).setCell (by show _ <= _ + 1; omega) _).setCell (by show _ <= _ + 1; omega) _
structure zbm (f : ByteArray -> ByteArray -> Option Int) (os : List Ob) (k : Nat) : Prop where
  has : ∀ p q, (f p q).isSome = (os.take k).any (Gate.jV p q)
  at_ : ∀ p q v, f p q = some v -> ∃ i, ∃ h : i < os.length, v = (i : Int) /\ os[i].kd = p /\ os[i].nm = q
theorem zbm.put {f : ByteArray -> ByteArray -> Option Int} {os : List Ob} {k : Nat} (h : zbm f os k) (hlt : k < os.length) : zbm (fun p q => if p = os[k].kd /\ q = os[k].nm then some (k : Int) else f p q) os (k + 1) := by
  refine ⟨fun p q => ?_, fun p q v hv => ?_⟩
  · rw [List.take_succ_eq_append_getElem hlt, List.any_append, <- h.has p q]
    simp only [List.any_cons, List.any_nil, Bool.or_false]
    by_cases e : p = os[k].kd /\ q = os[k].nm
    · rw [if_pos e]
      unfold Gate.jV
      simp [e.1, e.2]
    · rw [if_neg e]
      have : Gate.jV p q os[k] = false := by
        unfold Gate.jV
        rw [Bool.and_eq_false_iff, decide_eq_false_iff_not, decide_eq_false_iff_not]
        by_cases e1 : os[k].kd = p
        · exact Or.inr fun e2 => e ⟨e1.symm, e2.symm⟩
        · exact Or.inl e1
      rw [this, Bool.or_false]
  · by_cases e : p = os[k].kd /\ q = os[k].nm
    · rw [if_pos e] at hv
      exact ⟨k, hlt, (Option.some.inj hv).symm, e.1.symm, e.2.symm⟩
    · rw [if_neg e] at hv
      exact h.at_ p q v hv
set_option maxHeartbeats 2000000 in
theorem zdK (a : Option Addr) (cap : Nat) (os : List Ob) (w : World) (hw : zbn w a os) (hl : os.length <= 1048576) :
    Calls Tryz.prog 115 #[.slice a os.length cap] w fun e w' => (∃ f, e = .returned (.map (some w.heap.size)) /\ zN w' w.heap.size f /\ zbm f os os.length) /\ Below w.heap.size w w' := by
  have HW := hid hw
  have hmk : ∀ w : World, (Instr.makeMap 139 none).run Tryz.prog w = .ok (.map (some w.heap.size)) (w.alloc (.map #[] 0)) := fun w => by kernel_rfl
  clear hw
  go_enter Tryz.func115, Tryz.ntmps115
  go_wp2_with fail
  clear hmk
  go_loopw [9] (fun iv wr => ∃ k : Nat, k <= os.length /\ iv = .int .i64 k /\ Hid ((∃ f, zN wr w.heap.size f /\ zbm f os k) /\ Below w.heap.size w wr)) (fun iv _ => os.length - (intOf iv).toNat)
  case atStart => exact ⟨0, Nat.zero_le _, rfl, ⟨_, zN.new w, ⟨fun p q => by simp, fun p q v h => by cases h⟩⟩, (Below.refl _ _).alloc (Nat.le_refl _) _⟩
  case round =>
    obtain ⟨k, hk, rfl, HX⟩ := hrel
    obtain ⟨⟨f, hf, hc⟩, hB⟩ := HX.out
    have hkn : k <= 1048576 := by omega
    by_cases hlt : k < os.length
    · obtain ⟨ob, off, v0, v1, q0, q1, rfl, hob, hsm, hl0, hl1, d0, d1, d2, d3, d4, d5, d6⟩ := HW.out.load hB k hlt
      have hltI : (k : Int) < (os.length : Int) := by omega
      have hob' := Nat.lt_of_lt_of_le hob hB.size
      have HKn := hid hsm
      have HPf := zdB hf hc hB
      clear hf hc hB HX hsm hl0 hl1
      go_wp2_with fail
      refine (j4 os[k] v0 v1 q0 q1 _).mono ?_
      rintro e w1 ⟨rfl, hb1⟩
      have hBa := (HPf.out.2.2.alloc HPf.out.2.2.size (.cells (oC os[k] v0 v1 q0 q1) 119))
      have hf1 : zN w1 w.heap.size f := (HPf.out.1.mono ((Below.refl _ _).alloc (Nat.le_refl _) _)).mono hb1
      obtain ⟨w2, hup, hf2, hp2⟩ := hf1.upd zat Tryz.underlying139 os[k].kd os[k].nm HKn.out.kd HKn.out.nm (k : Int)
      have HC : Hid ((∃ f, zN w2 w.heap.size f /\ zbm f os (k + 1)) /\ Below w.heap.size w w2) :=
        ⟨⟨_, hf2, HPf.out.2.1.put hlt⟩, hp2.below (hBa.trans (hb1.mono hBa.size)) (Nat.le_refl _)⟩
      clear hf1 hf2 hp2 hb1 hBa
      go_wp2_with fail
      exact ⟨⟨k + 1, by omega, by go_num, HC.out⟩, zi hlt⟩
    · have e : k = os.length := by omega
      subst e
      have HE : Hid (∃ f, zN wr w.heap.size f /\ zbm f os os.length) := ⟨f, hf, hc⟩
      have HB := hid hB
      clear hf hc hB HX hlt hk
      go_wp2_with fail
      go_ret
      obtain ⟨f, h1, h2⟩ := HE.out
      exact ⟨⟨f, rfl, h1, h2⟩, HB.out⟩
theorem zf7 (a : Option Addr) (cap : Nat) (os : List Ob) (w : World) (hw : zbn w a os) (hl : os.length <= 1048576) :
    Calls Tryz.prog 115 #[.slice a os.length cap] w fun e w' => (∃ f, e = .returned (.map (some w.heap.size)) /\ zN w' w.heap.size f /\ ∀ p q, (f p q).isSome = os.any (Gate.jV p q)) /\ Below w.heap.size w w' := by
  refine (zdK a cap os w hw hl).mono ?_
  rintro e w' ⟨⟨f, he, hf, hp⟩, hb⟩
  exact ⟨⟨f, he, hf, fun p q => by rw [hp.has p q, List.take_of_length_le (Nat.le_refl _)]⟩, hb⟩
end Go.Proofs.YtfpeplbmfbepcaaGreat

namespace Go.Proofs.YtfpeplbmfbepcaaGreat
open Go.RowKit
set_option maxHeartbeats 1000000 in
theorem zhZ (r : Nat) (f : ByteArray -> ByteArray -> Option Int) (p q : ByteArray) (w : World) (hM : zN w r f) (hp : p.size <= maxLen) (hq : q.size <= maxLen) :
    Calls Tryz.prog 117 #[.map (some r), yO p q] w fun e w' => e = .returned (.bool (f p q).isSome) /\ Below w.heap.size w w' := by
  have hb : Below w.heap.size w (w.alloc (.cells #[.string p, .string q] 178)) := (Below.refl _ _).alloc (Nat.le_refl _) _
  have hlk := (hM.mono hb).look zat Tryz.underlying140 p q hp hq true
  unfold yO at hlk ⊢
  simp only [if_true] at hlk
  have HB : Hid (Below w.heap.size w (w.alloc (.cells #[.string p, .string q] 178))) := hb
  clear hb hM
  cases hs : (f p q).isSome with
  | false =>
    rw [hs] at hlk
    go_enter Tryz.func117, Tryz.ntmps117
    go_wp2_with fail
    go_ret
    exact ⟨rfl, HB.out⟩
  | true =>
    rw [hs] at hlk
    go_enter Tryz.func117, Tryz.ntmps117
    go_wp2_with fail
    go_ret
    exact ⟨rfl, HB.out⟩
end Go.Proofs.YtfpeplbmfbepcaaGreat

namespace Go.Proofs.YtfpeplbmfbepcaaGreat
open Go.RowKit
def zbt (f : ByteArray -> ByteArray -> Option Int) (os : List Ob) (k : Nat) : Prop := ∀ p q, (f p q).isSome = (os.take k).any fun o => o.en && Gate.jV p q o
theorem zbt.put {f : ByteArray -> ByteArray -> Option Int} {os : List Ob} {k : Nat} (h : zbt f os k) (hlt : k < os.length) (he : os[k].en = true) (v : Int) : zbt (fun p q => if p = os[k].kd /\ q = os[k].nm then some v else f p q) os (k + 1) := by
  intro p q
  rw [List.take_succ_eq_append_getElem hlt, List.any_append, <- h p q]
  simp only [List.any_cons, List.any_nil, Bool.or_false, he, Bool.true_and]
  by_cases e : p = os[k].kd /\ q = os[k].nm
  · rw [if_pos e]
    unfold Gate.jV
    simp [e.1, e.2]
  · rw [if_neg e]
    have : Gate.jV p q os[k] = false := by
      unfold Gate.jV
      rw [Bool.and_eq_false_iff, decide_eq_false_iff_not, decide_eq_false_iff_not]
      by_cases e1 : os[k].kd = p
      · exact Or.inr fun e2 => e ⟨e1.symm, e2.symm⟩
      · exact Or.inl e1
    rw [this, Bool.or_false]
theorem zbt.skip {f : ByteArray -> ByteArray -> Option Int} {os : List Ob} {k : Nat} (h : zbt f os k) (hlt : k < os.length) (he : os[k].en = false) : zbt f os (k + 1) := by
  intro p q
  rw [List.take_succ_eq_append_getElem hlt, List.any_append, <- h p q]
  simp [he]
set_option maxHeartbeats 4000000 in
theorem zjG (b : Bk) (a0 a1 a2 a3 : Option Addr) (c0 c1 c2 c3 : Nat) (w : World) (hb : y9 w b a0 a1 a2 a3) (hl : b.os.length <= 1048576) :
    Calls Tryz.prog 74 #[.agg (bC b a0 a1 a2 a3 c0 c1 c2 c3)] w fun e w' => (∃ r f, e = .returned (.map (some r)) /\ w.heap.size <= r /\ zN w' r f /\ zbt f b.os b.os.length) /\ Below w.heap.size w w' := by
  have HW : Hid (y9 w b a0 a1 a2 a3) := hb
  have hmk : ∀ w : World, (Instr.makeMap 140 none).run Tryz.prog w = .ok (.map (some w.heap.size)) (w.alloc (.map #[] 0)) := fun w => by kernel_rfl
  clear hb
  go_enter Tryz.func74, Tryz.ntmps74
  go_wp2_with fail
  have hX := zG w (bC b a0 a1 a2 a3 c0 c1 c2 c3) 48
  have HB0 : Hid (Below w.heap.size w (w.alloc (.cells (bC b a0 a1 a2 a3 c0 c1 c2 c3) 48))) := (Below.refl _ _).alloc (Nat.le_refl _) _
  obtain ⟨W0, hW0⟩ : ∃ W0, W0 = w.alloc (.cells (bC b a0 a1 a2 a3 c0 c1 c2 c3) 48) := ⟨_, rfl⟩
  have hz0 : w.heap.size < W0.heap.size := by rw [hW0]; simp
  have HWe : Hid (W0.heap.size = w.heap.size + 1) := by rw [Hid, hW0]; simp
  rw [<- hW0] at HB0 hX
  have hXm := za hX hz0 ((Below.refl W0.heap.size W0).alloc (Nat.le_refl _) (.map #[] 0))
  have hzm : w.heap.size < (W0.alloc (.map #[] 0)).heap.size := Nat.lt_trans hz0 (by simp)
  (try rw [<- hW0])
  (try rw [<- HWe.out])
  clear hW0
  (try go_wp2_with fail)
  clear hmk hXm hzm
  go_loopw [10] (fun iv wr => ∃ k : Nat, k <= b.os.length /\ iv = .int .i64 k /\ Hid ((∃ f, zN wr W0.heap.size f /\ zbt f b.os k) /\ Below W0.heap.size W0 wr)) (fun iv _ => b.os.length - (intOf iv).toNat)
  case atStart => exact ⟨0, Nat.zero_le _, rfl, ⟨_, zN.new W0, fun p q => by simp⟩, (Below.refl _ _).alloc (Nat.le_refl _) _⟩
  case round =>
    obtain ⟨k, hk, rfl, HX⟩ := hrel
    obtain ⟨⟨f, hf, hc⟩, hB⟩ := HX.out
    have hkn : k <= 1048576 := by omega
    by_cases hlt : k < b.os.length
    · obtain ⟨ob, off, v0, v1, q0, q1, rfl, hob, hsm, hl0, hl1, d0, d1, d2, d3, d4, d5, d6⟩ := HW.out.os.load (HB0.out.trans (hB.mono HB0.out.size)) k hlt
      have hltI : (k : Int) < (b.os.length : Int) := by omega
      have hob' : ob < wr.heap.size := Nat.lt_of_lt_of_le hob (HB0.out.trans (hB.mono HB0.out.size)).size
      have HKn : Hid (b.os[k].Small) := hsm
      have HPf : Hid (zN wr W0.heap.size f /\ zbt f b.os k /\ Below W0.heap.size W0 wr) := ⟨hf, hc, hB⟩
      clear hf hc hB HX hsm hl0 hl1
      cases he : b.os[k].en with
      | false =>
        rw [he] at d4
        have HC : Hid ((∃ f, zN (wr.alloc (.cells #[.string b.os[k].kd, .string b.os[k].nm, .string b.os[k].tm, .slice v0 b.os[k].vs.length q0, .bool false, .slice v1 b.os[k].hs.length q1, .int .i64 b.os[k].vr] 119)) W0.heap.size f /\ zbt f b.os (k + 1)) /\ Below W0.heap.size W0 (wr.alloc (.cells #[.string b.os[k].kd, .string b.os[k].nm, .string b.os[k].tm, .slice v0 b.os[k].vs.length q0, .bool false, .slice v1 b.os[k].hs.length q1, .int .i64 b.os[k].vr] 119))) :=
          ⟨⟨f, HPf.out.1.mono ((Below.refl _ _).alloc (Nat.le_refl _) _), HPf.out.2.1.skip hlt he⟩, HPf.out.2.2.alloc HPf.out.2.2.size _⟩
        go_wp2_with fail
        exact ⟨⟨k + 1, by omega, by go_num, HC.out⟩, zi hlt⟩
      | true =>
        have hk7 := j4 b.os[k] v0 v1 q0 q1 (wr.alloc (.cells #[.string b.os[k].kd, .string b.os[k].nm, .string b.os[k].tm, .slice v0 b.os[k].vs.length q0, .bool true, .slice v1 b.os[k].hs.length q1, .int .i64 b.os[k].vr] 119))
        unfold oC at hk7
        rw [he] at d4 hk7
        go_wp2_with fail
        refine hk7.mono ?_
        rintro e w1 ⟨rfl, hb1⟩
        have hBa := (HPf.out.2.2.alloc HPf.out.2.2.size (.cells #[.string b.os[k].kd, .string b.os[k].nm, .string b.os[k].tm, .slice v0 b.os[k].vs.length q0, .bool true, .slice v1 b.os[k].hs.length q1, .int .i64 b.os[k].vr] 119))
        have hf1 : zN w1 W0.heap.size f := (HPf.out.1.mono ((Below.refl _ _).alloc (Nat.le_refl _) _)).mono hb1
        obtain ⟨w2, hup, hf2, hp2⟩ := hf1.upd zat Tryz.underlying140 b.os[k].kd b.os[k].nm HKn.out.kd HKn.out.nm (k : Int)
        have HC : Hid ((∃ f, zN w2 W0.heap.size f /\ zbt f b.os (k + 1)) /\ Below W0.heap.size W0 w2) :=
          ⟨⟨_, hf2, HPf.out.2.1.put hlt he k⟩, hp2.below (hBa.trans (hb1.mono hBa.size)) (Nat.le_refl _)⟩
        clear hf1 hf2 hp2 hb1 hBa hk7
        go_wp2_with fail
        exact ⟨⟨k + 1, by omega, by go_num, HC.out⟩, zi hlt⟩
    · have e : k = b.os.length := by omega
      subst e
      have HE : Hid ((∃ f, zN wr W0.heap.size f /\ zbt f b.os b.os.length) /\ Below w.heap.size w wr) := ⟨⟨f, hf, hc⟩, HB0.out.trans (hB.mono HB0.out.size)⟩
      clear hf hc hB HX hlt hk
      go_wp2_with fail
      go_ret
      obtain ⟨⟨f, h1, h2⟩, h3⟩ := HE.out
      exact ⟨⟨_, f, rfl, Nat.le_of_lt hz0, h1, h2⟩, h3⟩
end Go.Proofs.YtfpeplbmfbepcaaGreat
