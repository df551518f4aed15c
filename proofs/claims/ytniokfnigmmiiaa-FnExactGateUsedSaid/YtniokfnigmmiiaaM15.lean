import Derived.Test.YtniokfnigmmiiaaM08
import Derived.Test.YtniokfnigmmiiaaM12
import Derived.Test.YtniokfnigmmiiaaM14
import Derived.Deep.RegionWith
namespace Go.Proofs.Ytniokfnigmmiiaa
open Go.RowKit

theorem ret_str {a b : ByteArray} (h : a = b) : Ending.returned (.string a) = .returned (.string b) := by rw [h]

theorem over_small (ts : List Tm) (v : ByteArray) (hs : ∀ i (h : i < ts.length), ts[i].Small) : (Gate.over ts v).size ≤ maxLen := by
  unfold Gate.over
  cases hf : ts.find? (fun t => decide (t.nm = v)) with
  | none => simp [Gate.noTeam, maxLen]
  | some t =>
    obtain ⟨k, hk, rfl⟩ := List.mem_iff_getElem.1 (List.mem_of_find?_eq_some hf)
    exact (hs k hk).ov

set_option maxHeartbeats 400000 in
theorem l4Over_any (a : Option Addr) (cap : Nat) (ts : List Tm) (v : ByteArray) (w : World) (hw : TmsAt w a ts) :
    Calls Try.prog 63 #[.slice a ts.length cap, .string v] w fun e w' => e = .returned (.string (Gate.over ts v)) ∧ w' = w := by
  have hl := hw.len
  unfold maxLen at hl
  go_enter Try.func63, Try.ntmps63
  go_wp2_with fail
  go_loop [5] (fun i => ∃ k : Nat, k ≤ ts.length ∧ i = .int .i64 k ∧ Gate.hasTeam (ts.take k) v = false) (fun i => ts.length - (intOf i).toNat)
  case atStart => exact ⟨0, Nat.zero_le _, rfl, rfl⟩
  case round =>
    obtain ⟨k, hk, rfl, hall⟩ := hrel
    by_cases hlt : k < ts.length
    · obtain ⟨b, off, rfl, hb, c0, c1⟩ := hw.load (Below.refl _ _) k hlt
      clear hw
      have HS : Hid (Gate.hasTeam (ts.take (k + 1)) v = (false || decide (ts[k].nm = v))) := by rw [Gate.hasTeam_snoc ts v k hlt, hall]; rfl
      have hltI : (k : Int) < (ts.length : Int) := by omega
      by_cases he : ts[k].nm = v
      · have hbe : (ts[k].nm.toList == v.toList) = true := by rw [Gate.beq_toList]; simpa using he
        have HR : Hid (Gate.over ts v = ts[k].ov) := Gate.over_at ts v k hlt hall he
        clear he hall
        go_wp2_with fail
        go_ret
        exact ⟨ret_str HR.out.symm, rfl⟩
      · have hbe : (ts[k].nm.toList == v.toList) = false := by rw [Gate.beq_toList]; simpa using he
        have HE : Hid (¬ ts[k].nm = v) := he
        clear he hall
        go_wp2_with fail
        go_round
        case rel => exact ⟨k + 1, by omega, by go_num, by rw [HS.out, decide_eq_false HE.out]; rfl⟩
        case measure => simp [intOf]; omega
    · have HR : Hid (Gate.over ts v = ByteArray.empty) := Gate.over_none ts v (by rw [← Gate.hasTeam_all ts v k (by omega)]; exact hall)
      clear hall hw
      go_wp2_with fail
      go_ret
      exact ⟨ret_str HR.out.symm, rfl⟩

set_option maxHeartbeats 800000 in
theorem overOf_any (a : Option Addr) (cap : Nat) (ts : List Tm) (v : ByteArray) (w : World) (hw : TmsAt w a ts) :
    Calls Try.prog 67 #[.slice a ts.length cap, .string v] w fun e w' => e = .returned (.string (Gate.over ts v)) ∧ Below w.heap.size w w' := by
  have hl := hw.len
  unfold maxLen at hl
  go_enter Try.func67, Try.ntmps67
  go_wp2_with fail
  go_loopw [9] (fun i wr => ∃ k : Nat, k ≤ ts.length ∧ i = .int .i64 k ∧ Gate.hasTeam (ts.take k) v = false ∧ Below w.heap.size w wr) (fun i _ => ts.length - (intOf i).toNat)
  case atStart => exact ⟨0, Nat.zero_le _, rfl, rfl, Below.refl _ _⟩
  case round =>
    obtain ⟨k, hk, rfl, hall, hB⟩ := hrel
    have hsz := hB.size
    by_cases hlt : k < ts.length
    · obtain ⟨b, off, rfl, hb, c0, c1⟩ := hw.load hB k hlt
      clear hw
      have HS : Hid (Gate.hasTeam (ts.take (k + 1)) v = (false || decide (ts[k].nm = v))) := by rw [Gate.hasTeam_snoc ts v k hlt, hall]; rfl
      have hltI : (k : Int) < (ts.length : Int) := by omega
      have hbr : b < wr.heap.size := by omega
      by_cases he : ts[k].nm = v
      · have hbe : (ts[k].nm.toList == v.toList) = true := by rw [Gate.beq_toList]; simpa using he
        have HR : Hid (Gate.over ts v = ts[k].ov) := Gate.over_at ts v k hlt hall he
        clear he hall
        go_wp2_with fail
        go_ret
        exact ⟨ret_str HR.out.symm, hB.alloc hsz _⟩
      · have hbe : (ts[k].nm.toList == v.toList) = false := by rw [Gate.beq_toList]; simpa using he
        have HE : Hid (¬ ts[k].nm = v) := he
        clear he hall
        go_wp2_with fail
        exact ⟨⟨k + 1, by omega, by go_num, by rw [HS.out, decide_eq_false HE.out]; rfl, hB.alloc hsz _⟩, by simp [intOf]; omega⟩
    · have HR : Hid (Gate.over ts v = ByteArray.empty) := Gate.over_none ts v (by rw [← Gate.hasTeam_all ts v k (by omega)]; exact hall)
      clear hall hw
      go_wp2_with fail
      go_ret
      exact ⟨ret_str HR.out.symm, hB⟩

end Go.Proofs.Ytniokfnigmmiiaa

namespace Go.Proofs.Ytniokfnigmmiiaa
open Go.RowKit

set_option maxHeartbeats 800000 in
theorem specUnder_any (a : Option Addr) (cap : Nat) (ts : List Tm) (x y : ByteArray) (w : World) (hw : TmsAt w a ts) :
    Calls Try.prog 38 #[.slice a ts.length cap, .string x, .string y] w fun e w' => e = .returned (.bool (Gate.under ts 4 x y)) ∧ w' = w := by
  by_cases hxy : x = y
  · have HF : Hid (Gate.under ts 4 x y = true) := Gate.under_same ts 4 x y hxy
    have hbe : (x.toList == y.toList) = true := by rw [Gate.beq_toList]; simpa using hxy
    clear hxy
    go_enter Try.func38, Try.ntmps38
    go_wp2_with fail
    go_ret
    exact ⟨ret_bool HF.out.symm, rfl⟩
  have hbe : (x.toList == y.toList) = false := by rw [Gate.beq_toList]; simpa using hxy
  have HXY : Hid (¬ x = y) := hxy
  clear hxy
  go_enter Try.func38, Try.ntmps38
  go_wp2_with fail
  go_loop [1, 7] (fun p i => ∃ (k : Nat) (z : ByteArray), k ≤ 4 ∧ p = .string z ∧ i = .int .i64 k ∧ ¬ z = y ∧ Gate.under ts 4 x y = Gate.under ts (4 - k) z y) (fun _ i => 4 - (intOf i).toNat)
  case atStart => exact ⟨0, x, Nat.zero_le _, rfl, rfl, HXY.out, rfl⟩
  case round =>
    obtain ⟨k, z, hk, rfl, rfl, hz, hu⟩ := hrel
    have HZ : Hid (¬ z = y ∧ Gate.under ts 4 x y = Gate.under ts (4 - k) z y) := ⟨hz, hu⟩
    clear hz hu hbe
    by_cases hlt : k < 4
    · have hltI : (k : Int) < 4 := by omega
      obtain ⟨m, hm⟩ : ∃ m, 4 - k = m + 1 := ⟨3 - k, by omega⟩
      by_cases h0 : (Gate.over ts z).size = 0
      · have HF : Hid (Gate.under ts 4 x y = false) := by rw [HZ.out.2, hm]; exact Gate.under_stop ts m HZ.out.1 h0
        have h0' : (Gate.over ts z).toList.isEmpty = true := by rw [Gate.isEmpty_of_size]; simpa using h0
        clear h0 hm
        go_wp2_with (go_at_call 63; refine (l4Over_any _ _ _ _ _ hw).mono ?_; rintro e w' ⟨rfl, rfl⟩)
        go_ret
        exact ⟨ret_bool HF.out.symm, rfl⟩
      · have HO : Hid (Gate.under ts 4 x y = Gate.under ts m (Gate.over ts z) y) := by rw [Hid, HZ.out.2, hm]; exact Gate.under_on ts m HZ.out.1 h0
        have h0' : (Gate.over ts z).toList.isEmpty = false := by rw [Gate.isEmpty_of_size]; simpa using h0
        clear h0
        by_cases hy : Gate.over ts z = y
        · have HF : Hid (Gate.under ts 4 x y = true) := by rw [Hid, HO.out]; exact Gate.under_same ts m _ _ hy
          have hy' : ((Gate.over ts z).toList == y.toList) = true := by rw [Gate.beq_toList]; simpa using hy
          clear hy
          go_wp2_with (go_at_call 63; refine (l4Over_any _ _ _ _ _ hw).mono ?_; rintro e w' ⟨rfl, rfl⟩)
          go_ret
          exact ⟨ret_bool HF.out.symm, rfl⟩
        · have hy' : ((Gate.over ts z).toList == y.toList) = false := by rw [Gate.beq_toList]; simpa using hy
          have HY : Hid (¬ Gate.over ts z = y) := hy
          clear hy
          go_wp2_with (go_at_call 63; refine (l4Over_any _ _ _ _ _ hw).mono ?_; rintro e w' ⟨rfl, rfl⟩)
          go_round
          case rel => exact ⟨k + 1, Gate.over ts z, by omega, rfl, by go_num, HY.out, by rw [HO.out, show 4 - (k + 1) = m by omega]⟩
          case measure => simp [intOf]; omega
    · have HF : Hid (Gate.under ts 4 x y = false) := by
        have e : 4 - k = 0 := by omega
        rw [Hid, HZ.out.2, e]; exact Gate.under_end ts HZ.out.1
      go_wp2_with fail
      go_ret
      exact ⟨ret_bool HF.out.symm, rfl⟩

set_option maxHeartbeats 800000 in
theorem implUnder_any (a : Option Addr) (cap : Nat) (ts : List Tm) (x y : ByteArray) (w : World) (hw : TmsAt w a ts) :
    Calls Try.prog 43 #[.slice a ts.length cap, .string x, .string y] w fun e w' => e = .returned (.bool (Gate.under ts 4 x y)) ∧ Below w.heap.size w w' := by
  by_cases hxy : x = y
  · have HF : Hid (Gate.under ts 4 x y = true) := Gate.under_same ts 4 x y hxy
    have hbe : (x.toList == y.toList) = true := by rw [Gate.beq_toList]; simpa using hxy
    clear hxy
    go_enter Try.func43, Try.ntmps43
    go_wp2_with fail
    go_ret
    exact ⟨ret_bool HF.out.symm, Below.refl _ _⟩
  have hbe : (x.toList == y.toList) = false := by rw [Gate.beq_toList]; simpa using hxy
  have HXY : Hid (¬ x = y) := hxy
  clear hxy
  go_enter Try.func43, Try.ntmps43
  go_wp2_with fail
  go_loopw [1, 10] (fun p i wr => ∃ (k : Nat) (z : ByteArray), k ≤ 4 ∧ p = .string z ∧ i = .int .i64 k ∧ ¬ z = y ∧ Gate.under ts 4 x y = Gate.under ts (4 - k) z y ∧ Below w.heap.size w wr) (fun _ i _ => 4 - (intOf i).toNat)
  case atStart => exact ⟨0, x, Nat.zero_le _, rfl, rfl, HXY.out, rfl, Below.refl _ _⟩
  case round =>
    obtain ⟨k, z, hk, rfl, rfl, hz, hu, hB⟩ := hrel
    have HZ : Hid (¬ z = y ∧ Gate.under ts 4 x y = Gate.under ts (4 - k) z y) := ⟨hz, hu⟩
    clear hz hu hbe
    by_cases hlt : k < 4
    · have hltI : (k : Int) < 4 := by omega
      obtain ⟨m, hm⟩ : ∃ m, 4 - k = m + 1 := ⟨3 - k, by omega⟩
      by_cases h0 : (Gate.over ts z).size = 0
      · have HF : Hid (Gate.under ts 4 x y = false) := by rw [HZ.out.2, hm]; exact Gate.under_stop ts m HZ.out.1 h0
        have h0' : (Gate.over ts z).toList.isEmpty = true := by rw [Gate.isEmpty_of_size]; simpa using h0
        clear h0 hm
        go_wp2_with fail
        refine (overOf_any _ _ _ _ _ (hw.mono hB)).mono ?_
        rintro e w1 ⟨rfl, hb1⟩
        have hB1 := hB.trans (hb1.mono hB.size)
        clear hb1
        go_wp2_with fail
        go_ret
        exact ⟨ret_bool HF.out.symm, hB1⟩
      · have HO : Hid (Gate.under ts 4 x y = Gate.under ts m (Gate.over ts z) y) := by rw [Hid, HZ.out.2, hm]; exact Gate.under_on ts m HZ.out.1 h0
        have h0' : (Gate.over ts z).toList.isEmpty = false := by rw [Gate.isEmpty_of_size]; simpa using h0
        clear h0
        by_cases hy : Gate.over ts z = y
        · have HF : Hid (Gate.under ts 4 x y = true) := by rw [Hid, HO.out]; exact Gate.under_same ts m _ _ hy
          have hy' : ((Gate.over ts z).toList == y.toList) = true := by rw [Gate.beq_toList]; simpa using hy
          clear hy
          go_wp2_with fail
          refine (overOf_any _ _ _ _ _ (hw.mono hB)).mono ?_
          rintro e w1 ⟨rfl, hb1⟩
          have hB1 := hB.trans (hb1.mono hB.size)
          clear hb1
          go_wp2_with fail
          go_ret
          exact ⟨ret_bool HF.out.symm, hB1⟩
        · have hy' : ((Gate.over ts z).toList == y.toList) = false := by rw [Gate.beq_toList]; simpa using hy
          have HY : Hid (¬ Gate.over ts z = y) := hy
          clear hy
          go_wp2_with fail
          refine (overOf_any _ _ _ _ _ (hw.mono hB)).mono ?_
          rintro e w1 ⟨rfl, hb1⟩
          have hB1 := hB.trans (hb1.mono hB.size)
          clear hb1
          go_wp2_with fail
          exact ⟨⟨k + 1, Gate.over ts z, by omega, rfl, by go_num, HY.out, by rw [HO.out, show 4 - (k + 1) = m by omega], hB1⟩, by simp [intOf]; omega⟩
    · have HF : Hid (Gate.under ts 4 x y = false) := by
        have e : 4 - k = 0 := by omega
        rw [Hid, HZ.out.2, e]; exact Gate.under_end ts HZ.out.1
      go_wp2_with fail
      go_ret
      exact ⟨ret_bool HF.out.symm, hB⟩

end Go.Proofs.Ytniokfnigmmiiaa

namespace Go.Proofs.Ytniokfnigmmiiaa
open Go.RowKit

namespace Gate
def noOb : Ob := ⟨ByteArray.empty, ByteArray.empty, ByteArray.empty, [], false, [], 0⟩
def usedAt (l : Lw) (team res : ByteArray) (o : Ob) : Int := if under l.ts 4 o.tm team = true then weighs l.ss o res else 0
def usedSum (l : Lw) (os : List Ob) (team res : ByteArray) : Nat → Int
  | 0 => 0
  | k + 1 => usedSum l os team res k + usedAt l team res (os.getD k noOb)
def used (l : Lw) (os : List Ob) (team res : ByteArray) : Int := usedSum l os team res os.length

theorem weighs_le (ss : List Shp) (o : Ob) (res : ByteArray) : 0 ≤ weighs ss o res ∧ weighs ss o res ≤ 1 + o.sz * 10000000 := by
  have h0 : o.vs.length ≤ o.sz := by unfold Ob.sz obSz strsSz; omega
  unfold weighs
  split
  · rename_i hc
    have hc1 := hc.1
    unfold wholeCount at hc1
    simp only [Bool.and_eq_true, decide_eq_true_eq] at hc1
    have := wsum_bound (shapeOf ss o.kd).fs o.vs res (shapeOf ss o.kd).fs.length
    have h3 := hc1.2
    split <;> omega
  · omega

theorem usedAt_le (l : Lw) (team res : ByteArray) (o : Ob) : 0 ≤ usedAt l team res o ∧ usedAt l team res o ≤ 1 + o.sz * 10000000 := by
  unfold usedAt
  split
  · exact weighs_le _ _ _
  · omega

theorem usedSum_at (l : Lw) (os : List Ob) (team res : ByteArray) (k : Nat) (h : k < os.length) : usedSum l os team res (k + 1) = usedSum l os team res k + usedAt l team res os[k] := by
  have e1 : os.getD k noOb = os[k] := by simp [List.getD, h]
  simp only [usedSum]
  rw [e1]

theorem usedSum_bound (l : Lw) (os : List Ob) (team res : ByteArray) : ∀ k, k ≤ os.length → 0 ≤ usedSum l os team res k ∧ usedSum l os team res k ≤ k + sumOb (os.take k) * 10000000
  | 0, _ => by simp [usedSum, sumOb]
  | k + 1, h => by
    have h1 := usedSum_bound l os team res k (by omega)
    have h2 := usedAt_le l team res os[k]
    have h3 : sumOb (os.take (k + 1)) = sumOb (os.take k) + os[k].sz := sum_snoc Ob.sz os k h
    rw [usedSum_at l os team res k h, h3]
    omega
end Gate

set_option maxHeartbeats 4000000 in
theorem implUsed_any (l : Lw) (la lb lc : Option Addr) (lca lcb lcc : Nat) (b : Bk) (a0 a1 a2 a3 : Option Addr) (c0 c1 c2 c3 : Nat) (team res : ByteArray) (w : World) (hl : LwAt w l la lb lc) (hb : BkAt w b a0 a1 a2 a3) (hz : szObs b.os ≤ 1048576) :
    Calls Try.prog 16 #[.agg (l.cells la lb lc lca lcb lcc), .agg (b.cells a0 a1 a2 a3 c0 c1 c2 c3), .string team, .string res] w fun e w' => e = .returned (.int .i64 (Gate.used l b.os team res)) ∧ Below w.heap.size w w' := by
  have HL : Hid (LwAt w l la lb lc) := hl
  have HK : Hid (BkAt w b a0 a1 a2 a3) := hb
  have HZ : Hid (szObs b.os ≤ 1048576 ∧ b.os.length ≤ 1048576) := ⟨hz, by unfold szObs at hz; omega⟩
  clear hl hb hz
  unfold Lw.cells Bk.cells
  go_enter Try.func16, Try.ntmps16
  go_wp2_with fail
  obtain ⟨hX0, hY0⟩ := two_boxes w #[.slice la l.ss.length lca, .slice lb l.ms.length lcb, .slice lc l.ts.length lcc] #[.int .i64 b.now, .int .i64 b.tick, .int .i64 b.given, .slice a0 b.os.length c0, .slice a1 b.gs.length c1, .slice a2 b.ls.length c2, .slice a3 b.ps.length c3] 37 57
  have HB0 : Hid (Below w.heap.size w ((w.alloc (.cells #[.slice la l.ss.length lca, .slice lb l.ms.length lcb, .slice lc l.ts.length lcc] 37)).alloc (.cells #[.int .i64 b.now, .int .i64 b.tick, .int .i64 b.given, .slice a0 b.os.length c0, .slice a1 b.gs.length c1, .slice a2 b.ls.length c2, .slice a3 b.ps.length c3] 57))) := below2' w _ _
  obtain ⟨W0, hW0⟩ : ∃ W0, W0 = (w.alloc (.cells #[.slice la l.ss.length lca, .slice lb l.ms.length lcb, .slice lc l.ts.length lcc] 37)).alloc (.cells #[.int .i64 b.now, .int .i64 b.tick, .int .i64 b.given, .slice a0 b.os.length c0, .slice a1 b.gs.length c1, .slice a2 b.ls.length c2, .slice a3 b.ps.length c3] 57) := ⟨_, rfl⟩
  have hz0 : w.heap.size + 1 < W0.heap.size := by rw [hW0]; simp
  rw [← hW0] at HB0 hX0 hY0 ⊢
  clear hW0
  go_loopw [9, 15] (fun nv iv wr => ∃ (k : Nat) (s : Int), k ≤ b.os.length ∧ iv = .int .i64 k ∧ nv = .int .i64 s ∧ Hid (s = Gate.usedSum l b.os team res k ∧ Below W0.heap.size W0 wr)) (fun _ iv _ => b.os.length - (intOf iv).toNat)
  case atStart => exact ⟨0, 0, Nat.zero_le _, rfl, rfl, by simp [Gate.usedSum], Below.refl _ _⟩
  case round =>
    obtain ⟨k, s, hk, rfl, rfl, HQ⟩ := hrel
    have hsb : 0 ≤ s ∧ s ≤ 20000000000000 := by
      have h1 := HQ.out.1; have h2 := Gate.usedSum_bound l b.os team res k hk; have h3 := HZ.out
      have h4 : sumOb (b.os.take k) ≤ sumOb b.os := sum_le Ob.sz b.os k
      unfold szObs at h3
      omega
    have hkn : k ≤ 1048576 := by have := HZ.out.2; omega
    by_cases hlt : k < b.os.length
    · obtain ⟨ob, off, v0, v1, q0, q1, rfl, hob, hsm, hl0, hl1, d0, d1, d2, d3, d4, d5, d6⟩ := HK.out.os.load (HB0.out.trans (HQ.out.2.mono HB0.out.size)) k hlt
      have hob' : ob < wr.heap.size := Nat.lt_of_lt_of_le hob (HB0.out.trans (HQ.out.2.mono HB0.out.size)).size
      have hltI : (k : Int) < (b.os.length : Int) := by omega
      have hX := box_later hX0 (Nat.lt_of_succ_lt hz0) HQ.out.2
      have hz : w.heap.size + 1 < wr.heap.size := Nat.lt_of_lt_of_le hz0 HQ.out.2.size
      have hzX : w.heap.size < wr.heap.size := Nat.lt_of_succ_lt hz
      have HSt : Hid (Gate.usedSum l b.os team res (k + 1) = Gate.usedSum l b.os team res k + Gate.usedAt l team res b.os[k]) := Gate.usedSum_at l b.os team res k hlt
      have HOo : Hid (ObAt wr b.os[k] v0 v1) := ⟨hsm, hl0, hl1⟩
      have HOl : Hid (b.os[k].vs.length ≤ 1048576) := by
        have h3 := HZ.out.1
        have := (Obs_few (left := 1048576) (ms := b.os) (by omega) (by omega)).2 k hlt
        exact this.1
      have hub := Gate.usedAt_le l team res b.os[k]
      have hwb := Gate.weighs_bound l.ss b.os[k] res HOl.out
      clear hsm hl0 hl1 hub
      go_wp2_with fail
      have hb1 : Below wr.heap.size wr (wr.alloc (.cells #[.string b.os[k].kd, .string b.os[k].nm, .string b.os[k].tm, .slice v0 b.os[k].vs.length q0, .bool b.os[k].en, .slice v1 b.os[k].hs.length q1, .int .i64 b.os[k].vr] 39)) := (Below.refl _ _).alloc (Nat.le_refl _) _
      have hN := box_new wr #[.string b.os[k].kd, .string b.os[k].nm, .string b.os[k].tm, .slice v0 b.os[k].vs.length q0, .bool b.os[k].en, .slice v1 b.os[k].hs.length q1, .int .i64 b.os[k].vr] 39
      obtain ⟨w1, hw1⟩ : ∃ w1, w1 = wr.alloc (.cells #[.string b.os[k].kd, .string b.os[k].nm, .string b.os[k].tm, .slice v0 b.os[k].vs.length q0, .bool b.os[k].en, .slice v1 b.os[k].hs.length q1, .int .i64 b.os[k].vr] 39) := ⟨_, rfl⟩
      have hn1 : wr.heap.size < w1.heap.size := by rw [hw1]; simp
      rw [← hw1] at hb1 hN ⊢
      clear hw1 d0 d1 d2 d3 d4 d5 d6
      have HB1 : Hid (Below W0.heap.size W0 w1) := HQ.out.2.trans (hb1.mono HQ.out.2.size)
      have hX1 := box_later hX (Nat.lt_of_succ_lt hz) hb1
      have HO1 : Hid (ObAt w1 b.os[k] v0 v1) := HOo.out.mono hb1
      have hz1 : w.heap.size + 1 < w1.heap.size := Nat.lt_trans hz hn1
      clear hb1 hX
      refine (implUnder_any _ _ l.ts b.os[k].tm team _ (HL.out.ts.mono (HB0.out.trans (HB1.out.mono HB0.out.size)))).mono ?_
      rintro e w2 ⟨rfl, hb2⟩
      have HB2 : Hid (Below W0.heap.size W0 w2) := HB1.out.trans (hb2.mono HB1.out.size)
      have hX2 := box_later hX1 (Nat.lt_of_succ_lt hz1) hb2
      have hN2 := box_later hN hn1 hb2
      have HO2 : Hid (ObAt w2 b.os[k] v0 v1) := HO1.out.mono hb2
      have hz2 : w.heap.size + 1 < w2.heap.size := Nat.lt_of_lt_of_le hz1 hb2.size
      have hn2 : wr.heap.size < w2.heap.size := Nat.lt_of_lt_of_le hn1 hb2.size
      clear hb2 hX1 hN
      by_cases hu : Gate.under l.ts 4 b.os[k].tm team = true
      · have HU : Hid (Gate.usedAt l team res b.os[k] = Gate.weighs l.ss b.os[k] res) := by unfold Hid Gate.usedAt; rw [if_pos hu]
        rw [hu]
        clear hu
        go_wp2_with fail
        refine (implWeighs_any l _ _ _ _ _ _ b.os[k] _ _ _ _ res _ (HL.out.mono (HB0.out.trans (HB2.out.mono HB0.out.size))) HO2.out HOl.out).mono ?_
        rintro e w3 ⟨rfl, hb3⟩
        have HB3 : Hid (Below W0.heap.size W0 w3) := HB2.out.trans (hb3.mono HB2.out.size)
        clear hb3
        go_wp2_with fail
        exact ⟨⟨k + 1, s + Gate.weighs l.ss b.os[k] res, by omega, by go_num, by go_num, by rw [HSt.out, HU.out, HQ.out.1], HB3.out⟩, step_less' hlt⟩
      · have hu' : Gate.under l.ts 4 b.os[k].tm team = false := by simpa using hu
        have HU : Hid (Gate.usedAt l team res b.os[k] = 0) := by unfold Hid Gate.usedAt; rw [if_neg hu]
        rw [hu']
        clear hu hu'
        go_wp2_with fail
        exact ⟨⟨k + 1, s, by omega, by go_num, rfl, by rw [HSt.out, HU.out, HQ.out.1]; omega, HB2.out⟩, step_less' hlt⟩
    · have e : k = b.os.length := by omega
      subst e
      have HE : Hid (Gate.used l b.os team res = s) := by unfold Hid Gate.used; rw [HQ.out.1]
      clear hlt hk
      go_wp2_with fail
      go_ret
      exact ⟨ret_int HE.out.symm, HB0.out.trans (HQ.out.2.mono HB0.out.size)⟩

end Go.Proofs.Ytniokfnigmmiiaa
