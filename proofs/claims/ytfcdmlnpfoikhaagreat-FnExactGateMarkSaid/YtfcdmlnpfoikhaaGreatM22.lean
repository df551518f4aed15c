import Derived.Test.YtfcdmlnpfoikhaaGreatM11
import Derived.Test.YtfcdmlnpfoikhaaGreatM16
import Derived.Test.YtfcdmlnpfoikhaaGreatM03
import Derived.Test.YtfcdmlnpfoikhaaGreatM18
namespace Go.Proofs.YtfcdmlnpfoikhaaGreat
open Go.RowKit
set_option maxHeartbeats 1000000 in
theorem zmr (nm : ByteArray) (ls ms : Int) (a : Option Addr) (n cap : Nat) (to : ByteArray) (rl : Int) (mu fx : Bool) (df wg : ByteArray) (w : World) :
    Calls Tryz.prog 198 #[.agg #[.string nm, .int .i64 1, .int .i64 ls, .int .i64 ms, .slice a n cap, .string to, .int .i64 rl, .bool mu, .bool fx, .string df, .string wg]] w fun e w' => e = .returned (.bool (Gate.qO 1 ls ms n to rl wg)) /\ Below w.heap.size w w' := by
  go_enter Tryz.func198, Tryz.ntmps198
  go_wp2
  all_goals
    go_ret
    refine ⟨ze ?_, (Below.refl _ _).alloc (Nat.le_refl _) _⟩
    simp_all [Gate.qO]
    try first | omega | (intros; omega) | (rw [Bool.eq_iff_iff]; simp)
set_option maxHeartbeats 1000000 in
theorem zm9 (nm : ByteArray) (ls ms : Int) (a : Option Addr) (n cap : Nat) (to : ByteArray) (rl : Int) (mu fx : Bool) (df wg : ByteArray) (w : World) :
    Calls Tryz.prog 198 #[.agg #[.string nm, .int .i64 2, .int .i64 ls, .int .i64 ms, .slice a n cap, .string to, .int .i64 rl, .bool mu, .bool fx, .string df, .string wg]] w fun e w' => e = .returned (.bool (Gate.qO 2 ls ms n to rl wg)) /\ Below w.heap.size w w' := by
  go_enter Tryz.func198, Tryz.ntmps198
  go_wp2
  all_goals
    go_ret
    refine ⟨ze ?_, (Below.refl _ _).alloc (Nat.le_refl _) _⟩
    simp_all [Gate.qO]
    try first | omega | (intros; omega) | (rw [Bool.eq_iff_iff]; simp)
set_option maxHeartbeats 1000000 in
theorem zmx (nm : ByteArray) (ls ms : Int) (a : Option Addr) (n cap : Nat) (to : ByteArray) (rl : Int) (mu fx : Bool) (df wg : ByteArray) (w : World) :
    Calls Tryz.prog 198 #[.agg #[.string nm, .int .i64 3, .int .i64 ls, .int .i64 ms, .slice a n cap, .string to, .int .i64 rl, .bool mu, .bool fx, .string df, .string wg]] w fun e w' => e = .returned (.bool (Gate.qO 3 ls ms n to rl wg)) /\ Below w.heap.size w w' := by
  go_enter Tryz.func198, Tryz.ntmps198
  go_wp2
  all_goals
    go_ret
    refine ⟨ze ?_, (Below.refl _ _).alloc (Nat.le_refl _) _⟩
    simp_all [Gate.qO]
    try first | omega | (intros; omega) | (rw [Bool.eq_iff_iff]; simp)
set_option maxHeartbeats 1000000 in
theorem zms (nm : ByteArray) (ls ms : Int) (a : Option Addr) (n cap : Nat) (to : ByteArray) (rl : Int) (mu fx : Bool) (df wg : ByteArray) (w : World) :
    Calls Tryz.prog 198 #[.agg #[.string nm, .int .i64 4, .int .i64 ls, .int .i64 ms, .slice a n cap, .string to, .int .i64 rl, .bool mu, .bool fx, .string df, .string wg]] w fun e w' => e = .returned (.bool (Gate.qO 4 ls ms n to rl wg)) /\ Below w.heap.size w w' := by
  go_enter Tryz.func198, Tryz.ntmps198
  go_wp2
  all_goals
    go_ret
    refine ⟨ze ?_, (Below.refl _ _).alloc (Nat.le_refl _) _⟩
    simp_all [Gate.qO]
    try first | omega | (intros; omega) | (rw [Bool.eq_iff_iff]; simp)
set_option maxHeartbeats 1000000 in
theorem zhI (nm : ByteArray) (kd ls ms : Int) (a : Option Addr) (n cap : Nat) (to : ByteArray) (rl : Int) (mu fx : Bool) (df wg : ByteArray) (w : World) (h1 : kd ≠ 1) (h2 : kd ≠ 2) (h3 : kd ≠ 3) (h4 : kd ≠ 4) :
    Calls Tryz.prog 198 #[.agg #[.string nm, .int .i64 kd, .int .i64 ls, .int .i64 ms, .slice a n cap, .string to, .int .i64 rl, .bool mu, .bool fx, .string df, .string wg]] w fun e w' => ∃ b, e = .returned (.bool b) /\ Below w.heap.size w w' := by
  have e1 : (kd == 1) = false := by simpa using h1
  have e2 : (kd == 2) = false := by simpa using h2
  have e3 : (kd == 3) = false := by simpa using h3
  have e4 : (kd == 4) = false := by simpa using h4
  have n1 : (kd != 1) = true := by simpa using h1
  have n2 : (kd != 2) = true := by simpa using h2
  clear h1 h2 h3 h4
  go_enter Tryz.func198, Tryz.ntmps198
  go_wp2
  all_goals
    go_ret
    exact ⟨_, rfl, (Below.refl _ _).alloc (Nat.le_refl _) _⟩
end Go.Proofs.YtfcdmlnpfoikhaaGreat

namespace Go.Proofs.YtfcdmlnpfoikhaaGreat
open Go.RowKit
theorem zgE (s : ByteArray) : (0 < qy s /\ j4 s = qy s) \/ (¬ 0 < qy s /\ j4 s = 0) := by
  unfold qy j4
  by_cases h : Gate.jW s = true
  · rw [if_pos h, if_pos h]
    have := Gate.zcc s h
    omega
  · rw [if_neg h, if_neg h]
    omega
set_option maxHeartbeats 2000000 in
theorem zjd (l : Lw) (la lb lc : Option Addr) (lca lcb lcc : Nat) (o : Ob) (oa oa' : Option Addr) (ocap ocap' : Nat) (res : ByteArray) (w : World) (hl : qA w l la lb lc) (ho : qL w o oa oa') (hc : ¬ (Gate.zu l.ss o = true /\ res.toList.isEmpty = false)) :
    Calls Tryz.prog 132 #[.agg (l.cells la lb lc lca lcb lcc), .agg (oC o oa oa' ocap ocap'), .string res] w fun e w' => e = .returned (.int .i64 (Gate.ql l.ss o res)) /\ Below w.heap.size w w' := by
  have HL := hid hl
  have HO := hid ho
  have HW : Hid (Gate.ql l.ss o res = 0) := by unfold Hid Gate.ql; rw [if_neg hc]
  have HC := hid hc
  clear hl ho hc
  unfold Lw.cells
  by_cases hk : Gate.zu l.ss o = true
  · have he : res.toList.isEmpty = true := by
      cases h : res.toList.isEmpty with
      | true => rfl
      | false => exact absurd ⟨hk, h⟩ HC.out
    have HK := hid hk
    clear hk
    go_enter Tryz.func132, Tryz.ntmps132
    go_wp2_with fail
    refine (za2 _ _ l.ss o _ _ _ _ _ (HL.out.ss.mono (zq _ _ _)) (HO.out.mono (zq _ _ _)) HK.out).mono ?_
    rintro e w1 ⟨fa, fcap, rfl, hfl, hb⟩
    have HB1 : Hid (Below w.heap.size w w1) := (zq w _ _).trans (hb.mono (by simp; omega))
    clear hfl hb
    go_wp2_with fail
    go_ret
    exact ⟨zl HW.out.symm, HB1.out⟩
  · have HK : Hid (Gate.zu l.ss o = false) := by unfold Hid; simpa using hk
    clear hk
    go_enter Tryz.func132, Tryz.ntmps132
    go_wp2_with fail
    refine (zck _ _ l.ss o _ _ _ _ _ (HL.out.ss.mono (zq _ _ _)) (HO.out.mono (zq _ _ _)) HK.out).mono ?_
    rintro e w1 ⟨v, rfl, hb⟩
    have HB1 : Hid (Below w.heap.size w w1) := (zq w _ _).trans (hb.mono (by simp; omega))
    clear hb
    go_wp2_with fail
    go_ret
    exact ⟨zl HW.out.symm, HB1.out⟩
set_option maxHeartbeats 4000000 in
theorem zia (l : Lw) (la lb lc : Option Addr) (lca lcb lcc : Nat) (o : Ob) (oa oa' : Option Addr) (ocap ocap' : Nat) (res : ByteArray) (w : World) (hl : qA w l la lb lc) (ho : qL w o oa oa') (hc : Gate.zu l.ss o = true) (he : res.toList.isEmpty = false) (hlen : o.vs.length <= 1048576) :
    Calls Tryz.prog 132 #[.agg (l.cells la lb lc lca lcb lcc), .agg (oC o oa oa' ocap ocap'), .string res] w fun e w' => e = .returned (.int .i64 (Gate.ql l.ss o res)) /\ Below w.heap.size w w' := by
  have HL := hid hl
  have HO := hid ho
  have HW : Hid (Gate.ql l.ss o res = (if res = o.kd then 1 else 0) + Gate.zc1 (Gate.shapeOf l.ss o.kd).fs o.vs res (Gate.shapeOf l.ss o.kd).fs.length) := by unfold Hid Gate.ql; rw [if_pos ⟨hc, he⟩]
  have HC := hid hc
  have HK : Hid (Gate.zD l.ss o.kd = true /\ o.vs.length = (Gate.shapeOf l.ss o.kd).fs.length) := by unfold Gate.zu at hc; unfold Hid; simpa using hc
  have HN := hid hlen
  clear hl ho hc hlen
  unfold Lw.cells
  go_enter Tryz.func132, Tryz.ntmps132
  go_wp2_with fail
  refine (za2 _ _ l.ss o _ _ _ _ _ (HL.out.ss.mono (zq _ _ _)) (HO.out.mono (zq _ _ _)) HC.out).mono ?_
  rintro e w1 ⟨fa, fcap, rfl, hfl, hb⟩
  obtain ⟨hX0, hY0⟩ := yR w (lC l la lb lc lca lcb lcc) (oC o oa oa' ocap ocap') 41 115
  have hY1 := za hY0 (by simp) hb
  have hz1 : w.heap.size + 1 < w1.heap.size := by have := hb.size; simp at this; omega
  have HB1 : Hid (Below w.heap.size w w1) := (zq w _ _).trans (hb.mono (by simp; omega))
  have HFl := hid (hfl.mono hb)
  clear hfl hb hX0 hY0
  obtain ⟨S, HS⟩ : ∃ S, Hid (S = Gate.shapeOf l.ss o.kd) := ⟨_, rfl⟩
  rw [<- HS.out] at HFl HK HW ⊢
  obtain ⟨n0, hn0⟩ : ∃ n0 : Int, n0 = if res = o.kd then 1 else 0 := ⟨_, rfl⟩
  have hb0 : 0 <= n0 /\ n0 <= 1 := by rw [hn0]; split <;> omega
  rw [<- hn0] at HW
  have HN0 := hid hn0
  clear hn0
  by_cases hk : res = o.kd
  all_goals (
    first
    | (have hq : (res.toList == o.kd.toList) = true := by rw [Gate.beq_toList]; simpa using hk)
    | (have hq : (res.toList == o.kd.toList) = false := by rw [Gate.beq_toList]; simpa using hk)
    have HKE := zit hk
    clear hk
    go_wp2_with fail
    go_loopw [9, 10] (fun nv iv wr => ∃ (k : Nat) (s : Int), k <= S.fs.length /\ iv = .int .i64 k /\ nv = .int .i64 s /\ Hid (s = n0 + Gate.zc1 S.fs o.vs res k /\ Below w1.heap.size w1 wr)) (fun _ iv _ => S.fs.length - (intOf iv).toNat)
    case atStart => exact ⟨0, n0, Nat.zero_le _, rfl, by have := HN0.out; first | (rw [if_pos HKE.out] at this; rw [this]) | (rw [if_neg HKE.out] at this; rw [this]), by simp [Gate.zc1], Below.refl _ _⟩
    case round =>
      obtain ⟨k, s, hk, rfl, rfl, HQ⟩ := hrel
      have hsb : 0 <= s /\ s <= 1 + k * 10000000 := by have h1 := HQ.out.1; have h2 := Gate.zca S.fs o.vs res k; omega
      have hkn : k <= 1048576 := by have := HN.out; have := HK.out.2; omega
      by_cases hlt : k < S.fs.length
      · obtain ⟨b, off, rfl, hb, hr⟩ := HFl.out.rows (by intro e; rw [e] at hlt; simp at hlt)
        obtain ⟨wa, wcap, hf⟩ := hr k hlt
        obtain ⟨c0, c1, c2, c3, c4, c5, c6, c7, c8, c9, c10⟩ := (hf.mono hb HQ.out.2).load
        have hlv : k < o.vs.length := by have := HK.out.2; omega
        have hltI : (k : Int) < (S.fs.length : Int) := by omega
        have hlvI : (k : Int) < (o.vs.length : Int) := by omega
        obtain ⟨vb, voff, rfl, hvb, hvc0⟩ := HO.out.vals.cells (by intro e; rw [e] at hlv; simp at hlv)
        have hvc := ((HB1.out.trans (HQ.out.2.mono HB1.out.size)).cell (p := ⟨vb, voff + k, none⟩) hvb).trans (hvc0 k hlv)
        have hvb' := Nat.lt_of_lt_of_le hvb (HB1.out.trans (HQ.out.2.mono HB1.out.size)).size
        have hb' := Nat.lt_of_lt_of_le hb HQ.out.2.size
        have hY := za hY1 hz1 HQ.out.2
        have hz := Nat.lt_of_lt_of_le hz1 HQ.out.2.size
        have HSt : Hid (Gate.zc1 S.fs o.vs res (k + 1) = Gate.zc1 S.fs o.vs res k + Gate.yx S.fs[k] o.vs[k] res) := Gate.znm S.fs o.vs res k hlt hlv
        have HVs : Hid (o.vs[k].size <= maxLen) := HO.out.vals.small _ (List.getElem_mem _)
        have hnr : -1 <= qy o.vs[k] /\ qy o.vs[k] <= 10000000 := by
          have h1 := zgE o.vs[k]; have h2 := Gate.zcZ o.vs[k]
          have h3 : qy o.vs[k] = -1 \/ 0 <= qy o.vs[k] := by
            unfold qy; split
            · rename_i h; exact Or.inr (Gate.zcc _ h)
            · exact Or.inl rfl
          omega
        clear hf hr hvc0 c0 c2 c3 c4 c5 c6 c7 c8 c9
        go_wp2_with fail
        refine (zdi o.vs[k] _ HVs.out).mono ?_
        rintro e w2 ⟨rfl, rfl⟩
        by_cases h1 : S.fs[k].kd = 1
        · have e1 : (S.fs[k].kd == 1) = true := by simpa using h1
          by_cases h2 : S.fs[k].wg = res
          · have e2 : (S.fs[k].wg.toList == res.toList) = true := by rw [Gate.beq_toList]; simpa using h2
            have HFw : Hid (Gate.yx S.fs[k] o.vs[k] res = j4 o.vs[k]) := by unfold Hid Gate.yx; rw [if_pos ⟨h1, h2⟩]
            clear h1 h2
            rcases zgE o.vs[k] with ⟨hp, hd⟩ | ⟨hp, hd⟩
            · have HD := zit hd
              have hpd : decide (0 < qy o.vs[k]) = true := by simpa using hp
              clear hd
              go_wp2_with fail
              first
                | exact ⟨⟨k + 1, s + qy o.vs[k], by omega, by go_num, by go_num, by rw [HSt.out, HFw.out, HQ.out.1, HD.out]; omega, HQ.out.2⟩, zk hlt⟩
                | (go_quiet (fail); go_wp2_with fail; exact ⟨⟨k + 1, s + qy o.vs[k], by omega, by go_num, by go_num, by rw [HSt.out, HFw.out, HQ.out.1, HD.out]; omega, below_drewN HQ.out.2 _⟩, zk hlt⟩)
            · have HD := zit hd
              have hpd : decide (0 < qy o.vs[k]) = false := by simpa using hp
              clear hd
              go_wp2_with fail
              first
                | exact ⟨⟨k + 1, s, by omega, by go_num, rfl, by rw [HSt.out, HFw.out, HQ.out.1, HD.out]; omega, HQ.out.2⟩, zk hlt⟩
                | (go_quiet (fail); go_wp2_with fail; exact ⟨⟨k + 1, s, by omega, by go_num, rfl, by rw [HSt.out, HFw.out, HQ.out.1, HD.out]; omega, below_drewN HQ.out.2 _⟩, zk hlt⟩)
          · have e2 : (S.fs[k].wg.toList == res.toList) = false := by rw [Gate.beq_toList]; simpa using h2
            have HFw : Hid (Gate.yx S.fs[k] o.vs[k] res = 0) := by unfold Hid Gate.yx; rw [if_neg (fun h => h2 h.2)]
            clear h1 h2
            go_wp2_with fail
            first
              | exact ⟨⟨k + 1, s, by omega, by go_num, rfl, by rw [HSt.out, HFw.out, HQ.out.1]; omega, HQ.out.2⟩, zk hlt⟩
              | (go_quiet (fail); go_wp2_with fail; exact ⟨⟨k + 1, s, by omega, by go_num, rfl, by rw [HSt.out, HFw.out, HQ.out.1]; omega, below_drewN HQ.out.2 _⟩, zk hlt⟩)
        · have e1 : (S.fs[k].kd == 1) = false := by simpa using h1
          have HFw : Hid (Gate.yx S.fs[k] o.vs[k] res = 0) := by unfold Hid Gate.yx; rw [if_neg (fun h => h1 h.1)]
          clear h1
          go_wp2_with fail
          first
            | exact ⟨⟨k + 1, s, by omega, by go_num, rfl, by rw [HSt.out, HFw.out, HQ.out.1]; omega, HQ.out.2⟩, zk hlt⟩
            | (go_quiet (fail); go_wp2_with fail; exact ⟨⟨k + 1, s, by omega, by go_num, rfl, by rw [HSt.out, HFw.out, HQ.out.1]; omega, below_drewN HQ.out.2 _⟩, zk hlt⟩)
      · have e : k = S.fs.length := by omega
        subst e
        have HE : Hid (Gate.ql l.ss o res = s) := by unfold Hid; rw [HW.out, HQ.out.1]
        clear hlt hk
        go_wp2_with fail
        go_ret
        exact ⟨zl HE.out.symm, HB1.out.trans (HQ.out.2.mono HB1.out.size)⟩)
theorem zhY (l : Lw) (la lb lc : Option Addr) (lca lcb lcc : Nat) (o : Ob) (oa oa' : Option Addr) (ocap ocap' : Nat) (res : ByteArray) (w : World) (hl : qA w l la lb lc) (ho : qL w o oa oa') (hlen : o.vs.length <= 1048576) :
    Calls Tryz.prog 215 #[.agg (l.cells la lb lc lca lcb lcc), .agg (oC o oa oa' ocap ocap'), .string res] w fun e w' => e = .returned (.int .i64 (Gate.ql l.ss o res)) /\ Below w.heap.size w w' := by
  by_cases hc : Gate.zu l.ss o = true /\ res.toList.isEmpty = false
  · exact zh2 l la lb lc lca lcb lcc o oa oa' ocap ocap' res w hl ho hc.1 hc.2 hlen
  · exact zjv l la lb lc lca lcb lcc o oa oa' ocap ocap' res w hl ho hc
theorem ziH (l : Lw) (la lb lc : Option Addr) (lca lcb lcc : Nat) (o : Ob) (oa oa' : Option Addr) (ocap ocap' : Nat) (res : ByteArray) (w : World) (hl : qA w l la lb lc) (ho : qL w o oa oa') (hlen : o.vs.length <= 1048576) :
    Calls Tryz.prog 132 #[.agg (l.cells la lb lc lca lcb lcc), .agg (oC o oa oa' ocap ocap'), .string res] w fun e w' => e = .returned (.int .i64 (Gate.ql l.ss o res)) /\ Below w.heap.size w w' := by
  by_cases hc : Gate.zu l.ss o = true /\ res.toList.isEmpty = false
  · exact zia l la lb lc lca lcb lcc o oa oa' ocap ocap' res w hl ho hc.1 hc.2 hlen
  · exact zjd l la lb lc lca lcb lcc o oa oa' ocap ocap' res w hl ho hc
end Go.Proofs.YtfcdmlnpfoikhaaGreat
