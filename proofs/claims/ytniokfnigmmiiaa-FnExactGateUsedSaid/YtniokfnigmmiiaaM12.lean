import Derived.Test.YtniokfnigmmiiaaM11
import Derived.Deep.QuietTactic
import Derived.BigQuiet
import Derived.Test.YtniokfnigmmiiaaM05
import Derived.Test.YtniokfnigmmiiaaM09
import Derived.Deep.RegionHeld3
namespace Go.Proofs.Ytniokfnigmmiiaa
open Go.RowKit

def FieldsRes (ss : List Shp) (o : Ob) (w : World) (e : Ending) : Prop := ∃ fa fcap, e = .returned (.tuple #[.slice fa (Gate.shapeOf ss o.kd).fs.length fcap, .bool true]) ∧ FldsAt w fa (Gate.shapeOf ss o.kd).fs

set_option maxHeartbeats 1000000 in
theorem l2Fields_yes (a0 : Option Addr) (cap0 : Nat) (ss : List Shp) (o : Ob) (a a' : Option Addr) (cap cap' : Nat) (w : World) (hw : ShpsAt w a0 ss) (_ho : ObAt w o a a') (hc : Gate.wholeCount ss o = true) :
    Calls Try.prog 22 #[.slice a0 ss.length cap0, .agg #[.string o.kd, .string o.nm, .string o.tm, .slice a o.vs.length cap, .bool o.en, .slice a' o.hs.length cap', .int .i64 o.vr]] w fun e w' => ∃ fa fcap, e = .returned (.tuple #[.slice fa (Gate.shapeOf ss o.kd).fs.length fcap, .bool true]) ∧ FldsAt w fa (Gate.shapeOf ss o.kd).fs ∧ Below w.heap.size w w' := by
  unfold Gate.wholeCount at hc
  simp only [Bool.and_eq_true, decide_eq_true_eq] at hc
  have HK : Hid (Gate.hasKind ss o.kd = true) := hc.1
  have HL : Hid (o.vs.length = (Gate.shapeOf ss o.kd).fs.length) := hc.2
  clear hc
  have hl := hw.len
  unfold maxLen at hl
  go_enter Try.func22, Try.ntmps22
  go_wp2_with fail
  refine (l1Shape_yes _ _ _ _ _ (hw.mono ((Below.refl _ _).alloc (Nat.le_refl _) _)) HK.out).mono ?_
  rintro e w1 ⟨ix, hix, rfl, hsh, rfl⟩
  have HSh : Hid (Gate.shapeOf ss o.kd = ss[ix]) := hsh
  clear hsh
  obtain ⟨b, off, rfl, hb, hr⟩ := hw.rows (by rintro rfl; simp at hix)
  obtain ⟨fa, fcap, hs⟩ := hr ix hix
  have hcl := hs.list
  have hfl := hs.flds
  have hixI : (ix : Int) < (ss.length : Int) := by omega
  have hix0 : decide ((ix : Int) < 0) = false := by simp
  have hneq : ((ss[ix].fs.length : Int) != (o.vs.length : Int)) = false := by have h1 := HL.out; have h2 := HSh.out; rw [h2] at h1; simp [h1]
  have hbw : b < w.heap.size := hb
  clear hr hs
  go_wp2_with fail
  go_quiet (fail)
  go_wp2_with fail
  go_ret2
  rw [HSh.out]
  exact ⟨fa, fcap, rfl, hfl, below_drewN ((Below.refl _ _).alloc (Nat.le_refl _) _) _⟩

set_option maxHeartbeats 1000000 in
theorem l2Fields_no (a0 : Option Addr) (cap0 : Nat) (ss : List Shp) (o : Ob) (a a' : Option Addr) (cap cap' : Nat) (w : World) (hw : ShpsAt w a0 ss) (_ho : ObAt w o a a') (hc : Gate.wholeCount ss o = false) :
    Calls Try.prog 22 #[.slice a0 ss.length cap0, .agg #[.string o.kd, .string o.nm, .string o.tm, .slice a o.vs.length cap, .bool o.en, .slice a' o.hs.length cap', .int .i64 o.vr]] w fun e w' => ∃ v, e = .returned (.tuple #[v, .bool false]) ∧ Below w.heap.size w w' := by
  have hl := hw.len
  unfold maxLen at hl
  by_cases hk : Gate.hasKind ss o.kd = true
  · have HK : Hid (Gate.hasKind ss o.kd = true) := hk
    have HL : Hid (¬ o.vs.length = (Gate.shapeOf ss o.kd).fs.length) := by unfold Gate.wholeCount at hc; rw [hk] at hc; simpa [Hid] using hc
    clear hc hk
    go_enter Try.func22, Try.ntmps22
    go_wp2_with fail
    refine (l1Shape_yes _ _ _ _ _ (hw.mono ((Below.refl _ _).alloc (Nat.le_refl _) _)) HK.out).mono ?_
    rintro e w1 ⟨ix, hix, rfl, hsh, rfl⟩
    have HSh : Hid (Gate.shapeOf ss o.kd = ss[ix]) := hsh
    clear hsh
    obtain ⟨b, off, rfl, hb, hr⟩ := hw.rows (by rintro rfl; simp at hix)
    obtain ⟨fa, fcap, hs⟩ := hr ix hix
    have hcl := hs.list
    have hixI : (ix : Int) < (ss.length : Int) := by omega
    have hix0 : decide ((ix : Int) < 0) = false := by simp
    have hneq : ((ss[ix].fs.length : Int) != (o.vs.length : Int)) = true := by have h1 := HL.out; have h2 := HSh.out; rw [h2] at h1; rw [bne_iff_ne]; omega
    have hbw : b < w.heap.size := hb
    clear hr hs
    go_wp2_with fail
    go_quiet (fail)
    go_wp2_with fail
    go_ret2
    exact ⟨_, rfl, below_drewN (below2' _ _ _) _⟩
  · have HK : Hid (Gate.hasKind ss o.kd = false) := by simpa [Hid] using hk
    clear hc hk
    go_enter Try.func22, Try.ntmps22
    go_wp2_with fail
    refine (l1Shape_no _ _ _ _ _ (hw.mono ((Below.refl _ _).alloc (Nat.le_refl _) _)) HK.out).mono ?_
    rintro e w1 ⟨rfl, rfl⟩
    go_wp2_with fail
    go_quiet (fail)
    go_wp2_with fail
    go_ret2
    exact ⟨_, rfl, below_drewN (below2' _ _ _) _⟩

end Go.Proofs.Ytniokfnigmmiiaa

namespace Go.Proofs.Ytniokfnigmmiiaa
open Go.RowKit

theorem numRes_case (s : ByteArray) : (0 < numRes s ∧ decNum s = numRes s) ∨ (¬ 0 < numRes s ∧ decNum s = 0) := by
  unfold numRes decNum
  by_cases h : Gate.decOk s = true
  · rw [if_pos h, if_pos h]
    have := Gate.decS_nonneg s h
    omega
  · rw [if_neg h, if_neg h]
    omega

set_option maxHeartbeats 2000000 in
theorem specWeighs_no (l : Lw) (la lb lc : Option Addr) (lca lcb lcc : Nat) (o : Ob) (oa oa' : Option Addr) (ocap ocap' : Nat) (res : ByteArray) (w : World) (hl : LwAt w l la lb lc) (ho : ObAt w o oa oa') (hc : ¬ (Gate.wholeCount l.ss o = true ∧ res.toList.isEmpty = false)) :
    Calls Try.prog 7 #[.agg (l.cells la lb lc lca lcb lcc), .agg #[.string o.kd, .string o.nm, .string o.tm, .slice oa o.vs.length ocap, .bool o.en, .slice oa' o.hs.length ocap', .int .i64 o.vr], .string res] w fun e w' => e = .returned (.int .i64 (Gate.weighs l.ss o res)) ∧ Below w.heap.size w w' := by
  have HL : Hid (LwAt w l la lb lc) := hl
  have HO : Hid (ObAt w o oa oa') := ho
  have HW : Hid (Gate.weighs l.ss o res = 0) := by unfold Hid Gate.weighs; rw [if_neg hc]
  have HC : Hid (¬ (Gate.wholeCount l.ss o = true ∧ res.toList.isEmpty = false)) := hc
  clear hl ho hc
  unfold Lw.cells
  by_cases hk : Gate.wholeCount l.ss o = true
  · have he : res.toList.isEmpty = true := by
      cases h : res.toList.isEmpty with
      | true => rfl
      | false => exact absurd ⟨hk, h⟩ HC.out
    have HK : Hid (Gate.wholeCount l.ss o = true) := hk
    clear hk
    go_enter Try.func7, Try.ntmps7
    go_wp2_with fail
    refine (l2Fields_yes _ _ l.ss o _ _ _ _ _ (HL.out.ss.mono (below2' _ _ _)) (HO.out.mono (below2' _ _ _)) HK.out).mono ?_
    rintro e w1 ⟨fa, fcap, rfl, hfl, hb⟩
    have HB1 : Hid (Below w.heap.size w w1) := (below2' w _ _).trans (hb.mono (by simp; omega))
    clear hfl hb
    go_wp2_with fail
    go_ret
    exact ⟨ret_int HW.out.symm, HB1.out⟩
  · have HK : Hid (Gate.wholeCount l.ss o = false) := by unfold Hid; simpa using hk
    clear hk
    go_enter Try.func7, Try.ntmps7
    go_wp2_with fail
    refine (l2Fields_no _ _ l.ss o _ _ _ _ _ (HL.out.ss.mono (below2' _ _ _)) (HO.out.mono (below2' _ _ _)) HK.out).mono ?_
    rintro e w1 ⟨v, rfl, hb⟩
    have HB1 : Hid (Below w.heap.size w w1) := (below2' w _ _).trans (hb.mono (by simp; omega))
    clear hb
    go_wp2_with fail
    go_ret
    exact ⟨ret_int HW.out.symm, HB1.out⟩

set_option maxHeartbeats 4000000 in
theorem specWeighs_yes (l : Lw) (la lb lc : Option Addr) (lca lcb lcc : Nat) (o : Ob) (oa oa' : Option Addr) (ocap ocap' : Nat) (res : ByteArray) (w : World) (hl : LwAt w l la lb lc) (ho : ObAt w o oa oa') (hc : Gate.wholeCount l.ss o = true) (he : res.toList.isEmpty = false) (hlen : o.vs.length ≤ 1048576) :
    Calls Try.prog 7 #[.agg (l.cells la lb lc lca lcb lcc), .agg #[.string o.kd, .string o.nm, .string o.tm, .slice oa o.vs.length ocap, .bool o.en, .slice oa' o.hs.length ocap', .int .i64 o.vr], .string res] w fun e w' => e = .returned (.int .i64 (Gate.weighs l.ss o res)) ∧ Below w.heap.size w w' := by
  have HL : Hid (LwAt w l la lb lc) := hl
  have HO : Hid (ObAt w o oa oa') := ho
  have HW : Hid (Gate.weighs l.ss o res = (if res = o.kd then 1 else 0) + Gate.wsum (Gate.shapeOf l.ss o.kd).fs o.vs res (Gate.shapeOf l.ss o.kd).fs.length) := by unfold Hid Gate.weighs; rw [if_pos ⟨hc, he⟩]
  have HC : Hid (Gate.wholeCount l.ss o = true) := hc
  have HK : Hid (Gate.hasKind l.ss o.kd = true ∧ o.vs.length = (Gate.shapeOf l.ss o.kd).fs.length) := by unfold Gate.wholeCount at hc; unfold Hid; simpa using hc
  have HN : Hid (o.vs.length ≤ 1048576) := hlen
  clear hl ho hc hlen
  unfold Lw.cells
  go_enter Try.func7, Try.ntmps7
  go_wp2_with fail
  refine (l2Fields_yes _ _ l.ss o _ _ _ _ _ (HL.out.ss.mono (below2' _ _ _)) (HO.out.mono (below2' _ _ _)) HC.out).mono ?_
  rintro e w1 ⟨fa, fcap, rfl, hfl, hb⟩
  obtain ⟨hX0, hY0⟩ := two_boxes w #[.slice la l.ss.length lca, .slice lb l.ms.length lcb, .slice lc l.ts.length lcc] #[.string o.kd, .string o.nm, .string o.tm, .slice oa o.vs.length ocap, .bool o.en, .slice oa' o.hs.length ocap', .int .i64 o.vr] 37 39
  have hY1 := box_later hY0 (by simp) hb
  have hz1 : w.heap.size + 1 < w1.heap.size := by have := hb.size; simp at this; omega
  have HB1 : Hid (Below w.heap.size w w1) := (below2' w _ _).trans (hb.mono (by simp; omega))
  have HFl : Hid (FldsAt w1 fa (Gate.shapeOf l.ss o.kd).fs) := hfl.mono hb
  clear hfl hb hX0 hY0
  obtain ⟨S, HS⟩ : ∃ S, Hid (S = Gate.shapeOf l.ss o.kd) := ⟨_, rfl⟩
  rw [← HS.out] at HFl HK HW ⊢
  obtain ⟨n0, hn0⟩ : ∃ n0 : Int, n0 = if res = o.kd then 1 else 0 := ⟨_, rfl⟩
  have hb0 : 0 ≤ n0 ∧ n0 ≤ 1 := by rw [hn0]; split <;> omega
  rw [← hn0] at HW
  have HN0 : Hid (n0 = if res = o.kd then 1 else 0) := hn0
  clear hn0
  by_cases hk : res = o.kd
  all_goals (
    first
    | (have hq : (res.toList == o.kd.toList) = true := by rw [Gate.beq_toList]; simpa using hk)
    | (have hq : (res.toList == o.kd.toList) = false := by rw [Gate.beq_toList]; simpa using hk)
    have HKE := hid_of hk
    clear hk
    go_wp2_with fail
    go_loopw [9, 10] (fun nv iv wr => ∃ (k : Nat) (s : Int), k ≤ S.fs.length ∧ iv = .int .i64 k ∧ nv = .int .i64 s ∧ Hid (s = n0 + Gate.wsum S.fs o.vs res k ∧ Below w1.heap.size w1 wr)) (fun _ iv _ => S.fs.length - (intOf iv).toNat)
    case atStart => exact ⟨0, n0, Nat.zero_le _, rfl, by have := HN0.out; first | (rw [if_pos HKE.out] at this; rw [this]) | (rw [if_neg HKE.out] at this; rw [this]), by simp [Gate.wsum], Below.refl _ _⟩
    case round =>
      obtain ⟨k, s, hk, rfl, rfl, HQ⟩ := hrel
      have hsb : 0 ≤ s ∧ s ≤ 1 + k * 10000000 := by have h1 := HQ.out.1; have h2 := Gate.wsum_bound S.fs o.vs res k; omega
      have hkn : k ≤ 1048576 := by have := HN.out; have := HK.out.2; omega
      by_cases hlt : k < S.fs.length
      · obtain ⟨b, off, rfl, hb, hr⟩ := HFl.out.rows (by intro e; rw [e] at hlt; simp at hlt)
        obtain ⟨wa, wcap, hf⟩ := hr k hlt
        obtain ⟨c0, c1, c2, c3, c4, c5, c6, c7, c8, c9, c10⟩ := (hf.mono hb HQ.out.2).load
        have hlv : k < o.vs.length := by have := HK.out.2; omega
        have hltI : (k : Int) < (S.fs.length : Int) := by omega
        have hlvI : (k : Int) < (o.vs.length : Int) := by omega
        obtain ⟨vb, voff, rfl, hvb, hvc0⟩ := HO.out.vals.cells (by intro e; rw [e] at hlv; simp at hlv)
        have hvc := ((HB1.out.trans (HQ.out.2.mono HB1.out.size)).cell (p := ⟨vb, voff + k, none⟩) hvb).trans (hvc0 k hlv)
        have hvb' : vb < wr.heap.size := Nat.lt_of_lt_of_le hvb (HB1.out.trans (HQ.out.2.mono HB1.out.size)).size
        have hb' : b < wr.heap.size := Nat.lt_of_lt_of_le hb HQ.out.2.size
        have hY := box_later hY1 hz1 HQ.out.2
        have hz : w.heap.size + 1 < wr.heap.size := Nat.lt_of_lt_of_le hz1 HQ.out.2.size
        have HSt : Hid (Gate.wsum S.fs o.vs res (k + 1) = Gate.wsum S.fs o.vs res k + Gate.fieldWeight S.fs[k] o.vs[k] res) := Gate.wsum_at S.fs o.vs res k hlt hlv
        have HVs : Hid (o.vs[k].size ≤ maxLen) := HO.out.vals.small _ (List.getElem_mem _)
        have hnr : -1 ≤ numRes o.vs[k] ∧ numRes o.vs[k] ≤ 10000000 := by
          have h1 := numRes_case o.vs[k]; have h2 := Gate.decNum_bound o.vs[k]
          have h3 : numRes o.vs[k] = -1 ∨ 0 ≤ numRes o.vs[k] := by
            unfold numRes; split
            · rename_i h; exact Or.inr (Gate.decS_nonneg _ h)
            · exact Or.inl rfl
          omega
        clear hf hr hvc0 c0 c2 c3 c4 c5 c6 c7 c8 c9
        go_wp2_with fail
        refine (l1Number_any o.vs[k] _ HVs.out).mono ?_
        rintro e w2 ⟨rfl, rfl⟩
        by_cases h1 : S.fs[k].kd = 1
        · have e1 : (S.fs[k].kd == 1) = true := by simpa using h1
          by_cases h2 : S.fs[k].wg = res
          · have e2 : (S.fs[k].wg.toList == res.toList) = true := by rw [Gate.beq_toList]; simpa using h2
            have HFw : Hid (Gate.fieldWeight S.fs[k] o.vs[k] res = decNum o.vs[k]) := by unfold Hid Gate.fieldWeight; rw [if_pos ⟨h1, h2⟩]
            clear h1 h2
            rcases numRes_case o.vs[k] with ⟨hp, hd⟩ | ⟨hp, hd⟩
            · have HD := hid_of hd
              have hpd : decide (0 < numRes o.vs[k]) = true := by simpa using hp
              clear hd
              go_wp2_with fail
              first
                | exact ⟨⟨k + 1, s + numRes o.vs[k], by omega, by go_num, by go_num, by rw [HSt.out, HFw.out, HQ.out.1, HD.out]; omega, HQ.out.2⟩, step_less' hlt⟩
                | (go_quiet (fail); go_wp2_with fail; exact ⟨⟨k + 1, s + numRes o.vs[k], by omega, by go_num, by go_num, by rw [HSt.out, HFw.out, HQ.out.1, HD.out]; omega, below_drewN HQ.out.2 _⟩, step_less' hlt⟩)
            · have HD := hid_of hd
              have hpd : decide (0 < numRes o.vs[k]) = false := by simpa using hp
              clear hd
              go_wp2_with fail
              first
                | exact ⟨⟨k + 1, s, by omega, by go_num, rfl, by rw [HSt.out, HFw.out, HQ.out.1, HD.out]; omega, HQ.out.2⟩, step_less' hlt⟩
                | (go_quiet (fail); go_wp2_with fail; exact ⟨⟨k + 1, s, by omega, by go_num, rfl, by rw [HSt.out, HFw.out, HQ.out.1, HD.out]; omega, below_drewN HQ.out.2 _⟩, step_less' hlt⟩)
          · have e2 : (S.fs[k].wg.toList == res.toList) = false := by rw [Gate.beq_toList]; simpa using h2
            have HFw : Hid (Gate.fieldWeight S.fs[k] o.vs[k] res = 0) := by unfold Hid Gate.fieldWeight; rw [if_neg (fun h => h2 h.2)]
            clear h1 h2
            go_wp2_with fail
            first
              | exact ⟨⟨k + 1, s, by omega, by go_num, rfl, by rw [HSt.out, HFw.out, HQ.out.1]; omega, HQ.out.2⟩, step_less' hlt⟩
              | (go_quiet (fail); go_wp2_with fail; exact ⟨⟨k + 1, s, by omega, by go_num, rfl, by rw [HSt.out, HFw.out, HQ.out.1]; omega, below_drewN HQ.out.2 _⟩, step_less' hlt⟩)
        · have e1 : (S.fs[k].kd == 1) = false := by simpa using h1
          have HFw : Hid (Gate.fieldWeight S.fs[k] o.vs[k] res = 0) := by unfold Hid Gate.fieldWeight; rw [if_neg (fun h => h1 h.1)]
          clear h1
          go_wp2_with fail
          first
            | exact ⟨⟨k + 1, s, by omega, by go_num, rfl, by rw [HSt.out, HFw.out, HQ.out.1]; omega, HQ.out.2⟩, step_less' hlt⟩
            | (go_quiet (fail); go_wp2_with fail; exact ⟨⟨k + 1, s, by omega, by go_num, rfl, by rw [HSt.out, HFw.out, HQ.out.1]; omega, below_drewN HQ.out.2 _⟩, step_less' hlt⟩)
      · have e : k = S.fs.length := by omega
        subst e
        have HE : Hid (Gate.weighs l.ss o res = s) := by unfold Hid; rw [HW.out, HQ.out.1]
        clear hlt hk
        go_wp2_with fail
        go_ret
        exact ⟨ret_int HE.out.symm, HB1.out.trans (HQ.out.2.mono HB1.out.size)⟩)

theorem implWeighs_any (l : Lw) (la lb lc : Option Addr) (lca lcb lcc : Nat) (o : Ob) (oa oa' : Option Addr) (ocap ocap' : Nat) (res : ByteArray) (w : World) (hl : LwAt w l la lb lc) (ho : ObAt w o oa oa') (hlen : o.vs.length ≤ 1048576) :
    Calls Try.prog 10 #[.agg (l.cells la lb lc lca lcb lcc), .agg #[.string o.kd, .string o.nm, .string o.tm, .slice oa o.vs.length ocap, .bool o.en, .slice oa' o.hs.length ocap', .int .i64 o.vr], .string res] w fun e w' => e = .returned (.int .i64 (Gate.weighs l.ss o res)) ∧ Below w.heap.size w w' := by
  by_cases hc : Gate.wholeCount l.ss o = true ∧ res.toList.isEmpty = false
  · exact implWeighs_yes l la lb lc lca lcb lcc o oa oa' ocap ocap' res w hl ho hc.1 hc.2 hlen
  · exact implWeighs_no l la lb lc lca lcb lcc o oa oa' ocap ocap' res w hl ho hc

theorem specWeighs_any (l : Lw) (la lb lc : Option Addr) (lca lcb lcc : Nat) (o : Ob) (oa oa' : Option Addr) (ocap ocap' : Nat) (res : ByteArray) (w : World) (hl : LwAt w l la lb lc) (ho : ObAt w o oa oa') (hlen : o.vs.length ≤ 1048576) :
    Calls Try.prog 7 #[.agg (l.cells la lb lc lca lcb lcc), .agg #[.string o.kd, .string o.nm, .string o.tm, .slice oa o.vs.length ocap, .bool o.en, .slice oa' o.hs.length ocap', .int .i64 o.vr], .string res] w fun e w' => e = .returned (.int .i64 (Gate.weighs l.ss o res)) ∧ Below w.heap.size w w' := by
  by_cases hc : Gate.wholeCount l.ss o = true ∧ res.toList.isEmpty = false
  · exact specWeighs_yes l la lb lc lca lcb lcc o oa oa' ocap ocap' res w hl ho hc.1 hc.2 hlen
  · exact specWeighs_no l la lb lc lca lcb lcc o oa oa' ocap ocap' res w hl ho hc

end Go.Proofs.Ytniokfnigmmiiaa

namespace Go.Proofs.Ytniokfnigmmiiaa
open Go.RowKit

/-- What a ledger holds. -/
structure Lg where
  tm : ByteArray
  rs : ByteArray
  mo : Int
  fr : Int

def Lg.cells (m : Lg) : Array Value := #[.string m.tm, .string m.rs, .int .i64 m.mo, .int .i64 m.fr]

structure Lg.Small (m : Lg) : Prop where
  tm : m.tm.size ≤ maxLen
  rs : m.rs.size ≤ maxLen

structure LgsAt (w : World) (a : Option Addr) (ms : List Lg) : Prop where
  len : ms.length ≤ maxLen
  small : ∀ i (h : i < ms.length), ms[i].Small
  rows : ms ≠ [] → ∃ b off, a = some ⟨b, off, none⟩ ∧ b < w.heap.size ∧ ∀ i (h : i < ms.length), ∀ j, j < 4 → w.cell? ⟨b, off + i * 4 + j, none⟩ = ms[i].cells[j]?

theorem LgsAt.mono {w w' : World} {a : Option Addr} {ms : List Lg} (h : LgsAt w a ms) (hl : Below w.heap.size w w') : LgsAt w' a ms :=
  ⟨h.len, h.small, fun hne => by
    obtain ⟨b, off, ha, hb, hr⟩ := h.rows hne
    exact ⟨b, off, ha, Nat.lt_of_lt_of_le hb hl.size, fun i hi j hj => (hl.cell (p := ⟨b, off + i * 4 + j, none⟩) hb).trans (hr i hi j hj)⟩⟩

theorem LgsAt.load {w w' : World} {a : Option Addr} {ms : List Lg} (h : LgsAt w a ms) (hl : Below w.heap.size w w') (i : Nat) (hi : i < ms.length) : ∃ b off, a = some ⟨b, off, none⟩ ∧ b < w.heap.size ∧
    w'.cell? ⟨b, off + i * 4, none⟩ = some (.string ms[i].tm) ∧ w'.cell? ⟨b, off + i * 4 + 1, none⟩ = some (.string ms[i].rs) ∧ w'.cell? ⟨b, off + i * 4 + 2, none⟩ = some (.int .i64 ms[i].mo) ∧ w'.cell? ⟨b, off + i * 4 + 3, none⟩ = some (.int .i64 ms[i].fr) := by
  obtain ⟨b, off, ha, hb, hr⟩ := h.rows (by rintro rfl; simp at hi)
  have hc : ∀ j, j < 4 → w'.cell? ⟨b, off + i * 4 + j, none⟩ = ms[i].cells[j]? := fun j hj => (hl.cell (p := ⟨b, off + i * 4 + j, none⟩) hb).trans (hr i hi j hj)
  exact ⟨b, off, ha, hb, hc 0 (by omega), hc 1 (by omega), hc 2 (by omega), hc 3 (by omega)⟩

def Lg.sz (m : Lg) : Nat := m.tm.size + m.rs.size
def sumLg (ms : List Lg) : Nat := (ms.map Lg.sz).sum
def szLgs (ms : List Lg) : Nat := ms.length + sumLg ms

set_option maxHeartbeats 1000000 in
theorem szGateLedger_any (m : Lg) (left : Int) (w : World) (hm : m.Small) (h0 : 0 ≤ left) (h1 : left ≤ 1048576) :
    Calls Try.prog 61 #[.agg m.cells, .int .i64 left] w fun e w' => e = .returned (.int .i64 (szRes m.sz left)) ∧ Below w.heap.size w w' := by
  have k0 := hm.tm
  have k1 := hm.rs
  unfold maxLen at k0 k1
  unfold Lg.cells
  have hB : ∀ ob, Below w.heap.size w (w.alloc ob) := fun ob => (Below.refl _ _).alloc (Nat.le_refl _) _
  by_cases hf : (m.sz : Int) ≤ left
  · have HF : Hid (szRes m.sz left = left - m.tm.size - m.rs.size) := by
      unfold Hid; rw [szRes_yes hf]; unfold Lg.sz; omega
    unfold Lg.sz at hf
    go_enter Try.func61, Try.ntmps61
    go_wp2_with fail
    go_ret
    exact ⟨ret_int HF.out.symm, hB _⟩
  · have HF : Hid (szRes m.sz left = -1) := szRes_no hf
    have HN : Hid (¬ ((m.tm.size + m.rs.size : Nat) : Int) ≤ left) := hf
    clear hf
    go_enter Try.func61, Try.ntmps61
    go_wp2_with fail
    all_goals go_ret
    all_goals first | exact ⟨ret_int HF.out.symm, hB _⟩ | (exfalso; have := HN.out; simp at *; omega)

theorem szGateLedger_yes (m : Lg) (left : Int) (w : World) (hm : m.Small) (h0 : 0 ≤ left) (h1 : left ≤ 1048576) (h : (m.sz : Int) ≤ left) :
    Calls Try.prog 61 #[.agg m.cells, .int .i64 left] w fun e w' => e = .returned (.int .i64 (left - m.sz)) ∧ Below w.heap.size w w' := by
  refine (szGateLedger_any m left w hm h0 h1).mono ?_
  rintro e w' ⟨rfl, hb⟩
  exact ⟨ret_int (szRes_yes h), hb⟩

theorem szGateLedger_no (m : Lg) (left : Int) (w : World) (hm : m.Small) (h0 : 0 ≤ left) (h1 : left ≤ 1048576) (h : ¬ (m.sz : Int) ≤ left) :
    Calls Try.prog 61 #[.agg m.cells, .int .i64 left] w fun e w' => e = .returned (.int .i64 (-1)) ∧ Below w.heap.size w w' := by
  refine (szGateLedger_any m left w hm h0 h1).mono ?_
  rintro e w' ⟨rfl, hb⟩
  exact ⟨ret_int (szRes_no h), hb⟩

set_option maxHeartbeats 1000000 in
theorem szGateLedgerS_any (a : Option Addr) (cap : Nat) (ms : List Lg) (left : Int) (w : World) (hw : LgsAt w a ms) (h0 : 0 ≤ left) (h1 : left ≤ 1048576) :
    Calls Try.prog 36 #[.slice a ms.length cap, .int .i64 left] w fun e w' => e = .returned (.int .i64 (szRes (szLgs ms) left)) ∧ Below w.heap.size w w' := by
  have hl := hw.len
  unfold maxLen at hl
  by_cases hfit : (ms.length : Int) ≤ left
  · go_enter Try.func36, Try.ntmps36
    go_wp2_with fail
    go_loopw [1, 5] (fun l i wr => ∃ k : Nat, k ≤ ms.length ∧ i = .int .i64 k ∧ 0 ≤ left - ms.length - sumLg (ms.take k) ∧ l = .int .i64 (left - ms.length - sumLg (ms.take k)) ∧ Below w.heap.size w wr) (fun _ i _ => ms.length - (intOf i).toNat)
    case atStart => exact ⟨0, Nat.zero_le _, rfl, by simp [sumLg]; omega, by simp [sumLg], Below.refl _ _⟩
    case round =>
      obtain ⟨k, hk, rfl, hpos, rfl, hB⟩ := hrel
      by_cases hlt : k < ms.length
      · obtain ⟨b, off, rfl, hb, c0, c1, c2, c3⟩ := hw.load hB k hlt
        have hsm := hw.small k hlt
        have HS : Hid (sumLg (ms.take (k + 1)) = sumLg (ms.take k) + ms[k].sz) := sum_snoc Lg.sz ms k hlt
        have hle : sumLg (ms.take (k + 1)) ≤ sumLg ms := sum_le Lg.sz ms (k + 1)
        clear hw
        by_cases hneg : (ms[k].sz : Int) ≤ left - ms.length - sumLg (ms.take k)
        · have HNG : Hid ((ms[k].sz : Int) ≤ left - ms.length - sumLg (ms.take k)) := hneg
          clear hle
          go_wp2_with fail
          refine (szGateLedger_yes _ _ _ hsm hpos (by omega) HNG.out).mono ?_
          rintro e w1 ⟨rfl, hb1⟩
          have hB1 := hB.trans (hb1.mono hB.size)
          clear hb1
          go_wp2_with fail
          exact ⟨⟨k + 1, by omega, by go_num, by rw [HS.out]; omega, by rw [HS.out]; congr 1; omega, hB1⟩, by simp [intOf]; omega⟩
        · have HF : Hid (szRes (szLgs ms) left = -1) := szRes_no (by have := HS.out; unfold szLgs; omega)
          have HNG : Hid (¬ (ms[k].sz : Int) ≤ left - ms.length - sumLg (ms.take k)) := hneg
          clear hneg hle
          go_wp2_with fail
          refine (szGateLedger_no _ _ _ hsm hpos (by omega) (by have := HNG.out; omega)).mono ?_
          rintro e w1 ⟨rfl, hb1⟩
          have hB1 := hB.trans (hb1.mono hB.size)
          clear hb1
          go_wp2_with fail
          go_ret
          exact ⟨ret_int HF.out.symm, hB1⟩
      · have HF : Hid (szRes (szLgs ms) left = left - ms.length - sumLg (ms.take k)) := by
          rw [List.take_of_length_le (by omega)] at hpos ⊢
          have e : szRes (szLgs ms) left = left - szLgs ms := szRes_yes (by unfold szLgs; omega)
          unfold Hid; rw [e]; unfold szLgs; omega
        clear hw
        go_wp2
        go_ret
        exact ⟨ret_int HF.out.symm, hB⟩
  · have HF : Hid (szRes (szLgs ms) left = -1) := szRes_no (by unfold szLgs; omega)
    clear hw
    go_enter Try.func36, Try.ntmps36
    go_wp2
    go_ret
    exact ⟨ret_int HF.out.symm, Below.refl _ _⟩

theorem eqGateLedger_yes (m : Lg) (w : World) : Calls Try.prog 69 #[.agg m.cells, .agg m.cells] w fun e w' => e = .returned (.bool true) ∧ Below w.heap.size w w' := by
  unfold Lg.cells
  have hn2 : (m.mo != m.mo) = false := by simp
  have hn3 : (m.fr != m.fr) = false := by simp
  go_enter Try.func69, Try.ntmps69
  go_wp2_with fail
  go_ret
  exact ⟨rfl, below2' _ _ _⟩

set_option maxHeartbeats 2000000 in
theorem eqGateLedgerS_yes (a a' : Option Addr) (cap cap' : Nat) (ms : List Lg) (w : World) (hw : LgsAt w a ms) (hw' : LgsAt w a' ms) :
    Calls Try.prog 46 #[.slice a ms.length cap, .slice a' ms.length cap'] w fun e w' => e = .returned (.bool true) ∧ Below w.heap.size w w' := by
  have hl := hw.len
  unfold maxLen at hl
  have hnn : ((ms.length : Int) != ms.length) = false := by simp
  go_enter Try.func46, Try.ntmps46
  go_wp2_with fail
  go_loopw [5] (fun i wr => ∃ k : Nat, k ≤ ms.length ∧ i = .int .i64 k ∧ Below w.heap.size w wr) (fun i _ => ms.length - (intOf i).toNat)
  case atStart => exact ⟨0, Nat.zero_le _, rfl, Below.refl _ _⟩
  case round =>
    obtain ⟨k, hk, rfl, hB⟩ := hrel
    by_cases hlt : k < ms.length
    · obtain ⟨b, off, rfl, hb, c0, c1, c2, c3⟩ := hw.load hB k hlt
      obtain ⟨b', off', rfl, hb', d0, d1, d2, d3⟩ := hw'.load hB k hlt
      have hltI : (k : Int) < (ms.length : Int) := by omega
      clear hw hw'
      go_wp2_with fail
      go_region_with (go_at_call 69; refine (eqGateLedger_yes ms[k] _).mono ?_; rintro e w1 ⟨rfl, hb1'⟩; have hb1 := (Below.refl wr.heap.size wr).drew.trans hb1'; clear hb1')
      all_goals go_wp2_with fail
      all_goals exact ⟨⟨k + 1, by omega, by go_num, hB.trans (hb1.mono hB.size)⟩, by simp [intOf]; omega⟩
    · clear hw hw'
      go_wp2_with fail
      go_ret
      exact ⟨rfl, hB⟩

/-- A row in memory of its own, the first k laid. -/
structure LgsOwn (lo : Nat) (w : World) (bo : Nat) (ms : List Lg) (k : Nat) : Prop where
  low : lo ≤ bo
  rows : ∃ C, w.heap[bo]? = some (.cells C 136) ∧ C.size = ms.length * 4 ∧ ∀ i (h : i < ms.length), i < k → ∀ j, j < 4 → C[i * 4 + j]? = ms[i].cells[j]?

theorem LgsOwn.at {lo : Nat} {w : World} {bo : Nat} {ms : List Lg} (h : LgsOwn lo w bo ms ms.length) (hs : ∀ i (h : i < ms.length), ms[i].Small) (hl : ms.length ≤ maxLen) : LgsAt w (some ⟨bo, 0, none⟩) ms := by
  obtain ⟨C, hC, hsz, hr⟩ := h.rows
  refine ⟨hl, hs, fun _ => ⟨bo, 0, rfl, (Array.getElem?_eq_some_iff.1 hC).1, fun i hi j hj => ?_⟩⟩
  rw [cell_of_block hC, Nat.zero_add]
  exact hr i hi hi j hj

theorem LgsOwn.later {lo : Nat} {w w' : World} {bo : Nat} {ms : List Lg} {k : Nat} (h : LgsOwn lo w bo ms k) (hb : Below w.heap.size w w') : LgsOwn lo w' bo ms k := by
  obtain ⟨C, hC, hsz, hr⟩ := h.rows
  exact ⟨h.low, C, (hb.block bo (Array.getElem?_eq_some_iff.1 hC).1).trans hC, hsz, hr⟩

theorem LgsOwn.above {lo : Nat} {w w' : World} {bo : Nat} {ms : List Lg} {k : Nat} (h : LgsOwn lo w bo ms k) (ha : Above lo w w') : LgsOwn lo w' bo ms k := by
  obtain ⟨C, hC, hr⟩ := h.rows
  exact ⟨h.low, C, (ha.same _ h.low (Array.getElem?_eq_some_iff.1 hC).1).trans hC, hr⟩

theorem LgsOwn.weaken {lo lo' : Nat} {w : World} {bo : Nat} {ms : List Lg} {k : Nat} (h : LgsOwn lo w bo ms k) (hl : lo' ≤ lo) : LgsOwn lo' w bo ms k := ⟨Nat.le_trans hl h.low, h.rows⟩

def putLg (w : World) (b o : Nat) (v0 v1 v2 v3 : Value) : World := ((((w.setCell ⟨b, o, none⟩ v0).setCell ⟨b, o + 1, none⟩ v1).setCell ⟨b, o + 2, none⟩ v2).setCell ⟨b, o + 3, none⟩ v3)
def setLg (C : Array Value) (o : Nat) (v0 v1 v2 v3 : Value) : Array Value := ((((C.setIfInBounds (o) v0).setIfInBounds (o + 1) v1).setIfInBounds (o + 2) v2).setIfInBounds (o + 3) v3)
theorem putLg_block {w : World} {b o : Nat} {C : Array Value} {t : TypeId} (h : w.heap[b]? = some (.cells C t)) (v0 v1 v2 v3 : Value) : (putLg w b o v0 v1 v2 v3).heap[b]? = some (.cells (setLg C o v0 v1 v2 v3) t) :=
  heap_setCell_at (heap_setCell_at (heap_setCell_at (heap_setCell_at h v0) v1) v2) v3
theorem putLg_below {B : Nat} {a w : World} (h : Below B a w) {b : Nat} (hb : B ≤ b) (o : Nat) (v0 v1 v2 v3 : Value) : Below B a (putLg w b o v0 v1 v2 v3) :=
  (((h.setCell hb v0).setCell hb v1).setCell hb v2).setCell hb v3
theorem setLg_size (C : Array Value) (o : Nat) (v0 v1 v2 v3 : Value) : (setLg C o v0 v1 v2 v3).size = C.size := by simp [setLg]
theorem setLg_out (C : Array Value) (o i : Nat) (v0 v1 v2 v3 : Value) (h : i < o ∨ o + 4 ≤ i) : (setLg C o v0 v1 v2 v3)[i]? = C[i]? := by
  unfold setLg
  iterate 4 rw [Array.getElem?_setIfInBounds, if_neg (by omega)]
theorem setLg_in (C : Array Value) (o j : Nat) (v0 v1 v2 v3 : Value) (hj : j < 4) (ho : o + 4 ≤ C.size) : (setLg C o v0 v1 v2 v3)[o + j]? = (#[v0, v1, v2, v3] : Array Value)[j]? := by
  have hc : j = 0 ∨ j = 1 ∨ j = 2 ∨ j = 3 := by omega
  unfold setLg
  rcases hc with h | h | h | h <;> subst h <;> simp [Array.getElem?_setIfInBounds] <;> omega

theorem LgsOwn.put {lo : Nat} {w : World} {bo : Nat} {ms : List Lg} {k : Nat} (h : LgsOwn lo w bo ms k) (hk : k < ms.length) :
    LgsOwn lo (putLg w bo (k * 4) (.string ms[k].tm) (.string ms[k].rs) (.int .i64 ms[k].mo) (.int .i64 ms[k].fr)) bo ms (k + 1) := by
  obtain ⟨C, hC, hsz, hr⟩ := h.rows
  refine ⟨h.low, _, putLg_block hC _ _ _ _, by rw [setLg_size]; exact hsz, fun i hi hik j hj => ?_⟩
  rcases Nat.lt_or_ge i k with hlt | hge
  · rw [setLg_out _ _ _ _ _ _ _ (by omega)]
    exact hr i hi hlt j hj
  · have e : i = k := by omega
    subst e
    rw [setLg_in _ _ _ _ _ _ _ hj (by omega)]
    rfl

set_option maxHeartbeats 1000000 in
theorem toGateLedger_any (m : Lg) (w : World) :
    Calls Try.prog 65 #[.agg m.cells] w fun e w' => e = .returned (.agg m.cells) ∧ Below w.heap.size w w' := by
  unfold Lg.cells
  go_enter Try.func65, Try.ntmps65
  go_wp2_with fail
  refine bodyPost_ret (v := .agg #[.string m.tm, .string m.rs, .int .i64 m.mo, .int .i64 m.fr]) (by simp [results, Try.results65, go_sem]) rfl ⟨rfl, ?_⟩
  exact ((((Below.refl _ _).alloc (Nat.le_refl _) _).alloc (by simp) _).alloc (by simp; omega) _)

def zeroLg : Array Value := #[.string ByteArray.empty, .string ByteArray.empty, .int .i64 0, .int .i64 0]
def zeroLgs (n : Nat) : Array Value := madeCells zeroLg (n * 4)

set_option maxHeartbeats 2000000 in
theorem toGateLedgerS_any (a : Option Addr) (cap : Nat) (ms : List Lg) (w : World) (hw : LgsAt w a ms) (hl : ms.length ≤ 1048576) :
    Calls Try.prog 41 #[.slice a ms.length cap] w fun e w' => e = .returned (.slice (some ⟨w.heap.size, 0, none⟩) ms.length ms.length) ∧ LgsOwn w.heap.size w' w.heap.size ms ms.length ∧ Below w.heap.size w w' := by
  have hmk : ∀ w : World, (Instr.makeSlice 54 (.int .i64 ms.length) (.int .i64 ms.length)).run Try.prog w = .ok (.slice (some ⟨w.heap.size, 0, none⟩) ms.length ms.length) (w.alloc (.cells (zeroLgs ms.length) 136)) :=
    fun w => run_make_rows (P := Try.prog) 54 136 (.agg zeroLg) 4 48 Try.underlying54 (by kernel_rfl) ms.length (by omega) (by omega) w
  go_enter Try.func41, Try.ntmps41
  go_wp2_with fail
  clear hmk
  go_loopw [4] (fun i wr => ∃ k : Nat, k ≤ ms.length ∧ i = .int .i64 k ∧ LgsOwn w.heap.size wr w.heap.size ms k ∧ Below w.heap.size w wr) (fun i _ => ms.length - (intOf i).toNat)
  case atStart => exact ⟨0, Nat.zero_le _, rfl, ⟨Nat.le_refl _, zeroLgs ms.length, (MapKept.heap_alloc w _).1, size_madeCells _ _, fun i _ h => absurd h (by omega)⟩, (Below.refl _ _).alloc (Nat.le_refl _) _⟩
  case round =>
    obtain ⟨k, hk, rfl, hown, hB⟩ := hrel
    by_cases hlt : k < ms.length
    · obtain ⟨b, off, rfl, hb, c0, c1, c2, c3⟩ := hw.load hB k hlt
      have hltI : (k : Int) < (ms.length : Int) := by omega
      clear hw
      go_wp2_with fail
      refine (toGateLedger_any ms[k] _).mono ?_
      rintro e w1 ⟨rfl, hb1⟩
      have hB1 := hB.trans (hb1.mono hB.size)
      have hown1 := hown.later hb1
      have hbo : w.heap.size < wr.heap.size := by
        obtain ⟨C', hC', _⟩ := hown.rows
        exact (Array.getElem?_eq_some_iff.1 hC').1
      obtain ⟨C, hC, hsz, _⟩ := hown1.rows
      have hfz : ∀ o, w1.frozen? ⟨w.heap.size, o, none⟩ = false := fun o => frozen_of_block hC
      have hex : ∀ o, o < ms.length * 4 → ∃ v, w1.cell? ⟨w.heap.size, o, none⟩ = some v := fun o ho => ⟨C[o]'(by omega), by rw [cell_of_block hC]; exact Array.getElem?_eq_getElem (by omega)⟩
      obtain ⟨v0, hv0⟩ := hex (k * 4) (by omega)
      obtain ⟨v1, hv1⟩ := hex (k * 4 + 1) (by omega)
      obtain ⟨v2, hv2⟩ := hex (k * 4 + 2) (by omega)
      obtain ⟨v3, hv3⟩ := hex (k * 4 + 3) (by omega)
      have HP : Hid (LgsOwn w.heap.size w1 w.heap.size ms k) := hown1
      clear hex hC hsz c0 c1 c2 c3 hown hown1
      unfold Lg.cells
      go_wp2_with fail
      exact ⟨⟨k + 1, by omega, by go_num, HP.out.put hlt, putLg_below hB1 (Nat.le_refl _) _ _ _ _ _⟩, by simp [intOf]; omega⟩
    · have HF : Hid (LgsOwn w.heap.size wr w.heap.size ms ms.length) := by
        have e : k = ms.length := by omega
        subst e; exact hown
      clear hw hown
      go_wp2_with fail
      go_ret
      exact ⟨rfl, HF.out, hB⟩

end Go.Proofs.Ytniokfnigmmiiaa
