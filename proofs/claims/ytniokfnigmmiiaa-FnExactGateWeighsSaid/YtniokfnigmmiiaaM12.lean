import Derived.Test.YtniokfnigmmiiaaM11
import Derived.Deep.QuietTactic
import Derived.BigQuiet
import Derived.Test.YtniokfnigmmiiaaM05
import Derived.Test.YtniokfnigmmiiaaM09
namespace Go.Proofs.Ytniokfnigmmiiaa
open Go.RowKit

def FieldsRes (ss : List Shp) (o : Ob) (w : World) (e : Ending) : Prop := ∃ fa fcap, e = .returned (.tuple #[.slice fa (Gate.shapeOf ss o.kd).fs.length fcap, .bool true]) ∧ FldsAt w fa (Gate.shapeOf ss o.kd).fs

set_option maxHeartbeats 1000000 in
theorem l2Fields_yes (a0 : Option Addr) (cap0 : Nat) (ss : List Shp) (o : Ob) (a a' : Option Addr) (cap cap' : Nat) (w : World) (hw : ShpsAt w a0 ss) (_ho : ObAt w o a a') (hc : Gate.wholeCount ss o = true) :
    Calls Try.prog 22 #[.slice a0 ss.length cap0, .agg #[.string o.kd, .string o.nm, .string o.tm, .slice a o.vs.length cap, .bool o.en, .slice a' o.hs.length cap', .int .i64 o.vr]] w fun e w' => ∃ fa fcap, e = .returned (.tuple #[.slice fa (Gate.shapeOf ss o.kd).fs.length fcap, .bool true]) ∧ FldsAt w fa (Gate.shapeOf ss o.kd).fs ∧ Below w.heap.size w w' := by
  unfold Gate.wholeCount at hc
  simp only [Bool.and_eq_true, decide_eq_true_eq] at hc
  have HK : Hid (Gate.hasKind ss o.kd = true) := hc.1
  have HL : Hid (o.vs.length = (Gate.shapeOf ss o.kd).fs.length) := hc.2
  clear hc
  have hl := hw.len
  unfold maxLen at hl
  go_enter Try.func22, Try.ntmps22
  go_wp2_with fail
  refine (l1Shape_yes _ _ _ _ _ (hw.mono ((Below.refl _ _).alloc (Nat.le_refl _) _)) HK.out).mono ?_
  rintro e w1 ⟨ix, hix, rfl, hsh, rfl⟩
  have HSh : Hid (Gate.shapeOf ss o.kd = ss[ix]) := hsh
  clear hsh
  obtain ⟨b, off, rfl, hb, hr⟩ := hw.rows (by rintro rfl; simp at hix)
  obtain ⟨fa, fcap, hs⟩ := hr ix hix
  have hcl := hs.list
  have hfl := hs.flds
  have hixI : (ix : Int) < (ss.length : Int) := by omega
  have hix0 : decide ((ix : Int) < 0) = false := by simp
  have hneq : ((ss[ix].fs.length : Int) != (o.vs.length : Int)) = false := by have h1 := HL.out; have h2 := HSh.out; rw [h2] at h1; simp [h1]
  have hbw : b < w.heap.size := hb
  clear hr hs
  go_wp2_with fail
  go_quiet (fail)
  go_wp2_with fail
  go_ret2
  rw [HSh.out]
  exact ⟨fa, fcap, rfl, hfl, below_drewN ((Below.refl _ _).alloc (Nat.le_refl _) _) _⟩

set_option maxHeartbeats 1000000 in
theorem l2Fields_no (a0 : Option Addr) (cap0 : Nat) (ss : List Shp) (o : Ob) (a a' : Option Addr) (cap cap' : Nat) (w : World) (hw : ShpsAt w a0 ss) (_ho : ObAt w o a a') (hc : Gate.wholeCount ss o = false) :
    Calls Try.prog 22 #[.slice a0 ss.length cap0, .agg #[.string o.kd, .string o.nm, .string o.tm, .slice a o.vs.length cap, .bool o.en, .slice a' o.hs.length cap', .int .i64 o.vr]] w fun e w' => ∃ v, e = .returned (.tuple #[v, .bool false]) ∧ Below w.heap.size w w' := by
  have hl := hw.len
  unfold maxLen at hl
  by_cases hk : Gate.hasKind ss o.kd = true
  · have HK : Hid (Gate.hasKind ss o.kd = true) := hk
    have HL : Hid (¬ o.vs.length = (Gate.shapeOf ss o.kd).fs.length) := by unfold Gate.wholeCount at hc; rw [hk] at hc; simpa [Hid] using hc
    clear hc hk
    go_enter Try.func22, Try.ntmps22
    go_wp2_with fail
    refine (l1Shape_yes _ _ _ _ _ (hw.mono ((Below.refl _ _).alloc (Nat.le_refl _) _)) HK.out).mono ?_
    rintro e w1 ⟨ix, hix, rfl, hsh, rfl⟩
    have HSh : Hid (Gate.shapeOf ss o.kd = ss[ix]) := hsh
    clear hsh
    obtain ⟨b, off, rfl, hb, hr⟩ := hw.rows (by rintro rfl; simp at hix)
    obtain ⟨fa, fcap, hs⟩ := hr ix hix
    have hcl := hs.list
    have hixI : (ix : Int) < (ss.length : Int) := by omega
    have hix0 : decide ((ix : Int) < 0) = false := by simp
    have hneq : ((ss[ix].fs.length : Int) != (o.vs.length : Int)) = true := by have h1 := HL.out; have h2 := HSh.out; rw [h2] at h1; rw [bne_iff_ne]; omega
    have hbw : b < w.heap.size := hb
    clear hr hs
    go_wp2_with fail
    go_quiet (fail)
    go_wp2_with fail
    go_ret2
    exact ⟨_, rfl, below_drewN (below2' _ _ _) _⟩
  · have HK : Hid (Gate.hasKind ss o.kd = false) := by simpa [Hid] using hk
    clear hc hk
    go_enter Try.func22, Try.ntmps22
    go_wp2_with fail
    refine (l1Shape_no _ _ _ _ _ (hw.mono ((Below.refl _ _).alloc (Nat.le_refl _) _)) HK.out).mono ?_
    rintro e w1 ⟨rfl, rfl⟩
    go_wp2_with fail
    go_quiet (fail)
    go_wp2_with fail
    go_ret2
    exact ⟨_, rfl, below_drewN (below2' _ _ _) _⟩

end Go.Proofs.Ytniokfnigmmiiaa

namespace Go.Proofs.Ytniokfnigmmiiaa
open Go.RowKit

theorem numRes_case (s : ByteArray) : (0 < numRes s ∧ decNum s = numRes s) ∨ (¬ 0 < numRes s ∧ decNum s = 0) := by
  unfold numRes decNum
  by_cases h : Gate.decOk s = true
  · rw [if_pos h, if_pos h]
    have := Gate.decS_nonneg s h
    omega
  · rw [if_neg h, if_neg h]
    omega

set_option maxHeartbeats 2000000 in
theorem specWeighs_no (l : Lw) (la lb lc : Option Addr) (lca lcb lcc : Nat) (o : Ob) (oa oa' : Option Addr) (ocap ocap' : Nat) (res : ByteArray) (w : World) (hl : LwAt w l la lb lc) (ho : ObAt w o oa oa') (hc : ¬ (Gate.wholeCount l.ss o = true ∧ res.toList.isEmpty = false)) :
    Calls Try.prog 7 #[.agg (l.cells la lb lc lca lcb lcc), .agg #[.string o.kd, .string o.nm, .string o.tm, .slice oa o.vs.length ocap, .bool o.en, .slice oa' o.hs.length ocap', .int .i64 o.vr], .string res] w fun e w' => e = .returned (.int .i64 (Gate.weighs l.ss o res)) ∧ Below w.heap.size w w' := by
  have HL : Hid (LwAt w l la lb lc) := hl
  have HO : Hid (ObAt w o oa oa') := ho
  have HW : Hid (Gate.weighs l.ss o res = 0) := by unfold Hid Gate.weighs; rw [if_neg hc]
  have HC : Hid (¬ (Gate.wholeCount l.ss o = true ∧ res.toList.isEmpty = false)) := hc
  clear hl ho hc
  unfold Lw.cells
  by_cases hk : Gate.wholeCount l.ss o = true
  · have he : res.toList.isEmpty = true := by
      cases h : res.toList.isEmpty with
      | true => rfl
      | false => exact absurd ⟨hk, h⟩ HC.out
    have HK : Hid (Gate.wholeCount l.ss o = true) := hk
    clear hk
    go_enter Try.func7, Try.ntmps7
    go_wp2_with fail
    refine (l2Fields_yes _ _ l.ss o _ _ _ _ _ (HL.out.ss.mono (below2' _ _ _)) (HO.out.mono (below2' _ _ _)) HK.out).mono ?_
    rintro e w1 ⟨fa, fcap, rfl, hfl, hb⟩
    have HB1 : Hid (Below w.heap.size w w1) := (below2' w _ _).trans (hb.mono (by simp; omega))
    clear hfl hb
    go_wp2_with fail
    go_ret
    exact ⟨ret_int HW.out.symm, HB1.out⟩
  · have HK : Hid (Gate.wholeCount l.ss o = false) := by unfold Hid; simpa using hk
    clear hk
    go_enter Try.func7, Try.ntmps7
    go_wp2_with fail
    refine (l2Fields_no _ _ l.ss o _ _ _ _ _ (HL.out.ss.mono (below2' _ _ _)) (HO.out.mono (below2' _ _ _)) HK.out).mono ?_
    rintro e w1 ⟨v, rfl, hb⟩
    have HB1 : Hid (Below w.heap.size w w1) := (below2' w _ _).trans (hb.mono (by simp; omega))
    clear hb
    go_wp2_with fail
    go_ret
    exact ⟨ret_int HW.out.symm, HB1.out⟩

set_option maxHeartbeats 4000000 in
theorem specWeighs_yes (l : Lw) (la lb lc : Option Addr) (lca lcb lcc : Nat) (o : Ob) (oa oa' : Option Addr) (ocap ocap' : Nat) (res : ByteArray) (w : World) (hl : LwAt w l la lb lc) (ho : ObAt w o oa oa') (hc : Gate.wholeCount l.ss o = true) (he : res.toList.isEmpty = false) (hlen : o.vs.length ≤ 1048576) :
    Calls Try.prog 7 #[.agg (l.cells la lb lc lca lcb lcc), .agg #[.string o.kd, .string o.nm, .string o.tm, .slice oa o.vs.length ocap, .bool o.en, .slice oa' o.hs.length ocap', .int .i64 o.vr], .string res] w fun e w' => e = .returned (.int .i64 (Gate.weighs l.ss o res)) ∧ Below w.heap.size w w' := by
  have HL : Hid (LwAt w l la lb lc) := hl
  have HO : Hid (ObAt w o oa oa') := ho
  have HW : Hid (Gate.weighs l.ss o res = (if res = o.kd then 1 else 0) + Gate.wsum (Gate.shapeOf l.ss o.kd).fs o.vs res (Gate.shapeOf l.ss o.kd).fs.length) := by unfold Hid Gate.weighs; rw [if_pos ⟨hc, he⟩]
  have HC : Hid (Gate.wholeCount l.ss o = true) := hc
  have HK : Hid (Gate.hasKind l.ss o.kd = true ∧ o.vs.length = (Gate.shapeOf l.ss o.kd).fs.length) := by unfold Gate.wholeCount at hc; unfold Hid; simpa using hc
  have HN : Hid (o.vs.length ≤ 1048576) := hlen
  clear hl ho hc hlen
  unfold Lw.cells
  go_enter Try.func7, Try.ntmps7
  go_wp2_with fail
  refine (l2Fields_yes _ _ l.ss o _ _ _ _ _ (HL.out.ss.mono (below2' _ _ _)) (HO.out.mono (below2' _ _ _)) HC.out).mono ?_
  rintro e w1 ⟨fa, fcap, rfl, hfl, hb⟩
  obtain ⟨hX0, hY0⟩ := two_boxes w #[.slice la l.ss.length lca, .slice lb l.ms.length lcb, .slice lc l.ts.length lcc] #[.string o.kd, .string o.nm, .string o.tm, .slice oa o.vs.length ocap, .bool o.en, .slice oa' o.hs.length ocap', .int .i64 o.vr] 37 39
  have hY1 := box_later hY0 (by simp) hb
  have hz1 : w.heap.size + 1 < w1.heap.size := by have := hb.size; simp at this; omega
  have HB1 : Hid (Below w.heap.size w w1) := (below2' w _ _).trans (hb.mono (by simp; omega))
  have HFl : Hid (FldsAt w1 fa (Gate.shapeOf l.ss o.kd).fs) := hfl.mono hb
  clear hfl hb hX0 hY0
  obtain ⟨S, HS⟩ : ∃ S, Hid (S = Gate.shapeOf l.ss o.kd) := ⟨_, rfl⟩
  rw [← HS.out] at HFl HK HW ⊢
  obtain ⟨n0, hn0⟩ : ∃ n0 : Int, n0 = if res = o.kd then 1 else 0 := ⟨_, rfl⟩
  have hb0 : 0 ≤ n0 ∧ n0 ≤ 1 := by rw [hn0]; split <;> omega
  rw [← hn0] at HW
  have HN0 : Hid (n0 = if res = o.kd then 1 else 0) := hn0
  clear hn0
  by_cases hk : res = o.kd
  all_goals (
    first
    | (have hq : (res.toList == o.kd.toList) = true := by rw [Gate.beq_toList]; simpa using hk)
    | (have hq : (res.toList == o.kd.toList) = false := by rw [Gate.beq_toList]; simpa using hk)
    have HKE := hid_of hk
    clear hk
    go_wp2_with fail
    go_loopw [9, 10] (fun nv iv wr => ∃ (k : Nat) (s : Int), k ≤ S.fs.length ∧ iv = .int .i64 k ∧ nv = .int .i64 s ∧ Hid (s = n0 + Gate.wsum S.fs o.vs res k ∧ Below w1.heap.size w1 wr)) (fun _ iv _ => S.fs.length - (intOf iv).toNat)
    case atStart => exact ⟨0, n0, Nat.zero_le _, rfl, by have := HN0.out; first | (rw [if_pos HKE.out] at this; rw [this]) | (rw [if_neg HKE.out] at this; rw [this]), by simp [Gate.wsum], Below.refl _ _⟩
    case round =>
      obtain ⟨k, s, hk, rfl, rfl, HQ⟩ := hrel
      have hsb : 0 ≤ s ∧ s ≤ 1 + k * 10000000 := by have h1 := HQ.out.1; have h2 := Gate.wsum_bound S.fs o.vs res k; omega
      have hkn : k ≤ 1048576 := by have := HN.out; have := HK.out.2; omega
      by_cases hlt : k < S.fs.length
      · obtain ⟨b, off, rfl, hb, hr⟩ := HFl.out.rows (by intro e; rw [e] at hlt; simp at hlt)
        obtain ⟨wa, wcap, hf⟩ := hr k hlt
        obtain ⟨c0, c1, c2, c3, c4, c5, c6, c7, c8, c9, c10⟩ := (hf.mono hb HQ.out.2).load
        have hlv : k < o.vs.length := by have := HK.out.2; omega
        have hltI : (k : Int) < (S.fs.length : Int) := by omega
        have hlvI : (k : Int) < (o.vs.length : Int) := by omega
        obtain ⟨vb, voff, rfl, hvb, hvc0⟩ := HO.out.vals.cells (by intro e; rw [e] at hlv; simp at hlv)
        have hvc := ((HB1.out.trans (HQ.out.2.mono HB1.out.size)).cell (p := ⟨vb, voff + k, none⟩) hvb).trans (hvc0 k hlv)
        have hvb' : vb < wr.heap.size := Nat.lt_of_lt_of_le hvb (HB1.out.trans (HQ.out.2.mono HB1.out.size)).size
        have hb' : b < wr.heap.size := Nat.lt_of_lt_of_le hb HQ.out.2.size
        have hY := box_later hY1 hz1 HQ.out.2
        have hz : w.heap.size + 1 < wr.heap.size := Nat.lt_of_lt_of_le hz1 HQ.out.2.size
        have HSt : Hid (Gate.wsum S.fs o.vs res (k + 1) = Gate.wsum S.fs o.vs res k + Gate.fieldWeight S.fs[k] o.vs[k] res) := Gate.wsum_at S.fs o.vs res k hlt hlv
        have HVs : Hid (o.vs[k].size ≤ maxLen) := HO.out.vals.small _ (List.getElem_mem _)
        have hnr : -1 ≤ numRes o.vs[k] ∧ numRes o.vs[k] ≤ 10000000 := by
          have h1 := numRes_case o.vs[k]; have h2 := Gate.decNum_bound o.vs[k]
          have h3 : numRes o.vs[k] = -1 ∨ 0 ≤ numRes o.vs[k] := by
            unfold numRes; split
            · rename_i h; exact Or.inr (Gate.decS_nonneg _ h)
            · exact Or.inl rfl
          omega
        clear hf hr hvc0 c0 c2 c3 c4 c5 c6 c7 c8 c9
        go_wp2_with fail
        refine (l1Number_any o.vs[k] _ HVs.out).mono ?_
        rintro e w2 ⟨rfl, rfl⟩
        by_cases h1 : S.fs[k].kd = 1
        · have e1 : (S.fs[k].kd == 1) = true := by simpa using h1
          by_cases h2 : S.fs[k].wg = res
          · have e2 : (S.fs[k].wg.toList == res.toList) = true := by rw [Gate.beq_toList]; simpa using h2
            have HFw : Hid (Gate.fieldWeight S.fs[k] o.vs[k] res = decNum o.vs[k]) := by unfold Hid Gate.fieldWeight; rw [if_pos ⟨h1, h2⟩]
            clear h1 h2
            rcases numRes_case o.vs[k] with ⟨hp, hd⟩ | ⟨hp, hd⟩
            · have HD := hid_of hd
              have hpd : decide (0 < numRes o.vs[k]) = true := by simpa using hp
              clear hd
              go_wp2_with fail
              first
                | exact ⟨⟨k + 1, s + numRes o.vs[k], by omega, by go_num, by go_num, by rw [HSt.out, HFw.out, HQ.out.1, HD.out]; omega, HQ.out.2⟩, step_less' hlt⟩
                | (go_quiet (fail); go_wp2_with fail; exact ⟨⟨k + 1, s + numRes o.vs[k], by omega, by go_num, by go_num, by rw [HSt.out, HFw.out, HQ.out.1, HD.out]; omega, below_drewN HQ.out.2 _⟩, step_less' hlt⟩)
            · have HD := hid_of hd
              have hpd : decide (0 < numRes o.vs[k]) = false := by simpa using hp
              clear hd
              go_wp2_with fail
              first
                | exact ⟨⟨k + 1, s, by omega, by go_num, rfl, by rw [HSt.out, HFw.out, HQ.out.1, HD.out]; omega, HQ.out.2⟩, step_less' hlt⟩
                | (go_quiet (fail); go_wp2_with fail; exact ⟨⟨k + 1, s, by omega, by go_num, rfl, by rw [HSt.out, HFw.out, HQ.out.1, HD.out]; omega, below_drewN HQ.out.2 _⟩, step_less' hlt⟩)
          · have e2 : (S.fs[k].wg.toList == res.toList) = false := by rw [Gate.beq_toList]; simpa using h2
            have HFw : Hid (Gate.fieldWeight S.fs[k] o.vs[k] res = 0) := by unfold Hid Gate.fieldWeight; rw [if_neg (fun h => h2 h.2)]
            clear h1 h2
            go_wp2_with fail
            first
              | exact ⟨⟨k + 1, s, by omega, by go_num, rfl, by rw [HSt.out, HFw.out, HQ.out.1]; omega, HQ.out.2⟩, step_less' hlt⟩
              | (go_quiet (fail); go_wp2_with fail; exact ⟨⟨k + 1, s, by omega, by go_num, rfl, by rw [HSt.out, HFw.out, HQ.out.1]; omega, below_drewN HQ.out.2 _⟩, step_less' hlt⟩)
        · have e1 : (S.fs[k].kd == 1) = false := by simpa using h1
          have HFw : Hid (Gate.fieldWeight S.fs[k] o.vs[k] res = 0) := by unfold Hid Gate.fieldWeight; rw [if_neg (fun h => h1 h.1)]
          clear h1
          go_wp2_with fail
          first
            | exact ⟨⟨k + 1, s, by omega, by go_num, rfl, by rw [HSt.out, HFw.out, HQ.out.1]; omega, HQ.out.2⟩, step_less' hlt⟩
            | (go_quiet (fail); go_wp2_with fail; exact ⟨⟨k + 1, s, by omega, by go_num, rfl, by rw [HSt.out, HFw.out, HQ.out.1]; omega, below_drewN HQ.out.2 _⟩, step_less' hlt⟩)
      · have e : k = S.fs.length := by omega
        subst e
        have HE : Hid (Gate.weighs l.ss o res = s) := by unfold Hid; rw [HW.out, HQ.out.1]
        clear hlt hk
        go_wp2_with fail
        go_ret
        exact ⟨ret_int HE.out.symm, HB1.out.trans (HQ.out.2.mono HB1.out.size)⟩)

theorem implWeighs_any (l : Lw) (la lb lc : Option Addr) (lca lcb lcc : Nat) (o : Ob) (oa oa' : Option Addr) (ocap ocap' : Nat) (res : ByteArray) (w : World) (hl : LwAt w l la lb lc) (ho : ObAt w o oa oa') (hlen : o.vs.length ≤ 1048576) :
    Calls Try.prog 10 #[.agg (l.cells la lb lc lca lcb lcc), .agg #[.string o.kd, .string o.nm, .string o.tm, .slice oa o.vs.length ocap, .bool o.en, .slice oa' o.hs.length ocap', .int .i64 o.vr], .string res] w fun e w' => e = .returned (.int .i64 (Gate.weighs l.ss o res)) ∧ Below w.heap.size w w' := by
  by_cases hc : Gate.wholeCount l.ss o = true ∧ res.toList.isEmpty = false
  · exact implWeighs_yes l la lb lc lca lcb lcc o oa oa' ocap ocap' res w hl ho hc.1 hc.2 hlen
  · exact implWeighs_no l la lb lc lca lcb lcc o oa oa' ocap ocap' res w hl ho hc

theorem specWeighs_any (l : Lw) (la lb lc : Option Addr) (lca lcb lcc : Nat) (o : Ob) (oa oa' : Option Addr) (ocap ocap' : Nat) (res : ByteArray) (w : World) (hl : LwAt w l la lb lc) (ho : ObAt w o oa oa') (hlen : o.vs.length ≤ 1048576) :
    Calls Try.prog 7 #[.agg (l.cells la lb lc lca lcb lcc), .agg #[.string o.kd, .string o.nm, .string o.tm, .slice oa o.vs.length ocap, .bool o.en, .slice oa' o.hs.length ocap', .int .i64 o.vr], .string res] w fun e w' => e = .returned (.int .i64 (Gate.weighs l.ss o res)) ∧ Below w.heap.size w w' := by
  by_cases hc : Gate.wholeCount l.ss o = true ∧ res.toList.isEmpty = false
  · exact specWeighs_yes l la lb lc lca lcb lcc o oa oa' ocap ocap' res w hl ho hc.1 hc.2 hlen
  · exact specWeighs_no l la lb lc lca lcb lcc o oa oa' ocap ocap' res w hl ho hc

end Go.Proofs.Ytniokfnigmmiiaa

namespace Go.Proofs.Ytniokfnigmmiiaa
open Go.RowKit

theorem lt_of_some {w : World} {b : Nat} {o : Obj} (h : w.heap[b]? = some o) : b < w.heap.size := (Array.getElem?_eq_some_iff.1 h).1
theorem own_weakenms {lo lo' : Nat} {w : World} {bo : Nat} {ms : List Mnd} {k : Nat} (h : MndsOwn lo w bo ms k) (hl : lo' ≤ lo) : MndsOwn lo' w bo ms k := ⟨Nat.le_trans hl h.low, h.rows⟩
theorem own_weakents {ty : TypeId} {lo lo' : Nat} {w : World} {bo : Nat} {ts : List Tm} {k : Nat} (h : TmsOwn ty lo w bo ts k) (hl : lo' ≤ lo) : TmsOwn ty lo' w bo ts k := ⟨Nat.le_trans hl h.low, h.rows⟩

set_option maxHeartbeats 2000000 in
theorem toGateLaw_own (l : Lw) (a b c : Option Addr) (ca cb cc : Nat) (w : World) (hl : LwAt w l a b c) (hf : l.Few) :
    Calls Try.prog 8 #[.agg (l.cells a b c ca cb cc)] w fun e w' => ∃ lo a' b' c', e = .returned (.agg (l.cells (some ⟨a', 0, none⟩) (some ⟨b', 0, none⟩) (some ⟨c', 0, none⟩) l.ss.length l.ms.length l.ts.length)) ∧ w.heap.size ≤ lo ∧ LwOwn lo w' l a' b' c' ∧ Below w.heap.size w w' := by
  have HL : Hid (LwAt w l a b c) := hl
  have HF : Hid l.Few := hf
  clear hl hf
  unfold Lw.cells
  go_enter Try.func8, Try.ntmps8
  go_wp2_with fail
  have k0 := blk3 w (.cells #[.slice a l.ss.length ca, .slice b l.ms.length cb, .slice c l.ts.length cc] 26) (.cells #[.slice none 0 0, .slice none 0 0, .slice none 0 0] 37) (.cells #[.slice none 0 0, .slice none 0 0, .slice none 0 0] 37)
  have hB0 := below3' w (.cells #[.slice a l.ss.length ca, .slice b l.ms.length cb, .slice c l.ts.length cc] 26) (.cells #[.slice none 0 0, .slice none 0 0, .slice none 0 0] 37) (.cells #[.slice none 0 0, .slice none 0 0, .slice none 0 0] 37)
  obtain ⟨W0, hW0⟩ : ∃ W0, W0 = ((w.alloc (.cells #[.slice a l.ss.length ca, .slice b l.ms.length cb, .slice c l.ts.length cc] 26)).alloc (.cells #[.slice none 0 0, .slice none 0 0, .slice none 0 0] 37)).alloc (.cells #[.slice none 0 0, .slice none 0 0, .slice none 0 0] 37) := ⟨_, rfl⟩
  have hz0 : w.heap.size + 1 + 1 < W0.heap.size := by rw [hW0]; simp
  rw [← hW0] at k0 hB0 ⊢
  clear hW0
  have HLO : Hid (w.heap.size + 1 + 1 < W0.heap.size) := hz0
  refine (toGateShapeS_any _ _ l.ss _ (HL.out.ss.mono hB0) HF.out.ss.1 HF.out.ss.2).mono ?_
  rintro e w1 ⟨rfl, hown, hb⟩
  obtain ⟨a', ha'⟩ : ∃ a', a' = W0.heap.size := ⟨_, rfl⟩
  have HO1 : Hid (ShpsOwn W0.heap.size w1 a' l.ss l.ss.length) := by rw [ha']; exact hown
  have hX1 := (hb.block _ (by omega)).trans k0.1
  have hR1 := (hb.block _ (by omega)).trans k0.2.1
  have hO1 := (hb.block _ hz0).trans k0.2.2
  have HZ1 : Hid (W0.heap.size ≤ w1.heap.size) := hb.size
  have HB1 : Hid (Below w.heap.size w w1) := hB0.trans (hb.mono hB0.size)
  rw [← ha']
  clear hown hb k0 hB0 hz0 ha'
  have cO1 := fun j => cell_of_block (o := j) hO1
  have fO1 := fun j => frozen_of_block (o := j) hO1
  have HX1' : Hid ((w1.setCell ⟨w.heap.size + 1 + 1, 0, none⟩ (.slice (some ⟨a', 0, none⟩) l.ss.length l.ss.length)).heap[w.heap.size]? = some (.cells #[.slice a l.ss.length ca, .slice b l.ms.length cb, .slice c l.ts.length cc] 26)) := (setCell_other (by omega)).trans hX1
  have HR1' : Hid ((w1.setCell ⟨w.heap.size + 1 + 1, 0, none⟩ (.slice (some ⟨a', 0, none⟩) l.ss.length l.ss.length)).heap[w.heap.size + 1]? = some (.cells #[.slice none 0 0, .slice none 0 0, .slice none 0 0] 37)) := (setCell_other (by omega)).trans hR1
  have HO1' : Hid ((w1.setCell ⟨w.heap.size + 1 + 1, 0, none⟩ (.slice (some ⟨a', 0, none⟩) l.ss.length l.ss.length)).heap[w.heap.size + 1 + 1]? = some (.cells #[.slice (some ⟨a', 0, none⟩) l.ss.length l.ss.length, .slice none 0 0, .slice none 0 0] 37)) := heap_setCell_at hO1 _
  have HAB1 : Hid (Above W0.heap.size w1 (w1.setCell ⟨w.heap.size + 1 + 1, 0, none⟩ (.slice (some ⟨a', 0, none⟩) l.ss.length l.ss.length))) := Above.setCell HLO.out _
  have HBB1 : Hid (Below w.heap.size w (w1.setCell ⟨w.heap.size + 1 + 1, 0, none⟩ (.slice (some ⟨a', 0, none⟩) l.ss.length l.ss.length))) := HB1.out.setCell (by show w.heap.size ≤ w.heap.size + 1 + 1; omega) _
  have HZZ1 : Hid (W0.heap.size ≤ (w1.setCell ⟨w.heap.size + 1 + 1, 0, none⟩ (.slice (some ⟨a', 0, none⟩) l.ss.length l.ss.length)).heap.size) := by unfold Hid; rw [World.size_setCell]; exact HZ1.out
  clear hX1 hR1 hO1
  have cX1 := fun j => cell_of_block (o := j) HX1'.out
  have cR1 := fun j => cell_of_block (o := j) HR1'.out
  have fR1 := fun j => frozen_of_block (o := j) HR1'.out
  have cOO1 := fun j => cell_of_block (o := j) HO1'.out
  go_wp2_with fail
  refine (toGateMendS_any _ _ l.ms _ (HL.out.ms.mono HBB1.out) HF.out.ms).mono ?_
  rintro e w2 ⟨rfl, hown, hb⟩
  obtain ⟨b', hp'⟩ : ∃ b', b' = (w1.setCell ⟨w.heap.size + 1 + 1, 0, none⟩ (.slice (some ⟨a', 0, none⟩) l.ss.length l.ss.length)).heap.size := ⟨_, rfl⟩
  have HN2 : Hid (MndsOwn W0.heap.size w2 b' l.ms l.ms.length) := by rw [hp']; exact own_weakenms hown HZZ1.out
  have HAA2 : Hid (Above W0.heap.size w1 w2) := HAB1.out.trans (Above.below hb)
  have hX2 := (hb.block _ (lt_of_some HX1'.out)).trans HX1'.out
  have hR2 := (hb.block _ (lt_of_some HR1'.out)).trans HR1'.out
  have hO2 := (hb.block _ (lt_of_some HO1'.out)).trans HO1'.out
  have HZ2 : Hid (W0.heap.size ≤ w2.heap.size) := Nat.le_trans HZZ1.out hb.size
  have HB2 : Hid (Below w.heap.size w w2) := HBB1.out.trans (hb.mono HBB1.out.size)
  rw [← hp']
  clear hown hb hp' cX1 cR1 fR1 cOO1
  have cO2 := fun j => cell_of_block (o := j) hO2
  have fO2 := fun j => frozen_of_block (o := j) hO2
  have HX2' : Hid ((w2.setCell ⟨w.heap.size + 1 + 1, 1, none⟩ (.slice (some ⟨b', 0, none⟩) l.ms.length l.ms.length)).heap[w.heap.size]? = some (.cells #[.slice a l.ss.length ca, .slice b l.ms.length cb, .slice c l.ts.length cc] 26)) := (setCell_other (by omega)).trans hX2
  have HR2' : Hid ((w2.setCell ⟨w.heap.size + 1 + 1, 1, none⟩ (.slice (some ⟨b', 0, none⟩) l.ms.length l.ms.length)).heap[w.heap.size + 1]? = some (.cells #[.slice none 0 0, .slice none 0 0, .slice none 0 0] 37)) := (setCell_other (by omega)).trans hR2
  have HO2' : Hid ((w2.setCell ⟨w.heap.size + 1 + 1, 1, none⟩ (.slice (some ⟨b', 0, none⟩) l.ms.length l.ms.length)).heap[w.heap.size + 1 + 1]? = some (.cells #[.slice (some ⟨a', 0, none⟩) l.ss.length l.ss.length, .slice (some ⟨b', 0, none⟩) l.ms.length l.ms.length, .slice none 0 0] 37)) := heap_setCell_at hO2 _
  have HAB2 : Hid (Above W0.heap.size w2 (w2.setCell ⟨w.heap.size + 1 + 1, 1, none⟩ (.slice (some ⟨b', 0, none⟩) l.ms.length l.ms.length))) := Above.setCell HLO.out _
  have HBB2 : Hid (Below w.heap.size w (w2.setCell ⟨w.heap.size + 1 + 1, 1, none⟩ (.slice (some ⟨b', 0, none⟩) l.ms.length l.ms.length))) := HB2.out.setCell (by show w.heap.size ≤ w.heap.size + 1 + 1; omega) _
  have HZZ2 : Hid (W0.heap.size ≤ (w2.setCell ⟨w.heap.size + 1 + 1, 1, none⟩ (.slice (some ⟨b', 0, none⟩) l.ms.length l.ms.length)).heap.size) := by unfold Hid; rw [World.size_setCell]; exact HZ2.out
  clear hX2 hR2 hO2
  have cX2 := fun j => cell_of_block (o := j) HX2'.out
  have cR2 := fun j => cell_of_block (o := j) HR2'.out
  have fR2 := fun j => frozen_of_block (o := j) HR2'.out
  have cOO2 := fun j => cell_of_block (o := j) HO2'.out
  go_wp2_with fail
  refine (toGateTeamS_any _ _ l.ts _ (HL.out.ts.mono HBB2.out) HF.out.ts).mono ?_
  rintro e w3 ⟨rfl, hown, hb⟩
  obtain ⟨c', hp'⟩ : ∃ c', c' = (w2.setCell ⟨w.heap.size + 1 + 1, 1, none⟩ (.slice (some ⟨b', 0, none⟩) l.ms.length l.ms.length)).heap.size := ⟨_, rfl⟩
  have HN3 : Hid (TmsOwn 113 W0.heap.size w3 c' l.ts l.ts.length) := by rw [hp']; exact own_weakents hown HZZ2.out
  have HAA3 : Hid (Above W0.heap.size w2 w3) := HAB2.out.trans (Above.below hb)
  have hX3 := (hb.block _ (lt_of_some HX2'.out)).trans HX2'.out
  have hR3 := (hb.block _ (lt_of_some HR2'.out)).trans HR2'.out
  have hO3 := (hb.block _ (lt_of_some HO2'.out)).trans HO2'.out
  have HZ3 : Hid (W0.heap.size ≤ w3.heap.size) := Nat.le_trans HZZ2.out hb.size
  have HB3 : Hid (Below w.heap.size w w3) := HBB2.out.trans (hb.mono HBB2.out.size)
  rw [← hp']
  clear hown hb hp' cX2 cR2 fR2 cOO2
  have cO3 := fun j => cell_of_block (o := j) hO3
  have fO3 := fun j => frozen_of_block (o := j) hO3
  have HX3' : Hid ((w3.setCell ⟨w.heap.size + 1 + 1, 2, none⟩ (.slice (some ⟨c', 0, none⟩) l.ts.length l.ts.length)).heap[w.heap.size]? = some (.cells #[.slice a l.ss.length ca, .slice b l.ms.length cb, .slice c l.ts.length cc] 26)) := (setCell_other (by omega)).trans hX3
  have HR3' : Hid ((w3.setCell ⟨w.heap.size + 1 + 1, 2, none⟩ (.slice (some ⟨c', 0, none⟩) l.ts.length l.ts.length)).heap[w.heap.size + 1]? = some (.cells #[.slice none 0 0, .slice none 0 0, .slice none 0 0] 37)) := (setCell_other (by omega)).trans hR3
  have HO3' : Hid ((w3.setCell ⟨w.heap.size + 1 + 1, 2, none⟩ (.slice (some ⟨c', 0, none⟩) l.ts.length l.ts.length)).heap[w.heap.size + 1 + 1]? = some (.cells #[.slice (some ⟨a', 0, none⟩) l.ss.length l.ss.length, .slice (some ⟨b', 0, none⟩) l.ms.length l.ms.length, .slice (some ⟨c', 0, none⟩) l.ts.length l.ts.length] 37)) := heap_setCell_at hO3 _
  have HAB3 : Hid (Above W0.heap.size w3 (w3.setCell ⟨w.heap.size + 1 + 1, 2, none⟩ (.slice (some ⟨c', 0, none⟩) l.ts.length l.ts.length))) := Above.setCell HLO.out _
  have HBB3 : Hid (Below w.heap.size w (w3.setCell ⟨w.heap.size + 1 + 1, 2, none⟩ (.slice (some ⟨c', 0, none⟩) l.ts.length l.ts.length))) := HB3.out.setCell (by show w.heap.size ≤ w.heap.size + 1 + 1; omega) _
  have HZZ3 : Hid (W0.heap.size ≤ (w3.setCell ⟨w.heap.size + 1 + 1, 2, none⟩ (.slice (some ⟨c', 0, none⟩) l.ts.length l.ts.length)).heap.size) := by unfold Hid; rw [World.size_setCell]; exact HZ3.out
  clear hX3 hR3 hO3
  have cX3 := fun j => cell_of_block (o := j) HX3'.out
  have cR3 := fun j => cell_of_block (o := j) HR3'.out
  have fR3 := fun j => frozen_of_block (o := j) HR3'.out
  have cOO3 := fun j => cell_of_block (o := j) HO3'.out
  go_wp2_with fail
  refine bodyPost_ret (v := .agg #[.slice (some ⟨a', 0, none⟩) l.ss.length l.ss.length, .slice (some ⟨b', 0, none⟩) l.ms.length l.ms.length, .slice (some ⟨c', 0, none⟩) l.ts.length l.ts.length]) (by simp [results, Try.results8, go_sem, cR3]) rfl ⟨W0.heap.size, a', b', c', rfl, by have := HLO.out; omega, ?_, ?_⟩
  · have hlt1 : w.heap.size + 1 < W0.heap.size := by have := HLO.out; omega
    have hA3 : ∀ v0 v1 v2, Above W0.heap.size w3 ((((w3.setCell ⟨w.heap.size + 1 + 1, 2, none⟩ (.slice (some ⟨c', 0, none⟩) l.ts.length l.ts.length)).setCell ⟨w.heap.size + 1, 0, none⟩ v0).setCell ⟨w.heap.size + 1, 1, none⟩ v1).setCell ⟨w.heap.size + 1, 2, none⟩ v2) := fun v0 v1 v2 => HAB3.out.trans (((Above.setCell (p := ⟨w.heap.size + 1, 0, none⟩) hlt1 v0).trans (Above.setCell (p := ⟨w.heap.size + 1, 1, none⟩) hlt1 v1)).trans (Above.setCell (p := ⟨w.heap.size + 1, 2, none⟩) hlt1 v2))
    exact ⟨HO1.out.above ((HAA2.out.trans HAA3.out).trans (hA3 _ _ _)), HN2.out.above (HAA3.out.trans (hA3 _ _ _)), HN3.out.above (hA3 _ _ _)⟩
  · exact ((HBB3.out.setCell (Nat.le_succ _) _).setCell (Nat.le_succ _) _).setCell (Nat.le_succ _) _

theorem toGateLaw_any (l : Lw) (a b c : Option Addr) (ca cb cc : Nat) (w : World) (hl : LwAt w l a b c) (hf : l.Few) :
    Calls Try.prog 8 #[.agg (l.cells a b c ca cb cc)] w fun e w' => ∃ a' b' c', e = .returned (.agg (l.cells a' b' c' l.ss.length l.ms.length l.ts.length)) ∧ LwAt w' l a' b' c' ∧ Below w.heap.size w w' := by
  refine (toGateLaw_own l a b c ca cb cc w hl hf).mono ?_
  rintro e w' ⟨lo, a', b', c', he, _, ho, hb⟩
  exact ⟨_, _, _, he, ho.at hl.small, hb⟩

end Go.Proofs.Ytniokfnigmmiiaa
