import Derived.Test.YtniokfnigmmiiaaM09
import Derived.Test.YtniokfnigmmiiaaM10
import Derived.Test.YtniokfnigmmiiaaM05
import Derived.Deep.QuietTactic
import Derived.BigQuiet
import Derived.Test.YtniokfnigmmiiaaM01
import Derived.Test.YtniokfnigmmiiaaM02
import Derived.Test.YtniokfnigmmiiaaM03
namespace Go.Proofs.Ytniokfnigmmiiaa
open Go.RowKit

namespace Gate
/-- What one field weighs of a resource. -/
def fieldWeight (f : Fld) (v res : ByteArray) : Int := if f.kd = 1 ∧ f.wg = res then decNum v else 0
def wsum (fs : List Fld) (vs : List ByteArray) (res : ByteArray) : Nat → Int
  | 0 => 0
  | k + 1 => wsum fs vs res k + fieldWeight (fs.getD k noField) (vs.getD k ByteArray.empty) res
def weighs (ss : List Shp) (o : Ob) (res : ByteArray) : Int :=
  if wholeCount ss o = true ∧ res.toList.isEmpty = false then (if res = o.kd then 1 else 0) + wsum (shapeOf ss o.kd).fs o.vs res (shapeOf ss o.kd).fs.length else 0

theorem decNum_bound (s : ByteArray) : 0 ≤ decNum s ∧ decNum s ≤ 10000000 := by
  unfold decNum
  split
  · rename_i h
    refine ⟨decS_nonneg s h, ?_⟩
    unfold decOk at h
    simp only [Bool.and_eq_true, decide_eq_true_eq] at h
    have := (dec_bound s.data.toList h.2 7 (by have := h.1.1.2; simpa using this)).2
    unfold decS
    omega
  · omega

theorem fieldWeight_bound (f : Fld) (v res : ByteArray) : 0 ≤ fieldWeight f v res ∧ fieldWeight f v res ≤ 10000000 := by
  unfold fieldWeight
  split
  · exact decNum_bound v
  · omega

theorem wsum_bound (fs : List Fld) (vs : List ByteArray) (res : ByteArray) : ∀ k, 0 ≤ wsum fs vs res k ∧ wsum fs vs res k ≤ k * 10000000
  | 0 => by simp [wsum]
  | k + 1 => by
    have h1 := wsum_bound fs vs res k
    have h2 := fieldWeight_bound (fs.getD k noField) (vs.getD k ByteArray.empty) res
    simp only [wsum]
    omega

theorem weighs_bound (ss : List Shp) (o : Ob) (res : ByteArray) (h : o.vs.length ≤ 1048576) : 0 ≤ weighs ss o res ∧ weighs ss o res ≤ 20000000000000 := by
  unfold weighs
  split
  · rename_i hc
    have hc1 := hc.1
    unfold wholeCount at hc1
    simp only [Bool.and_eq_true, decide_eq_true_eq] at hc1
    have := wsum_bound (shapeOf ss o.kd).fs o.vs res (shapeOf ss o.kd).fs.length
    have h3 := hc1.2
    split <;> omega
  · omega

theorem wsum_at (fs : List Fld) (vs : List ByteArray) (res : ByteArray) (k : Nat) (h : k < fs.length) (h' : k < vs.length) : wsum fs vs res (k + 1) = wsum fs vs res k + fieldWeight fs[k] vs[k] res := by
  have e1 : fs.getD k noField = fs[k] := by simp [List.getD, h]
  have e2 : vs.getD k ByteArray.empty = vs[k] := by simp [List.getD, h']
  simp only [wsum]
  rw [e1, e2]
end Gate

end Go.Proofs.Ytniokfnigmmiiaa

namespace Go.Proofs.Ytniokfnigmmiiaa
open Go.RowKit

theorem hid_of {p : Prop} (h : p) : Hid p := h

theorem two_boxes (w : World) (X Y : Array Value) (s t : TypeId) : (∀ j, ((w.alloc (.cells X s)).alloc (.cells Y t)).cell? ⟨w.heap.size, j, none⟩ = X[j]?) ∧ ∀ j, ((w.alloc (.cells X s)).alloc (.cells Y t)).cell? ⟨w.heap.size + 1, j, none⟩ = Y[j]? := by
  refine ⟨box_later (box_new w X s) (by simp) ((Below.refl _ _).alloc (Nat.le_refl _) _), fun j => ?_⟩
  have h := box_new (w.alloc (.cells X s)) Y t j
  rw [World.size_alloc] at h
  exact h

set_option maxHeartbeats 2000000 in
theorem implWeighs_no (l : Lw) (la lb lc : Option Addr) (lca lcb lcc : Nat) (o : Ob) (oa oa' : Option Addr) (ocap ocap' : Nat) (res : ByteArray) (w : World) (hl : LwAt w l la lb lc) (_ho : ObAt w o oa oa') (hc : ¬ (Gate.wholeCount l.ss o = true ∧ res.toList.isEmpty = false)) :
    Calls Try.prog 10 #[.agg (l.cells la lb lc lca lcb lcc), .agg #[.string o.kd, .string o.nm, .string o.tm, .slice oa o.vs.length ocap, .bool o.en, .slice oa' o.hs.length ocap', .int .i64 o.vr], .string res] w fun e w' => e = .returned (.int .i64 (Gate.weighs l.ss o res)) ∧ Below w.heap.size w w' := by
  have HL : Hid (LwAt w l la lb lc) := hl
  have HW : Hid (Gate.weighs l.ss o res = 0) := by unfold Hid Gate.weighs; rw [if_neg hc]
  have HC : Hid (¬ (Gate.wholeCount l.ss o = true ∧ res.toList.isEmpty = false)) := hc
  clear hl hc
  unfold Lw.cells
  go_enter Try.func10, Try.ntmps10
  go_wp2_with fail
  refine (shapeOf_any _ _ l.ss o.kd _ (HL.out.ss.mono (below2' _ _ _))).mono ?_
  rintro e w1 ⟨fa, fcap, rfl, hfl, hb⟩
  obtain ⟨hX0, hY0⟩ := two_boxes w #[.slice la l.ss.length lca, .slice lb l.ms.length lcb, .slice lc l.ts.length lcc] #[.string o.kd, .string o.nm, .string o.tm, .slice oa o.vs.length ocap, .bool o.en, .slice oa' o.hs.length ocap', .int .i64 o.vr] 37 39
  have hX1 := box_later hX0 (by simp; omega) hb
  have hY1 := box_later hY0 (by simp) hb
  have hz1 : w.heap.size + 1 < w1.heap.size := by have := hb.size; simp at this; omega
  have HB1 : Hid (Below w.heap.size w w1) := (below2' w _ _).trans (hb.mono (by simp; omega))
  clear hfl hb hX0 hY0
  by_cases hk : Gate.hasKind l.ss o.kd = true
  rotate_left
  · have hk' : Gate.hasKind l.ss o.kd = false := by simpa using hk
    rw [hk']
    clear hk hk'
    go_wp2_with fail
    go_ret
    exact ⟨ret_int HW.out.symm, HB1.out.alloc HB1.out.size _⟩
  by_cases he : res.toList.isEmpty = true
  · have HK : Hid (Gate.hasKind l.ss o.kd = true) := hk
    rw [HK.out]
    clear hk
    go_wp2_with fail
    go_ret
    exact ⟨ret_int HW.out.symm, HB1.out.alloc HB1.out.size _⟩
  · have he' : res.toList.isEmpty = false := by simpa using he
    have hne : ((o.vs.length : Int) != ((Gate.shapeOf l.ss o.kd).fs.length : Int)) = true := by
      have h := HC.out
      unfold Gate.wholeCount at h
      rw [hk] at h
      simp only [Bool.true_and, decide_eq_true_eq] at h
      have h2 : ¬ o.vs.length = (Gate.shapeOf l.ss o.kd).fs.length := fun e => h ⟨e, he'⟩
      simp; omega
    have HK : Hid (Gate.hasKind l.ss o.kd = true) := hk
    rw [HK.out]
    clear he hk
    go_wp2_with fail
    go_ret
    exact ⟨ret_int HW.out.symm, HB1.out.alloc HB1.out.size _⟩

set_option maxHeartbeats 4000000 in
theorem implWeighs_yes (l : Lw) (la lb lc : Option Addr) (lca lcb lcc : Nat) (o : Ob) (oa oa' : Option Addr) (ocap ocap' : Nat) (res : ByteArray) (w : World) (hl : LwAt w l la lb lc) (ho : ObAt w o oa oa') (hc : Gate.wholeCount l.ss o = true) (he : res.toList.isEmpty = false) (hlen : o.vs.length ≤ 1048576) :
    Calls Try.prog 10 #[.agg (l.cells la lb lc lca lcb lcc), .agg #[.string o.kd, .string o.nm, .string o.tm, .slice oa o.vs.length ocap, .bool o.en, .slice oa' o.hs.length ocap', .int .i64 o.vr], .string res] w fun e w' => e = .returned (.int .i64 (Gate.weighs l.ss o res)) ∧ Below w.heap.size w w' := by
  have HL : Hid (LwAt w l la lb lc) := hl
  have HO : Hid (ObAt w o oa oa') := ho
  have HW : Hid (Gate.weighs l.ss o res = (if res = o.kd then 1 else 0) + Gate.wsum (Gate.shapeOf l.ss o.kd).fs o.vs res (Gate.shapeOf l.ss o.kd).fs.length) := by unfold Hid Gate.weighs; rw [if_pos ⟨hc, he⟩]
  have HK : Hid (Gate.hasKind l.ss o.kd = true ∧ o.vs.length = (Gate.shapeOf l.ss o.kd).fs.length) := by unfold Gate.wholeCount at hc; unfold Hid; simpa using hc
  have HN : Hid (o.vs.length ≤ 1048576) := hlen
  clear hl ho hc hlen
  unfold Lw.cells
  go_enter Try.func10, Try.ntmps10
  go_wp2_with fail
  refine (shapeOf_any _ _ l.ss o.kd _ (HL.out.ss.mono (below2' _ _ _))).mono ?_
  rintro e w1 ⟨fa, fcap, rfl, hfl, hb⟩
  obtain ⟨hX0, hY0⟩ := two_boxes w #[.slice la l.ss.length lca, .slice lb l.ms.length lcb, .slice lc l.ts.length lcc] #[.string o.kd, .string o.nm, .string o.tm, .slice oa o.vs.length ocap, .bool o.en, .slice oa' o.hs.length ocap', .int .i64 o.vr] 37 39
  have hY1 := box_later hY0 (by simp) hb
  have hz1 : w.heap.size + 1 < w1.heap.size := by have := hb.size; simp at this; omega
  have HB1 : Hid (Below w.heap.size w w1) := (below2' w _ _).trans (hb.mono (by simp; omega))
  have HFl : Hid (FldsAt w1 fa (Gate.shapeOf l.ss o.kd).fs) := hfl.mono hb
  clear hfl hb hX0 hY0
  rw [HK.out.1]
  obtain ⟨S, HS⟩ : ∃ S, Hid (S = Gate.shapeOf l.ss o.kd) := ⟨_, rfl⟩
  rw [← HS.out] at HFl HK HW ⊢
  have hne : ((o.vs.length : Int) != (S.fs.length : Int)) = false := by have := HK.out.2; simp [this]
  obtain ⟨n0, hn0⟩ : ∃ n0 : Int, n0 = if res = o.kd then 1 else 0 := ⟨_, rfl⟩
  have hb0 : 0 ≤ n0 ∧ n0 ≤ 1 := by rw [hn0]; split <;> omega
  rw [← hn0] at HW
  have HN0 : Hid (n0 = if res = o.kd then 1 else 0) := hn0
  clear hn0
  by_cases hk : res = o.kd
  all_goals (
    first
    | (have hq : (res.toList == o.kd.toList) = true := by rw [Gate.beq_toList]; simpa using hk)
    | (have hq : (res.toList == o.kd.toList) = false := by rw [Gate.beq_toList]; simpa using hk)
    have HKE := hid_of hk
    clear hk
    go_wp2_with fail
    go_loopw [9, 44] (fun nv iv wr => ∃ (k : Nat) (s : Int), k ≤ S.fs.length ∧ iv = .int .i64 k ∧ nv = .int .i64 s ∧ Hid (s = n0 + Gate.wsum S.fs o.vs res k ∧ Below w1.heap.size w1 wr)) (fun _ iv _ => S.fs.length - (intOf iv).toNat)
    case atStart => exact ⟨0, n0, Nat.zero_le _, rfl, by have := HN0.out; first | (rw [if_pos HKE.out] at this; rw [this]) | (rw [if_neg HKE.out] at this; rw [this]), by simp [Gate.wsum], (Below.refl _ _).alloc (Nat.le_refl _) _⟩
    case round =>
      obtain ⟨k, s, hk, rfl, rfl, HQ⟩ := hrel
      have hsb : 0 ≤ s ∧ s ≤ 1 + k * 10000000 := by have h1 := HQ.out.1; have h2 := Gate.wsum_bound S.fs o.vs res k; omega
      have hkn : k ≤ 1048576 := by have := HN.out; have := HK.out.2; omega
      by_cases hlt : k < S.fs.length
      · obtain ⟨b, off, rfl, hb, hr⟩ := HFl.out.rows (by intro e; rw [e] at hlt; simp at hlt)
        obtain ⟨wa, wcap, hf⟩ := hr k hlt
        obtain ⟨c0, c1, c2, c3, c4, c5, c6, c7, c8, c9, c10⟩ := (hf.mono hb HQ.out.2).load
        have hlv : k < o.vs.length := by have := HK.out.2; omega
        have hltI : (k : Int) < (S.fs.length : Int) := by omega
        have hlvI : (k : Int) < (o.vs.length : Int) := by omega
        obtain ⟨vb, voff, rfl, hvb, hvc0⟩ := HO.out.vals.cells (by intro e; rw [e] at hlv; simp at hlv)
        have hvc := ((HB1.out.trans (HQ.out.2.mono HB1.out.size)).cell (p := ⟨vb, voff + k, none⟩) hvb).trans (hvc0 k hlv)
        have hvb' : vb < wr.heap.size := Nat.lt_of_lt_of_le hvb (HB1.out.trans (HQ.out.2.mono HB1.out.size)).size
        have hb' : b < wr.heap.size := Nat.lt_of_lt_of_le hb HQ.out.2.size
        have hY := box_later hY1 hz1 HQ.out.2
        have hz : w.heap.size + 1 < wr.heap.size := Nat.lt_of_lt_of_le hz1 HQ.out.2.size
        have HSt := Gate.wsum_at S.fs o.vs res k hlt hlv
        have HSt : Hid (Gate.wsum S.fs o.vs res (k + 1) = Gate.wsum S.fs o.vs res k + Gate.fieldWeight S.fs[k] o.vs[k] res) := HSt
        have HVs : Hid (o.vs[k].size ≤ maxLen) := HO.out.vals.small _ (List.getElem_mem _)
        have HBo : Hid (∀ ob, Below w1.heap.size w1 (wr.alloc ob)) := fun ob => HQ.out.2.alloc HQ.out.2.size _
        clear hf hr hvc0
        by_cases h1 : S.fs[k].kd = 1
        · have e1 : (S.fs[k].kd == 1) = true := by simpa using h1
          by_cases h2 : S.fs[k].wg = res
          · have e2 : (S.fs[k].wg.toList == res.toList) = true := by rw [Gate.beq_toList]; simpa using h2
            have HFw : Hid (Gate.fieldWeight S.fs[k] o.vs[k] res = decNum o.vs[k]) := by unfold Hid Gate.fieldWeight; rw [if_pos ⟨h1, h2⟩]
            have hdb := Gate.decNum_bound o.vs[k]
            clear h1 h2
            go_wp2_with fail
            refine (decimalOf_any o.vs[k] _ HVs.out).mono ?_
            rintro e w2 ⟨rfl, rfl⟩
            go_wp2_with fail
            exact ⟨⟨k + 1, s + decNum o.vs[k], by omega, by go_num, by go_num, by rw [HSt.out, HFw.out, HQ.out.1]; omega, HBo.out _⟩, step_less' hlt⟩
          · have e2 : (S.fs[k].wg.toList == res.toList) = false := by rw [Gate.beq_toList]; simpa using h2
            have HFw : Hid (Gate.fieldWeight S.fs[k] o.vs[k] res = 0) := by unfold Hid Gate.fieldWeight; rw [if_neg (fun h => h2 h.2)]
            clear h1 h2
            go_wp2_with fail
            exact ⟨⟨k + 1, s, by omega, by go_num, rfl, by rw [HSt.out, HFw.out, HQ.out.1]; omega, HBo.out _⟩, step_less' hlt⟩
        · have e1 : (S.fs[k].kd == 1) = false := by simpa using h1
          have HFw : Hid (Gate.fieldWeight S.fs[k] o.vs[k] res = 0) := by unfold Hid Gate.fieldWeight; rw [if_neg (fun h => h1 h.1)]
          clear h1
          go_wp2_with fail
          exact ⟨⟨k + 1, s, by omega, by go_num, rfl, by rw [HSt.out, HFw.out, HQ.out.1]; omega, HBo.out _⟩, step_less' hlt⟩
      · have e : k = S.fs.length := by omega
        subst e
        have HE : Hid (Gate.weighs l.ss o res = s) := by unfold Hid; rw [HW.out, HQ.out.1]
        clear hlt hk
        go_wp2_with fail
        go_ret
        exact ⟨ret_int HE.out.symm, HB1.out.trans (HQ.out.2.mono HB1.out.size)⟩)

end Go.Proofs.Ytniokfnigmmiiaa

namespace Go.Proofs.Ytniokfnigmmiiaa
open Go.RowKit

def ShapeRes (ss : List Shp) (v : ByteArray) (e : Ending) : Prop :=
  (Gate.hasKind ss v = false → e = .returned (.int .i64 (-1))) ∧ (Gate.hasKind ss v = true → ∃ k, ∃ h : k < ss.length, e = .returned (.int .i64 (k : Nat)) ∧ Gate.shapeOf ss v = ss[k])

set_option maxHeartbeats 400000 in
theorem l1Shape_any (a : Option Addr) (cap : Nat) (ss : List Shp) (v : ByteArray) (w : World) (hw : ShpsAt w a ss) :
    Calls Try.prog 51 #[.slice a ss.length cap, .string v] w fun e w' => ShapeRes ss v e ∧ w' = w := by
  have hl := hw.len
  unfold maxLen at hl
  go_enter Try.func51, Try.ntmps51
  go_wp2
  go_loop [5] (fun i => ∃ k : Nat, k ≤ ss.length ∧ i = .int .i64 k ∧ Gate.hasKind (ss.take k) v = false) (fun i => ss.length - (intOf i).toNat)
  case atStart => exact ⟨0, Nat.zero_le _, rfl, rfl⟩
  case round =>
    obtain ⟨k, hk, rfl, hno⟩ := hrel
    by_cases hlt : k < ss.length
    · obtain ⟨b, off, rfl, hb, hr⟩ := hw.rows (by rintro rfl; simp at hlt)
      obtain ⟨fa, fcap, hs⟩ := hr k hlt
      have hck := hs.kind
      clear hw hr hs
      by_cases he : ss[k].kd = v
      · have hbe : (ss[k].kd.toList == v.toList) = true := by rw [Gate.beq_toList]; simpa using he
        have HA : Hid (Gate.hasKind ss v = true) := Gate.hasKind_at ss v k hlt he
        have HB : Hid (Gate.shapeOf ss v = ss[k]) := Gate.shapeOf_at ss v k hlt hno he
        clear he hno
        go_wp2
        go_ret
        exact ⟨⟨fun h => (by rw [HA.out] at h; cases h), fun _ => ⟨k, hlt, rfl, HB.out⟩⟩, rfl⟩
      · have hbe : (ss[k].kd.toList == v.toList) = false := by rw [Gate.beq_toList]; simpa using he
        have HS : Hid (Gate.hasKind (ss.take (k + 1)) v = false) := by unfold Hid; rw [Gate.hasKind_snoc ss v k hlt, hno, decide_eq_false he]; rfl
        clear he hno
        go_wp2
        go_round
        case rel => exact ⟨k + 1, by omega, by go_num, HS.out⟩
        case measure => simp [intOf]; omega
    · have HA : Hid (Gate.hasKind ss v = false) := by rw [← Gate.hasKind_all ss v k (by omega)]; exact hno
      clear hno hw
      go_wp2
      go_ret
      exact ⟨⟨fun _ => rfl, fun h => by rw [HA.out] at h; cases h⟩, rfl⟩

theorem l1Shape_no (a : Option Addr) (cap : Nat) (ss : List Shp) (v : ByteArray) (w : World) (hw : ShpsAt w a ss) (h : Gate.hasKind ss v = false) :
    Calls Try.prog 51 #[.slice a ss.length cap, .string v] w fun e w' => e = .returned (.int .i64 (-1)) ∧ w' = w := by
  refine (l1Shape_any a cap ss v w hw).mono ?_
  rintro e w' ⟨⟨h1, _⟩, rfl⟩
  exact ⟨h1 h, rfl⟩

theorem l1Shape_yes (a : Option Addr) (cap : Nat) (ss : List Shp) (v : ByteArray) (w : World) (hw : ShpsAt w a ss) (h : Gate.hasKind ss v = true) :
    Calls Try.prog 51 #[.slice a ss.length cap, .string v] w fun e w' => ∃ k, ∃ h : k < ss.length, e = .returned (.int .i64 (k : Nat)) ∧ Gate.shapeOf ss v = ss[k] ∧ w' = w := by
  refine (l1Shape_any a cap ss v w hw).mono ?_
  rintro e w' ⟨⟨_, h2⟩, rfl⟩
  obtain ⟨k, hk, he, hs⟩ := h2 h
  exact ⟨k, hk, he, hs, rfl⟩

end Go.Proofs.Ytniokfnigmmiiaa
