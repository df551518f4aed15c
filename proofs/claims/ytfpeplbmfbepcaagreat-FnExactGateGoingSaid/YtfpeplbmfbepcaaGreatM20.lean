import Derived.Test.YtfpeplbmfbepcaaGreatM03
import Derived.Deep.RegionHeld3
import Derived.Deep.OwnRows
import Derived.MapKept
import Derived.Test.YtfpeplbmfbepcaaGreatM05
import Derived.Deep.QuietTactic
import Derived.BigQuiet
import Derived.Test.YtfpeplbmfbepcaaGreatM14
import Derived.Test.YtfpeplbmfbepcaaGreatM01
import Derived.Maps.AppendAt
import Derived.Laws.EntriesVeiled
import Derived.Test.YtfpeplbmfbepcaaGreatM16
namespace Go.Proofs.YtfpeplbmfbepcaaGreat
open Go.RowKit
namespace Gate
def isSet (s : ByteArray) : Bool := !s.toList.isEmpty
def zL (m : Mnd) : List ByteArray := [m.wh, m.fr].filter isSet
def turns (m : Mnd) (s : Shp) (p : Nat) : Bool := decide (m.kd = s.kd) && decide (m.fd = (s.fs.getD p za9).nm)
end Gate
set_option maxRecDepth 20000 in
set_option maxHeartbeats 2000000 in
theorem zeJ (m : Mnd) (w : World) :
    Calls Tryz.prog 183 #[.agg m.cells] w fun e w' => ∃ v, e = .returned v /\ w'.ownsRow w.heap.size 9 1 v (Gate.zL m).length ((Gate.zL m).map Value.string) /\ Below w.heap.size w w' := by
  unfold Mnd.cells
  obtain ⟨i0, hi, hz0, hz1', hz2⟩ := info_parts Tryz.zdm
  go_enter Tryz.func183, Tryz.ntmps183
  go_wp2_with fail
  go_loopw [3, 12] (fun nv0 iv wr => ∃ (k : Nat) (nv : Value), nv = nv0 /\ k <= 2 /\ iv = .int .i64 k /\ wr.ownsRow (w.heap.size + 2) 9 1 nv (([m.wh, m.fr].take k).filter Gate.isSet).length ((([m.wh, m.fr].take k).filter Gate.isSet).map Value.string) /\ wr.heap[w.heap.size + 1]? = some (.cells #[.string m.wh, .string m.fr] 9) /\ Below w.heap.size w wr) (fun _ iv _ => 2 - (intOf iv).toNat)
  case atStart => exact ⟨0, _, rfl, by omega, rfl, World.ownsRow_nil _ _ _ _, (zP _ _ _).2, zn _ _ _⟩
  case round =>
    obtain ⟨k, nv, hnv, hk, rfl, hown, hlit, hB⟩ := hrel
    subst hnv
    by_cases hlt : k < 2
    · have hltI : (k : Int) < 2 := by omega
      obtain ⟨x, hx, HT⟩ : ∃ x, (#[.string m.wh, .string m.fr] : Array Value)[k]? = some (.string x) /\ Hid (([m.wh, m.fr].take (k + 1)).filter Gate.isSet = ([m.wh, m.fr].take k).filter Gate.isSet ++ if Gate.isSet x = true then [x] else []) := by
        rcases k with _ | _ | k
        · refine ⟨m.wh, rfl, ?_⟩
          by_cases h : Gate.isSet m.wh = true <;> simp [Hid, h]
        · refine ⟨m.fr, rfl, ?_⟩
          by_cases h : Gate.isSet m.fr = true <;> by_cases h' : Gate.isSet m.wh = true <;> simp [Hid, h, h']
        · omega
      have hcx : wr.cell? ⟨w.heap.size + 1, k, none⟩ = some (.string x) := by rw [cell_of_block hlit]; exact hx
      have hlen : (([m.wh, m.fr].take k).filter Gate.isSet).length <= 2 := Nat.le_trans (List.length_filter_le _ _) (by simp; omega)
      have HB := zdB hlit hB ((Array.getElem?_eq_some_iff.1 hlit).1)
      have HW := hid hown
      clear hlit hB hx hown
      by_cases hs : x.toList.isEmpty = true
      · have HE : Hid (Gate.isSet x = false) := by unfold Hid Gate.isSet; rw [hs]; rfl
        go_wp2_with fail
        have HT' : ([m.wh, m.fr].take (k + 1)).filter Gate.isSet = ([m.wh, m.fr].take k).filter Gate.isSet := by rw [HT.out, HE.out]; simp
        exact ⟨⟨k + 1, _, rfl, by omega, by go_num, by rw [HT']; exact HW.out, HB.out.1, HB.out.2.1⟩, zi hlt⟩
      · have hs' : x.toList.isEmpty = false := by simpa using hs
        have HE : Hid (Gate.isSet x = true) := by unfold Hid Gate.isSet; rw [hs']; rfl
        clear hs
        go_wp2_with (at_builtin; refine wpList_append_own _ rfl (.tmp 18) (.tmp 20) 102 rfl (w.heap.size + 2) 9 i0 (.string ByteArray.empty) 1 16 Tryz.underlying102 hi hz0 hz1' hz2 rfl (by decide) _ _ _ rfl (HW.out.alloc _) ⟨wr.heap.size, 0, none⟩ 1 1 [.string x] rfl rfl (zbI _ _ _) (by intro u hu; simp at hu; subst hu; rfl) (by unfold maxLen; omega) (by omega) (by have := HB.out.2.2; simp; omega) ?_; intro v' w1 hown' hgr _)
        have HT' : ([m.wh, m.fr].take (k + 1)).filter Gate.isSet = ([m.wh, m.fr].take k).filter Gate.isSet ++ [x] := by rw [HT.out, HE.out]; simp
        have hgb : ∀ g, nv.ownBlock = some g -> w.heap.size + 2 <= g := fun g hg => (HW.out.lt g hg).1
        refine ⟨⟨k + 1, _, rfl, by omega, by go_num, ?_, ?_, zam HB.out.2.1 HB.out.2.1.size hgr (fun g hg => by have := hgb g hg; omega)⟩, zi hlt⟩
        · rw [HT', List.length_append, List.map_append]; exact hown'
        · rw [zan hgr (by have := HB.out.2.2; simp; omega) (fun g hg => by have := hgb g hg; omega), Below.heap_alloc _ _ _ HB.out.2.2]; exact HB.out.1
    · have e : k = 2 := by omega
      subst e
      have HF : Hid (wr.ownsRow w.heap.size 9 1 nv (Gate.zL m).length ((Gate.zL m).map Value.string) /\ Below w.heap.size w wr) := ⟨jo hown (by omega), hB⟩
      clear hown hlit hB
      go_wp2_with fail
      go_ret
      exact ⟨nv, rfl, HF.out⟩
set_option maxHeartbeats 1000000 in
theorem zkw (m : Mnd) (s : Shp) (fa : Option Addr) (fcap p : Nat) (w : World) (hf : zW w fa s.fs) (hp : p < s.fs.length) :
    Calls Tryz.prog 188 #[.agg m.cells, .agg #[.string s.kd, .slice fa s.fs.length fcap], .int .i64 p] w fun e w' => e = .returned (.bool (Gate.turns m s p)) /\ Below w.heap.size w w' := by
  unfold Mnd.cells
  have hB : ∀ o1 o2, Below w.heap.size w ((w.alloc o1).alloc o2) := fun o1 o2 => zn w o1 o2
  have hl := hf.len
  unfold maxLen at hl
  obtain ⟨b, off, rfl, hb, hr⟩ := hf.rows (by intro e; rw [e] at hp; simp at hp)
  obtain ⟨wa, wcap, hf0⟩ := hr p hp
  obtain ⟨c0, c1, c2, c3, c4, c5, c6, c7, c8, c9, c10⟩ := hf0.load
  have hpI : (p : Int) < (s.fs.length : Int) := by omega
  have HD : Hid ((s.fs.getD p Gate.za9).nm = s.fs[p].nm) := by unfold Hid; rw [Gate.getD_at _ _ _ hp]
  clear hf hr hf0 c1 c2 c3 c4 c5 c6 c7 c8 c9 c10
  by_cases h1 : m.kd = s.kd
  · by_cases h2 : m.fd = s.fs[p].nm
    · have HR : Hid (Gate.turns m s p = true) := by unfold Hid Gate.turns; rw [HD.out]; simp [h1, h2]
      have hq : (m.kd.toList == s.kd.toList) = true := by rw [Gate.beq_toList]; simpa using h1
      have hr : (m.fd.toList == s.fs[p].nm.toList) = true := by rw [Gate.beq_toList]; simpa using h2
      clear h1 h2
      go_enter Tryz.func188, Tryz.ntmps188
      go_wp2_with fail
      go_quiet (fail)
      go_wp2_with fail
      go_ret
      exact ⟨by rw [HR.out]; rfl, below_drewN (hB _ _) _⟩
    · have HR : Hid (Gate.turns m s p = false) := by unfold Hid Gate.turns; rw [HD.out]; simp [h1, h2]
      have hq : (m.kd.toList == s.kd.toList) = true := by rw [Gate.beq_toList]; simpa using h1
      have hr : (m.fd.toList == s.fs[p].nm.toList) = false := by rw [Gate.beq_toList]; simpa using h2
      clear h1 h2
      go_enter Tryz.func188, Tryz.ntmps188
      go_wp2_with fail
      go_quiet (fail)
      go_wp2_with fail
      go_ret
      exact ⟨by rw [HR.out]; rfl, below_drewN (hB _ _) _⟩
  · have HR : Hid (Gate.turns m s p = false) := by unfold Hid Gate.turns; rw [HD.out]; simp [h1]
    have hq : (m.kd.toList == s.kd.toList) = false := by rw [Gate.beq_toList]; simpa using h1
    clear h1
    go_enter Tryz.func188, Tryz.ntmps188
    go_wp2_with fail
    go_quiet (fail)
    go_wp2_with fail
    go_ret
    exact ⟨by rw [HR.out]; rfl, below_drewN (hB _ _) _⟩
end Go.Proofs.YtfpeplbmfbepcaaGreat

namespace Go.Proofs.YtfpeplbmfbepcaaGreat
open Go.RowKit
namespace Gate
def yg (s : Shp) (ms : List Mnd) (p : Nat) : List Int := ms.flatMap fun m => if turns m s p = true then (zL m).map (zT s.fs) else []
theorem zg9 (s : Shp) (ms : List Mnd) (p k : Nat) (h : k < ms.length) : yg s (ms.take (k + 1)) p = yg s (ms.take k) p ++ if turns ms[k] s p = true then (zL ms[k]).map (zT s.fs) else [] := by
  unfold yg
  rw [List.take_succ_eq_append_getElem h, List.flatMap_append]
  simp
theorem zda (m : Mnd) : (zL m).length <= 2 := List.length_filter_le _ _
theorem zgx (s : Shp) (p : Nat) : ∀ ms : List Mnd, (yg s ms p).length <= ms.length * 2
  | [] => Nat.le_refl _
  | m :: ms => by
    have h1 := zgx s p ms
    have h2 := zda m
    unfold yg at h1 ⊢
    rw [List.flatMap_cons, List.length_append, List.length_cons]
    by_cases h : turns m s p = true
    · rw [if_pos h, List.length_map]; omega
    · rw [if_neg h, List.length_nil]; omega
end Gate
theorem zng {w : World} {lo lo' : Nat} {e e' : TypeId} {v v' : Value} {n n' : Nat} {xs xs' : List Value} (h : w.ownsRow lo e 1 v n xs) (h' : w.ownsRow lo' e' 1 v' n' xs') (he : e ≠ e') : ∀ g, v.ownBlock = some g -> ∀ g', v'.ownBlock = some g' -> g ≠ g' := by
  intro g hg g' hg' hgg
  subst hgg
  obtain ⟨_, ⟨rfl, _⟩ | ⟨b, cap, cur, rfl, _, hh, _⟩⟩ := h
  · cases hg
  · obtain ⟨_, ⟨rfl, _⟩ | ⟨b', cap', cur', rfl, _, hh', _⟩⟩ := h'
    · cases hg'
    · have e1 : b = g := Option.some.inj hg
      have e2 : b' = g := Option.some.inj hg'
      rw [e1] at hh
      rw [e2, hh] at hh'
      simp only [Option.some.injEq, Obj.cells.injEq] at hh'
      exact he hh'.2.1
def ints (l : List Int) : List Value := l.map (Value.int .i64)
set_option maxRecDepth 20000 in
set_option maxHeartbeats 4000000 in
theorem zmI (s : Shp) (ms : List Mnd) (p bm bs : Nat) (ma fa : Option Addr) (mcap fcap : Nat) (w : World) (hm : qy w ma ms) (hf : zW w fa s.fs) (hp : p < s.fs.length) (hl : ms.length <= 1048576)
    (hbs : bs < w.heap.size) (hcm : w.cell? ⟨bm, 0, none⟩ = some (.slice ma ms.length mcap)) (hcs : ∀ j, w.cell? ⟨bs, j, none⟩ = (#[.string s.kd, .slice fa s.fs.length fcap] : Array Value)[j]?) :
    Calls Tryz.prog 187 #[.int .i64 p, .pointer (some ⟨bm, 0, none⟩), .pointer (some ⟨bs, 0, none⟩)] w fun e w' => ∃ v, e = .returned v /\ w'.ownsRow w.heap.size 3 1 v (Gate.yg s ms p).length (ints (Gate.yg s ms p)) /\ Below w.heap.size w w' := by
  obtain ⟨i0, hi, hz0, hz1', hz2⟩ := info_parts Tryz.zfe
  have HM := hid hm
  have HF := hid hf
  clear hm hf
  go_enter Tryz.func187, Tryz.ntmps187
  go_wp2_with fail
  go_loopw [5, 12] (fun v0 iv wr => ∃ (k : Nat) (v : Value), v = v0 /\ k <= ms.length /\ iv = .int .i64 k /\ wr.ownsRow w.heap.size 3 1 v (Gate.yg s (ms.take k) p).length (ints (Gate.yg s (ms.take k) p)) /\ Below w.heap.size w wr) (fun _ iv _ => ms.length - (intOf iv).toNat)
  case atStart => exact ⟨0, _, rfl, Nat.zero_le _, rfl, World.ownsRow_nil _ _ _ _, Below.refl _ _⟩
  case round =>
    obtain ⟨k, v, hv, hk, rfl, hown, hB⟩ := hrel
    subst hv
    by_cases hlt : k < ms.length
    · obtain ⟨b, off, rfl, hb, c0, c1, c2, c3, c4, c5⟩ := HM.out.load hB k hlt
      have hltI : (k : Int) < (ms.length : Int) := by omega
      have hbw := Nat.lt_of_lt_of_le hb hB.size
      have hcsr := za hcs hbs hB
      have hbsr := Nat.lt_of_lt_of_le hbs hB.size
      have HW := hid hown
      have HB := hid hB
      clear hown hB
      go_wp2_with fail
      have hba := (Below.refl wr.heap.size wr).alloc (Nat.le_refl _) (.cells #[.string ms[k].kd, .string ms[k].fd, .string ms[k].wh, .string ms[k].wi, .string ms[k].pt, .string ms[k].fr] 125)
      have ht := zkw ms[k] s fa fcap p (wr.alloc (.cells #[.string ms[k].kd, .string ms[k].fd, .string ms[k].wh, .string ms[k].wi, .string ms[k].pt, .string ms[k].fr] 125)) (HF.out.mono (HB.out.trans (hba.mono HB.out.size))) hp
      by_cases htt : Gate.turns ms[k] s p = true
      · have HS : Hid (Gate.yg s (ms.take (k + 1)) p = Gate.yg s (ms.take k) p ++ (Gate.zL ms[k]).map (Gate.zT s.fs)) := by unfold Hid; rw [Gate.zg9 s ms p k hlt, if_pos htt]
        rw [htt] at ht
        refine ht.mono ?_
        rintro e w1 ⟨rfl, hb1⟩
        have hX1 := za (zG wr _ _) (by simp) hb1
        have HB1 := hid (hba.trans (hb1.mono hba.size))
        have hz1 : wr.heap.size < w1.heap.size := by have := hb1.size; simp at this; omega
        have hcs1 := za hcsr hbsr HB1.out
        clear ht hba hb1 c0 c1 c2 c3 c4 c5
        go_wp2_with fail
        refine (zeJ ms[k] w1).mono ?_
        rintro e w2 ⟨nv, rfl, hn, hb2⟩
        obtain ⟨na, ncap, rfl⟩ := yE hn
        have HN2 := hid hn
        have HB2 := hid (HB1.out.trans (hb2.mono HB1.out.size))
        have HW2 : Hid (w2.ownsRow w.heap.size 3 1 v (Gate.yg s (ms.take k) p).length (ints (Gate.yg s (ms.take k) p))) := yA HW.out HB2.out
        have HNL : Hid ((Gate.zL ms[k]).length <= 2) := Gate.zda _
        have HRL : Hid ((Gate.yg s (ms.take k) p).length <= 2097152) := by have h1 := Gate.zgx s p (ms.take k); rw [List.length_take] at h1; show _ <= _; omega
        have hcs2 := za hcs1 (Nat.lt_trans hbsr hz1) hb2
        clear hn hb2 hX1 hcs1 hcsr
        revert HS HN2 HNL
        generalize Gate.zL ms[k] = names
        intro HS HN2 HNL
        go_wp2_with fail
        have hszw := HB2.out.size
        go_loopw [5, 24] (fun v0 iv wq => ∃ (j : Nat) (v1 : Value), v1 = v0 /\ j <= names.length /\ iv = .int .i64 j /\ wq.ownsRow w.heap.size 3 1 v1 ((Gate.yg s (ms.take k) p) ++ (names.take j).map (Gate.zT s.fs)).length (ints ((Gate.yg s (ms.take k) p) ++ (names.take j).map (Gate.zT s.fs))) /\ wq.ownsRow w1.heap.size 9 1 (.slice na names.length ncap) names.length (names.map Value.string) /\ Below w.heap.size w wq) (fun _ iv _ => names.length - (intOf iv).toNat)
        case atStart => exact ⟨0, _, rfl, Nat.zero_le _, rfl, by simpa using HW2.out, HN2.out, HB.out.trans (HB2.out.mono HB.out.size)⟩
        case round =>
          obtain ⟨j, v1, hv1, hj, rfl, hown, hnames, hB⟩ := hrel
          subst hv1
          by_cases hjl : j < names.length
          · obtain ⟨g, rfl, hcell⟩ : ∃ g, na = some ⟨g, 0, none⟩ /\ wr.cell? ⟨g, j, none⟩ = some (.string names[j]) := by
              obtain ⟨_, ⟨h0, h1⟩ | ⟨g, cap, cur, h0, h1⟩⟩ := id hnames
              · rw [h1] at hjl; exact absurd hjl (by omega)
              · cases h0
                refine ⟨g, rfl, ?_⟩
                rw [hnames.cellAt j (by omega)]
                simp [hjl]
            have hjI : (j : Int) < (names.length : Int) := by omega
            have hcsr := za hcs hbs hB
            have hbsr' := Nat.lt_of_lt_of_le hbs hB.size
            have HX := zdB hown hnames hB
            have HTK : Hid ((names.take (j + 1)).map (Gate.zT s.fs) = (names.take j).map (Gate.zT s.fs) ++ [Gate.zT s.fs names[j]]) := by unfold Hid; rw [List.take_succ_eq_append_getElem hjl, List.map_append]; rfl
            have HLL : Hid (((Gate.yg s (ms.take k) p) ++ (names.take j).map (Gate.zT s.fs)).length <= 2097156) := by have h1 := HRL.out; have h2 := HNL.out; show _ <= _; rw [List.length_append, List.length_map, List.length_take]; omega
            clear hown hnames hB
            go_wp2_with fail
            refine (qG fa fcap s.fs names[j] wr (HF.out.mono HX.out.2.2)).mono ?_
            rintro e w3 ⟨rfl, hb3⟩
            have HB3 := hid hb3
            have HX3 := zdB (yA HX.out.1 hb3) (yA HX.out.2.1 hb3) (HX.out.2.2.trans (hb3.mono HX.out.2.2.size))
            clear hb3 hcell hcsr
            go_wp2_with (at_builtin; refine wpList_append_own _ rfl (.tmp 28) (.tmp 33) 35 rfl w.heap.size 3 i0 (.int .i64 0) 1 8 Tryz.underlying35 hi hz0 hz1' hz2 rfl (by decide) _ _ _ rfl (HX3.out.1.alloc _) ⟨w3.heap.size, 0, none⟩ 1 1 [.int .i64 (Gate.zT s.fs names[j])] rfl rfl (zbI _ _ _) (by intro u hu; simp at hu; subst hu; rfl) (by have := HLL.out; unfold maxLen; omega) (by have := HLL.out; omega) (by have := HX3.out.2.2.size; simp; omega) ?_; intro v' w4 hown' hgr _)
            have hgb : ∀ g', v1.ownBlock = some g' -> w.heap.size <= g' := fun g' hg' => (HX3.out.1.lt g' hg').1
            have hap := zng HX3.out.1 HX3.out.2.1 (by decide)
            refine ⟨⟨j + 1, _, rfl, by omega, by rw [wrap_one (by have := HNL.out; omega)], ?_, ?_, zam HX3.out.2.2 HX3.out.2.2.size hgr hgb⟩, qK hjl (by have := HNL.out; omega)⟩
            · rw [HTK.out, <- List.append_assoc, List.length_append]
              have e1 : ints ((Gate.yg s (ms.take k) p ++ (names.take j).map (Gate.zT s.fs)) ++ [Gate.zT s.fs names[j]]) = ints (Gate.yg s (ms.take k) p ++ (names.take j).map (Gate.zT s.fs)) ++ [.int .i64 (Gate.zT s.fs names[j])] := by simp [ints]
              rw [e1]
              exact hown'
            · refine jX HX3.out.2.1 (fun g' hg' => ?_)
              rw [zan hgr (by have := (HX3.out.2.1.lt g' hg').2; simp; omega) (fun q hq => fun e => hap q hq g' hg' e.symm), Below.heap_alloc _ _ _ (HX3.out.2.1.lt g' hg').2]
          · have e : j = names.length := by omega
            subst e
            rw [List.take_of_length_le (Nat.le_refl _), <- HS.out] at hown
            have HX := qJ hown hB
            clear hown hnames hB
            go_wp2_with fail
            exact ⟨⟨k + 1, _, rfl, by omega, by go_num, HX.out.1, HX.out.2⟩, zi hlt⟩
      · have htf : Gate.turns ms[k] s p = false := by simpa using htt
        have HS : Hid (Gate.yg s (ms.take (k + 1)) p = Gate.yg s (ms.take k) p) := by unfold Hid; rw [Gate.zg9 s ms p k hlt, if_neg htt]; simp
        rw [htf] at ht
        refine ht.mono ?_
        rintro e w1 ⟨rfl, hb1⟩
        have HB1 := hid (hba.trans (hb1.mono hba.size))
        clear ht hba hb1
        go_wp2_with fail
        exact ⟨⟨k + 1, _, rfl, by omega, by go_num, by rw [HS.out]; exact yA HW.out HB1.out, HB.out.trans (HB1.out.mono HB.out.size)⟩, zi hlt⟩
    · have e : k = ms.length := by omega
      subst e
      rw [List.take_of_length_le (Nat.le_refl _)] at hown
      have HW := qJ hown hB
      clear hown hB
      go_wp2_with fail
      go_ret
      exact ⟨v, rfl, HW.out⟩
end Go.Proofs.YtfpeplbmfbepcaaGreat

namespace Go.Proofs.YtfpeplbmfbepcaaGreat
open Go.RowKit
namespace Gate
def zk (s : Shp) (ms : List Mnd) (p : Nat) : List Nat := (yg s ms p).map Int.toNat
def zeW (S : Far) : Int -> Option Int := fun q => if 0 <= q then (S.far q.toNat).map fun b => if b = true then 2 else 1 else none
theorem znF (S : Far) (i : Nat) : (fun q : Int => if q = (i : Int) then some 1 else zeW S q) = zeW (S.under i) := by
  funext q
  by_cases h : q = (i : Int)
  · subst h; simp [zeW, Far.under]
  · rw [if_neg h]
    unfold zeW Far.under
    by_cases h0 : 0 <= q
    · have : q.toNat ≠ i := by omega
      simp [h0, this]
    · simp [h0]
theorem zl6 (S : Far) (i : Nat) : (fun q : Int => if q = (i : Int) then some 2 else zeW S q) = zeW (S.behind i) := by
  funext q
  by_cases h : q = (i : Int)
  · subst h; simp [zeW, Far.behind]
  · rw [if_neg h]
    unfold zeW Far.behind
    by_cases h0 : 0 <= q
    · have : q.toNat ≠ i := by omega
      simp [h0, this]
    · simp [h0]
theorem zp9 (S : Far) (i : Nat) : zeW S (i : Int) = (S.far i).map fun b => if b = true then 2 else 1 := by
  unfold zeW; simp
theorem zaL (d : Nat -> Far -> Bool × Far) : ∀ (l : List Nat) (q : Nat) (t : Far), zm d (l ++ [q]) t = if (zm d l t).1 = true then d q (zm d l t).2 else zm d l t
  | [], q, t => by
    show (if (d q t).1 = true then zm d [] (d q t).2 else (false, (d q t).2)) = d q t
    by_cases h : (d q t).1 = true
    · rw [if_pos h]; show (true, (d q t).2) = d q t; rw [<- h]
    · rw [if_neg h]
      have : (d q t).1 = false := by simpa using h
      rw [<- this]
  | a :: l, q, t => by
    show (if (d a t).1 = true then zm d (l ++ [q]) (d a t).2 else (false, (d a t).2)) = _
    by_cases h : (d a t).1 = true
    · have e : zm d (a :: l) t = zm d l (d a t).2 := by show (if (d a t).1 = true then _ else _) = _; rw [if_pos h]
      rw [if_pos h, e]; exact zaL d l q _
    · have e : zm d (a :: l) t = (false, (d a t).2) := by show (if (d a t).1 = true then _ else _) = _; rw [if_neg h]
      rw [if_neg h, e]; rfl
theorem zcf (d : Nat -> Far -> Bool × Far) : ∀ (l r : List Nat) (t : Far), (zm d l t).1 = false -> (zm d (l ++ r) t).1 = false
  | [], r, t, h => by cases h
  | a :: l, r, t, h => by
    show (if (d a t).1 = true then zm d (l ++ r) (d a t).2 else (false, (d a t).2)).1 = false
    by_cases hc : (d a t).1 = true
    · have e : zm d (a :: l) t = zm d l (d a t).2 := by show (if (d a t).1 = true then _ else _) = _; rw [if_pos hc]
      rw [e] at h
      rw [if_pos hc]; exact zcf d l r _ h
    · rw [if_neg hc]
theorem zo6 {rd : Nat -> List Nat} {n : Nat} (hrd : ∀ p, p < n -> ∀ q ∈ rd p, q < n) : ∀ f p S, p < n -> (down rd f p S).1 = true -> (down rd f p S).2.row.length + open' n (down rd f p S).2 <= S.row.length + open' n S := by
  intro f
  induction f with
  | zero => intro p S _ h; cases h
  | succ f ih =>
    have hl : ∀ (l : List Nat) (t : Far), (∀ a ∈ l, a < n) -> (zm (down rd f) l t).1 = true -> (zm (down rd f) l t).2.row.length + open' n (zm (down rd f) l t).2 <= t.row.length + open' n t := by
      intro l
      induction l with
      | nil => intro t _ _; exact Nat.le_refl _
      | cons a l il =>
        intro t ha h
        unfold zm at h ⊢
        by_cases hc : (down rd f a t).1 = true
        · rw [if_pos hc] at h ⊢
          exact Nat.le_trans (il _ (fun b hb => ha b (by simp [hb])) h) (ih a t (ha a (by simp)) hc)
        · rw [if_neg hc] at h; cases h
    intro p S hp h
    unfold down at h ⊢
    rcases hf : S.far p with _ | b
    · rw [hf] at h
      simp only at h ⊢
      by_cases hc : (zm (down rd f) (rd p) (S.under p)).1 = true
      · rw [if_pos hc]
        have h1 := hl _ _ (hrd p hp) hc
        have h2 := ze9 hp hf
        have h3 : open' n ((zm (down rd f) (rd p) (S.under p)).2.behind p) <= open' n (zm (down rd f) (rd p) (S.under p)).2 := by
          apply zj8
          intro q hq
          simp only [Far.behind]
          split
          · rfl
          · exact hq
        have h4 : ((zm (down rd f) (rd p) (S.under p)).2.behind p).row.length = (zm (down rd f) (rd p) (S.under p)).2.row.length + 1 := by simp [Far.behind]
        have h5 : (S.under p).row = S.row := rfl
        rw [h5] at h1
        simp only
        omega
      · rw [if_neg hc] at h; cases h
    · exact Nat.le_refl _
theorem zeP {rd : Nat -> List Nat} {n : Nat} (hrd : ∀ p, p < n -> ∀ q ∈ rd p, q < n) (f : Nat) : ∀ (l : List Nat) (t : Far), (∀ a ∈ l, a < n) -> (zm (down rd f) l t).1 = true -> (zm (down rd f) l t).2.row.length + open' n (zm (down rd f) l t).2 <= t.row.length + open' n t := by
  intro l
  induction l with
  | nil => intro t _ _; exact Nat.le_refl _
  | cons a l il =>
    intro t ha h
    unfold zm at h ⊢
    by_cases hc : (down rd f a t).1 = true
    · rw [if_pos hc] at h ⊢
      exact Nat.le_trans (il _ (fun b hb => ha b (by simp [hb])) h) (zo6 hrd f a t (ha a (by simp)) hc)
    · rw [if_neg hc] at h; cases h
end Gate
def zdR (l : List Nat) : List Value := l.map fun q : Nat => Value.int .i64 (q : Int)
theorem za6 {w : World} {b : Nat} {X : Array Value} {t : TypeId} (h : w.heap[b]? = some (.cells X t)) : ∀ j, w.cell? ⟨b, j, none⟩ = X[j]? := fun _ => cell_of_block h
theorem zfC {w : World} {b : Nat} {X : Array Value} {t : TypeId} (h : w.heap[b]? = some (.cells X t)) : ∀ j, w.frozen? ⟨b, j, none⟩ = false := fun _ => zh h
structure WalkC where
  s : Shp
  ms : List Mnd
  w0 : World
  ma : Option Addr
  fa : Option Addr
  mcap : Nat
  fcap : Nat
  bm : Nat
  bs : Nat
  p : Nat
  mr : Nat
  lo : Nat
structure WalkC.Ok (c : WalkC) : Prop where
  mnds : qy c.w0 c.ma c.ms
  zcE : zW c.w0 c.fa c.s.fs
  few : c.ms.length <= 1048576
  fewf : c.s.fs.length <= 6
  reads : ∀ q, q < c.s.fs.length -> ∀ x ∈ Gate.yg c.s c.ms q, 0 <= x /\ x < c.s.fs.length
  bp : c.w0.heap.size <= c.p
  bmr : c.w0.heap.size <= c.mr
  plo : c.p < c.lo
  mlo : c.mr < c.lo
  bml : c.bm < c.lo
  bsl : c.bs < c.lo
  pm : c.p ≠ c.mr
  bmp : c.bm ≠ c.p
  bmm : c.bm ≠ c.mr
  bsp : c.bs ≠ c.p
  bsm : c.bs ≠ c.mr
def WalkC.fn (c : WalkC) : Value := .func (.func 187) #[] #[.pointer (some ⟨c.bm, 0, none⟩), .pointer (some ⟨c.bs, 0, none⟩)]
structure jQ (c : WalkC) (w : World) (S : Gate.Far) (v : Value) : Prop where
  base : Below c.w0.heap.size c.w0 w
  cm : w.cell? ⟨c.bm, 0, none⟩ = some (.slice c.ma c.ms.length c.mcap)
  cs : ∀ j, w.cell? ⟨c.bs, j, none⟩ = (#[.string c.s.kd, .slice c.fa c.s.fs.length c.fcap] : Array Value)[j]?
  size : c.lo <= w.heap.size
  cells : w.heap[c.p]? = some (.cells #[c.fn, .map (some c.mr), v] 268)
  row : w.ownsRow c.lo 3 1 v S.row.length (zdR S.row)
  map : za2 w c.mr (Gate.zeW S)
structure Moves (c : WalkC) (v : Value) (w : World) (v' : Value) (w' : World) : Prop where
  size : w.heap.size <= w'.heap.size
  out : ∀ k, k < w.heap.size -> k ≠ c.p -> k ≠ c.mr -> v.ownBlock ≠ some k -> w'.heap[k]? = w.heap[k]?
  own : v'.ownBlock = v.ownBlock \/ ∃ g, v'.ownBlock = some g /\ w.heap.size <= g
theorem Moves.refl (c : WalkC) (v : Value) (w : World) : Moves c v w v w := ⟨Nat.le_refl _, fun _ _ _ _ _ => rfl, Or.inl rfl⟩
theorem Moves.trans {c : WalkC} {v v1 v2 : Value} {w w1 w2 : World} (h : Moves c v w v1 w1) (k : Moves c v1 w1 v2 w2) : Moves c v w v2 w2 := by
  refine ⟨Nat.le_trans h.size k.size, fun i hi hp hm hv => ?_, ?_⟩
  · rw [k.out i (Nat.lt_of_lt_of_le hi h.size) hp hm ?_, h.out i hi hp hm hv]
    rcases h.own with e | ⟨g, e, hg⟩
    · rw [e]; exact hv
    · rw [e]; intro e'; cases e'; omega
  · rcases k.own with e | ⟨g, e, hg⟩
    · rw [e]; exact h.own
    · exact Or.inr ⟨g, e, Nat.le_trans h.size hg⟩
theorem zgg {w w' : World} {b j : Nat} (h : w'.heap[b]? = w.heap[b]?) : w'.cell? ⟨b, j, none⟩ = w.cell? ⟨b, j, none⟩ := by unfold World.cell?; rw [h]
theorem jQ.next {c : WalkC} {w w' : World} {S S' : Gate.Far} {v v' : Value} (hc : c.Ok) (h : jQ c w S v) (os : w'.os = w.os) (tape : w'.tape = w.tape) (output : w'.output = w.output) (size : w.heap.size <= w'.heap.size)
    (out : ∀ k, k < c.lo -> k ≠ c.p -> k ≠ c.mr -> w'.heap[k]? = w.heap[k]?)
    (cells : w'.heap[c.p]? = some (.cells #[c.fn, .map (some c.mr), v'] 268)) (row : w'.ownsRow c.lo 3 1 v' S'.row.length (zdR S'.row)) (map : za2 w' c.mr (Gate.zeW S')) : jQ c w' S' v' := by
  have hb := h.base.size
  have h1 := hc.bp
  have h2 := hc.plo
  have h3 := hc.bmr
  refine ⟨⟨os.trans h.base.os, tape.trans h.base.tape, output.trans h.base.output, Nat.le_trans hb size, fun k hk => ?_⟩, ?_, fun j => ?_, Nat.le_trans h.size size, cells, row, map⟩
  · rw [out k (by omega) (by omega) (by omega)]; exact h.base.block k hk
  · rw [zgg (out c.bm hc.bml hc.bmp hc.bmm)]; exact h.cm
  · rw [zgg (out c.bs hc.bsl hc.bsp hc.bsm)]; exact h.cs j
theorem jQ.mark {c : WalkC} {w : World} {S : Gate.Far} {v : Value} (hc : c.Ok) (h : jQ c w S v) (i : Nat) (x : Int) :
    ∃ w', (Instr.mapUpdate 266 (.map (some c.mr)) (.int .i64 i) (.int .i64 x)).run Tryz.prog w = .ok () w' /\ (∀ S' : Gate.Far, S'.row = S.row -> (fun q : Int => if q = (i : Int) then some x else Gate.zeW S q) = Gate.zeW S' -> jQ c w' S' v) /\ Moves c v w v w' := by
  obtain ⟨w', hrun, hmap, hput⟩ := h.map.upd i x
  have hlt := h.map.lt
  refine ⟨w', hrun, fun S' hr hf => ?_, Nat.le_of_eq hput.size.symm, fun k _ _ hm _ => hput.out k hm, Or.inl rfl⟩
  have hrow : w'.ownsRow c.lo 3 1 v S'.row.length (zdR S'.row) := by
    rw [hr]
    exact jX h.row fun g hg => hput.out g (by have := (h.row.lt g hg).1; have := hc.mlo; omega)
  exact h.next hc hput.os hput.tape hput.output (Nat.le_of_eq hput.size.symm) (fun k _ _ hm => hput.out k hm) ((hput.out c.p hc.pm).trans h.cells) hrow (by rw [<- hf]; exact hmap)
theorem WalkC.Ok.rd {c : WalkC} (hc : c.Ok) : ∀ p, p < c.s.fs.length -> ∀ q ∈ Gate.zk c.s c.ms p, q < c.s.fs.length := by
  intro p hp q hq
  unfold Gate.zk at hq
  obtain ⟨x, hx, rfl⟩ := List.mem_map.1 hq
  have := hc.reads p hp x hx
  omega
theorem jQ.later {c : WalkC} {w w' : World} {S : Gate.Far} {v : Value} (hc : c.Ok) (h : jQ c w S v) (hb : Below w.heap.size w w') : jQ c w' S v /\ Moves c v w v w' := by
  have hs := h.size
  have hp := hc.plo
  have hm := hc.mlo
  exact ⟨h.next hc hb.os hb.tape hb.output hb.size (fun k hk _ _ => hb.block k (by omega)) ((hb.block c.p (by omega)).trans h.cells) (yA h.row hb) (h.map.mono (hb.block c.mr (by omega))), hb.size, fun k hk _ _ _ => hb.block k hk, Or.inl rfl⟩
theorem jQ.zln {c : WalkC} {w : World} {S : Gate.Far} {v : Value} (h : jQ c w S v) : ∀ j, w.cell? ⟨c.p, j, none⟩ = (#[.func (.func 187) #[] #[.pointer (some ⟨c.bm, 0, none⟩), .pointer (some ⟨c.bs, 0, none⟩)], .map (some c.mr), v] : Array Value)[j]? := fun _ => cell_of_block h.cells
theorem zga {p : Prop} (h : Hid p) : p := h
set_option maxRecDepth 20000 in
set_option maxHeartbeats 4000000 in
theorem zpG (c : WalkC) (hc : c.Ok) : ∀ (f i : Nat) (S : Gate.Far) (v : Value) (w : World), i < c.s.fs.length -> Gate.open' c.s.fs.length S < f -> S.row.length + Gate.open' c.s.fs.length S <= 6 -> jQ c w S v ->
    Calls Tryz.prog 206 #[.pointer (some ⟨c.p, 0, none⟩), .int .i64 i] w fun e w' => ∃ v', e = .returned (.bool (Gate.down (Gate.zk c.s c.ms) f i S).1) /\ Below c.w0.heap.size c.w0 w' /\ ((Gate.down (Gate.zk c.s c.ms) f i S).1 = true -> jQ c w' (Gate.down (Gate.zk c.s c.ms) f i S).2 v' /\ Moves c v w v' w') := by
  intro f
  induction f with
  | zero => intro i S v w _ h _ _; omega
  | succ f ih =>
    intro i S v w hi hopen hsix hW
    have HI := hid ih
    clear ih
    obtain ⟨i0, hi0, hz0, hz1', hz2⟩ := info_parts Tryz.zfe
    have hpc := hW.zln
    have hlook := hW.map.look (i : Int)
    rw [Gate.zp9] at hlook
    have HW := hid hW
    have HO := hid hopen
    clear hW hopen
    rcases hfar : S.far i with _ | b
    · rw [hfar] at hlook
      have hlook' := hlook
      obtain ⟨w1, hrun, hmk, hmv⟩ := HW.out.mark hc i 1
      have hW1 := hmk (S.under i) rfl (Gate.znF S i)
      have hpc1 := hW1.zln
      have HW1 := qJ hW1 hmv
      clear hlook hmk hmv hW1
      go_enter Tryz.func206, Tryz.ntmps206
      go_wp2_with fail
      refine (zmI c.s c.ms i c.bm c.bs c.ma c.fa c.mcap c.fcap w1 (hc.mnds.mono HW1.out.1.base) (hc.zcE.mono HW1.out.1.base) hi hc.few (Nat.lt_of_lt_of_le hc.bsl HW1.out.1.size) HW1.out.1.cm HW1.out.1.cs).mono ?_
      rintro e w2 ⟨rv, rfl, hrow, hb2⟩
      obtain ⟨ra, rcap, rfl⟩ := yE hrow
      have hW2 := HW1.out.1.later hc hb2
      have HW2 := qJ hW2.1 (HW1.out.2.trans hW2.2)
      have HR2 := hid hrow
      have HRL : Hid ((Gate.yg c.s c.ms i).length <= 2097152) := by have h1 := Gate.zgx c.s i c.ms; have := hc.few; show _ <= _; omega
      have HAP : Hid (∀ g, v.ownBlock = some g -> (Value.slice ra (Gate.yg c.s c.ms i).length rcap).ownBlock ≠ some g) := by
        intro g hg he
        have h1 := (HW1.out.1.row.lt g hg).2
        have h2 := (hrow.lt g he).1
        omega
      have HLO := hid HW1.out.1.size
      have HOU : Hid (Gate.open' c.s.fs.length (S.under i) < f) := by have h1 := Gate.ze9 hi hfar; have h2 := HO.out; show _ < _; omega
      have HDN : Hid ((Gate.down (Gate.zk c.s c.ms) (f + 1) i S) = if (Gate.zm (Gate.down (Gate.zk c.s c.ms) f) ((Gate.zk c.s c.ms) i) (S.under i)).1 = true then (true, (Gate.zm (Gate.down (Gate.zk c.s c.ms) f) ((Gate.zk c.s c.ms) i) (S.under i)).2.behind i) else (false, (Gate.zm (Gate.down (Gate.zk c.s c.ms) f) ((Gate.zk c.s c.ms) i) (S.under i)).2)) := by
        unfold Hid; rw [Gate.down, hfar]
      clear hW2 hrow hb2 hpc hpc1 hlook' hrun
      go_wp2_with fail
      go_loopw [33] (fun iv wr => ∃ (j : Nat) (v1 : Value), j <= (Gate.yg c.s c.ms i).length /\ iv = .int .i64 j /\ (Gate.zm (Gate.down (Gate.zk c.s c.ms) f) (((Gate.zk c.s c.ms) i).take j) (S.under i)).1 = true /\ jQ c wr (Gate.zm (Gate.down (Gate.zk c.s c.ms) f) (((Gate.zk c.s c.ms) i).take j) (S.under i)).2 v1 /\ Moves c v w v1 wr /\ wr.ownsRow w1.heap.size 3 1 (.slice ra (Gate.yg c.s c.ms i).length rcap) (Gate.yg c.s c.ms i).length (ints (Gate.yg c.s c.ms i)) /\ (∀ g, v1.ownBlock = some g -> (Value.slice ra (Gate.yg c.s c.ms i).length rcap).ownBlock ≠ some g)) (fun iv _ => (Gate.yg c.s c.ms i).length - (intOf iv).toNat)
      case atStart => exact ⟨0, v, Nat.zero_le _, rfl, rfl, HW2.out.1, HW2.out.2, HR2.out, HAP.out⟩
      case round =>
        obtain ⟨j, v1, hj, rfl, hD, hWr, hMr, hRr, hAp⟩ := hrel
        have HWr := zia hWr hMr hRr hAp
        have HD := hid hD
        clear hWr hMr hRr hAp hD
        have HSX : Hid ((Gate.zm (Gate.down (Gate.zk c.s c.ms) f) (((Gate.zk c.s c.ms) i).take j) (S.under i)).2.row.length + Gate.open' c.s.fs.length (Gate.zm (Gate.down (Gate.zk c.s c.ms) f) (((Gate.zk c.s c.ms) i).take j) (S.under i)).2 <= 6) := by
          have h1 := Gate.zeP hc.rd f _ (S.under i) (fun a ha => hc.rd i hi a (List.mem_of_mem_take ha)) HD.out
          have h2 := Gate.ze9 hi hfar
          have h3 : (S.under i).row = S.row := rfl
          rw [h3] at h1
          show _ <= _
          omega
        by_cases hjl : j < (Gate.yg c.s c.ms i).length
        · obtain ⟨q, hq, hqn⟩ : ∃ q : Nat, (Gate.yg c.s c.ms i)[j] = (q : Int) /\ q < c.s.fs.length := by
            have h1 := hc.reads i hi _ (List.getElem_mem hjl)
            exact ⟨((Gate.yg c.s c.ms i)[j]).toNat, by omega, by omega⟩
          have HTK : Hid (((Gate.zk c.s c.ms) i).take (j + 1) = ((Gate.zk c.s c.ms) i).take j ++ [q]) := by
            have hjl' : j < ((Gate.zk c.s c.ms) i).length := by unfold Gate.zk; rw [List.length_map]; exact hjl
            unfold Hid
            rw [List.take_succ_eq_append_getElem hjl']
            have : ((Gate.zk c.s c.ms) i)[j] = q := by simp [Gate.zk, hq]
            rw [this]
          obtain ⟨g, rfl, hcell⟩ : ∃ g, ra = some ⟨g, 0, none⟩ /\ wr.cell? ⟨g, j, none⟩ = some (.int .i64 (q : Int)) := by
            obtain ⟨_, ⟨h0, h1⟩ | ⟨g, cap, cur, h0, h1⟩⟩ := id HWr.out.2.2.1
            · rw [h1] at hjl; exact absurd hjl (by omega)
            · cases h0
              refine ⟨g, rfl, ?_⟩
              rw [HWr.out.2.2.1.cellAt j (by omega)]
              simp [ints, hjl, hq]
          have hjI : (j : Int) < ((Gate.yg c.s c.ms i).length : Int) := by omega
          have HOP : Hid (Gate.open' c.s.fs.length (Gate.zm (Gate.down (Gate.zk c.s c.ms) f) (((Gate.zk c.s c.ms) i).take j) (S.under i)).2 < f) := by
            have h1 := Gate.zj8 (n := c.s.fs.length) (s := S.under i) (t := (Gate.zm (Gate.down (Gate.zk c.s c.ms) f) (((Gate.zk c.s c.ms) i).take j) (S.under i)).2) (fun q' hq' => Gate.zkO _ _ q' _ _ hq')
            have h2 := HOU.out
            show _ < _
            omega
          go_wp2_with fail
          refine (HI.out q _ v1 wr hqn HOP.out HSX.out HWr.out.1).mono ?_
          rintro e w3 ⟨v3, rfl, hb3, hyes⟩
          by_cases hd : (Gate.down (Gate.zk c.s c.ms) f q (Gate.zm (Gate.down (Gate.zk c.s c.ms) f) (((Gate.zk c.s c.ms) i).take j) (S.under i)).2).1 = true
          · have HS : Hid ((Gate.zm (Gate.down (Gate.zk c.s c.ms) f) (((Gate.zk c.s c.ms) i).take (j + 1)) (S.under i)) = Gate.down (Gate.zk c.s c.ms) f q (Gate.zm (Gate.down (Gate.zk c.s c.ms) f) (((Gate.zk c.s c.ms) i).take j) (S.under i)).2) := by unfold Hid; rw [HTK.out, Gate.zaL, if_pos HD.out]
            have hy := hyes hd
            have HY := hid hy
            have HDD := hid hd
            rw [hd]
            clear hyes hy hb3 hd hcell
            go_wp2_with fail
            have hg1 := HWr.out.2.2.1.lt g rfl
            have hap : v1.ownBlock ≠ some g := fun h => HWr.out.2.2.2 g h rfl
            refine ⟨⟨j + 1, v3, by omega, by rw [wrap_one (by have := HRL.out; omega)], by rw [HS.out]; exact HDD.out, by rw [HS.out]; exact HY.out.1, HWr.out.2.1.trans HY.out.2, ?_, ?_⟩, qK hjl (by have := HRL.out; omega)⟩
            · refine jX HWr.out.2.2.1 (fun g' hg' => ?_)
              cases hg'
              exact HY.out.2.out g hg1.2 (by have := hc.plo; have := HLO.out; omega) (by have := hc.mlo; have := HLO.out; omega) hap
            · intro g' hg' he
              have e0 : g = g' := Option.some.inj he
              subst e0
              rcases HY.out.2.own with e | ⟨g2, e, h2⟩
              · rw [e] at hg'; exact hap hg'
              · have e2 : g2 = g := Option.some.inj (e.symm.trans hg')
                have h3 := hg1.2
                omega
          · have hdf : (Gate.down (Gate.zk c.s c.ms) f q (Gate.zm (Gate.down (Gate.zk c.s c.ms) f) (((Gate.zk c.s c.ms) i).take j) (S.under i)).2).1 = false := by simpa using hd
            have HF : Hid ((Gate.down (Gate.zk c.s c.ms) (f + 1) i S).1 = false) := by
              have h1 : (Gate.zm (Gate.down (Gate.zk c.s c.ms) f) (((Gate.zk c.s c.ms) i).take (j + 1)) (S.under i)).1 = false := by rw [HTK.out, Gate.zaL, if_pos HD.out]; exact hdf
              have h2 := Gate.zcf (Gate.down (Gate.zk c.s c.ms) f) (((Gate.zk c.s c.ms) i).take (j + 1)) (((Gate.zk c.s c.ms) i).drop (j + 1)) (S.under i) h1
              rw [List.take_append_drop] at h2
              unfold Hid
              rw [HDN.out, if_neg (by rw [h2]; simp)]
            rw [hdf]
            have HB3 : Hid (Below c.w0.heap.size c.w0 w3) := hb3
            clear hyes hb3 hcell hd hdf
            go_wp2_with fail
            go_ret
            exact ⟨v3, by rw [HF.out]; rfl, HB3.out, fun h => by rw [HF.out] at h; cases h⟩
        · have e : j = (Gate.yg c.s c.ms i).length := by omega
          have hall : ((Gate.zk c.s c.ms) i).take j = (Gate.zk c.s c.ms) i := List.take_of_length_le (by unfold Gate.zk; rw [List.length_map]; omega)
          rw [hall] at HWr HD HSX
          have HRES : Hid ((Gate.down (Gate.zk c.s c.ms) (f + 1) i S) = (true, (Gate.zm (Gate.down (Gate.zk c.s c.ms) f) ((Gate.zk c.s c.ms) i) (S.under i)).2.behind i)) := by unfold Hid; rw [HDN.out, if_pos HD.out]
          clear HDN HD hall
          revert HWr HRES HSX
          generalize (Gate.zm (Gate.down (Gate.zk c.s c.ms) f) ((Gate.zk c.s c.ms) i) (S.under i)).2 = D
          intro HWr HSX HRES
          obtain ⟨w3, hrun3, hmk3, hmv3⟩ := HWr.out.1.mark hc i 2
          have hW3 := hmk3 ⟨(D.behind i).far, D.row⟩ rfl (by rw [Gate.zl6]; rfl)
          have HW3 := qJ hW3 (HWr.out.2.1.trans hmv3)
          have hpcr := HWr.out.1.zln
          have hpc3 := hW3.zln
          have hpf3 := zfC hW3.cells
          have HDL : Hid (D.row.length <= 6) := by have := HSX.out; show _ <= _; omega
          have hp3 := Nat.lt_of_lt_of_le hc.plo hW3.size
          clear hmk3 hmv3 hW3 HWr
          subst e
          have HGE := hid HW3.out.1.row.lt
          go_wp2_with (at_builtin; refine zga ?_)
          show wpList _ _ _ _ _ _
          refine wpList_append_own_at _ rfl (.tmp 51) (.tmp 53) 35 rfl c.lo 3 i0 (.int .i64 0) 1 8 Tryz.underlying35 hi0 hz0 hz1' hz2 rfl (by decide) v1 _ _ rfl (HW3.out.1.row.alloc _) ⟨w3.heap.size, 0, none⟩ 1 1 [.int .i64 (i : Int)] rfl rfl (zbI _ _ _) (by intro u hu; simp at hu; subst hu; rfl) (by have := HDL.out; show D.row.length + 1 <= 2 ^ 63 - 1; omega) (by have := HDL.out; show (D.row.length + 1) * 8 <= 140737488355328; omega) (by have := HW3.out.1.size; simp; omega) ?_
          intro vN w4 hownN hgr _ hat
          obtain ⟨va, vcap, rfl⟩ := yE hownN
          have hown' := hownN
          clear hownN
          have hp4 := (zan hgr (by simp; omega) (fun g hg => by have := (HGE.out g hg).1; have := hc.plo; omega)).trans ((Below.heap_alloc _ _ _ hp3).trans HW3.out.1.cells)
          have hpc4 := za6 hp4
          have hpf4 := zfC hp4
          have HP4 : Hid (w4.heap[c.p]? = some (.cells #[c.fn, .map (some c.mr), v1] 268)) := hp4
          have HG4 : Hid ((w3.alloc (.cells #[.int .i64 (i : Int)] 3)).grownBy w4 v1.ownBlock /\ ((Value.slice va (D.row.length + 1) vcap).ownBlock = v1.ownBlock \/ (Value.slice va (D.row.length + 1) vcap).ownBlock = some (w3.heap.size + 1))) := (by refine ⟨hgr, ?_⟩; simpa using hat)
          have HO4 := hid hown'
          clear hp4 hgr hat hown'
          go_wp2_with fail
          have hgb : ∀ k, k < w3.heap.size -> (∀ g, v1.ownBlock = some g -> k ≠ g) -> w4.heap[k]? = w3.heap[k]? := fun k hk hne => (zan HG4.out.1 (by simp; omega) hne).trans (Below.heap_alloc _ _ _ hk)
          have hsz4 : w3.heap.size < w4.heap.size := by have := HG4.out.1.size; simp at this; omega
          have hv4 : ∀ g, (Value.slice va (D.row.length + 1) vcap).ownBlock = some g -> c.lo <= g := fun g hg => (HO4.out.lt g hg).1
          have hW5 : jQ c (w4.setCell ⟨c.p, 2, none⟩ (.slice va (D.row.length + 1) vcap)) (D.behind i) (.slice va (D.row.length + 1) vcap) := by
            refine HW3.out.1.next hc HG4.out.1.os HG4.out.1.tape HG4.out.1.output (by simp [World.setCell]; omega) (fun k hk hp hm => ?_) ?_ ?_ ?_
            · rw [Below.heap_setCell _ _ _ _ hp]
              exact hgb k (by have := HW3.out.1.size; omega) (fun g hg => by have := (HGE.out g hg).1; omega)
            · exact zf HP4.out _
            · have e1 : (D.behind i).row.length = D.row.length + 1 := by simp [Gate.Far.behind]
              have e2 : zdR (D.behind i).row = zdR D.row ++ [.int .i64 (i : Int)] := by simp [Gate.Far.behind, zdR]
              rw [e1, e2]
              exact jX HO4.out (fun g hg => Below.heap_setCell _ _ _ _ (by show g ≠ c.p; have := hv4 g hg; have := hc.plo; omega))
            · have hm3 := HW3.out.1.map.lt
              exact HW3.out.1.map.mono ((Below.heap_setCell _ _ _ _ (Ne.symm hc.pm)).trans (hgb c.mr hm3 (fun g hg => by have := (HGE.out g hg).1; have := hc.mlo; omega)))
          have hM5 : Moves c v1 w3 (.slice va (D.row.length + 1) vcap) (w4.setCell ⟨c.p, 2, none⟩ (.slice va (D.row.length + 1) vcap)) := by
            refine ⟨by simp [World.setCell]; omega, fun k hk hp _ hv => ?_, ?_⟩
            · rw [Below.heap_setCell _ _ _ _ hp]
              exact hgb k hk (fun g hg e => hv (by rw [e]; exact hg))
            · rcases HG4.out.2 with e | e
              · exact Or.inl e
              · exact Or.inr ⟨_, e, by omega⟩
          go_ret
          exact ⟨by rw [HRES.out]; rfl, hW5.base, _, fun _ => by rw [HRES.out]; exact ⟨hW5, HW3.out.2.trans hM5⟩⟩
    · have hr : Gate.down (Gate.zk c.s c.ms) (f + 1) i S = (b, S) := by rw [Gate.down, hfar]
      have HR := hid hr
      rw [hfar] at hlook
      clear hr
      cases b with
      | true =>
        have hlook' := hlook
        clear hlook
        go_enter Tryz.func206, Tryz.ntmps206
        go_wp2_with fail
        go_ret
        exact ⟨v, by rw [HR.out]; rfl, HW.out.base, fun _ => by rw [HR.out]; exact ⟨HW.out, Moves.refl _ _ _⟩⟩
      | false =>
        have hlook' := hlook
        clear hlook
        go_enter Tryz.func206, Tryz.ntmps206
        go_wp2_with fail
        go_ret
        exact ⟨v, by rw [HR.out]; rfl, HW.out.base, fun h => by rw [HR.out] at h; cases h⟩
end Go.Proofs.YtfpeplbmfbepcaaGreat

namespace Go.Proofs.YtfpeplbmfbepcaaGreat
open Go.RowKit
def zlZ (w : World) (a : Option Addr) (n : Nat) : Prop := 0 < n -> ∃ g, a = some ⟨g, 0, none⟩ /\ g < w.heap.size /\ ∀ q, q < n -> w.cell? ⟨g, q, none⟩ = some (.int .i64 (q : Int))
set_option maxRecDepth 20000 in
set_option maxHeartbeats 4000000 in
theorem zou (s : Shp) (ms : List Mnd) (w0 : World) (ma fa ia : Option Addr) (mcap fcap icap bm bs : Nat) (w : World) (hm : qy w0 ma ms) (hf : zW w0 fa s.fs) (hl : ms.length <= 1048576) (hn : s.fs.length <= 6)
    (hrd : ∀ q, q < s.fs.length -> ∀ x ∈ Gate.yg s ms q, 0 <= x /\ x < s.fs.length) (hB : Below w0.heap.size w0 w) (hbm : bm < w.heap.size) (hbs : bs < w.heap.size) (hcm : w.cell? ⟨bm, 0, none⟩ = some (.slice ma ms.length mcap)) (hcs : ∀ j, w.cell? ⟨bs, j, none⟩ = (#[.string s.kd, .slice fa s.fs.length fcap] : Array Value)[j]?)
    (hit : zlZ w ia s.fs.length) :
    Calls Tryz.prog 186 #[.slice ia s.fs.length icap, .func (.func 187) #[] #[.pointer (some ⟨bm, 0, none⟩), .pointer (some ⟨bs, 0, none⟩)]] w
      fun e w' => ∃ v, e = .returned (.tuple #[v, .bool (Gate.zD (Gate.zk s ms) s.fs.length).1]) /\ Below w0.heap.size w0 w' /\ ((Gate.zD (Gate.zk s ms) s.fs.length).1 = true -> w'.ownsRow w.heap.size 3 1 v (Gate.zD (Gate.zk s ms) s.fs.length).2.row.length (zdR (Gate.zD (Gate.zk s ms) s.fs.length).2.row)) := by
  have hmk : ∀ w : World, (Instr.makeMap 266 none).run Tryz.prog w = .ok (.map (some w.heap.size)) (w.alloc (.map #[] 0)) := fun w => by kernel_rfl
  go_enter Tryz.func186, Tryz.ntmps186
  go_wp2_with fail
  have hb2 : Below w.heap.size w ((w.alloc (.map #[] 0)).alloc (.cells #[(.func (.func 187) #[] #[.pointer (some ⟨bm, 0, none⟩), .pointer (some ⟨bs, 0, none⟩)]), .map (some w.heap.size), .slice none 0 0] 268)) := zn _ _ _
  have hs0 := hB.size
  obtain ⟨c, hceq⟩ : ∃ c, c = (⟨s, ms, w0, ma, fa, mcap, fcap, bm, bs, w.heap.size + 1, w.heap.size, w.heap.size + 2⟩ : WalkC) := ⟨_, rfl⟩
  have hc : c.Ok := by
    subst hceq
    exact ⟨hm, hf, hl, hn, hrd, by show w0.heap.size <= w.heap.size + 1; omega, hs0, by show w.heap.size + 1 < w.heap.size + 2; omega, by show w.heap.size < w.heap.size + 2; omega, by show bm < w.heap.size + 2; omega, by show bs < w.heap.size + 2; omega, by show w.heap.size + 1 ≠ w.heap.size; omega, by show bm ≠ w.heap.size + 1; omega, by show bm ≠ w.heap.size; omega, by show bs ≠ w.heap.size + 1; omega, by show bs ≠ w.heap.size; omega⟩
  have hW : jQ c ((w.alloc (.map #[] 0)).alloc (.cells #[(.func (.func 187) #[] #[.pointer (some ⟨bm, 0, none⟩), .pointer (some ⟨bs, 0, none⟩)]), .map (some w.heap.size), .slice none 0 0] 268)) Gate.q8 (.slice none 0 0) := by
    subst hceq
    refine ⟨hB.trans (hb2.mono hs0), (hb2.cell (p := ⟨bm, 0, none⟩) hbm).trans hcm, za hcs hbs hb2, by show w.heap.size + 2 <= _; simp, (zP _ _ _).2, World.ownsRow_nil _ _ _ _, ⟨#[], 0, (zP _ _ _).1, fun x hx => by simp at hx, fun k v hk => ?_, fun i j x y hx => by simp at hx⟩⟩
    unfold Gate.zeW Gate.q8 at hk
    simp at hk
  have HC : Hid (c.Ok /\ c.s = s /\ c.ms = ms /\ c.w0 = w0 /\ c.p = w.heap.size + 1 /\ c.mr = w.heap.size /\ c.lo = w.heap.size + 2) := ⟨hc, by rw [hceq], by rw [hceq], by rw [hceq], by rw [hceq], by rw [hceq], by rw [hceq]⟩
  have HW := hid hW
  have HRD : Hid (∀ p, p < s.fs.length -> ∀ q ∈ Gate.zk s ms p, q < s.fs.length) := by have h := hc.rd; rw [hceq] at h; exact h
  have HIT := hid hit
  have HN := hid hn
  have HOP : Hid (∀ T, Gate.open' s.fs.length T <= s.fs.length) := by
    intro T
    unfold Gate.open'
    exact Nat.le_trans (List.length_filter_le _ _) (by simp)
  have HW2 : Hid (∃ W, W = ((w.alloc (.map #[] 0)).alloc (.cells #[(.func (.func 187) #[] #[.pointer (some ⟨bm, 0, none⟩), .pointer (some ⟨bs, 0, none⟩)]), .map (some w.heap.size), .slice none 0 0] 268))) := ⟨_, rfl⟩
  clear hW hc hceq hmk hB hcm hcs hrd hit hs0
  go_loopw [14] (fun iv wr => ∃ (j : Nat) (v : Value), j <= s.fs.length /\ iv = .int .i64 j /\ (Gate.zm (Gate.down (Gate.zk s ms) (s.fs.length + 1)) ((List.range s.fs.length).take j) Gate.q8).1 = true /\ jQ c wr (Gate.zm (Gate.down (Gate.zk s ms) (s.fs.length + 1)) ((List.range s.fs.length).take j) Gate.q8).2 v /\ Moves c (.slice none 0 0) ((w.alloc (.map #[] 0)).alloc (.cells #[(.func (.func 187) #[] #[.pointer (some ⟨bm, 0, none⟩), .pointer (some ⟨bs, 0, none⟩)]), .map (some w.heap.size), .slice none 0 0] 268)) v wr) (fun iv _ => s.fs.length - (intOf iv).toNat)
  case atStart => exact ⟨0, _, Nat.zero_le _, rfl, rfl, HW.out, Moves.refl _ _ _⟩
  case round =>
    obtain ⟨j, v, hj, rfl, hD, hWr, hMr⟩ := hrel
    have HWr := qJ hWr hMr
    have HD := hid hD
    clear hWr hMr hD
    by_cases hjl : j < s.fs.length
    · have HTK : Hid ((List.range s.fs.length).take (j + 1) = (List.range s.fs.length).take j ++ [j]) := by
        unfold Hid
        rw [List.take_succ_eq_append_getElem (by simpa using hjl)]
        simp
      obtain ⟨g, rfl, hgl, hgc⟩ := HIT.out (by omega)
      have hcell : wr.cell? ⟨g, j, none⟩ = some (.int .i64 (j : Int)) := by
        rw [zgg (HWr.out.2.out g (by have := hb2.size; omega) (by rw [HC.out.2.2.2.2.1]; omega) (by rw [HC.out.2.2.2.2.2.1]; omega) (by simp [Value.ownBlock]))]
        exact (hb2.cell (p := ⟨g, j, none⟩) hgl).trans (hgc j hjl)
      have hjI : (j : Int) < (s.fs.length : Int) := by omega
      have HSX : Hid ((Gate.zm (Gate.down (Gate.zk s ms) (s.fs.length + 1)) ((List.range s.fs.length).take j) Gate.q8).2.row.length + Gate.open' s.fs.length (Gate.zm (Gate.down (Gate.zk s ms) (s.fs.length + 1)) ((List.range s.fs.length).take j) Gate.q8).2 <= 6) := by
        have h1 := Gate.zeP HRD.out (s.fs.length + 1) _ Gate.q8 (fun a ha => List.mem_range.1 (List.mem_of_mem_take ha)) HD.out
        have h2 := HOP.out Gate.q8
        have h3 : Gate.q8.row.length = 0 := rfl
        have h4 := HN.out
        show _ <= _
        omega
      have HDA : Hid (Calls Tryz.prog 206 #[.pointer (some ⟨w.heap.size + 1, 0, none⟩), .int .i64 (j : Int)] wr fun e w' => ∃ v', e = .returned (.bool (Gate.down (Gate.zk s ms) (s.fs.length + 1) j (Gate.zm (Gate.down (Gate.zk s ms) (s.fs.length + 1)) ((List.range s.fs.length).take j) Gate.q8).2).1) /\ Below w0.heap.size w0 w' /\ ((Gate.down (Gate.zk s ms) (s.fs.length + 1) j (Gate.zm (Gate.down (Gate.zk s ms) (s.fs.length + 1)) ((List.range s.fs.length).take j) Gate.q8).2).1 = true -> jQ c w' (Gate.down (Gate.zk s ms) (s.fs.length + 1) j (Gate.zm (Gate.down (Gate.zk s ms) (s.fs.length + 1)) ((List.range s.fs.length).take j) Gate.q8).2).2 v' /\ Moves c v wr v' w')) := by
        have h := zpG c HC.out.1 (s.fs.length + 1) j (Gate.zm (Gate.down (Gate.zk s ms) (s.fs.length + 1)) ((List.range s.fs.length).take j) Gate.q8).2 v wr (by rw [HC.out.2.1]; exact hjl) (by rw [HC.out.2.1]; have := HOP.out (Gate.zm (Gate.down (Gate.zk s ms) (s.fs.length + 1)) ((List.range s.fs.length).take j) Gate.q8).2; omega) (by rw [HC.out.2.1]; exact HSX.out) HWr.out.1
        rw [HC.out.2.1, HC.out.2.2.1, HC.out.2.2.2.1, HC.out.2.2.2.2.1] at h
        exact h
      go_wp2_with fail
      refine HDA.out.mono ?_
      rintro e w3 ⟨v3, rfl, hb3, hyes⟩
      by_cases hd : (Gate.down (Gate.zk s ms) (s.fs.length + 1) j (Gate.zm (Gate.down (Gate.zk s ms) (s.fs.length + 1)) ((List.range s.fs.length).take j) Gate.q8).2).1 = true
      · have HS : Hid ((Gate.zm (Gate.down (Gate.zk s ms) (s.fs.length + 1)) ((List.range s.fs.length).take (j + 1)) Gate.q8) = Gate.down (Gate.zk s ms) (s.fs.length + 1) j (Gate.zm (Gate.down (Gate.zk s ms) (s.fs.length + 1)) ((List.range s.fs.length).take j) Gate.q8).2) := by unfold Hid; rw [HTK.out, Gate.zaL, if_pos HD.out]
        have HY := hid (hyes hd)
        have HDD := hid hd
        rw [hd]
        clear hyes hb3 hd hcell hgc HDA
        go_wp2_with fail
        exact ⟨⟨j + 1, v3, by omega, by go_num, by rw [HS.out]; exact HDD.out, by rw [HS.out]; exact HY.out.1, HWr.out.2.trans HY.out.2⟩, zi hjl⟩
      · have hdf : (Gate.down (Gate.zk s ms) (s.fs.length + 1) j (Gate.zm (Gate.down (Gate.zk s ms) (s.fs.length + 1)) ((List.range s.fs.length).take j) Gate.q8).2).1 = false := by simpa using hd
        have HF : Hid ((Gate.zD (Gate.zk s ms) s.fs.length).1 = false) := by
          have h1 : (Gate.zm (Gate.down (Gate.zk s ms) (s.fs.length + 1)) ((List.range s.fs.length).take (j + 1)) Gate.q8).1 = false := by rw [HTK.out, Gate.zaL, if_pos HD.out]; exact hdf
          have h2 := Gate.zcf (Gate.down (Gate.zk s ms) (s.fs.length + 1)) ((List.range s.fs.length).take (j + 1)) ((List.range s.fs.length).drop (j + 1)) Gate.q8 h1
          rw [List.take_append_drop] at h2
          exact h2
        have HB3 : Hid (Below w0.heap.size w0 w3) := hb3
        rw [hdf]
        clear hyes hb3 hd hdf hcell hgc HDA
        go_wp2_with fail
        go_ret2
        exact ⟨_, by rw [HF.out]; rfl, HB3.out, fun h => by rw [HF.out] at h; cases h⟩
    · have e : j = s.fs.length := by omega
      have hall : (List.range s.fs.length).take j = List.range s.fs.length := List.take_of_length_le (by simp; omega)
      rw [hall] at HWr HD
      have HY : Hid ((Gate.zD (Gate.zk s ms) s.fs.length).1 = true) := HD.out
      have HWW : Hid (jQ c wr (Gate.zD (Gate.zk s ms) s.fs.length).2 v) := HWr.out.1
      have hpc : ∀ k, wr.cell? ⟨w.heap.size + 1, k, none⟩ = (#[c.fn, .map (some c.mr), v] : Array Value)[k]? := by have h := za6 HWW.out.cells; rw [HC.out.2.2.2.2.1] at h; exact h
      obtain ⟨va, vcap, hve⟩ := yE HWW.out.row
      subst hve
      subst e
      clear HWr HD hall
      go_wp2_with fail
      go_ret2
      refine ⟨_, by rw [HY.out]; rfl, by have h := HWW.out.base; rw [HC.out.2.2.2.1] at h; exact h, fun _ => ?_⟩
      have h := HWW.out.row
      rw [HC.out.2.2.2.2.2.2] at h
      exact jo h (by omega)
end Go.Proofs.YtfpeplbmfbepcaaGreat

namespace Go.Proofs.YtfpeplbmfbepcaaGreat
open Go.RowKit
theorem zoW (k : Nat) : zdR (List.range (k + 1)) = zdR (List.range k) ++ [.int .i64 (k : Int)] := by simp [zdR, List.range_succ]
set_option maxRecDepth 20000 in
set_option maxHeartbeats 4000000 in
theorem zgN (s : Shp) (ms : List Mnd) (ma fa : Option Addr) (mcap fcap : Nat) (w : World) (hm : qy w ma ms) (hf : zW w fa s.fs) (hl : ms.length <= 1048576) (hn : s.fs.length <= 6)
    (hrd : ∀ q, q < s.fs.length -> ∀ x ∈ Gate.yg s ms q, 0 <= x /\ x < s.fs.length) :
    Calls Tryz.prog 144 #[.agg #[.string s.kd, .slice fa s.fs.length fcap], .slice ma ms.length mcap] w
      fun e w' => ∃ v, e = .returned (.tuple #[v, .bool (Gate.zD (Gate.zk s ms) s.fs.length).1]) /\ Below w.heap.size w w' /\ ((Gate.zD (Gate.zk s ms) s.fs.length).1 = true -> w'.ownsRow w.heap.size 3 1 v (Gate.zD (Gate.zk s ms) s.fs.length).2.row.length (zdR (Gate.zD (Gate.zk s ms) s.fs.length).2.row)) := by
  obtain ⟨i0, hi0, hz0, hz1', hz2⟩ := info_parts Tryz.zfe
  have HH := zoB hm hf hl hn hrd
  clear hm hf hl hrd
  go_enter Tryz.func144, Tryz.ntmps144
  go_wp2_with fail
  go_loopw [6, 11] (fun v0 iv wr => ∃ (k : Nat) (v : Value), v = v0 /\ k <= s.fs.length /\ iv = .int .i64 k /\ wr.ownsRow (w.heap.size + 2) 3 1 v k (zdR (List.range k)) /\ wr.heap[w.heap.size]? = some (.cells #[.string s.kd, .slice fa s.fs.length fcap] 123) /\ wr.heap[w.heap.size + 1]? = some (.cells #[.slice ma ms.length mcap] 38) /\ Below w.heap.size w wr) (fun _ iv _ => s.fs.length - (intOf iv).toNat)
  case atStart => exact ⟨0, _, rfl, Nat.zero_le _, rfl, World.ownsRow_nil _ _ _ _, (zP _ _ _).1, (zP _ _ _).2, zn _ _ _⟩
  case round =>
    obtain ⟨k, v, hv, hk, rfl, hown, hs, hmm, hB⟩ := hrel
    subst hv
    have HX := zia hown hs hmm hB
    have hzz := (Array.getElem?_eq_some_iff.1 hmm).1
    clear hown hs hmm hB
    by_cases hlt : k < s.fs.length
    · have hltI : (k : Int) < (s.fs.length : Int) := by omega
      have hgb : ∀ g, v.ownBlock = some g -> w.heap.size + 2 <= g := fun g hg => (HX.out.1.lt g hg).1
      have HGB := hid hgb
      clear hgb
      go_wp2_with (at_builtin; refine zga ?_)
      show wpList _ _ _ _ _ _
      refine wpList_append_own _ rfl (.tmp 14) (.tmp 16) 35 rfl (w.heap.size + 2) 3 i0 (.int .i64 0) 1 8 Tryz.underlying35 hi0 hz0 hz1' hz2 rfl (by decide) v _ _ rfl (HX.out.1.alloc _) ⟨wr.heap.size, 0, none⟩ 1 1 [.int .i64 (k : Int)] rfl rfl (zbI _ _ _) (by intro u hu; simp at hu; subst hu; rfl) (by unfold maxLen; omega) (by omega) (by simp; omega) ?_
      intro v' w1 hown' hgr _
      obtain ⟨va, vcap, rfl⟩ := yE hown'
      go_wp2_with fail
      refine ⟨⟨k + 1, _, rfl, by omega, by go_num, by rw [zoW]; exact hown', ?_, ?_, zam HX.out.2.2.2 HX.out.2.2.2.size hgr (fun g hg => by have := HGB.out g hg; omega)⟩, zi hlt⟩
      · exact (zan hgr (by simp; omega) (fun g hg => by have := HGB.out g hg; omega)).trans ((Below.heap_alloc _ _ _ (by omega)).trans HX.out.2.1)
      · exact (zan hgr (by simp; omega) (fun g hg => by have := HGB.out g hg; omega)).trans ((Below.heap_alloc _ _ _ hzz).trans HX.out.2.2.1)
    · have e : k = s.fs.length := by omega
      subst e
      obtain ⟨va, vcap, rfl⟩ := yE HX.out.1
      have HPL : Hid (zlZ wr va s.fs.length) := by
        intro hpos
        obtain ⟨_, ⟨h0, h1⟩ | ⟨g, cap, cur, h0, h1⟩⟩ := id HX.out.1
        · omega
        · cases h0
          refine ⟨g, rfl, (HX.out.1.lt g rfl).2, fun q hq => ?_⟩
          rw [HX.out.1.cellAt q (by omega)]
          simp [zdR, hq]
      go_wp2_with fail
      refine (zou s ms w ma fa va mcap fcap vcap (w.heap.size + 1) w.heap.size wr HH.out.1 HH.out.2.1 HH.out.2.2.1 HH.out.2.2.2.1 HH.out.2.2.2.2 HX.out.2.2.2 hzz (by omega) (by rw [cell_of_block HX.out.2.2.1]; rfl) (fun j => cell_of_block HX.out.2.1) HPL.out).mono ?_
      rintro e w2 ⟨v2, rfl, hb2, hyes⟩
      have HY : Hid (Below w.heap.size w w2 /\ ((Gate.zD (Gate.zk s ms) s.fs.length).1 = true -> w2.ownsRow w.heap.size 3 1 v2 (Gate.zD (Gate.zk s ms) s.fs.length).2.row.length (zdR (Gate.zD (Gate.zk s ms) s.fs.length).2.row))) := ⟨hb2, fun h => jo (hyes h) (by omega)⟩
      clear hb2 hyes
      go_wp2_with fail
      go_ret2
      exact ⟨v2, rfl, HY.out⟩
end Go.Proofs.YtfpeplbmfbepcaaGreat

namespace Go.Proofs.YtfpeplbmfbepcaaGreat
open Go.RowKit
theorem Gate.zpn (ts : List Tm) : (!(ts.any fun t => !Gate.zdy ts t)) = Gate.up (Gate.ze1 ts) ts.length := by
  rw [Bool.eq_iff_iff, Gate.zcj]
  simp only [Bool.not_eq_true', List.any_eq_false]
  constructor
  · intro h i hi
    have := h ts[i] (List.getElem_mem hi)
    unfold Gate.ze1
    rw [Gate.getD_at ts i _ hi]
    simpa using this
  · intro h x hx
    obtain ⟨k, hk, rfl⟩ := List.mem_iff_getElem.1 hx
    have := h k hk
    unfold Gate.ze1 at this
    rw [Gate.getD_at ts k _ hk] at this
    simp [this]
theorem Gate.zb0 (ts : List Tm) (k : Nat) (h : k < ts.length) (b : Bool) (hb : (decide (k = 0) || Gate.less (ts.getD (k - 1) Gate.za1).nm ts[k].nm) = b) :
    Gate.yV ts k = (Gate.zy ts[k].nm && b && (ts[k].ov.toList.isEmpty || Gate.yh ts ts[k].ov)) := by
  unfold Gate.yV; rw [Gate.getD_at ts k _ h, hb]
set_option maxHeartbeats 4000000 in
theorem zhI (a : Option Addr) (cap : Nat) (ts : List Tm) (w : World) (hw : jh w a ts) :
    Calls Tryz.prog 108 #[.slice a ts.length cap] w fun e w' => e = .returned (.bool (Gate.zbk ts)) /\ Below w.heap.size w w' := by
  have hl := hw.len
  unfold maxLen at hl
  by_cases h12 : ts.length <= 12
  rotate_left
  · have HF : Hid (Gate.zbk ts = false) := by simp [Hid, Gate.zbk, h12]
    clear hw
    go_enter Tryz.func108, Tryz.ntmps108
    go_wp2_with fail
    go_ret
    exact ⟨ze HF.out.symm, (Below.refl _ _).alloc (Nat.le_refl _) _⟩
  have HG : Hid (Gate.zbk ts = (Gate.up (Gate.yV ts) ts.length && Gate.up (Gate.ze1 ts) ts.length)) := by simp [Hid, Gate.zbk, h12]
  have h12I : (ts.length : Int) <= 12 := by omega
  go_enter Tryz.func108, Tryz.ntmps108
  go_wp2_with fail
  have hB00 : Below w.heap.size w (w.alloc (.cells #[.slice a ts.length cap] 39)) := (Below.refl _ _).alloc (Nat.le_refl _) _
  have hX00 := zG w #[.slice a ts.length cap] 39
  have hz00 : w.heap.size < (w.alloc (.cells #[.slice a ts.length cap] 39)).heap.size := by simp
  obtain ⟨w0, hw0⟩ : ∃ w0, w0 = w.alloc (.cells #[.slice a ts.length cap] 39) := ⟨_, rfl⟩
  rw [<- hw0] at hB00 hX00 hz00 ⊢
  have HW0 : Hid (jh w0 a ts) := hw.mono hB00
  have HB00 : Hid (Below w.heap.size w w0) := hB00
  clear hw0 hw hB00
  go_loopw [10] (fun i wr => ∃ k : Nat, k <= ts.length /\ i = .int .i64 k /\ Gate.up (Gate.yV ts) k = true /\ Below w0.heap.size w0 wr) (fun i _ => ts.length - (intOf i).toNat)
  case atStart => exact ⟨0, Nat.zero_le _, rfl, rfl, Below.refl _ _⟩
  case round =>
    obtain ⟨k, hk, rfl, hup, hB⟩ := hrel
    have hsz := hB.size
    have hX := za hX00 hz00 hB
    have hX0 : wr.cell? ⟨w.heap.size, 0, none⟩ = some (.slice a ts.length cap) := hX 0
    have hzr : w.heap.size < wr.heap.size := by omega
    have HBr : Hid (Below w.heap.size w wr) := HB00.out.trans (hB.mono (by omega))
    clear hX hX00
    by_cases hlt : k < ts.length
    · obtain ⟨b, off, rfl, hb, c0, c1⟩ := HW0.out.load hB k hlt
      have hbr : b < wr.heap.size := by omega
      have hsm := HW0.out.small k hlt
      have hsn := hsm.nm
      have HS : Hid (Gate.yV ts k = true -> Gate.up (Gate.yV ts) (k + 1) = true) := fun h => by rw [Gate.jG, hup, h]; rfl
      have HN : Hid (Gate.yV ts k = false -> Gate.zbk ts = false) := fun h => by rw [HG.out, Gate.zbg hlt h]; rfl
      have hltI : (k : Int) < (ts.length : Int) := by omega
      have HB : Hid (Below w0.heap.size w0 wr) := hB
      clear hup hsm hB
      by_cases hn : Gate.zy ts[k].nm = true
      rotate_left
      · have HNm : Hid (Gate.zy ts[k].nm = false) := by simpa [Hid] using hn
        have HF : Hid (Gate.yV ts k = false) := by unfold Hid; rw [Gate.zb0 ts k hlt _ rfl, HNm.out]; rfl
        clear hn
        go_wp2_with fail
        go_quiet ((go_at_call 145; exact Calls.quiet_of_same (zw HNm.out (zR _ _ hsn))))
        go_wp2_with fail
        go_ret
        exact ⟨ze (HN.out HF.out).symm, below_drewN (HBr.out.alloc (by omega) _) _⟩
      have HNm : Hid (Gate.zy ts[k].nm = true) := hn
      clear hn
      by_cases hbad : 0 < k /\ Gate.less (ts.getD (k - 1) Gate.za1).nm ts[k].nm = false
      · obtain ⟨hkpos, hls⟩ := hbad
        have HF : Hid (Gate.yV ts k = false) := by
          unfold Hid; rw [Gate.zb0 ts k hlt false (by rw [hls, decide_eq_false (show ¬ k = 0 by omega)]; rfl)]; simp
        obtain ⟨m, rfl⟩ : ∃ m, k = m + 1 := ⟨k - 1, by omega⟩
        rw [Nat.add_sub_cancel, Gate.getD_at ts m _ (by omega)] at hls
        obtain ⟨b', off', e', hb', d0, d1⟩ := HW0.out.load HB.out m (by omega)
        simp only [Option.some.injEq, Addr.mk.injEq] at e'
        obtain ⟨rfl, rfl, _⟩ := e'
        have hls' : Op.bytesLess ts[m].nm.toList ts[m + 1].nm.toList = false := hls
        have hmI : (m : Int) < 12 := by omega
        have hm0 : (0 : Int) <= (m : Int) := by omega
        have hml : (m : Int) < (ts.length : Int) := by omega
        have hmw : IntKind.i64.wrap (m : Int) = m := by rw [IntKind.wrap_i64]; omega
        clear hls
        go_wp2_with fail
        go_quiet ((go_at_call 145; exact Calls.quiet_of_same (zw HNm.out (zR _ _ hsn))))
        go_wp2_with fail
        go_ret
        exact ⟨ze (HN.out HF.out).symm, below_drewN (HBr.out.alloc (by omega) _) _⟩
      have hgd : (decide (k = 0) || Gate.less (ts.getD (k - 1) Gate.za1).nm ts[k].nm) = true := by
        by_cases hk0 : k = 0
        · simp [hk0]
        · cases hq : Gate.less (ts.getD (k - 1) Gate.za1).nm ts[k].nm
          · exact absurd ⟨by omega, hq⟩ hbad
          · simp
      have HA : Hid (Gate.yV ts k = (ts[k].ov.toList.isEmpty || Gate.yh ts ts[k].ov)) := by
        unfold Hid; rw [Gate.zb0 ts k hlt true hgd, HNm.out]; rfl
      have hgood : (decide (0 < k) = false) \/ (decide (0 < k) = true /\ ∃ m, k = m + 1 /\ ∃ h : m < ts.length, Op.bytesLess ts[m].nm.toList ts[k].nm.toList = true /\ wr.cell? ⟨b, off + m * 2, none⟩ = some (.string ts[m].nm)) := by
        by_cases hk0 : k = 0
        · exact Or.inl (by simp; omega)
        · refine Or.inr ⟨by simp; omega, k - 1, by omega, by omega, ?_, ?_⟩
          · rw [decide_eq_false hk0, Gate.getD_at ts (k - 1) _ (by omega)] at hgd
            exact hgd
          · obtain ⟨b', off', e', hb', d0, d1⟩ := HW0.out.load HB.out (k - 1) (by omega)
            simp only [Option.some.injEq, Addr.mk.injEq] at e'
            obtain ⟨rfl, rfl, _⟩ := e'
            exact d0
      clear hbad hgd
      have HBx : Hid (∀ (ob : Obj) (n : Nat), Below wr.heap.size wr ((wr.alloc ob).drewN n)) := fun ob n => below_drewN ((Below.refl _ _).alloc (Nat.le_refl _) _) _
      by_cases hov : ts[k].ov.toList.isEmpty = true
      · have HT : Hid (Gate.yV ts k = true) := by unfold Hid; rw [HA.out, hov]; rfl
        rcases hgood with hg | ⟨hg, m, rfl, hm, hls', d0⟩
        · go_wp2_with fail
          go_quiet ((go_at_call 145; exact Calls.quiet_of_same (zw HNm.out (zR _ _ hsn))))
          go_wp2_with fail
          exact ⟨⟨k + 1, by omega, by go_num, HS.out HT.out, HB.out.trans ((HBx.out _ _).mono hsz)⟩, by simp [intOf]; omega⟩
        · have hmI : (m : Int) < 12 := by omega
          have hm0 : (0 : Int) <= (m : Int) := by omega
          have hml : (m : Int) < (ts.length : Int) := by omega
          have hmw : IntKind.i64.wrap (m : Int) = m := by rw [IntKind.wrap_i64]; omega
          go_wp2_with fail
          go_quiet ((go_at_call 145; exact Calls.quiet_of_same (zw HNm.out (zR _ _ hsn))))
          go_wp2_with fail
          exact ⟨⟨m + 1 + 1, by omega, by go_num, HS.out HT.out, HB.out.trans ((HBx.out _ _).mono hsz)⟩, by simp [intOf]; omega⟩
      · have hov' : ts[k].ov.toList.isEmpty = false := by simpa using hov
        clear hov
        by_cases hit : Gate.yh ts ts[k].ov = true
        · have HI : Hid (Gate.yh ts ts[k].ov = true) := hit
          have HT : Hid (Gate.yV ts k = true) := by unfold Hid; rw [HA.out, hit]; simp
          clear hit
          rcases hgood with hg | ⟨hg, m, rfl, hm, hls', d0⟩
          · go_wp2_with fail
            go_quiet ((go_at_call 145; exact Calls.quiet_of_same (zw HNm.out (zR _ _ hsn))))
            go_wp2_with fail
            refine (zw HI.out (zcc _ _ ts _ _ ((HW0.out.mono HB.out).mono (HBx.out _ _)))).mono ?_
            rintro e w3 ⟨rfl, hb3⟩
            have hB3 : Below w0.heap.size w0 w3 := (HB.out.trans ((HBx.out _ _).mono hsz)).trans (hb3.mono (by simp; omega))
            clear hb3
            go_wp2_with fail
            exact ⟨⟨k + 1, by omega, by go_num, HS.out HT.out, hB3⟩, by simp [intOf]; omega⟩
          · have hmI : (m : Int) < 12 := by omega
            have hm0 : (0 : Int) <= (m : Int) := by omega
            have hml : (m : Int) < (ts.length : Int) := by omega
            have hmw : IntKind.i64.wrap (m : Int) = m := by rw [IntKind.wrap_i64]; omega
            go_wp2_with fail
            go_quiet ((go_at_call 145; exact Calls.quiet_of_same (zw HNm.out (zR _ _ hsn))))
            go_wp2_with fail
            refine (zw HI.out (zcc _ _ ts _ _ ((HW0.out.mono HB.out).mono (HBx.out _ _)))).mono ?_
            rintro e w3 ⟨rfl, hb3⟩
            have hB3 : Below w0.heap.size w0 w3 := (HB.out.trans ((HBx.out _ _).mono hsz)).trans (hb3.mono (by simp; omega))
            clear hb3
            go_wp2_with fail
            exact ⟨⟨m + 1 + 1, by omega, by go_num, HS.out HT.out, hB3⟩, by simp [intOf]; omega⟩
        · have HI : Hid (Gate.yh ts ts[k].ov = false) := by simpa [Hid] using hit
          have HF : Hid (Gate.yV ts k = false) := by unfold Hid; rw [HA.out, HI.out, hov']; rfl
          clear hit
          rcases hgood with hg | ⟨hg, m, rfl, hm, hls', d0⟩
          focus
            go_wp2_with fail
          rotate_left
          focus
            have hmI : (m : Int) < 12 := by omega
            have hm0 : (0 : Int) <= (m : Int) := by omega
            have hml : (m : Int) < (ts.length : Int) := by omega
            have hmw : IntKind.i64.wrap (m : Int) = m := by rw [IntKind.wrap_i64]; omega
            go_wp2_with fail
          all_goals
            go_quiet ((go_at_call 145; exact Calls.quiet_of_same (zw HNm.out (zR _ _ hsn))))
            go_wp2_with fail
            refine (zw HI.out (zcc _ _ ts _ _ ((HW0.out.mono HB.out).mono (HBx.out _ _)))).mono ?_
            rintro e w3 ⟨rfl, hb3⟩
            have hB3 : Below w.heap.size w w3 := (HBr.out.trans ((HBx.out _ _).mono (by omega))).trans (hb3.mono (by simp; omega))
            clear hb3
            go_wp2_with fail
            go_ret
            exact ⟨ze (HN.out HF.out).symm, hB3⟩
    · have HF : Hid (Gate.zbk ts = !(ts.any fun t => !Gate.zdy ts t)) := by
        have e : k = ts.length := by omega
        subst e; rw [Hid, HG.out, hup, Gate.zpn]; rfl
      have HWr : Hid (jh wr a ts) := HW0.out.mono hB
      clear hup hB
      go_wp2_with fail
      refine (zfX _ _ ts _ _ _ HWr.out (zoy _ _ ts _ _ HWr.out hzr hX0)).mono ?_
      rintro e w3 ⟨rfl, hb3⟩
      have hB3 : Below w.heap.size w w3 := HBr.out.trans (hb3.mono (by omega))
      clear hb3
      go_wp2_with fail
      go_ret
      exact ⟨ze HF.out.symm, hB3⟩
end Go.Proofs.YtfpeplbmfbepcaaGreat
