import Derived.Test.YtfcdmlnpfoikhaaGreatM02
import Derived.Deep.RegionHeld3
import Derived.Deep.OwnRows
import Derived.MapKept
import Derived.Test.YtfcdmlnpfoikhaaGreatM03
import Derived.Test.YtfcdmlnpfoikhaaGreatM06
import Derived.Deep.QuietTactic
import Derived.BigQuiet
import Derived.Test.YtfcdmlnpfoikhaaGreatM09
import Derived.Test.YtfcdmlnpfoikhaaGreatM01
import Derived.Maps.AppendAt
import Derived.Test.YtfcdmlnpfoikhaaGreatM07
import Derived.WalkKit
import Derived.WalkSpells
import Derived.WalkLawsBesides
import Derived.Deep.RegionWith
import Derived.Test.YtfcdmlnpfoikhaaGreatRows
namespace Go.Proofs.YtfcdmlnpfoikhaaGreat
open Go.RowKit
namespace Gate
def isSet (s : ByteArray) : Bool := !s.toList.isEmpty
def zK (m : Mnd) : List ByteArray := [m.wh, m.fr].filter isSet
def turns (m : Mnd) (s : Shp) (p : Nat) : Bool := decide (m.kd = s.kd) && decide (m.fd = (s.fs.getD p zaZ).nm)
end Gate
set_option maxRecDepth 20000 in
set_option maxHeartbeats 2000000 in
theorem zen (m : Mnd) (w : World) :
    Calls Tryz.prog 179 #[.agg m.cells] w fun e w' => ∃ v, e = .returned v /\ w'.ownsRow w.heap.size 9 1 v (Gate.zK m).length ((Gate.zK m).map Value.string) /\ Below w.heap.size w w' := by
  unfold Mnd.cells
  obtain ⟨i0, hi, hz0, hz1', hz2⟩ := info_parts Tryz.zc4
  go_enter Tryz.func179, Tryz.ntmps179
  go_wp2_with fail
  go_loopw [3, 12] (fun nv0 iv wr => ∃ (k : Nat) (nv : Value), nv = nv0 /\ k <= 2 /\ iv = .int .i64 k /\ wr.ownsRow (w.heap.size + 2) 9 1 nv (([m.wh, m.fr].take k).filter Gate.isSet).length ((([m.wh, m.fr].take k).filter Gate.isSet).map Value.string) /\ wr.heap[w.heap.size + 1]? = some (.cells #[.string m.wh, .string m.fr] 9) /\ Below w.heap.size w wr) (fun _ iv _ => 2 - (intOf iv).toNat)
  case atStart => exact ⟨0, _, rfl, by omega, rfl, World.ownsRow_nil _ _ _ _, (zR _ _ _).2, zq _ _ _⟩
  case round =>
    obtain ⟨k, nv, hnv, hk, rfl, hown, hlit, hB⟩ := hrel
    subst hnv
    by_cases hlt : k < 2
    · have hltI : (k : Int) < 2 := by omega
      obtain ⟨x, hx, HT⟩ : ∃ x, (#[.string m.wh, .string m.fr] : Array Value)[k]? = some (.string x) /\ Hid (([m.wh, m.fr].take (k + 1)).filter Gate.isSet = ([m.wh, m.fr].take k).filter Gate.isSet ++ if Gate.isSet x = true then [x] else []) := by
        rcases k with _ | _ | k
        · refine ⟨m.wh, rfl, ?_⟩
          by_cases h : Gate.isSet m.wh = true <;> simp [Hid, h]
        · refine ⟨m.fr, rfl, ?_⟩
          by_cases h : Gate.isSet m.fr = true <;> by_cases h' : Gate.isSet m.wh = true <;> simp [Hid, h, h']
        · omega
      have hcx : wr.cell? ⟨w.heap.size + 1, k, none⟩ = some (.string x) := by rw [cell_of_block hlit]; exact hx
      have hlen : (([m.wh, m.fr].take k).filter Gate.isSet).length <= 2 := Nat.le_trans (List.length_filter_le _ _) (by simp; omega)
      have HB := zfw hlit hB ((Array.getElem?_eq_some_iff.1 hlit).1)
      have HW := hid hown
      clear hlit hB hx hown
      by_cases hs : x.toList.isEmpty = true
      · have HE : Hid (Gate.isSet x = false) := by unfold Hid Gate.isSet; rw [hs]; rfl
        go_wp2_with fail
        have HT' : ([m.wh, m.fr].take (k + 1)).filter Gate.isSet = ([m.wh, m.fr].take k).filter Gate.isSet := by rw [HT.out, HE.out]; simp
        exact ⟨⟨k + 1, _, rfl, by omega, by go_num, by rw [HT']; exact HW.out, HB.out.1, HB.out.2.1⟩, zk hlt⟩
      · have hs' : x.toList.isEmpty = false := by simpa using hs
        have HE : Hid (Gate.isSet x = true) := by unfold Hid Gate.isSet; rw [hs']; rfl
        clear hs
        go_wp2_with (at_builtin; refine wpList_append_own _ rfl (.tmp 18) (.tmp 20) 98 rfl (w.heap.size + 2) 9 i0 (.string ByteArray.empty) 1 16 Tryz.underlying98 hi hz0 hz1' hz2 rfl (by decide) _ _ _ rfl (HW.out.alloc _) ⟨wr.heap.size, 0, none⟩ 1 1 [.string x] rfl rfl (zbR _ _ _) (by intro u hu; simp at hu; subst hu; rfl) (by unfold maxLen; omega) (by omega) (by have := HB.out.2.2; simp; omega) ?_; intro v' w1 hown' hgr _)
        have HT' : ([m.wh, m.fr].take (k + 1)).filter Gate.isSet = ([m.wh, m.fr].take k).filter Gate.isSet ++ [x] := by rw [HT.out, HE.out]; simp
        have hgb : ∀ g, nv.ownBlock = some g -> w.heap.size + 2 <= g := fun g hg => (HW.out.lt g hg).1
        refine ⟨⟨k + 1, _, rfl, by omega, by go_num, ?_, ?_, zaR HB.out.2.1 HB.out.2.1.size hgr (fun g hg => by have := hgb g hg; omega)⟩, zk hlt⟩
        · rw [HT', List.length_append, List.map_append]; exact hown'
        · rw [zah hgr (by have := HB.out.2.2; simp; omega) (fun g hg => by have := hgb g hg; omega), Below.heap_alloc _ _ _ HB.out.2.2]; exact HB.out.1
    · have e : k = 2 := by omega
      subst e
      have HF : Hid (wr.ownsRow w.heap.size 9 1 nv (Gate.zK m).length ((Gate.zK m).map Value.string) /\ Below w.heap.size w wr) := ⟨jN hown (by omega), hB⟩
      clear hown hlit hB
      go_wp2_with fail
      go_ret
      exact ⟨nv, rfl, HF.out⟩
set_option maxHeartbeats 1000000 in
theorem zjR (m : Mnd) (s : Shp) (fa : Option Addr) (fcap p : Nat) (w : World) (hf : zY w fa s.fs) (hp : p < s.fs.length) :
    Calls Tryz.prog 184 #[.agg m.cells, .agg #[.string s.kd, .slice fa s.fs.length fcap], .int .i64 p] w fun e w' => e = .returned (.bool (Gate.turns m s p)) /\ Below w.heap.size w w' := by
  unfold Mnd.cells
  have hB : ∀ o1 o2, Below w.heap.size w ((w.alloc o1).alloc o2) := fun o1 o2 => zq w o1 o2
  have hl := hf.len
  unfold maxLen at hl
  obtain ⟨b, off, rfl, hb, hr⟩ := hf.rows (by intro e; rw [e] at hp; simp at hp)
  obtain ⟨wa, wcap, hf0⟩ := hr p hp
  obtain ⟨c0, c1, c2, c3, c4, c5, c6, c7, c8, c9, c10⟩ := hf0.load
  have hpI : (p : Int) < (s.fs.length : Int) := by omega
  have HD : Hid ((s.fs.getD p Gate.zaZ).nm = s.fs[p].nm) := by unfold Hid; rw [Gate.getD_at _ _ _ hp]
  clear hf hr hf0 c1 c2 c3 c4 c5 c6 c7 c8 c9 c10
  by_cases h1 : m.kd = s.kd
  · by_cases h2 : m.fd = s.fs[p].nm
    · have HR : Hid (Gate.turns m s p = true) := by unfold Hid Gate.turns; rw [HD.out]; simp [h1, h2]
      have hq : (m.kd.toList == s.kd.toList) = true := by rw [Gate.beq_toList]; simpa using h1
      have hr : (m.fd.toList == s.fs[p].nm.toList) = true := by rw [Gate.beq_toList]; simpa using h2
      clear h1 h2
      go_enter Tryz.func184, Tryz.ntmps184
      go_wp2_with fail
      go_quiet (fail)
      go_wp2_with fail
      go_ret
      exact ⟨by rw [HR.out]; rfl, below_drewN (hB _ _) _⟩
    · have HR : Hid (Gate.turns m s p = false) := by unfold Hid Gate.turns; rw [HD.out]; simp [h1, h2]
      have hq : (m.kd.toList == s.kd.toList) = true := by rw [Gate.beq_toList]; simpa using h1
      have hr : (m.fd.toList == s.fs[p].nm.toList) = false := by rw [Gate.beq_toList]; simpa using h2
      clear h1 h2
      go_enter Tryz.func184, Tryz.ntmps184
      go_wp2_with fail
      go_quiet (fail)
      go_wp2_with fail
      go_ret
      exact ⟨by rw [HR.out]; rfl, below_drewN (hB _ _) _⟩
  · have HR : Hid (Gate.turns m s p = false) := by unfold Hid Gate.turns; rw [HD.out]; simp [h1]
    have hq : (m.kd.toList == s.kd.toList) = false := by rw [Gate.beq_toList]; simpa using h1
    clear h1
    go_enter Tryz.func184, Tryz.ntmps184
    go_wp2_with fail
    go_quiet (fail)
    go_wp2_with fail
    go_ret
    exact ⟨by rw [HR.out]; rfl, below_drewN (hB _ _) _⟩
end Go.Proofs.YtfcdmlnpfoikhaaGreat

namespace Go.Proofs.YtfcdmlnpfoikhaaGreat
open Go.RowKit
namespace Gate
def yg (s : Shp) (ms : List Mnd) (p : Nat) : List Int := ms.flatMap fun m => if turns m s p = true then (zK m).map (zS s.fs) else []
theorem zgG (s : Shp) (ms : List Mnd) (p k : Nat) (h : k < ms.length) : yg s (ms.take (k + 1)) p = yg s (ms.take k) p ++ if turns ms[k] s p = true then (zK ms[k]).map (zS s.fs) else [] := by
  unfold yg
  rw [List.take_succ_eq_append_getElem h, List.flatMap_append]
  simp
theorem zcT (m : Mnd) : (zK m).length <= 2 := List.length_filter_le _ _
theorem zf7 (s : Shp) (p : Nat) : ∀ ms : List Mnd, (yg s ms p).length <= ms.length * 2
  | [] => Nat.le_refl _
  | m :: ms => by
    have h1 := zf7 s p ms
    have h2 := zcT m
    unfold yg at h1 ⊢
    rw [List.flatMap_cons, List.length_append, List.length_cons]
    by_cases h : turns m s p = true
    · rw [if_pos h, List.length_map]; omega
    · rw [if_neg h, List.length_nil]; omega
end Gate
theorem zmh {w : World} {lo lo' : Nat} {e e' : TypeId} {v v' : Value} {n n' : Nat} {xs xs' : List Value} (h : w.ownsRow lo e 1 v n xs) (h' : w.ownsRow lo' e' 1 v' n' xs') (he : e ≠ e') : ∀ g, v.ownBlock = some g -> ∀ g', v'.ownBlock = some g' -> g ≠ g' := by
  intro g hg g' hg' hgg
  subst hgg
  obtain ⟨_, ⟨rfl, _⟩ | ⟨b, cap, cur, rfl, _, hh, _⟩⟩ := h
  · cases hg
  · obtain ⟨_, ⟨rfl, _⟩ | ⟨b', cap', cur', rfl, _, hh', _⟩⟩ := h'
    · cases hg'
    · have e1 : b = g := Option.some.inj hg
      have e2 : b' = g := Option.some.inj hg'
      rw [e1] at hh
      rw [e2, hh] at hh'
      simp only [Option.some.injEq, Obj.cells.injEq] at hh'
      exact he hh'.2.1
def ints (l : List Int) : List Value := l.map (Value.int .i64)
set_option maxRecDepth 20000 in
set_option maxHeartbeats 4000000 in
theorem zlO (s : Shp) (ms : List Mnd) (p bm bs : Nat) (ma fa : Option Addr) (mcap fcap : Nat) (w : World) (hm : qw w ma ms) (hf : zY w fa s.fs) (hp : p < s.fs.length) (hl : ms.length <= 1048576)
    (hbs : bs < w.heap.size) (hcm : w.cell? ⟨bm, 0, none⟩ = some (.slice ma ms.length mcap)) (hcs : ∀ j, w.cell? ⟨bs, j, none⟩ = (#[.string s.kd, .slice fa s.fs.length fcap] : Array Value)[j]?) :
    Calls Tryz.prog 183 #[.int .i64 p, .pointer (some ⟨bm, 0, none⟩), .pointer (some ⟨bs, 0, none⟩)] w fun e w' => ∃ v, e = .returned v /\ w'.ownsRow w.heap.size 3 1 v (Gate.yg s ms p).length (ints (Gate.yg s ms p)) /\ Below w.heap.size w w' := by
  obtain ⟨i0, hi, hz0, hz1', hz2⟩ := info_parts Tryz.zeO
  have HM := hid hm
  have HF := hid hf
  clear hm hf
  go_enter Tryz.func183, Tryz.ntmps183
  go_wp2_with fail
  go_loopw [5, 12] (fun v0 iv wr => ∃ (k : Nat) (v : Value), v = v0 /\ k <= ms.length /\ iv = .int .i64 k /\ wr.ownsRow w.heap.size 3 1 v (Gate.yg s (ms.take k) p).length (ints (Gate.yg s (ms.take k) p)) /\ Below w.heap.size w wr) (fun _ iv _ => ms.length - (intOf iv).toNat)
  case atStart => exact ⟨0, _, rfl, Nat.zero_le _, rfl, World.ownsRow_nil _ _ _ _, Below.refl _ _⟩
  case round =>
    obtain ⟨k, v, hv, hk, rfl, hown, hB⟩ := hrel
    subst hv
    by_cases hlt : k < ms.length
    · obtain ⟨b, off, rfl, hb, c0, c1, c2, c3, c4, c5⟩ := HM.out.load hB k hlt
      have hltI : (k : Int) < (ms.length : Int) := by omega
      have hbw := Nat.lt_of_lt_of_le hb hB.size
      have hcsr := za hcs hbs hB
      have hbsr := Nat.lt_of_lt_of_le hbs hB.size
      have HW := hid hown
      have HB := hid hB
      clear hown hB
      go_wp2_with fail
      have hba := (Below.refl wr.heap.size wr).alloc (Nat.le_refl _) (.cells #[.string ms[k].kd, .string ms[k].fd, .string ms[k].wh, .string ms[k].wi, .string ms[k].pt, .string ms[k].fr] 121)
      have ht := zjR ms[k] s fa fcap p (wr.alloc (.cells #[.string ms[k].kd, .string ms[k].fd, .string ms[k].wh, .string ms[k].wi, .string ms[k].pt, .string ms[k].fr] 121)) (HF.out.mono (HB.out.trans (hba.mono HB.out.size))) hp
      by_cases htt : Gate.turns ms[k] s p = true
      · have HS : Hid (Gate.yg s (ms.take (k + 1)) p = Gate.yg s (ms.take k) p ++ (Gate.zK ms[k]).map (Gate.zS s.fs)) := by unfold Hid; rw [Gate.zgG s ms p k hlt, if_pos htt]
        rw [htt] at ht
        refine ht.mono ?_
        rintro e w1 ⟨rfl, hb1⟩
        have hX1 := za (zH wr _ _) (by simp) hb1
        have HB1 := hid (hba.trans (hb1.mono hba.size))
        have hz1 : wr.heap.size < w1.heap.size := by have := hb1.size; simp at this; omega
        have hcs1 := za hcsr hbsr HB1.out
        clear ht hba hb1 c0 c1 c2 c3 c4 c5
        go_wp2_with fail
        refine (zen ms[k] w1).mono ?_
        rintro e w2 ⟨nv, rfl, hn, hb2⟩
        obtain ⟨na, ncap, rfl⟩ := yM hn
        have HN2 := hid hn
        have HB2 := hid (HB1.out.trans (hb2.mono HB1.out.size))
        have HW2 : Hid (w2.ownsRow w.heap.size 3 1 v (Gate.yg s (ms.take k) p).length (ints (Gate.yg s (ms.take k) p))) := yJ HW.out HB2.out
        have HNL : Hid ((Gate.zK ms[k]).length <= 2) := Gate.zcT _
        have HRL : Hid ((Gate.yg s (ms.take k) p).length <= 2097152) := by have h1 := Gate.zf7 s p (ms.take k); rw [List.length_take] at h1; show _ <= _; omega
        have hcs2 := za hcs1 (Nat.lt_trans hbsr hz1) hb2
        clear hn hb2 hX1 hcs1 hcsr
        revert HS HN2 HNL
        generalize Gate.zK ms[k] = names
        intro HS HN2 HNL
        go_wp2_with fail
        have hszw := HB2.out.size
        go_loopw [5, 24] (fun v0 iv wq => ∃ (j : Nat) (v1 : Value), v1 = v0 /\ j <= names.length /\ iv = .int .i64 j /\ wq.ownsRow w.heap.size 3 1 v1 ((Gate.yg s (ms.take k) p) ++ (names.take j).map (Gate.zS s.fs)).length (ints ((Gate.yg s (ms.take k) p) ++ (names.take j).map (Gate.zS s.fs))) /\ wq.ownsRow w1.heap.size 9 1 (.slice na names.length ncap) names.length (names.map Value.string) /\ Below w.heap.size w wq) (fun _ iv _ => names.length - (intOf iv).toNat)
        case atStart => exact ⟨0, _, rfl, Nat.zero_le _, rfl, by simpa using HW2.out, HN2.out, HB.out.trans (HB2.out.mono HB.out.size)⟩
        case round =>
          obtain ⟨j, v1, hv1, hj, rfl, hown, hnames, hB⟩ := hrel
          subst hv1
          by_cases hjl : j < names.length
          · obtain ⟨g, rfl, hcell⟩ : ∃ g, na = some ⟨g, 0, none⟩ /\ wr.cell? ⟨g, j, none⟩ = some (.string names[j]) := by
              obtain ⟨_, ⟨h0, h1⟩ | ⟨g, cap, cur, h0, h1⟩⟩ := id hnames
              · rw [h1] at hjl; exact absurd hjl (by omega)
              · cases h0
                refine ⟨g, rfl, ?_⟩
                rw [hnames.cellAt j (by omega)]
                simp [hjl]
            have hjI : (j : Int) < (names.length : Int) := by omega
            have hcsr := za hcs hbs hB
            have hbsr' := Nat.lt_of_lt_of_le hbs hB.size
            have HX := zfw hown hnames hB
            have HTK : Hid ((names.take (j + 1)).map (Gate.zS s.fs) = (names.take j).map (Gate.zS s.fs) ++ [Gate.zS s.fs names[j]]) := by unfold Hid; rw [List.take_succ_eq_append_getElem hjl, List.map_append]; rfl
            have HLL : Hid (((Gate.yg s (ms.take k) p) ++ (names.take j).map (Gate.zS s.fs)).length <= 2097156) := by have h1 := HRL.out; have h2 := HNL.out; show _ <= _; rw [List.length_append, List.length_map, List.length_take]; omega
            clear hown hnames hB
            go_wp2_with fail
            refine (qG fa fcap s.fs names[j] wr (HF.out.mono HX.out.2.2)).mono ?_
            rintro e w3 ⟨rfl, hb3⟩
            have HB3 := hid hb3
            have HX3 := zfw (yJ HX.out.1 hb3) (yJ HX.out.2.1 hb3) (HX.out.2.2.trans (hb3.mono HX.out.2.2.size))
            clear hb3 hcell hcsr
            go_wp2_with (at_builtin; refine wpList_append_own _ rfl (.tmp 28) (.tmp 33) 35 rfl w.heap.size 3 i0 (.int .i64 0) 1 8 Tryz.underlying35 hi hz0 hz1' hz2 rfl (by decide) _ _ _ rfl (HX3.out.1.alloc _) ⟨w3.heap.size, 0, none⟩ 1 1 [.int .i64 (Gate.zS s.fs names[j])] rfl rfl (zbR _ _ _) (by intro u hu; simp at hu; subst hu; rfl) (by have := HLL.out; unfold maxLen; omega) (by have := HLL.out; omega) (by have := HX3.out.2.2.size; simp; omega) ?_; intro v' w4 hown' hgr _)
            have hgb : ∀ g', v1.ownBlock = some g' -> w.heap.size <= g' := fun g' hg' => (HX3.out.1.lt g' hg').1
            have hap := zmh HX3.out.1 HX3.out.2.1 (by decide)
            refine ⟨⟨j + 1, _, rfl, by omega, by rw [wrap_one (by have := HNL.out; omega)], ?_, ?_, zaR HX3.out.2.2 HX3.out.2.2.size hgr hgb⟩, qJ hjl (by have := HNL.out; omega)⟩
            · rw [HTK.out, <- List.append_assoc, List.length_append]
              have e1 : ints ((Gate.yg s (ms.take k) p ++ (names.take j).map (Gate.zS s.fs)) ++ [Gate.zS s.fs names[j]]) = ints (Gate.yg s (ms.take k) p ++ (names.take j).map (Gate.zS s.fs)) ++ [.int .i64 (Gate.zS s.fs names[j])] := by simp [ints]
              rw [e1]
              exact hown'
            · refine jU HX3.out.2.1 (fun g' hg' => ?_)
              rw [zah hgr (by have := (HX3.out.2.1.lt g' hg').2; simp; omega) (fun q hq => fun e => hap q hq g' hg' e.symm), Below.heap_alloc _ _ _ (HX3.out.2.1.lt g' hg').2]
          · have e : j = names.length := by omega
            subst e
            rw [List.take_of_length_le (Nat.le_refl _), <- HS.out] at hown
            have HX := jE hown hB
            clear hown hnames hB
            go_wp2_with fail
            exact ⟨⟨k + 1, _, rfl, by omega, by go_num, HX.out.1, HX.out.2⟩, zk hlt⟩
      · have htf : Gate.turns ms[k] s p = false := by simpa using htt
        have HS : Hid (Gate.yg s (ms.take (k + 1)) p = Gate.yg s (ms.take k) p) := by unfold Hid; rw [Gate.zgG s ms p k hlt, if_neg htt]; simp
        rw [htf] at ht
        refine ht.mono ?_
        rintro e w1 ⟨rfl, hb1⟩
        have HB1 := hid (hba.trans (hb1.mono hba.size))
        clear ht hba hb1
        go_wp2_with fail
        exact ⟨⟨k + 1, _, rfl, by omega, by go_num, by rw [HS.out]; exact yJ HW.out HB1.out, HB.out.trans (HB1.out.mono HB.out.size)⟩, zk hlt⟩
    · have e : k = ms.length := by omega
      subst e
      rw [List.take_of_length_le (Nat.le_refl _)] at hown
      have HW := jE hown hB
      clear hown hB
      go_wp2_with fail
      go_ret
      exact ⟨v, rfl, HW.out⟩
end Go.Proofs.YtfcdmlnpfoikhaaGreat

namespace Go.Proofs.YtfcdmlnpfoikhaaGreat
open Go.RowKit
namespace Gate
def zi (s : Shp) (ms : List Mnd) (p : Nat) : List Nat := (yg s ms p).map Int.toNat
def zex (S : Far) : Int -> Option Int := fun q => if 0 <= q then (S.far q.toNat).map fun b => if b = true then 2 else 1 else none
theorem zmI (S : Far) (i : Nat) : (fun q : Int => if q = (i : Int) then some 1 else zex S q) = zex (S.under i) := by
  funext q
  by_cases h : q = (i : Int)
  · subst h; simp [zex, Far.under]
  · rw [if_neg h]
    unfold zex Far.under
    by_cases h0 : 0 <= q
    · have : q.toNat ≠ i := by omega
      simp [h0, this]
    · simp [h0]
theorem zlg (S : Far) (i : Nat) : (fun q : Int => if q = (i : Int) then some 2 else zex S q) = zex (S.behind i) := by
  funext q
  by_cases h : q = (i : Int)
  · subst h; simp [zex, Far.behind]
  · rw [if_neg h]
    unfold zex Far.behind
    by_cases h0 : 0 <= q
    · have : q.toNat ≠ i := by omega
      simp [h0, this]
    · simp [h0]
theorem zo8 (S : Far) (i : Nat) : zex S (i : Int) = (S.far i).map fun b => if b = true then 2 else 1 := by
  unfold zex; simp
theorem zaD (d : Nat -> Far -> Bool × Far) : ∀ (l : List Nat) (q : Nat) (t : Far), zm d (l ++ [q]) t = if (zm d l t).1 = true then d q (zm d l t).2 else zm d l t
  | [], q, t => by
    show (if (d q t).1 = true then zm d [] (d q t).2 else (false, (d q t).2)) = d q t
    by_cases h : (d q t).1 = true
    · rw [if_pos h]; show (true, (d q t).2) = d q t; rw [<- h]
    · rw [if_neg h]
      have : (d q t).1 = false := by simpa using h
      rw [<- this]
  | a :: l, q, t => by
    show (if (d a t).1 = true then zm d (l ++ [q]) (d a t).2 else (false, (d a t).2)) = _
    by_cases h : (d a t).1 = true
    · have e : zm d (a :: l) t = zm d l (d a t).2 := by show (if (d a t).1 = true then _ else _) = _; rw [if_pos h]
      rw [if_pos h, e]; exact zaD d l q _
    · have e : zm d (a :: l) t = (false, (d a t).2) := by show (if (d a t).1 = true then _ else _) = _; rw [if_neg h]
      rw [if_neg h, e]; rfl
theorem zb1 (d : Nat -> Far -> Bool × Far) : ∀ (l r : List Nat) (t : Far), (zm d l t).1 = false -> (zm d (l ++ r) t).1 = false
  | [], r, t, h => by cases h
  | a :: l, r, t, h => by
    show (if (d a t).1 = true then zm d (l ++ r) (d a t).2 else (false, (d a t).2)).1 = false
    by_cases hc : (d a t).1 = true
    · have e : zm d (a :: l) t = zm d l (d a t).2 := by show (if (d a t).1 = true then _ else _) = _; rw [if_pos hc]
      rw [e] at h
      rw [if_pos hc]; exact zb1 d l r _ h
    · rw [if_neg hc]
theorem zn9 {rd : Nat -> List Nat} {n : Nat} (hrd : ∀ p, p < n -> ∀ q ∈ rd p, q < n) : ∀ f p S, p < n -> (down rd f p S).1 = true -> (down rd f p S).2.row.length + open' n (down rd f p S).2 <= S.row.length + open' n S := by
  intro f
  induction f with
  | zero => intro p S _ h; cases h
  | succ f ih =>
    have hl : ∀ (l : List Nat) (t : Far), (∀ a ∈ l, a < n) -> (zm (down rd f) l t).1 = true -> (zm (down rd f) l t).2.row.length + open' n (zm (down rd f) l t).2 <= t.row.length + open' n t := by
      intro l
      induction l with
      | nil => intro t _ _; exact Nat.le_refl _
      | cons a l il =>
        intro t ha h
        unfold zm at h ⊢
        by_cases hc : (down rd f a t).1 = true
        · rw [if_pos hc] at h ⊢
          exact Nat.le_trans (il _ (fun b hb => ha b (by simp [hb])) h) (ih a t (ha a (by simp)) hc)
        · rw [if_neg hc] at h; cases h
    intro p S hp h
    unfold down at h ⊢
    rcases hf : S.far p with _ | b
    · rw [hf] at h
      simp only at h ⊢
      by_cases hc : (zm (down rd f) (rd p) (S.under p)).1 = true
      · rw [if_pos hc]
        have h1 := hl _ _ (hrd p hp) hc
        have h2 := zeJ hp hf
        have h3 : open' n ((zm (down rd f) (rd p) (S.under p)).2.behind p) <= open' n (zm (down rd f) (rd p) (S.under p)).2 := by
          apply zjx
          intro q hq
          simp only [Far.behind]
          split
          · rfl
          · exact hq
        have h4 : ((zm (down rd f) (rd p) (S.under p)).2.behind p).row.length = (zm (down rd f) (rd p) (S.under p)).2.row.length + 1 := by simp [Far.behind]
        have h5 : (S.under p).row = S.row := rfl
        rw [h5] at h1
        simp only
        omega
      · rw [if_neg hc] at h; cases h
    · exact Nat.le_refl _
theorem zer {rd : Nat -> List Nat} {n : Nat} (hrd : ∀ p, p < n -> ∀ q ∈ rd p, q < n) (f : Nat) : ∀ (l : List Nat) (t : Far), (∀ a ∈ l, a < n) -> (zm (down rd f) l t).1 = true -> (zm (down rd f) l t).2.row.length + open' n (zm (down rd f) l t).2 <= t.row.length + open' n t := by
  intro l
  induction l with
  | nil => intro t _ _; exact Nat.le_refl _
  | cons a l il =>
    intro t ha h
    unfold zm at h ⊢
    by_cases hc : (down rd f a t).1 = true
    · rw [if_pos hc] at h ⊢
      exact Nat.le_trans (il _ (fun b hb => ha b (by simp [hb])) h) (zn9 hrd f a t (ha a (by simp)) hc)
    · rw [if_neg hc] at h; cases h
end Gate
def zdz (l : List Nat) : List Value := l.map fun q : Nat => Value.int .i64 (q : Int)
theorem zaV {w : World} {b : Nat} {X : Array Value} {t : TypeId} (h : w.heap[b]? = some (.cells X t)) : ∀ j, w.cell? ⟨b, j, none⟩ = X[j]? := fun _ => cell_of_block h
theorem zfb {w : World} {b : Nat} {X : Array Value} {t : TypeId} (h : w.heap[b]? = some (.cells X t)) : ∀ j, w.frozen? ⟨b, j, none⟩ = false := fun _ => zh h
structure WalkC where
  s : Shp
  ms : List Mnd
  w0 : World
  ma : Option Addr
  fa : Option Addr
  mcap : Nat
  fcap : Nat
  bm : Nat
  bs : Nat
  p : Nat
  mr : Nat
  lo : Nat
structure WalkC.Ok (c : WalkC) : Prop where
  mnds : qw c.w0 c.ma c.ms
  zcn : zY c.w0 c.fa c.s.fs
  few : c.ms.length <= 1048576
  fewf : c.s.fs.length <= 6
  reads : ∀ q, q < c.s.fs.length -> ∀ x ∈ Gate.yg c.s c.ms q, 0 <= x /\ x < c.s.fs.length
  bp : c.w0.heap.size <= c.p
  bmr : c.w0.heap.size <= c.mr
  plo : c.p < c.lo
  mlo : c.mr < c.lo
  bml : c.bm < c.lo
  bsl : c.bs < c.lo
  pm : c.p ≠ c.mr
  bmp : c.bm ≠ c.p
  bmm : c.bm ≠ c.mr
  bsp : c.bs ≠ c.p
  bsm : c.bs ≠ c.mr
def WalkC.fn (c : WalkC) : Value := .func (.func 183) #[] #[.pointer (some ⟨c.bm, 0, none⟩), .pointer (some ⟨c.bs, 0, none⟩)]
structure jO (c : WalkC) (w : World) (S : Gate.Far) (v : Value) : Prop where
  base : Below c.w0.heap.size c.w0 w
  cm : w.cell? ⟨c.bm, 0, none⟩ = some (.slice c.ma c.ms.length c.mcap)
  cs : ∀ j, w.cell? ⟨c.bs, j, none⟩ = (#[.string c.s.kd, .slice c.fa c.s.fs.length c.fcap] : Array Value)[j]?
  size : c.lo <= w.heap.size
  cells : w.heap[c.p]? = some (.cells #[c.fn, .map (some c.mr), v] 262)
  row : w.ownsRow c.lo 3 1 v S.row.length (zdz S.row)
  map : zaQ w c.mr (Gate.zex S)
structure Moves (c : WalkC) (v : Value) (w : World) (v' : Value) (w' : World) : Prop where
  size : w.heap.size <= w'.heap.size
  out : ∀ k, k < w.heap.size -> k ≠ c.p -> k ≠ c.mr -> v.ownBlock ≠ some k -> w'.heap[k]? = w.heap[k]?
  own : v'.ownBlock = v.ownBlock \/ ∃ g, v'.ownBlock = some g /\ w.heap.size <= g
theorem Moves.refl (c : WalkC) (v : Value) (w : World) : Moves c v w v w := ⟨Nat.le_refl _, fun _ _ _ _ _ => rfl, Or.inl rfl⟩
theorem Moves.trans {c : WalkC} {v v1 v2 : Value} {w w1 w2 : World} (h : Moves c v w v1 w1) (k : Moves c v1 w1 v2 w2) : Moves c v w v2 w2 := by
  refine ⟨Nat.le_trans h.size k.size, fun i hi hp hm hv => ?_, ?_⟩
  · rw [k.out i (Nat.lt_of_lt_of_le hi h.size) hp hm ?_, h.out i hi hp hm hv]
    rcases h.own with e | ⟨g, e, hg⟩
    · rw [e]; exact hv
    · rw [e]; intro e'; cases e'; omega
  · rcases k.own with e | ⟨g, e, hg⟩
    · rw [e]; exact h.own
    · exact Or.inr ⟨g, e, Nat.le_trans h.size hg⟩
theorem zfP {w w' : World} {b j : Nat} (h : w'.heap[b]? = w.heap[b]?) : w'.cell? ⟨b, j, none⟩ = w.cell? ⟨b, j, none⟩ := by unfold World.cell?; rw [h]
theorem jO.next {c : WalkC} {w w' : World} {S S' : Gate.Far} {v v' : Value} (hc : c.Ok) (h : jO c w S v) (os : w'.os = w.os) (tape : w'.tape = w.tape) (output : w'.output = w.output) (size : w.heap.size <= w'.heap.size)
    (out : ∀ k, k < c.lo -> k ≠ c.p -> k ≠ c.mr -> w'.heap[k]? = w.heap[k]?)
    (cells : w'.heap[c.p]? = some (.cells #[c.fn, .map (some c.mr), v'] 262)) (row : w'.ownsRow c.lo 3 1 v' S'.row.length (zdz S'.row)) (map : zaQ w' c.mr (Gate.zex S')) : jO c w' S' v' := by
  have hb := h.base.size
  have h1 := hc.bp
  have h2 := hc.plo
  have h3 := hc.bmr
  refine ⟨⟨os.trans h.base.os, tape.trans h.base.tape, output.trans h.base.output, Nat.le_trans hb size, fun k hk => ?_⟩, ?_, fun j => ?_, Nat.le_trans h.size size, cells, row, map⟩
  · rw [out k (by omega) (by omega) (by omega)]; exact h.base.block k hk
  · rw [zfP (out c.bm hc.bml hc.bmp hc.bmm)]; exact h.cm
  · rw [zfP (out c.bs hc.bsl hc.bsp hc.bsm)]; exact h.cs j
theorem jO.mark {c : WalkC} {w : World} {S : Gate.Far} {v : Value} (hc : c.Ok) (h : jO c w S v) (i : Nat) (x : Int) :
    ∃ w', (Instr.mapUpdate 260 (.map (some c.mr)) (.int .i64 i) (.int .i64 x)).run Tryz.prog w = .ok () w' /\ (∀ S' : Gate.Far, S'.row = S.row -> (fun q : Int => if q = (i : Int) then some x else Gate.zex S q) = Gate.zex S' -> jO c w' S' v) /\ Moves c v w v w' := by
  obtain ⟨w', hrun, hmap, hput⟩ := h.map.upd i x
  have hlt := h.map.lt
  refine ⟨w', hrun, fun S' hr hf => ?_, Nat.le_of_eq hput.size.symm, fun k _ _ hm _ => hput.out k hm, Or.inl rfl⟩
  have hrow : w'.ownsRow c.lo 3 1 v S'.row.length (zdz S'.row) := by
    rw [hr]
    exact jU h.row fun g hg => hput.out g (by have := (h.row.lt g hg).1; have := hc.mlo; omega)
  exact h.next hc hput.os hput.tape hput.output (Nat.le_of_eq hput.size.symm) (fun k _ _ hm => hput.out k hm) ((hput.out c.p hc.pm).trans h.cells) hrow (by rw [<- hf]; exact hmap)
theorem WalkC.Ok.rd {c : WalkC} (hc : c.Ok) : ∀ p, p < c.s.fs.length -> ∀ q ∈ Gate.zi c.s c.ms p, q < c.s.fs.length := by
  intro p hp q hq
  unfold Gate.zi at hq
  obtain ⟨x, hx, rfl⟩ := List.mem_map.1 hq
  have := hc.reads p hp x hx
  omega
theorem jO.later {c : WalkC} {w w' : World} {S : Gate.Far} {v : Value} (hc : c.Ok) (h : jO c w S v) (hb : Below w.heap.size w w') : jO c w' S v /\ Moves c v w v w' := by
  have hs := h.size
  have hp := hc.plo
  have hm := hc.mlo
  exact ⟨h.next hc hb.os hb.tape hb.output hb.size (fun k hk _ _ => hb.block k (by omega)) ((hb.block c.p (by omega)).trans h.cells) (yJ h.row hb) (h.map.mono (hb.block c.mr (by omega))), hb.size, fun k hk _ _ _ => hb.block k hk, Or.inl rfl⟩
theorem jO.zkA {c : WalkC} {w : World} {S : Gate.Far} {v : Value} (h : jO c w S v) : ∀ j, w.cell? ⟨c.p, j, none⟩ = (#[.func (.func 183) #[] #[.pointer (some ⟨c.bm, 0, none⟩), .pointer (some ⟨c.bs, 0, none⟩)], .map (some c.mr), v] : Array Value)[j]? := fun _ => cell_of_block h.cells
theorem zfJ {p : Prop} (h : Hid p) : p := h
set_option maxRecDepth 20000 in
set_option maxHeartbeats 4000000 in
theorem zoF (c : WalkC) (hc : c.Ok) : ∀ (f i : Nat) (S : Gate.Far) (v : Value) (w : World), i < c.s.fs.length -> Gate.open' c.s.fs.length S < f -> S.row.length + Gate.open' c.s.fs.length S <= 6 -> jO c w S v ->
    Calls Tryz.prog 202 #[.pointer (some ⟨c.p, 0, none⟩), .int .i64 i] w fun e w' => ∃ v', e = .returned (.bool (Gate.down (Gate.zi c.s c.ms) f i S).1) /\ Below c.w0.heap.size c.w0 w' /\ ((Gate.down (Gate.zi c.s c.ms) f i S).1 = true -> jO c w' (Gate.down (Gate.zi c.s c.ms) f i S).2 v' /\ Moves c v w v' w') := by
  intro f
  induction f with
  | zero => intro i S v w _ h _ _; omega
  | succ f ih =>
    intro i S v w hi hopen hsix hW
    have HI := hid ih
    clear ih
    obtain ⟨i0, hi0, hz0, hz1', hz2⟩ := info_parts Tryz.zeO
    have hpc := hW.zkA
    have hlook := hW.map.look (i : Int)
    rw [Gate.zo8] at hlook
    have HW := hid hW
    have HO := hid hopen
    clear hW hopen
    rcases hfar : S.far i with _ | b
    · rw [hfar] at hlook
      have hlook' := hlook
      obtain ⟨w1, hrun, hmk, hmv⟩ := HW.out.mark hc i 1
      have hW1 := hmk (S.under i) rfl (Gate.zmI S i)
      have hpc1 := hW1.zkA
      have HW1 := jE hW1 hmv
      clear hlook hmk hmv hW1
      go_enter Tryz.func202, Tryz.ntmps202
      go_wp2_with fail
      refine (zlO c.s c.ms i c.bm c.bs c.ma c.fa c.mcap c.fcap w1 (hc.mnds.mono HW1.out.1.base) (hc.zcn.mono HW1.out.1.base) hi hc.few (Nat.lt_of_lt_of_le hc.bsl HW1.out.1.size) HW1.out.1.cm HW1.out.1.cs).mono ?_
      rintro e w2 ⟨rv, rfl, hrow, hb2⟩
      obtain ⟨ra, rcap, rfl⟩ := yM hrow
      have hW2 := HW1.out.1.later hc hb2
      have HW2 := jE hW2.1 (HW1.out.2.trans hW2.2)
      have HR2 := hid hrow
      have HRL : Hid ((Gate.yg c.s c.ms i).length <= 2097152) := by have h1 := Gate.zf7 c.s i c.ms; have := hc.few; show _ <= _; omega
      have HAP : Hid (∀ g, v.ownBlock = some g -> (Value.slice ra (Gate.yg c.s c.ms i).length rcap).ownBlock ≠ some g) := by
        intro g hg he
        have h1 := (HW1.out.1.row.lt g hg).2
        have h2 := (hrow.lt g he).1
        omega
      have HLO := hid HW1.out.1.size
      have HOU : Hid (Gate.open' c.s.fs.length (S.under i) < f) := by have h1 := Gate.zeJ hi hfar; have h2 := HO.out; show _ < _; omega
      have HDN : Hid ((Gate.down (Gate.zi c.s c.ms) (f + 1) i S) = if (Gate.zm (Gate.down (Gate.zi c.s c.ms) f) ((Gate.zi c.s c.ms) i) (S.under i)).1 = true then (true, (Gate.zm (Gate.down (Gate.zi c.s c.ms) f) ((Gate.zi c.s c.ms) i) (S.under i)).2.behind i) else (false, (Gate.zm (Gate.down (Gate.zi c.s c.ms) f) ((Gate.zi c.s c.ms) i) (S.under i)).2)) := by
        unfold Hid; rw [Gate.down, hfar]
      clear hW2 hrow hb2 hpc hpc1 hlook' hrun
      go_wp2_with fail
      go_loopw [33] (fun iv wr => ∃ (j : Nat) (v1 : Value), j <= (Gate.yg c.s c.ms i).length /\ iv = .int .i64 j /\ (Gate.zm (Gate.down (Gate.zi c.s c.ms) f) (((Gate.zi c.s c.ms) i).take j) (S.under i)).1 = true /\ jO c wr (Gate.zm (Gate.down (Gate.zi c.s c.ms) f) (((Gate.zi c.s c.ms) i).take j) (S.under i)).2 v1 /\ Moves c v w v1 wr /\ wr.ownsRow w1.heap.size 3 1 (.slice ra (Gate.yg c.s c.ms i).length rcap) (Gate.yg c.s c.ms i).length (ints (Gate.yg c.s c.ms i)) /\ (∀ g, v1.ownBlock = some g -> (Value.slice ra (Gate.yg c.s c.ms i).length rcap).ownBlock ≠ some g)) (fun iv _ => (Gate.yg c.s c.ms i).length - (intOf iv).toNat)
      case atStart => exact ⟨0, v, Nat.zero_le _, rfl, rfl, HW2.out.1, HW2.out.2, HR2.out, HAP.out⟩
      case round =>
        obtain ⟨j, v1, hj, rfl, hD, hWr, hMr, hRr, hAp⟩ := hrel
        have HWr := ziV hWr hMr hRr hAp
        have HD := hid hD
        clear hWr hMr hRr hAp hD
        have HSX : Hid ((Gate.zm (Gate.down (Gate.zi c.s c.ms) f) (((Gate.zi c.s c.ms) i).take j) (S.under i)).2.row.length + Gate.open' c.s.fs.length (Gate.zm (Gate.down (Gate.zi c.s c.ms) f) (((Gate.zi c.s c.ms) i).take j) (S.under i)).2 <= 6) := by
          have h1 := Gate.zer hc.rd f _ (S.under i) (fun a ha => hc.rd i hi a (List.mem_of_mem_take ha)) HD.out
          have h2 := Gate.zeJ hi hfar
          have h3 : (S.under i).row = S.row := rfl
          rw [h3] at h1
          show _ <= _
          omega
        by_cases hjl : j < (Gate.yg c.s c.ms i).length
        · obtain ⟨q, hq, hqn⟩ : ∃ q : Nat, (Gate.yg c.s c.ms i)[j] = (q : Int) /\ q < c.s.fs.length := by
            have h1 := hc.reads i hi _ (List.getElem_mem hjl)
            exact ⟨((Gate.yg c.s c.ms i)[j]).toNat, by omega, by omega⟩
          have HTK : Hid (((Gate.zi c.s c.ms) i).take (j + 1) = ((Gate.zi c.s c.ms) i).take j ++ [q]) := by
            have hjl' : j < ((Gate.zi c.s c.ms) i).length := by unfold Gate.zi; rw [List.length_map]; exact hjl
            unfold Hid
            rw [List.take_succ_eq_append_getElem hjl']
            have : ((Gate.zi c.s c.ms) i)[j] = q := by simp [Gate.zi, hq]
            rw [this]
          obtain ⟨g, rfl, hcell⟩ : ∃ g, ra = some ⟨g, 0, none⟩ /\ wr.cell? ⟨g, j, none⟩ = some (.int .i64 (q : Int)) := by
            obtain ⟨_, ⟨h0, h1⟩ | ⟨g, cap, cur, h0, h1⟩⟩ := id HWr.out.2.2.1
            · rw [h1] at hjl; exact absurd hjl (by omega)
            · cases h0
              refine ⟨g, rfl, ?_⟩
              rw [HWr.out.2.2.1.cellAt j (by omega)]
              simp [ints, hjl, hq]
          have hjI : (j : Int) < ((Gate.yg c.s c.ms i).length : Int) := by omega
          have HOP : Hid (Gate.open' c.s.fs.length (Gate.zm (Gate.down (Gate.zi c.s c.ms) f) (((Gate.zi c.s c.ms) i).take j) (S.under i)).2 < f) := by
            have h1 := Gate.zjx (n := c.s.fs.length) (s := S.under i) (t := (Gate.zm (Gate.down (Gate.zi c.s c.ms) f) (((Gate.zi c.s c.ms) i).take j) (S.under i)).2) (fun q' hq' => Gate.zj7 _ _ q' _ _ hq')
            have h2 := HOU.out
            show _ < _
            omega
          go_wp2_with fail
          refine (HI.out q _ v1 wr hqn HOP.out HSX.out HWr.out.1).mono ?_
          rintro e w3 ⟨v3, rfl, hb3, hyes⟩
          by_cases hd : (Gate.down (Gate.zi c.s c.ms) f q (Gate.zm (Gate.down (Gate.zi c.s c.ms) f) (((Gate.zi c.s c.ms) i).take j) (S.under i)).2).1 = true
          · have HS : Hid ((Gate.zm (Gate.down (Gate.zi c.s c.ms) f) (((Gate.zi c.s c.ms) i).take (j + 1)) (S.under i)) = Gate.down (Gate.zi c.s c.ms) f q (Gate.zm (Gate.down (Gate.zi c.s c.ms) f) (((Gate.zi c.s c.ms) i).take j) (S.under i)).2) := by unfold Hid; rw [HTK.out, Gate.zaD, if_pos HD.out]
            have hy := hyes hd
            have HY := hid hy
            have HDD := hid hd
            rw [hd]
            clear hyes hy hb3 hd hcell
            go_wp2_with fail
            have hg1 := HWr.out.2.2.1.lt g rfl
            have hap : v1.ownBlock ≠ some g := fun h => HWr.out.2.2.2 g h rfl
            refine ⟨⟨j + 1, v3, by omega, by rw [wrap_one (by have := HRL.out; omega)], by rw [HS.out]; exact HDD.out, by rw [HS.out]; exact HY.out.1, HWr.out.2.1.trans HY.out.2, ?_, ?_⟩, qJ hjl (by have := HRL.out; omega)⟩
            · refine jU HWr.out.2.2.1 (fun g' hg' => ?_)
              cases hg'
              exact HY.out.2.out g hg1.2 (by have := hc.plo; have := HLO.out; omega) (by have := hc.mlo; have := HLO.out; omega) hap
            · intro g' hg' he
              have e0 : g = g' := Option.some.inj he
              subst e0
              rcases HY.out.2.own with e | ⟨g2, e, h2⟩
              · rw [e] at hg'; exact hap hg'
              · have e2 : g2 = g := Option.some.inj (e.symm.trans hg')
                have h3 := hg1.2
                omega
          · have hdf : (Gate.down (Gate.zi c.s c.ms) f q (Gate.zm (Gate.down (Gate.zi c.s c.ms) f) (((Gate.zi c.s c.ms) i).take j) (S.under i)).2).1 = false := by simpa using hd
            have HF : Hid ((Gate.down (Gate.zi c.s c.ms) (f + 1) i S).1 = false) := by
              have h1 : (Gate.zm (Gate.down (Gate.zi c.s c.ms) f) (((Gate.zi c.s c.ms) i).take (j + 1)) (S.under i)).1 = false := by rw [HTK.out, Gate.zaD, if_pos HD.out]; exact hdf
              have h2 := Gate.zb1 (Gate.down (Gate.zi c.s c.ms) f) (((Gate.zi c.s c.ms) i).take (j + 1)) (((Gate.zi c.s c.ms) i).drop (j + 1)) (S.under i) h1
              rw [List.take_append_drop] at h2
              unfold Hid
              rw [HDN.out, if_neg (by rw [h2]; simp)]
            rw [hdf]
            have HB3 : Hid (Below c.w0.heap.size c.w0 w3) := hb3
            clear hyes hb3 hcell hd hdf
            go_wp2_with fail
            go_ret
            exact ⟨v3, by rw [HF.out]; rfl, HB3.out, fun h => by rw [HF.out] at h; cases h⟩
        · have e : j = (Gate.yg c.s c.ms i).length := by omega
          have hall : ((Gate.zi c.s c.ms) i).take j = (Gate.zi c.s c.ms) i := List.take_of_length_le (by unfold Gate.zi; rw [List.length_map]; omega)
          rw [hall] at HWr HD HSX
          have HRES : Hid ((Gate.down (Gate.zi c.s c.ms) (f + 1) i S) = (true, (Gate.zm (Gate.down (Gate.zi c.s c.ms) f) ((Gate.zi c.s c.ms) i) (S.under i)).2.behind i)) := by unfold Hid; rw [HDN.out, if_pos HD.out]
          clear HDN HD hall
          revert HWr HRES HSX
          generalize (Gate.zm (Gate.down (Gate.zi c.s c.ms) f) ((Gate.zi c.s c.ms) i) (S.under i)).2 = D
          intro HWr HSX HRES
          obtain ⟨w3, hrun3, hmk3, hmv3⟩ := HWr.out.1.mark hc i 2
          have hW3 := hmk3 ⟨(D.behind i).far, D.row⟩ rfl (by rw [Gate.zlg]; rfl)
          have HW3 := jE hW3 (HWr.out.2.1.trans hmv3)
          have hpcr := HWr.out.1.zkA
          have hpc3 := hW3.zkA
          have hpf3 := zfb hW3.cells
          have HDL : Hid (D.row.length <= 6) := by have := HSX.out; show _ <= _; omega
          have hp3 := Nat.lt_of_lt_of_le hc.plo hW3.size
          clear hmk3 hmv3 hW3 HWr
          subst e
          have HGE := hid HW3.out.1.row.lt
          go_wp2_with (at_builtin; refine zfJ ?_)
          show wpList _ _ _ _ _ _
          refine wpList_append_own_at _ rfl (.tmp 51) (.tmp 53) 35 rfl c.lo 3 i0 (.int .i64 0) 1 8 Tryz.underlying35 hi0 hz0 hz1' hz2 rfl (by decide) v1 _ _ rfl (HW3.out.1.row.alloc _) ⟨w3.heap.size, 0, none⟩ 1 1 [.int .i64 (i : Int)] rfl rfl (zbR _ _ _) (by intro u hu; simp at hu; subst hu; rfl) (by have := HDL.out; show D.row.length + 1 <= 2 ^ 63 - 1; omega) (by have := HDL.out; show (D.row.length + 1) * 8 <= 140737488355328; omega) (by have := HW3.out.1.size; simp; omega) ?_
          intro vN w4 hownN hgr _ hat
          obtain ⟨va, vcap, rfl⟩ := yM hownN
          have hown' := hownN
          clear hownN
          have hp4 := (zah hgr (by simp; omega) (fun g hg => by have := (HGE.out g hg).1; have := hc.plo; omega)).trans ((Below.heap_alloc _ _ _ hp3).trans HW3.out.1.cells)
          have hpc4 := zaV hp4
          have hpf4 := zfb hp4
          have HP4 : Hid (w4.heap[c.p]? = some (.cells #[c.fn, .map (some c.mr), v1] 262)) := hp4
          have HG4 : Hid ((w3.alloc (.cells #[.int .i64 (i : Int)] 3)).grownBy w4 v1.ownBlock /\ ((Value.slice va (D.row.length + 1) vcap).ownBlock = v1.ownBlock \/ (Value.slice va (D.row.length + 1) vcap).ownBlock = some (w3.heap.size + 1))) := (by refine ⟨hgr, ?_⟩; simpa using hat)
          have HO4 := hid hown'
          clear hp4 hgr hat hown'
          go_wp2_with fail
          have hgb : ∀ k, k < w3.heap.size -> (∀ g, v1.ownBlock = some g -> k ≠ g) -> w4.heap[k]? = w3.heap[k]? := fun k hk hne => (zah HG4.out.1 (by simp; omega) hne).trans (Below.heap_alloc _ _ _ hk)
          have hsz4 : w3.heap.size < w4.heap.size := by have := HG4.out.1.size; simp at this; omega
          have hv4 : ∀ g, (Value.slice va (D.row.length + 1) vcap).ownBlock = some g -> c.lo <= g := fun g hg => (HO4.out.lt g hg).1
          have hW5 : jO c (w4.setCell ⟨c.p, 2, none⟩ (.slice va (D.row.length + 1) vcap)) (D.behind i) (.slice va (D.row.length + 1) vcap) := by
            refine HW3.out.1.next hc HG4.out.1.os HG4.out.1.tape HG4.out.1.output (by simp [World.setCell]; omega) (fun k hk hp hm => ?_) ?_ ?_ ?_
            · rw [Below.heap_setCell _ _ _ _ hp]
              exact hgb k (by have := HW3.out.1.size; omega) (fun g hg => by have := (HGE.out g hg).1; omega)
            · exact zf HP4.out _
            · have e1 : (D.behind i).row.length = D.row.length + 1 := by simp [Gate.Far.behind]
              have e2 : zdz (D.behind i).row = zdz D.row ++ [.int .i64 (i : Int)] := by simp [Gate.Far.behind, zdz]
              rw [e1, e2]
              exact jU HO4.out (fun g hg => Below.heap_setCell _ _ _ _ (by show g ≠ c.p; have := hv4 g hg; have := hc.plo; omega))
            · have hm3 := HW3.out.1.map.lt
              exact HW3.out.1.map.mono ((Below.heap_setCell _ _ _ _ (Ne.symm hc.pm)).trans (hgb c.mr hm3 (fun g hg => by have := (HGE.out g hg).1; have := hc.mlo; omega)))
          have hM5 : Moves c v1 w3 (.slice va (D.row.length + 1) vcap) (w4.setCell ⟨c.p, 2, none⟩ (.slice va (D.row.length + 1) vcap)) := by
            refine ⟨by simp [World.setCell]; omega, fun k hk hp _ hv => ?_, ?_⟩
            · rw [Below.heap_setCell _ _ _ _ hp]
              exact hgb k hk (fun g hg e => hv (by rw [e]; exact hg))
            · rcases HG4.out.2 with e | e
              · exact Or.inl e
              · exact Or.inr ⟨_, e, by omega⟩
          go_ret
          exact ⟨by rw [HRES.out]; rfl, hW5.base, _, fun _ => by rw [HRES.out]; exact ⟨hW5, HW3.out.2.trans hM5⟩⟩
    · have hr : Gate.down (Gate.zi c.s c.ms) (f + 1) i S = (b, S) := by rw [Gate.down, hfar]
      have HR := hid hr
      rw [hfar] at hlook
      clear hr
      cases b with
      | true =>
        have hlook' := hlook
        clear hlook
        go_enter Tryz.func202, Tryz.ntmps202
        go_wp2_with fail
        go_ret
        exact ⟨v, by rw [HR.out]; rfl, HW.out.base, fun _ => by rw [HR.out]; exact ⟨HW.out, Moves.refl _ _ _⟩⟩
      | false =>
        have hlook' := hlook
        clear hlook
        go_enter Tryz.func202, Tryz.ntmps202
        go_wp2_with fail
        go_ret
        exact ⟨v, by rw [HR.out]; rfl, HW.out.base, fun h => by rw [HR.out] at h; cases h⟩
end Go.Proofs.YtfcdmlnpfoikhaaGreat

namespace Go.Proofs.YtfcdmlnpfoikhaaGreat
open Go.RowKit
set_option maxHeartbeats 400000 in
theorem zce (v : Int) (w : World) :
    Calls Tryz.prog 213 #[.int .i64 v] w fun e w' => e = .returned (.bool (Gate.zco v)) /\ w' = w := by
  go_enter Tryz.func213, Tryz.ntmps213
  go_wp2
  all_goals
    go_ret
    refine ⟨ze ?_, rfl⟩
    rw [Bool.eq_iff_iff]; simp [Gate.zco]; try omega
theorem Gate.zjM {vs : List Int} {k : Nat} (h : k < vs.length) (hn : Gate.zco vs[k] = false) : Gate.jZ vs k = false := by
  unfold Gate.jZ; rw [Gate.getD_at vs k _ h, hn]; rfl
theorem Gate.zeN {vs : List Int} (h : 0 < vs.length) (hn : Gate.zco vs[0] = true) : Gate.jZ vs 0 = true := by
  unfold Gate.jZ; rw [Gate.getD_at vs 0 _ h, hn]; rfl
theorem Gate.zgr {vs : List Int} {k : Nat} (h : k + 1 < vs.length) (hn : Gate.zco vs[k + 1] = true) : Gate.jZ vs (k + 1) = decide (vs[k] < vs[k + 1]) := by
  unfold Gate.jZ; rw [Gate.getD_at vs (k + 1) _ h, Nat.add_sub_cancel, Gate.getD_at vs k _ (by omega), hn]; simp
set_option maxHeartbeats 1000000 in
theorem zkg (a : Option Addr) (cap : Nat) (vs : List Int) (w : World) (hw : yL w a vs) :
    Calls Tryz.prog 195 #[.slice a vs.length cap] w fun e w' => e = .returned (.bool (Gate.zbu vs)) /\ w' = w := by
  have hl := hw.len
  unfold maxLen at hl
  have HG : Hid (Gate.up (Gate.jZ vs) vs.length = false -> Gate.zbu vs = false) := fun h => by unfold Gate.zbu; rw [h, Bool.and_false]
  go_enter Tryz.func195, Tryz.ntmps195
  go_wp2_with fail
  go_loop [7] (fun i => ∃ k : Nat, k <= vs.length /\ i = .int .i64 k /\ Gate.up (Gate.jZ vs) k = true) (fun i => vs.length - (intOf i).toNat)
  case atStart => exact ⟨0, Nat.zero_le _, rfl, rfl⟩
  case round =>
    obtain ⟨k, hk, rfl, hup⟩ := hrel
    by_cases hlt : k < vs.length
    · obtain ⟨b, off, rfl, hb, hck⟩ := hw.load (Below.refl _ _) k hlt
      have hltI : (k : Int) < (vs.length : Int) := by omega
      by_cases hn : Gate.zco vs[k] = true
      · by_cases hk0 : k = 0
        · have HF : Hid (Gate.up (Gate.jZ vs) (k + 1) = true) := by subst hk0; unfold Hid; rw [Gate.jF, Gate.zeN hlt hn]; rfl
          have hg : decide (0 < k) = false := by simp; omega
          have HN := hid hn
          clear hn hup hk0 hw
          go_wp2_with (go_at_call 213; refine (zw HN.out (zce _ _)).mono ?_; rintro e w' ⟨rfl, rfl⟩)
          go_round
          case rel => exact ⟨k + 1, by omega, by go_num, HF.out⟩
          case measure => simp [intOf]; omega
        · obtain ⟨m, rfl⟩ : ∃ m, k = m + 1 := ⟨k - 1, by omega⟩
          obtain ⟨b', off', e', hb', hcm⟩ := hw.load (Below.refl _ _) m (by omega)
          simp only [Option.some.injEq, Addr.mk.injEq] at e'
          obtain ⟨rfl, rfl, _⟩ := e'
          have HU : Hid (Gate.up (Gate.jZ vs) (m + 1 + 1) = decide (vs[m] < vs[m + 1])) := by unfold Hid; rw [Gate.jF, hup, Gate.zgr hlt hn]; rfl
          have HNN : Hid (¬ vs[m] < vs[m + 1] -> Gate.zbu vs = false) := fun h => HG.out (Gate.za4 hlt (by rw [Gate.zgr hlt hn]; simpa using h))
          have HN := hid hn
          clear hn hup hk0 hw
          by_cases hls : vs[m] < vs[m + 1]
          · have hls' : decide (vs[m + 1] <= vs[m]) = false := by simp; omega
            have HLS := hid hls
            clear hls
            go_wp2_with (go_at_call 213; refine (zw HN.out (zce _ _)).mono ?_; rintro e w' ⟨rfl, rfl⟩)
            go_round
            case rel => exact ⟨m + 1 + 1, by omega, by go_num, by rw [HU.out]; simpa using HLS.out⟩
            case measure => simp [intOf]; omega
          · have hls' : vs[m + 1] <= vs[m] := by omega
            have HLS := hid hls
            clear hls
            go_wp2_with (go_at_call 213; refine (zw HN.out (zce _ _)).mono ?_; rintro e w' ⟨rfl, rfl⟩)
            go_ret
            exact ⟨ze (HNN.out HLS.out).symm, rfl⟩
      · have hn' : Gate.zco vs[k] = false := by simpa using hn
        have HF := hid (HG.out (Gate.za4 hlt (Gate.zjM hlt hn')))
        have HN := hid hn'
        clear hn hn' hup hw
        go_wp2_with (go_at_call 213; refine (zw HN.out (zce _ _)).mono ?_; rintro e w' ⟨rfl, rfl⟩)
        go_ret
        exact ⟨ze HF.out.symm, rfl⟩
    · have HF : Hid (Gate.zbu vs = decide (0 < vs.length)) := by
        have e : k = vs.length := by omega
        subst e; unfold Hid Gate.zbu; rw [hup, Bool.and_true]
      clear hw hup
      go_wp2_with fail
      go_ret
      exact ⟨ze (by rw [HF.out]), rfl⟩
end Go.Proofs.YtfcdmlnpfoikhaaGreat

namespace Go.Proofs.YtfcdmlnpfoikhaaGreat
open Go.RowKit
theorem zhs {a b : ByteArray} (h : a = b) : Ending.returned (.string a) = .returned (.string b) := by rw [h]
set_option maxHeartbeats 400000 in
theorem zbU (a : Option Addr) (cap : Nat) (ts : List Tm) (v : ByteArray) (w : World) (hw : jg w a ts) :
    Calls Tryz.prog 123 #[.slice a ts.length cap, .string v] w fun e w' => e = .returned (.string (Gate.over ts v)) /\ w' = w := by
  have hl := hw.len
  unfold maxLen at hl
  go_enter Tryz.func123, Tryz.ntmps123
  go_wp2_with fail
  go_loop [5] (fun i => ∃ k : Nat, k <= ts.length /\ i = .int .i64 k /\ Gate.yh (ts.take k) v = false) (fun i => ts.length - (intOf i).toNat)
  case atStart => exact ⟨0, Nat.zero_le _, rfl, rfl⟩
  case round =>
    obtain ⟨k, hk, rfl, hall⟩ := hrel
    by_cases hlt : k < ts.length
    · obtain ⟨b, off, rfl, hb, c0, c1⟩ := hw.load (Below.refl _ _) k hlt
      clear hw
      have HS : Hid (Gate.yh (ts.take (k + 1)) v = (false || decide (ts[k].nm = v))) := by rw [Gate.zdm ts v k hlt, hall]; rfl
      have hltI : (k : Int) < (ts.length : Int) := by omega
      by_cases he : ts[k].nm = v
      · have hbe : (ts[k].nm.toList == v.toList) = true := by rw [Gate.beq_toList]; simpa using he
        have HR := hid (Gate.zj5 ts v k hlt hall he)
        clear he hall
        go_wp2_with fail
        go_ret
        exact ⟨zhs HR.out.symm, rfl⟩
      · have hbe : (ts[k].nm.toList == v.toList) = false := by rw [Gate.beq_toList]; simpa using he
        have HE := hid he
        clear he hall
        go_wp2_with fail
        go_round
        case rel => exact ⟨k + 1, by omega, by go_num, by rw [HS.out, decide_eq_false HE.out]; rfl⟩
        case measure => simp [intOf]; omega
    · have HR := hid (Gate.zga ts v (by rw [<- Gate.zd4 ts v k (by omega)]; exact hall))
      clear hall hw
      go_wp2_with fail
      go_ret
      exact ⟨zhs HR.out.symm, rfl⟩
set_option maxHeartbeats 800000 in
theorem zc2 (a : Option Addr) (cap : Nat) (ts : List Tm) (v : ByteArray) (w : World) (hw : jg w a ts) :
    Calls Tryz.prog 188 #[.slice a ts.length cap, .string v] w fun e w' => e = .returned (.string (Gate.over ts v)) /\ Below w.heap.size w w' := by
  have hl := hw.len
  unfold maxLen at hl
  go_enter Tryz.func188, Tryz.ntmps188
  go_wp2_with fail
  go_loopw [9] (fun i wr => ∃ k : Nat, k <= ts.length /\ i = .int .i64 k /\ Gate.yh (ts.take k) v = false /\ Below w.heap.size w wr) (fun i _ => ts.length - (intOf i).toNat)
  case atStart => exact ⟨0, Nat.zero_le _, rfl, rfl, Below.refl _ _⟩
  case round =>
    obtain ⟨k, hk, rfl, hall, hB⟩ := hrel
    have hsz := hB.size
    by_cases hlt : k < ts.length
    · obtain ⟨b, off, rfl, hb, c0, c1⟩ := hw.load hB k hlt
      clear hw
      have HS : Hid (Gate.yh (ts.take (k + 1)) v = (false || decide (ts[k].nm = v))) := by rw [Gate.zdm ts v k hlt, hall]; rfl
      have hltI : (k : Int) < (ts.length : Int) := by omega
      have hbr : b < wr.heap.size := by omega
      by_cases he : ts[k].nm = v
      · have hbe : (ts[k].nm.toList == v.toList) = true := by rw [Gate.beq_toList]; simpa using he
        have HR := hid (Gate.zj5 ts v k hlt hall he)
        clear he hall
        go_wp2_with fail
        go_ret
        exact ⟨zhs HR.out.symm, hB.alloc hsz _⟩
      · have hbe : (ts[k].nm.toList == v.toList) = false := by rw [Gate.beq_toList]; simpa using he
        have HE := hid he
        clear he hall
        go_wp2_with fail
        exact ⟨⟨k + 1, by omega, by go_num, by rw [HS.out, decide_eq_false HE.out]; rfl, hB.alloc hsz _⟩, by simp [intOf]; omega⟩
    · have HR := hid (Gate.zga ts v (by rw [<- Gate.zd4 ts v k (by omega)]; exact hall))
      clear hall hw
      go_wp2_with fail
      go_ret
      exact ⟨zhs HR.out.symm, hB⟩
end Go.Proofs.YtfcdmlnpfoikhaaGreat

namespace Go.Proofs.YtfcdmlnpfoikhaaGreat
open Go.RowKit
theorem zcs {α : Type} (p : α -> Bool) (l : List α) (k : Nat) (h : k < l.length) : (l.take (k + 1)).any p = ((l.take k).any p || p l[k]) := by
  rw [List.take_succ_eq_append_getElem h, List.any_append]; simp
theorem zog {α : Type} (p : α -> Bool) (l : List α) (k : Nat) (h : k < l.length) (hp : p l[k] = true) : l.any p = true := by
  rw [List.any_eq_true]; exact ⟨l[k], List.getElem_mem h, hp⟩
def zge (P : Program) (fid : Nat) (q : Value) (ts : List Tm) (w : World) (p : Tm -> Bool) : Prop :=
  ∀ w1, Below w.heap.size w w1 -> ∀ i (h : i < ts.length), Calls P fid #[.agg ts[i].cells, q] w1 fun e w' => e = .returned (.bool (p ts[i])) /\ Below w1.heap.size w1 w'
set_option maxHeartbeats 1000000 in
theorem zhE (a : Option Addr) (cap : Nat) (ts : List Tm) (q : Value) (p : Tm -> Bool) (w : World) (hw : jg w a ts) (hf : zge Tryz.prog 186 q ts w p) :
    Calls Tryz.prog 187 #[.slice a ts.length cap, .func (.func 186) #[] #[q]] w fun e w' => ∃ r : Int, e = .returned (.int .i64 r) /\ decide (0 <= r) = ts.any p /\ Below w.heap.size w w' := by
  have hl := hw.len
  unfold maxLen at hl
  go_enter Tryz.func187, Tryz.ntmps187
  go_wp2_with fail
  go_loopw [8] (fun i wr => ∃ k : Nat, k <= ts.length /\ i = .int .i64 k /\ (ts.take k).any p = false /\ Below w.heap.size w wr) (fun i _ => ts.length - (intOf i).toNat)
  case atStart => exact ⟨0, Nat.zero_le _, rfl, rfl, Below.refl _ _⟩
  case round =>
    obtain ⟨k, hk, rfl, hno, hB⟩ := hrel
    by_cases hlt : k < ts.length
    · obtain ⟨b, off, rfl, hb, c0, c1⟩ := hw.load hB k hlt
      have hltI : (k : Int) < (ts.length : Int) := by omega
      have hc := hf wr hB k hlt
      clear hw hf
      by_cases he : p ts[k] = true
      · have HA : Hid (ts.any p = true) := zog p ts k hlt he
        have HE : Hid (p ts[k] = true) := he
        clear he hno
        go_wp2_with fail
        refine (zw HE.out hc).mono ?_
        rintro e w2 ⟨rfl, hb2⟩
        go_wp2_with fail
        go_ret
        exact ⟨_, rfl, by rw [HA.out]; simp, hB.trans (hb2.mono hB.size)⟩
      · have he' : p ts[k] = false := by simpa using he
        have HS : Hid ((ts.take (k + 1)).any p = false) := by unfold Hid; rw [zcs p ts k hlt, hno, he']; rfl
        have HE : Hid (p ts[k] = false) := he'
        clear he he' hno
        go_wp2_with fail
        refine (zw HE.out hc).mono ?_
        rintro e w2 ⟨rfl, hb2⟩
        go_wp2_with fail
        exact ⟨⟨k + 1, by omega, by go_num, HS.out, hB.trans (hb2.mono hB.size)⟩, by simp [intOf]; omega⟩
    · have HA : Hid (ts.any p = false) := by unfold Hid; rw [<- hno, List.take_of_length_le (by omega)]
      clear hno hw hf
      go_wp2_with fail
      go_ret
      exact ⟨_, rfl, by rw [HA.out]; rfl, hB⟩
set_option maxHeartbeats 400000 in
theorem zeL (a : Option Addr) (cap : Nat) (ts : List Tm) (q : Value) (p : Tm -> Bool) (w : World) (hw : jg w a ts) (hf : zge Tryz.prog 186 q ts w p) :
    Calls Tryz.prog 142 #[.slice a ts.length cap, .func (.func 186) #[] #[q]] w fun e w' => e = .returned (.bool (ts.any p)) /\ Below w.heap.size w w' := by
  go_enter Tryz.func142, Tryz.ntmps142
  go_wp2_with fail
  refine (zhE _ _ _ _ _ _ hw hf).mono ?_
  rintro e w2 ⟨r, rfl, hr, hb2⟩
  go_wp2_with fail
  go_ret
  exact ⟨rfl, hb2⟩
set_option maxHeartbeats 1000000 in
theorem zhC (a : Option Addr) (cap : Nat) (ts : List Tm) (q : Value) (p : Tm -> Bool) (w : World) (hw : jg w a ts) (hf : zge Tryz.prog 143 q ts w p) :
    Calls Tryz.prog 187 #[.slice a ts.length cap, .func (.func 143) #[] #[q]] w fun e w' => ∃ r : Int, e = .returned (.int .i64 r) /\ decide (0 <= r) = ts.any p /\ Below w.heap.size w w' := by
  have hl := hw.len
  unfold maxLen at hl
  go_enter Tryz.func187, Tryz.ntmps187
  go_wp2_with fail
  go_loopw [8] (fun i wr => ∃ k : Nat, k <= ts.length /\ i = .int .i64 k /\ (ts.take k).any p = false /\ Below w.heap.size w wr) (fun i _ => ts.length - (intOf i).toNat)
  case atStart => exact ⟨0, Nat.zero_le _, rfl, rfl, Below.refl _ _⟩
  case round =>
    obtain ⟨k, hk, rfl, hno, hB⟩ := hrel
    by_cases hlt : k < ts.length
    · obtain ⟨b, off, rfl, hb, c0, c1⟩ := hw.load hB k hlt
      have hltI : (k : Int) < (ts.length : Int) := by omega
      have hc := hf wr hB k hlt
      clear hw hf
      by_cases he : p ts[k] = true
      · have HA : Hid (ts.any p = true) := zog p ts k hlt he
        have HE : Hid (p ts[k] = true) := he
        clear he hno
        go_wp2_with fail
        refine (zw HE.out hc).mono ?_
        rintro e w2 ⟨rfl, hb2⟩
        go_wp2_with fail
        go_ret
        exact ⟨_, rfl, by rw [HA.out]; simp, hB.trans (hb2.mono hB.size)⟩
      · have he' : p ts[k] = false := by simpa using he
        have HS : Hid ((ts.take (k + 1)).any p = false) := by unfold Hid; rw [zcs p ts k hlt, hno, he']; rfl
        have HE : Hid (p ts[k] = false) := he'
        clear he he' hno
        go_wp2_with fail
        refine (zw HE.out hc).mono ?_
        rintro e w2 ⟨rfl, hb2⟩
        go_wp2_with fail
        exact ⟨⟨k + 1, by omega, by go_num, HS.out, hB.trans (hb2.mono hB.size)⟩, by simp [intOf]; omega⟩
    · have HA : Hid (ts.any p = false) := by unfold Hid; rw [<- hno, List.take_of_length_le (by omega)]
      clear hno hw hf
      go_wp2_with fail
      go_ret
      exact ⟨_, rfl, by rw [HA.out]; rfl, hB⟩
set_option maxHeartbeats 400000 in
theorem zfx (a : Option Addr) (cap : Nat) (ts : List Tm) (q : Value) (p : Tm -> Bool) (w : World) (hw : jg w a ts) (hf : zge Tryz.prog 143 q ts w p) :
    Calls Tryz.prog 142 #[.slice a ts.length cap, .func (.func 143) #[] #[q]] w fun e w' => e = .returned (.bool (ts.any p)) /\ Below w.heap.size w w' := by
  go_enter Tryz.func142, Tryz.ntmps142
  go_wp2_with fail
  refine (zhC _ _ _ _ _ _ hw hf).mono ?_
  rintro e w2 ⟨r, rfl, hr, hb2⟩
  go_wp2_with fail
  go_ret
  exact ⟨rfl, hb2⟩
set_option maxHeartbeats 400000 in
theorem zkk (t : Tm) (v : ByteArray) (bn : Nat) (w : World) (hb : bn < w.heap.size) (hn : w.cell? ⟨bn, 0, none⟩ = some (.string v)) :
    Calls Tryz.prog 186 #[.agg t.cells, .pointer (some ⟨bn, 0, none⟩)] w fun e w' => e = .returned (.bool (t.nm.toList == v.toList)) /\ Below w.heap.size w w' := by
  unfold Tm.cells
  go_enter Tryz.func186, Tryz.ntmps186
  go_wp2_with fail
  go_ret
  exact ⟨rfl, (Below.refl _ _).alloc (Nat.le_refl _) _⟩
theorem zlP (ts : List Tm) (v : ByteArray) (bn : Nat) (w : World) (hb : bn < w.heap.size) (hn : w.cell? ⟨bn, 0, none⟩ = some (.string v)) :
    zge Tryz.prog 186 (.pointer (some ⟨bn, 0, none⟩)) ts w (fun t => decide (t.nm = v)) := fun w1 hB i hi => by
  refine (zkk ts[i] v bn w1 (Nat.lt_of_lt_of_le hb hB.size) ((hB.cell (p := ⟨bn, 0, none⟩) hb).trans hn)).mono ?_
  rintro e w' ⟨rfl, hb'⟩
  exact ⟨ze (Gate.beq_toList _ _), hb'⟩
set_option maxHeartbeats 400000 in
theorem zbY (a : Option Addr) (cap : Nat) (ts : List Tm) (v : ByteArray) (w : World) (hw : jg w a ts) :
    Calls Tryz.prog 141 #[.slice a ts.length cap, .string v] w fun e w' => e = .returned (.bool (Gate.yh ts v)) /\ Below w.heap.size w w' := by
  go_enter Tryz.func141, Tryz.ntmps141
  go_wp2_with fail
  refine (zeL _ _ _ _ _ _ (hw.mono ((Below.refl _ _).alloc (Nat.le_refl _) _)) (zlP ts v _ _ (by simp) (by rw [World.cell?_alloc_at _ _ _ _ rfl]; rfl))).mono ?_
  rintro e w2 ⟨rfl, hb2⟩
  go_wp2_with fail
  go_ret
  exact ⟨rfl, ((Below.refl _ _).alloc (Nat.le_refl _) _).trans (hb2.mono (by simp))⟩
set_option maxHeartbeats 800000 in
theorem zjg (a : Option Addr) (cap : Nat) (ts : List Tm) (t : Tm) (w : World) (hw : jg w a ts) :
    Calls Tryz.prog 144 #[.slice a ts.length cap, .agg t.cells] w fun e w' => e = .returned (.bool (!Gate.zdg ts t)) /\ Below w.heap.size w w' := by
  unfold Tm.cells
  go_enter Tryz.func144, Tryz.ntmps144
  go_wp2_with fail
  go_loopw [5, 8] (fun p i wr => ∃ (k : Nat) (z : ByteArray), k <= 4 /\ p = .string z /\ i = .int .i64 k /\ Gate.zd1 ts 4 t.ov = Gate.zd1 ts (4 - k) z /\ Below w.heap.size w wr) (fun _ i _ => 4 - (intOf i).toNat)
  case atStart => exact ⟨0, t.ov, Nat.zero_le _, rfl, rfl, rfl, (Below.refl _ _).alloc (Nat.le_refl _) _⟩
  case round =>
    obtain ⟨k, z, hk, rfl, rfl, hz, hB⟩ := hrel
    by_cases hlt : k < 4
    · have hltI : (k : Int) < 4 := by omega
      have HZ : Hid (Gate.zd1 ts 4 t.ov = Gate.zd1 ts (4 - (k + 1)) (Gate.over ts z)) := by
        obtain ⟨m, hm⟩ : ∃ m, 4 - k = m + 1 := ⟨3 - k, by omega⟩
        rw [Hid, hz, hm, show 4 - (k + 1) = m by omega]; rfl
      clear hz
      go_wp2_with fail
      refine (zc2 _ _ _ _ _ (hw.mono hB)).mono ?_
      rintro e w1 ⟨rfl, hb1⟩
      have hB1 := hB.trans (hb1.mono hB.size)
      clear hb1
      go_wp2_with fail
      exact ⟨⟨k + 1, Gate.over ts z, by omega, rfl, by go_num, HZ.out, hB1⟩, by simp [intOf]; omega⟩
    · have HF : Hid (Gate.zdg ts t = z.toList.isEmpty) := by
        have e : 4 - k = 0 := by omega
        rw [e] at hz
        unfold Hid Gate.zdg
        rw [hz, Gate.zo]; rfl
      clear hz
      go_wp2_with fail
      go_ret
      exact ⟨ze (by rw [HF.out]), hB⟩
set_option maxHeartbeats 400000 in
theorem zmB (a : Option Addr) (cap : Nat) (ts : List Tm) (t : Tm) (bn : Nat) (w : World) (hw : jg w a ts) (hb : bn < w.heap.size) (hn : w.cell? ⟨bn, 0, none⟩ = some (.slice a ts.length cap)) :
    Calls Tryz.prog 143 #[.agg t.cells, .pointer (some ⟨bn, 0, none⟩)] w fun e w' => e = .returned (.bool (!Gate.zdg ts t)) /\ Below w.heap.size w w' := by
  unfold Tm.cells
  go_enter Tryz.func143, Tryz.ntmps143
  go_wp2_with fail
  refine (zjg _ _ _ t _ (hw.mono ((Below.refl _ _).alloc (Nat.le_refl _) _))).mono ?_
  rintro e w2 ⟨rfl, hb2⟩
  go_wp2_with fail
  go_ret
  exact ⟨rfl, ((Below.refl _ _).alloc (Nat.le_refl _) _).trans (hb2.mono (by simp))⟩
theorem znD (a : Option Addr) (cap : Nat) (ts : List Tm) (bn : Nat) (w : World) (hw : jg w a ts) (hb : bn < w.heap.size) (hn : w.cell? ⟨bn, 0, none⟩ = some (.slice a ts.length cap)) :
    zge Tryz.prog 143 (.pointer (some ⟨bn, 0, none⟩)) ts w (fun t => !Gate.zdg ts t) := fun w1 hB i _ =>
  zmB a cap ts ts[i] bn w1 (hw.mono hB) (Nat.lt_of_lt_of_le hb hB.size) ((hB.cell (p := ⟨bn, 0, none⟩) hb).trans hn)
end Go.Proofs.YtfcdmlnpfoikhaaGreat

namespace Go.Proofs.YtfcdmlnpfoikhaaGreat
open Go.RowKit
set_option maxHeartbeats 800000 in
theorem zi2 (a : Option Addr) (cap : Nat) (ts : List Tm) (x y : ByteArray) (w : World) (hw : jg w a ts) :
    Calls Tryz.prog 131 #[.slice a ts.length cap, .string x, .string y] w fun e w' => e = .returned (.bool (Gate.under ts 4 x y)) /\ w' = w := by
  by_cases hxy : x = y
  · have HF := hid (Gate.zdk ts 4 x y hxy)
    have hbe : (x.toList == y.toList) = true := by rw [Gate.beq_toList]; simpa using hxy
    clear hxy
    go_enter Tryz.func131, Tryz.ntmps131
    go_wp2_with fail
    go_ret
    exact ⟨ze HF.out.symm, rfl⟩
  have hbe : (x.toList == y.toList) = false := by rw [Gate.beq_toList]; simpa using hxy
  have HXY := hid hxy
  clear hxy
  go_enter Tryz.func131, Tryz.ntmps131
  go_wp2_with fail
  go_loop [1, 7] (fun p i => ∃ (k : Nat) (z : ByteArray), k <= 4 /\ p = .string z /\ i = .int .i64 k /\ ¬ z = y /\ Gate.under ts 4 x y = Gate.under ts (4 - k) z y) (fun _ i => 4 - (intOf i).toNat)
  case atStart => exact ⟨0, x, Nat.zero_le _, rfl, rfl, HXY.out, rfl⟩
  case round =>
    obtain ⟨k, z, hk, rfl, rfl, hz, hu⟩ := hrel
    have HZ := jE hz hu
    clear hz hu hbe
    by_cases hlt : k < 4
    · have hltI : (k : Int) < 4 := by omega
      obtain ⟨m, hm⟩ : ∃ m, 4 - k = m + 1 := ⟨3 - k, by omega⟩
      by_cases h0 : (Gate.over ts z).size = 0
      · have HF : Hid (Gate.under ts 4 x y = false) := by rw [HZ.out.2, hm]; exact Gate.zhU ts m HZ.out.1 h0
        have h0' : (Gate.over ts z).toList.isEmpty = true := by rw [Gate.zo]; simpa using h0
        clear h0 hm
        go_wp2_with (go_at_call 123; refine (zbU _ _ _ _ _ hw).mono ?_; rintro e w' ⟨rfl, rfl⟩)
        go_ret
        exact ⟨ze HF.out.symm, rfl⟩
      · have HO : Hid (Gate.under ts 4 x y = Gate.under ts m (Gate.over ts z) y) := by rw [Hid, HZ.out.2, hm]; exact Gate.zlr ts m HZ.out.1 h0
        have h0' : (Gate.over ts z).toList.isEmpty = false := by rw [Gate.zo]; simpa using h0
        clear h0
        by_cases hy : Gate.over ts z = y
        · have HF : Hid (Gate.under ts 4 x y = true) := by rw [Hid, HO.out]; exact Gate.zdk ts m _ _ hy
          have hy' : ((Gate.over ts z).toList == y.toList) = true := by rw [Gate.beq_toList]; simpa using hy
          clear hy
          go_wp2_with (go_at_call 123; refine (zbU _ _ _ _ _ hw).mono ?_; rintro e w' ⟨rfl, rfl⟩)
          go_ret
          exact ⟨ze HF.out.symm, rfl⟩
        · have hy' : ((Gate.over ts z).toList == y.toList) = false := by rw [Gate.beq_toList]; simpa using hy
          have HY := hid hy
          clear hy
          go_wp2_with (go_at_call 123; refine (zbU _ _ _ _ _ hw).mono ?_; rintro e w' ⟨rfl, rfl⟩)
          go_round
          case rel => exact ⟨k + 1, Gate.over ts z, by omega, rfl, by go_num, HY.out, by rw [HO.out, show 4 - (k + 1) = m by omega]⟩
          case measure => simp [intOf]; omega
    · have HF : Hid (Gate.under ts 4 x y = false) := by
        have e : 4 - k = 0 := by omega
        rw [Hid, HZ.out.2, e]; exact Gate.zjE ts HZ.out.1
      go_wp2_with fail
      go_ret
      exact ⟨ze HF.out.symm, rfl⟩
set_option maxHeartbeats 800000 in
theorem ziT (a : Option Addr) (cap : Nat) (ts : List Tm) (x y : ByteArray) (w : World) (hw : jg w a ts) :
    Calls Tryz.prog 214 #[.slice a ts.length cap, .string x, .string y] w fun e w' => e = .returned (.bool (Gate.under ts 4 x y)) /\ Below w.heap.size w w' := by
  by_cases hxy : x = y
  · have HF := hid (Gate.zdk ts 4 x y hxy)
    have hbe : (x.toList == y.toList) = true := by rw [Gate.beq_toList]; simpa using hxy
    clear hxy
    go_enter Tryz.func214, Tryz.ntmps214
    go_wp2_with fail
    go_ret
    exact ⟨ze HF.out.symm, Below.refl _ _⟩
  have hbe : (x.toList == y.toList) = false := by rw [Gate.beq_toList]; simpa using hxy
  have HXY := hid hxy
  clear hxy
  go_enter Tryz.func214, Tryz.ntmps214
  go_wp2_with fail
  go_loopw [1, 10] (fun p i wr => ∃ (k : Nat) (z : ByteArray), k <= 4 /\ p = .string z /\ i = .int .i64 k /\ ¬ z = y /\ Gate.under ts 4 x y = Gate.under ts (4 - k) z y /\ Below w.heap.size w wr) (fun _ i _ => 4 - (intOf i).toNat)
  case atStart => exact ⟨0, x, Nat.zero_le _, rfl, rfl, HXY.out, rfl, Below.refl _ _⟩
  case round =>
    obtain ⟨k, z, hk, rfl, rfl, hz, hu, hB⟩ := hrel
    have HZ := jE hz hu
    clear hz hu hbe
    by_cases hlt : k < 4
    · have hltI : (k : Int) < 4 := by omega
      obtain ⟨m, hm⟩ : ∃ m, 4 - k = m + 1 := ⟨3 - k, by omega⟩
      by_cases h0 : (Gate.over ts z).size = 0
      · have HF : Hid (Gate.under ts 4 x y = false) := by rw [HZ.out.2, hm]; exact Gate.zhU ts m HZ.out.1 h0
        have h0' : (Gate.over ts z).toList.isEmpty = true := by rw [Gate.zo]; simpa using h0
        clear h0 hm
        go_wp2_with fail
        refine (zc2 _ _ _ _ _ (hw.mono hB)).mono ?_
        rintro e w1 ⟨rfl, hb1⟩
        have hB1 := hB.trans (hb1.mono hB.size)
        clear hb1
        go_wp2_with fail
        go_ret
        exact ⟨ze HF.out.symm, hB1⟩
      · have HO : Hid (Gate.under ts 4 x y = Gate.under ts m (Gate.over ts z) y) := by rw [Hid, HZ.out.2, hm]; exact Gate.zlr ts m HZ.out.1 h0
        have h0' : (Gate.over ts z).toList.isEmpty = false := by rw [Gate.zo]; simpa using h0
        clear h0
        by_cases hy : Gate.over ts z = y
        · have HF : Hid (Gate.under ts 4 x y = true) := by rw [Hid, HO.out]; exact Gate.zdk ts m _ _ hy
          have hy' : ((Gate.over ts z).toList == y.toList) = true := by rw [Gate.beq_toList]; simpa using hy
          clear hy
          go_wp2_with fail
          refine (zc2 _ _ _ _ _ (hw.mono hB)).mono ?_
          rintro e w1 ⟨rfl, hb1⟩
          have hB1 := hB.trans (hb1.mono hB.size)
          clear hb1
          go_wp2_with fail
          go_ret
          exact ⟨ze HF.out.symm, hB1⟩
        · have hy' : ((Gate.over ts z).toList == y.toList) = false := by rw [Gate.beq_toList]; simpa using hy
          have HY := hid hy
          clear hy
          go_wp2_with fail
          refine (zc2 _ _ _ _ _ (hw.mono hB)).mono ?_
          rintro e w1 ⟨rfl, hb1⟩
          have hB1 := hB.trans (hb1.mono hB.size)
          clear hb1
          go_wp2_with fail
          exact ⟨⟨k + 1, Gate.over ts z, by omega, rfl, by go_num, HY.out, by rw [HO.out, show 4 - (k + 1) = m by omega], hB1⟩, by simp [intOf]; omega⟩
    · have HF : Hid (Gate.under ts 4 x y = false) := by
        have e : 4 - k = 0 := by omega
        rw [Hid, HZ.out.2, e]; exact Gate.zjE ts HZ.out.1
      go_wp2_with fail
      go_ret
      exact ⟨ze HF.out.symm, hB⟩
end Go.Proofs.YtfcdmlnpfoikhaaGreat
