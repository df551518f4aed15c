import Derived.Test.YtkfigdbbncjojaaGreatM26
import Derived.Test.YtkfigdbbncjojaaGreatM24
import Derived.Shelf.Lay
import Derived.Shelf.LaySoft
import Derived.Shelf.LaysM
import Derived.Shelf.Small.Strs
import Derived.Deep.RegionHeld3
import Derived.Test.YtkfigdbbncjojaaGreatM15
namespace Go.Proofs.YtkfigdbbncjojaaGreat
open Go.RowKit
namespace Gate
def zZ (s : Shp) (ms : List Mnd) (p : Nat) : List Int := ms.flatMap fun m => if turns m s p = true then (zI m).map (zQ s.fs) else []
theorem zfO (s : Shp) (ms : List Mnd) (p k : Nat) (h : k < ms.length) : zZ s (ms.take (k + 1)) p = zZ s (ms.take k) p ++ if turns ms[k] s p = true then (zI ms[k]).map (zQ s.fs) else [] := by
  unfold zZ
  rw [List.take_succ_eq_append_getElem h, List.flatMap_append]
  simp
theorem zcG (m : Mnd) : (zI m).length <= 2 := List.length_filter_le _ _
theorem zfk (s : Shp) (p : Nat) : ∀ ms : List Mnd, (zZ s ms p).length <= ms.length * 2
  | [] => Nat.le_refl _
  | m :: ms => by
    have h1 := zfk s p ms
    have h2 := zcG m
    unfold zZ at h1 ⊢
    rw [List.flatMap_cons, List.length_append, List.length_cons]
    by_cases h : turns m s p = true
    · rw [if_pos h, List.length_map]; omega
    · rw [if_neg h, List.length_nil]; omega
end Gate
theorem zln {w : World} {lo lo' : Nat} {e e' : TypeId} {v v' : Value} {n n' : Nat} {xs xs' : List Value} (h : w.ownsRow lo e 1 v n xs) (h' : w.ownsRow lo' e' 1 v' n' xs') (he : e ≠ e') : ∀ g, v.ownBlock = some g -> ∀ g', v'.ownBlock = some g' -> g ≠ g' := by
  intro g hg g' hg' hgg
  subst hgg
  obtain ⟨_, ⟨rfl, _⟩ | ⟨b, cap, cur, rfl, _, hh, _⟩⟩ := h
  · cases hg
  · obtain ⟨_, ⟨rfl, _⟩ | ⟨b', cap', cur', rfl, _, hh', _⟩⟩ := h'
    · cases hg'
    · have e1 : b = g := Option.some.inj hg
      have e2 : b' = g := Option.some.inj hg'
      rw [e1] at hh
      rw [e2, hh] at hh'
      simp only [Option.some.injEq, Obj.cells.injEq] at hh'
      exact he hh'.2.1
def ints (l : List Int) : List Value := l.map (Value.int .i64)
set_option maxRecDepth 20000 in
set_option maxHeartbeats 4000000 in
theorem zkU (s : Shp) (ms : List Mnd) (p bm bs : Nat) (ma fa : Option Addr) (mcap fcap : Nat) (w : World) (hm : y5 w ma ms) (hf : zW w fa s.fs) (hp : p < s.fs.length) (hl : ms.length <= 1048576)
    (hbs : bs < w.heap.size) (hcm : w.cell? ⟨bm, 0, none⟩ = some (.slice ma ms.length mcap)) (hcs : ∀ j, w.cell? ⟨bs, j, none⟩ = (#[.string s.kd, .slice fa s.fs.length fcap] : Array Value)[j]?) :
    Calls Tryz.prog 156 #[.int .i64 p, .pointer (some ⟨bm, 0, none⟩), .pointer (some ⟨bs, 0, none⟩)] w fun e w' => ∃ v, e = .returned v /\ w'.ownsRow w.heap.size 3 1 v (Gate.zZ s ms p).length (ints (Gate.zZ s ms p)) /\ Below w.heap.size w w' := by
  obtain ⟨i0, hi, hz0, hz1', hz2⟩ := info_parts Tryz.zjn
  have HM := hid hm
  have HF := hid hf
  clear hm hf
  go_enter Tryz.func156, Tryz.ntmps156
  go_wp2_with fail
  go_loopw [5, 12] (fun v0 iv wr => ∃ (k : Nat) (v : Value), v = v0 /\ k <= ms.length /\ iv = .int .i64 k /\ wr.ownsRow w.heap.size 3 1 v (Gate.zZ s (ms.take k) p).length (ints (Gate.zZ s (ms.take k) p)) /\ Below w.heap.size w wr) (fun _ iv _ => ms.length - (intOf iv).toNat)
  case atStart => exact ⟨0, _, rfl, Nat.zero_le _, rfl, World.ownsRow_nil _ _ _ _, Below.refl _ _⟩
  case round =>
    obtain ⟨k, v, hv, hk, rfl, hown, hB⟩ := hrel
    subst hv
    by_cases hlt : k < ms.length
    · obtain ⟨b, off, rfl, hb, c0, c1, c2, c3, c4, c5⟩ := HM.out.load hB k hlt
      have hltI : (k : Int) < (ms.length : Int) := by omega
      have hbw := Nat.lt_of_lt_of_le hb hB.size
      have hcsr := za hcs hbs hB
      have hbsr := Nat.lt_of_lt_of_le hbs hB.size
      have HW := hid hown
      have HB := hid hB
      clear hown hB
      go_wp2_with fail
      have hba := (Below.refl wr.heap.size wr).alloc (Nat.le_refl _) (.cells #[.string ms[k].kd, .string ms[k].fd, .string ms[k].wh, .string ms[k].wi, .string ms[k].pt, .string ms[k].fr] 129)
      have ht := ziT ms[k] s fa fcap p (wr.alloc (.cells #[.string ms[k].kd, .string ms[k].fd, .string ms[k].wh, .string ms[k].wi, .string ms[k].pt, .string ms[k].fr] 129)) (HF.out.mono (HB.out.trans (hba.mono HB.out.size))) hp
      by_cases htt : Gate.turns ms[k] s p = true
      · have HS : Hid (Gate.zZ s (ms.take (k + 1)) p = Gate.zZ s (ms.take k) p ++ (Gate.zI ms[k]).map (Gate.zQ s.fs)) := by unfold Hid; rw [Gate.zfO s ms p k hlt, if_pos htt]
        rw [htt] at ht
        refine ht.mono ?_
        rintro e w1 ⟨rfl, hb1⟩
        have hX1 := za (zH wr _ _) (by simp) hb1
        have HB1 := hid (hba.trans (hb1.mono hba.size))
        have hz1 : wr.heap.size < w1.heap.size := by have := hb1.size; simp at this; omega
        have hcs1 := za hcsr hbsr HB1.out
        clear ht hba hb1 c0 c1 c2 c3 c4 c5
        go_wp2_with fail
        refine (zdF ms[k] w1).mono ?_
        rintro e w2 ⟨nv, rfl, hn, hb2⟩
        obtain ⟨na, ncap, rfl⟩ := yM hn
        have HN2 := hid hn
        have HB2 := hid (HB1.out.trans (hb2.mono HB1.out.size))
        have HW2 : Hid (w2.ownsRow w.heap.size 3 1 v (Gate.zZ s (ms.take k) p).length (ints (Gate.zZ s (ms.take k) p))) := qy HW.out HB2.out
        have HNL : Hid ((Gate.zI ms[k]).length <= 2) := Gate.zcG _
        have HRL : Hid ((Gate.zZ s (ms.take k) p).length <= 2097152) := by have h1 := Gate.zfk s p (ms.take k); rw [List.length_take] at h1; show _ <= _; omega
        have hcs2 := za hcs1 (Nat.lt_trans hbsr hz1) hb2
        clear hn hb2 hX1 hcs1 hcsr
        revert HS HN2 HNL
        generalize Gate.zI ms[k] = names
        intro HS HN2 HNL
        go_wp2_with fail
        have hszw := HB2.out.size
        go_loopw [5, 24] (fun v0 iv wq => ∃ (j : Nat) (v1 : Value), v1 = v0 /\ j <= names.length /\ iv = .int .i64 j /\ wq.ownsRow w.heap.size 3 1 v1 ((Gate.zZ s (ms.take k) p) ++ (names.take j).map (Gate.zQ s.fs)).length (ints ((Gate.zZ s (ms.take k) p) ++ (names.take j).map (Gate.zQ s.fs))) /\ wq.ownsRow w1.heap.size 9 1 (.slice na names.length ncap) names.length (names.map Value.string) /\ Below w.heap.size w wq) (fun _ iv _ => names.length - (intOf iv).toNat)
        case atStart => exact ⟨0, _, rfl, Nat.zero_le _, rfl, by simpa using HW2.out, HN2.out, HB.out.trans (HB2.out.mono HB.out.size)⟩
        case round =>
          obtain ⟨j, v1, hv1, hj, rfl, hown, hnames, hB⟩ := hrel
          subst hv1
          by_cases hjl : j < names.length
          · obtain ⟨g, rfl, hcell⟩ : ∃ g, na = some ⟨g, 0, none⟩ /\ wr.cell? ⟨g, j, none⟩ = some (.string names[j]) := by
              obtain ⟨_, ⟨h0, h1⟩ | ⟨g, cap, cur, h0, h1⟩⟩ := id hnames
              · rw [h1] at hjl; exact absurd hjl (by omega)
              · cases h0
                refine ⟨g, rfl, ?_⟩
                rw [hnames.cellAt j (by omega)]
                simp [hjl]
            have hjI : (j : Int) < (names.length : Int) := by omega
            have hcsr := za hcs hbs hB
            have hbsr' := Nat.lt_of_lt_of_le hbs hB.size
            have HX := zee hown hnames hB
            have HTK : Hid ((names.take (j + 1)).map (Gate.zQ s.fs) = (names.take j).map (Gate.zQ s.fs) ++ [Gate.zQ s.fs names[j]]) := by unfold Hid; rw [List.take_succ_eq_append_getElem hjl, List.map_append]; rfl
            have HLL : Hid (((Gate.zZ s (ms.take k) p) ++ (names.take j).map (Gate.zQ s.fs)).length <= 2097156) := by have h1 := HRL.out; have h2 := HNL.out; show _ <= _; rw [List.length_append, List.length_map, List.length_take]; omega
            clear hown hnames hB
            go_wp2_with fail
            refine (qA fa fcap s.fs names[j] wr (HF.out.mono HX.out.2.2)).mono ?_
            rintro e w3 ⟨rfl, hb3⟩
            have HB3 := hid hb3
            have HX3 := zee (qy HX.out.1 hb3) (qy HX.out.2.1 hb3) (HX.out.2.2.trans (hb3.mono HX.out.2.2.size))
            clear hb3 hcell hcsr
            go_wp2_with (at_builtin; refine wpList_append_own _ rfl (.tmp 28) (.tmp 33) 91 rfl w.heap.size 3 i0 (.int .i64 0) 1 8 Tryz.underlying91 hi hz0 hz1' hz2 rfl (by decide) _ _ _ rfl (HX3.out.1.alloc _) ⟨w3.heap.size, 0, none⟩ 1 1 [.int .i64 (Gate.zQ s.fs names[j])] rfl rfl (zdf _ _ _) (by intro u hu; simp at hu; subst hu; rfl) (by have := HLL.out; unfold maxLen; omega) (by have := HLL.out; omega) (by have := HX3.out.2.2.size; simp; omega) ?_; intro v' w4 hown' hgr _)
            have hgb : ∀ g', v1.ownBlock = some g' -> w.heap.size <= g' := fun g' hg' => (HX3.out.1.lt g' hg').1
            have hap := zln HX3.out.1 HX3.out.2.1 (by decide)
            refine ⟨⟨j + 1, _, rfl, by omega, by rw [wrap_one (by have := HNL.out; omega)], ?_, ?_, zbN HX3.out.2.2 HX3.out.2.2.size hgr hgb⟩, zdz hjl (by have := HNL.out; omega)⟩
            · rw [HTK.out, <- List.append_assoc, List.length_append]
              have e1 : ints ((Gate.zZ s (ms.take k) p ++ (names.take j).map (Gate.zQ s.fs)) ++ [Gate.zQ s.fs names[j]]) = ints (Gate.zZ s (ms.take k) p ++ (names.take j).map (Gate.zQ s.fs)) ++ [.int .i64 (Gate.zQ s.fs names[j])] := by simp [ints]
              rw [e1]
              exact hown'
            · refine jX HX3.out.2.1 (fun g' hg' => ?_)
              rw [jR hgr (by have := (HX3.out.2.1.lt g' hg').2; simp; omega) (fun q hq => fun e => hap q hq g' hg' e.symm), Below.heap_alloc _ _ _ (HX3.out.2.1.lt g' hg').2]
          · have e : j = names.length := by omega
            subst e
            rw [List.take_of_length_le (Nat.le_refl _), <- HS.out] at hown
            have HX := jO hown hB
            clear hown hnames hB
            go_wp2_with fail
            exact ⟨⟨k + 1, _, rfl, by omega, by go_num, HX.out.1, HX.out.2⟩, zm hlt⟩
      · have htf : Gate.turns ms[k] s p = false := by simpa using htt
        have HS : Hid (Gate.zZ s (ms.take (k + 1)) p = Gate.zZ s (ms.take k) p) := by unfold Hid; rw [Gate.zfO s ms p k hlt, if_neg htt]; simp
        rw [htf] at ht
        refine ht.mono ?_
        rintro e w1 ⟨rfl, hb1⟩
        have HB1 := hid (hba.trans (hb1.mono hba.size))
        clear ht hba hb1
        go_wp2_with fail
        exact ⟨⟨k + 1, _, rfl, by omega, by go_num, by rw [HS.out]; exact qy HW.out HB1.out, HB.out.trans (HB1.out.mono HB.out.size)⟩, zm hlt⟩
    · have e : k = ms.length := by omega
      subst e
      rw [List.take_of_length_le (Nat.le_refl _)] at hown
      have HW := jO hown hB
      clear hown hB
      go_wp2_with fail
      go_ret
      exact ⟨v, rfl, HW.out⟩
end Go.Proofs.YtkfigdbbncjojaaGreat

namespace Go.Proofs.YtkfigdbbncjojaaGreat
open Go.RowKit
theorem znl {fs : List Fld} {k : Nat} (h : k < fs.length) (hh : Gate.hasName (fs.take k) fs[k].nm = true) : (Gate.zQ fs fs[k].nm != (k : Int)) = true := by
  obtain ⟨j, hj, e⟩ := Gate.zib fs _ k h hh
  rw [e, bne_iff_ne]; omega
theorem znv {fs : List Fld} {k : Nat} (h : k < fs.length) (hh : Gate.hasName (fs.take k) fs[k].nm = false) : (Gate.zQ fs fs[k].nm != (k : Int)) = false := by
  rw [Gate.zcr fs _ k h hh rfl]; simp
set_option maxHeartbeats 2000000 in
theorem zbh (r : Nat) (a0 : Option Addr) (cap0 : Nat) (ss : List Shp) (a : Option Addr) (cap : Nat) (fs : List Fld) (w : World) (hr : w.heap[r]? = some (.map qB 4)) (hss : yB w a0 ss) (hw : zW w a fs) :
    Calls Tryz.prog 146 #[.map (some r), .slice a0 ss.length cap0, .slice a fs.length cap] w fun e w' => e = .returned (.bool (Gate.yC ss fs)) /\ Below w.heap.size w w' := by
  have hl := hw.len
  unfold maxLen at hl
  have hrlt := (Array.getElem?_eq_some_iff.1 hr).1
  by_cases h6 : fs.length <= 6
  rotate_left
  · have HF : Hid (Gate.yC ss fs = false) := by simp [Hid, Gate.yC, h6]
    clear hw hr hss
    go_enter Tryz.func146, Tryz.ntmps146
    go_wp2
    go_ret
    exact ⟨ze HF.out.symm, Below.refl _ _⟩
  have HG : Hid (Gate.yC ss fs = Gate.up (Gate.zdp ss fs) fs.length) := by simp [Hid, Gate.yC, h6]
  have h6I : (fs.length : Int) <= 6 := by omega
  go_enter Tryz.func146, Tryz.ntmps146
  go_wp2
  go_loopw [14] (fun i wr => ∃ k : Nat, k <= fs.length /\ i = .int .i64 k /\ Gate.up (Gate.zdp ss fs) k = true /\ Below w.heap.size w wr) (fun i _ => fs.length - (intOf i).toNat)
  case atStart => exact ⟨0, Nat.zero_le _, rfl, rfl, Below.refl _ _⟩
  case round =>
    obtain ⟨k, hk, rfl, hup, hB⟩ := hrel
    have hsz := hB.size
    by_cases hlt : k < fs.length
    · obtain ⟨b, off, rfl, hb, hrw⟩ := hw.rows (by rintro rfl; simp at hlt)
      obtain ⟨wa, wcap, hf⟩ := hrw k hlt
      obtain ⟨c0, c1, c2, c3, c4, c5, c6, c7, c8, c9, c10⟩ := (hf.mono hb hB).load
      have hsm := hf.small
      have hst := hf.strs.mono hB
      have hfa := hw.mono hB
      have hsa := hss.mono hB
      have hra := (hB.block r hrlt).trans hr
      have HO := hid (Gate.zgD ss fs k hlt)
      have HS : Hid (Gate.zdp ss fs k = true -> Gate.up (Gate.zdp ss fs) (k + 1) = true) := fun h => by rw [Gate.je, hup, h]; rfl
      have HN : Hid (Gate.zdp ss fs k = false -> Gate.yC ss fs = false) := fun h => by rw [HG.out]; exact Gate.zaF hlt h
      clear hw hrw hf hup hss hr
      by_cases hn : Gate.zy fs[k].nm = true
      rotate_left
      · have HNm : Hid (Gate.zy fs[k].nm = false) := by simpa [Hid] using hn
        clear hn
        go_wp2_with fail
        refine (zu HNm.out (zL _ _ hsm.nm)).mono ?_
        rintro e w1 ⟨rfl, rfl⟩
        go_wp2_with fail
        go_ret
        exact ⟨ze (HN.out (by rw [HO.out, HNm.out]; rfl)).symm, hB.alloc hsz _⟩
      have HNm := hid hn
      clear hn
      by_cases hh : Gate.hasName (fs.take k) fs[k].nm = true
      · have HH := hid hh
        have hpl := znl hlt hh
        clear hh
        go_wp2_with fail
        refine (zu HNm.out (zL _ _ hsm.nm)).mono ?_
        rintro e w1 ⟨rfl, rfl⟩
        go_wp2_with fail
        refine (qA _ _ _ _ _ (hfa.mono ((Below.refl _ _).alloc (Nat.le_refl _) _))).mono ?_
        rintro e w2 ⟨rfl, hb2⟩
        have hB2 : Below w.heap.size w w2 := (hB.alloc hsz _).trans (hb2.mono (by simp; omega))
        clear hb2
        go_wp2_with fail
        go_ret
        exact ⟨ze (HN.out (by rw [HO.out, HNm.out, HH.out]; rfl)).symm, hB2⟩
      · have HH : Hid (Gate.hasName (fs.take k) fs[k].nm = false) := by simpa [Hid] using hh
        have hpl := znv hlt HH.out
        clear hh
        by_cases hok : Gate.jN ss fs[k] = true
        all_goals
          first
            | (have HK : Hid (Gate.jN ss fs[k] = true) := hok)
            | (have HK : Hid (Gate.jN ss fs[k] = false) := by simpa [Hid] using hok)
          clear hok
          go_wp2_with fail
          refine (zu HNm.out (zL _ _ hsm.nm)).mono ?_
          rintro e w1 ⟨rfl, rfl⟩
          go_wp2_with fail
          refine (qA _ _ _ _ _ (hfa.mono ((Below.refl _ _).alloc (Nat.le_refl _) _))).mono ?_
          rintro e w2 ⟨rfl, hb2⟩
          have hX2 := za (zH wr _ _) (by simp) hb2
          have hz2 : wr.heap.size < w2.heap.size := by have := hb2.size; simp at this; omega
          have hbr2 : Below wr.heap.size wr w2 := ((Below.refl _ _).alloc (Nat.le_refl _) _).trans (hb2.mono (by simp))
          have hB2 := hB.trans (hbr2.mono hsz)
          have hra2 : w2.heap[r]? = some (.map qB 4) := (hbr2.block r (by omega)).trans hra
          clear hb2
          go_wp2_with fail
          refine (zu HK.out (zk5 _ _ _ _ _ _ _ _ _ _ _ _ _ _ _ _ _ _ hra2 hsm.df hsm.wg (hst.mono hbr2) (hsa.mono hbr2))).mono ?_
          rintro e w3 ⟨rfl, hb3⟩
          have hB3 : Below w.heap.size w w3 := hB2.trans (hb3.mono (by omega))
          clear hb3 hX2
          go_wp2_with fail
        · exact ⟨⟨k + 1, by omega, by go_num, HS.out (by rw [HO.out, HNm.out, HH.out, HK.out]; rfl), hB3⟩, by simp [intOf]; omega⟩
        · go_ret
          exact ⟨ze (HN.out (by rw [HO.out, HNm.out, HH.out, HK.out]; rfl)).symm, hB3⟩
    · have HF : Hid (Gate.yC ss fs = true) := by
        have e : k = fs.length := by omega
        subst e; rw [HG.out]; exact hup
      clear hup hw
      go_wp2
      go_ret
      exact ⟨ze HF.out.symm, hB⟩
end Go.Proofs.YtkfigdbbncjojaaGreat

namespace Go.Proofs
open Go.Shelf
shelf_lay Lays.n106 Nm 106 at Tryz as YtkfigdbbncjojaaGreat.lays106
end Go.Proofs
namespace Go.Proofs.YtkfigdbbncjojaaGreat
open Go.RowKit
namespace Gate
def key (a b : ByteArray) : Int := Lib.compareBytes a.data.toList b.data.toList
theorem zkq : ∀ a b : List UInt8, Lib.compareBytes a b = -1 \/ Lib.compareBytes a b = 0 \/ Lib.compareBytes a b = 1
  | [], [] => by simp [Lib.compareBytes]
  | [], _ :: _ => by simp [Lib.compareBytes]
  | _ :: _, [] => by simp [Lib.compareBytes]
  | a :: xs, b :: ys => by
    simp only [Lib.compareBytes]
    split
    · simp
    · split
      · simp
      · exact zkq xs ys
theorem zkt : ∀ a b : List UInt8, Op.bytesLess a b = decide (Lib.compareBytes a b = -1)
  | [], [] => by simp [Lib.compareBytes, Op.bytesLess]
  | [], _ :: _ => by simp [Lib.compareBytes, Op.bytesLess]
  | _ :: _, [] => by simp [Lib.compareBytes, Op.bytesLess]
  | a :: xs, b :: ys => by
    simp only [Lib.compareBytes, Op.bytesLess]
    rw [zkt xs ys]
    by_cases h : a < b
    · simp [h]
    · by_cases h' : b < a
      · have hne : ¬ a = b := fun e => by subst e; exact h h'
        simp [h, h', hne]
      · have he : a = b := by
          have h1 : ¬ a.toNat < b.toNat := h
          have h2 : ¬ b.toNat < a.toNat := h'
          exact UInt8.toNat_inj.1 (by omega)
        simp [he]
theorem zj1 : ∀ a b : List UInt8, Lib.compareBytes b a = - Lib.compareBytes a b
  | [], [] => by simp [Lib.compareBytes]
  | [], _ :: _ => by simp [Lib.compareBytes]
  | _ :: _, [] => by simp [Lib.compareBytes]
  | a :: xs, b :: ys => by
    simp only [Lib.compareBytes]
    by_cases h : a < b
    · have h' : ¬ b < a := fun h2 => absurd (UInt8.lt_trans h h2) (UInt8.lt_irrefl _)
      simp [h, h']
    · by_cases h' : b < a
      · simp [h, h']
      · simp [h, h', zj1 xs ys]
theorem zno (a b : ByteArray) : key b a = - key a b := zj1 _ _
theorem zkd (a b : ByteArray) : key a b = -1 \/ key a b = 0 \/ key a b = 1 := zkq _ _
theorem zhC (a b : ByteArray) : less a b = decide (key a b = -1) := by
  unfold less key
  rw [<- zkt, ByteArray.toList_eq, ByteArray.toList_eq]
theorem zkM : ∀ a b : List UInt8, Lib.compareBytes a b = 0 ↔ a = b
  | [], [] => by simp [Lib.compareBytes]
  | [], _ :: _ => by simp [Lib.compareBytes]
  | _ :: _, [] => by simp [Lib.compareBytes]
  | a :: xs, b :: ys => by
    simp only [Lib.compareBytes]
    by_cases h : a < b
    · have hne : ¬ a = b := fun e => by subst e; exact UInt8.lt_irrefl _ h
      simp [h, hne]
    · by_cases h' : b < a
      · have hne : ¬ a = b := fun e => by subst e; exact UInt8.lt_irrefl _ h'
        simp [h, h', hne]
      · have he : a = b := by
          have h1 : ¬ a.toNat < b.toNat := h
          have h2 : ¬ b.toNat < a.toNat := h'
          exact UInt8.toNat_inj.1 (by omega)
        simp [he, zkM xs ys]
theorem zaz (a b : ByteArray) : key a b = 0 ↔ a = b := by
  unfold key
  rw [zkM]
  constructor
  · intro h
    cases a; cases b
    simp only at h
    rw [Array.toList_inj.1 h]
  · rintro rfl; rfl
def zbJ (vs : List Int) : Int := (vs.find? (fun v => decide (¬ v = 0))).getD 0
theorem zix (a b : Int) : zbJ [a, b] = if a = 0 then b else a := by
  unfold zbJ
  by_cases h : a = 0
  · by_cases h2 : b = 0 <;> simp [h, h2]
  · simp [h]
theorem zjS (a b c : Int) : zbJ [a, b, c] = if a = 0 then (if b = 0 then c else b) else a := by
  unfold zbJ
  by_cases h : a = 0
  · by_cases h2 : b = 0
    · by_cases h3 : c = 0 <;> simp [h, h2, h3]
    · simp [h, h2]
  · simp [h]
def key2 (a b c d : ByteArray) : Int := if key a c = 0 then key b d else key a c
def zbf (a b : Ob) : Int := key2 a.kd a.nm b.kd b.nm
def yL (a b : Lg) : Int := key2 a.tm a.rs b.tm b.rs
def jl (a b : Pu) : Int := if key a.dr b.dr = 0 then key2 a.tm a.rs b.tm b.rs else key a.dr b.dr
end Gate
theorem zdu (a b : ByteArray) (w : World) : Calls Tryz.prog 163 #[.string a, .string b] w fun e w' => e = .returned (.int .i64 (Gate.key a b)) /\ w' = w :=
  Any.strings_Compare lays106 a b w
set_option maxHeartbeats 400000 in
theorem ziP (a : Option Addr) (cap : Nat) (vs : List Int) (w : World) (hw : yQ w a vs) (hl : vs.length <= 100) :
    Calls Tryz.prog 162 #[.slice a vs.length cap] w fun e w' => e = .returned (.int .i64 (Gate.zbJ vs)) /\ w' = w := by
  go_enter Tryz.func162, Tryz.ntmps162
  go_wp2_with fail
  go_loopw [8] (fun i wr => ∃ k : Nat, k <= vs.length /\ i = .int .i64 k /\ Hid (∀ v ∈ vs.take k, v = 0) /\ wr = w) (fun i _ => vs.length - (intOf i).toNat)
  case atStart => exact ⟨0, Nat.zero_le _, rfl, fun v hv => by simp at hv, rfl⟩
  case round =>
    obtain ⟨k, hk, rfl, hz, rfl⟩ := hrel
    by_cases hlt : k < vs.length
    · obtain ⟨b, off, rfl, hb, hck⟩ := hw.load (Below.refl _ _) k hlt
      have hltI : (k : Int) < (vs.length : Int) := by omega
      clear hw
      by_cases h0 : vs[k] = 0
      · have e0 : (vs[k] != 0) = false := by simpa using h0
        have HZ : Hid (∀ v ∈ vs.take (k + 1), v = 0) := by
          intro v hv
          rw [List.take_succ_eq_append_getElem hlt, List.mem_append, List.mem_singleton] at hv
          rcases hv with hv | hv
          · exact hz.out v hv
          · rw [hv]; exact h0
        clear h0
        go_wp2_with fail
        exact ⟨⟨k + 1, by omega, by go_num, HZ.out, trivial⟩, by simp [intOf]; omega⟩
      · have e0 : (vs[k] != 0) = true := by simpa using h0
        have HF : Hid (Gate.zbJ vs = vs[k]) := by
          unfold Hid Gate.zbJ
          have e : vs = vs.take k ++ vs[k] :: vs.drop (k + 1) := by rw [<- List.drop_eq_getElem_cons hlt, List.take_append_drop]
          have hn : (vs.take k).find? (fun v => decide (¬ v = 0)) = none := by
            rw [List.find?_eq_none]; intro v hv; simp [hz.out v hv]
          have : vs.find? (fun v => decide (¬ v = 0)) = some vs[k] := by
            rw [List.find?_eq_some_iff_append]
            refine ⟨by simpa using h0, vs.take k, vs.drop (k + 1), e, fun v hv => by simp [hz.out v hv]⟩
          rw [this]; rfl
        clear h0
        go_wp2_with fail
        go_ret
        exact ⟨zk HF.out.symm, rfl⟩
    · have HF : Hid (Gate.zbJ vs = 0) := by
        unfold Hid Gate.zbJ
        have h := hz.out
        rw [List.take_of_length_le (by omega)] at h
        have : vs.find? (fun v => decide (¬ v = 0)) = none := by
          rw [List.find?_eq_none]; intro v hv; simp [h v hv]
        rw [this]; rfl
      clear hw
      go_wp2_with fail
      go_ret
      exact ⟨zk HF.out.symm, rfl⟩
end Go.Proofs.YtkfigdbbncjojaaGreat

namespace Go.Proofs.YtkfigdbbncjojaaGreat
open Go.RowKit
theorem zfM (s : ByteArray) : (0 < yZ s /\ jH s = yZ s) \/ (¬ 0 < yZ s /\ jH s = 0) := by
  unfold yZ jH
  by_cases h : Gate.jD s = true
  · rw [if_pos h, if_pos h]
    have := Gate.zbL s h
    omega
  · rw [if_neg h, if_neg h]
    omega
set_option maxHeartbeats 2000000 in
theorem zhW (l : Lw) (la lb lc : Option Addr) (lca lcb lcc : Nat) (o : Ob) (oa oa' : Option Addr) (ocap ocap' : Nat) (res : ByteArray) (w : World) (hl : qO w l la lb lc) (ho : qQ w o oa oa') (hc : ¬ (Gate.zw l.ss o = true /\ res.toList.isEmpty = false)) :
    Calls Tryz.prog 99 #[.agg (l.cells la lb lc lca lcb lcc), .agg (oC o oa oa' ocap ocap'), .string res] w fun e w' => e = .returned (.int .i64 (Gate.yY l.ss o res)) /\ Below w.heap.size w w' := by
  have HL := hid hl
  have HO := hid ho
  have HW : Hid (Gate.yY l.ss o res = 0) := by unfold Hid Gate.yY; rw [if_neg hc]
  have HC := hid hc
  clear hl ho hc
  unfold Lw.cells
  by_cases hk : Gate.zw l.ss o = true
  · have he : res.toList.isEmpty = true := by
      cases h : res.toList.isEmpty with
      | true => rfl
      | false => exact absurd ⟨hk, h⟩ HC.out
    have HK := hid hk
    clear hk
    go_enter Tryz.func99, Tryz.ntmps99
    go_wp2_with fail
    refine (zbi _ _ l.ss o _ _ _ _ _ (HL.out.ss.mono (zq _ _ _)) (HO.out.mono (zq _ _ _)) HK.out).mono ?_
    rintro e w1 ⟨fa, fcap, rfl, hfl, hb⟩
    have HB1 : Hid (Below w.heap.size w w1) := (zq w _ _).trans (hb.mono (by simp; omega))
    clear hfl hb
    go_wp2_with fail
    go_ret
    exact ⟨zk HW.out.symm, HB1.out⟩
  · have HK : Hid (Gate.zw l.ss o = false) := by unfold Hid; simpa using hk
    clear hk
    go_enter Tryz.func99, Tryz.ntmps99
    go_wp2_with fail
    refine (zbS _ _ l.ss o _ _ _ _ _ (HL.out.ss.mono (zq _ _ _)) (HO.out.mono (zq _ _ _)) HK.out).mono ?_
    rintro e w1 ⟨v, rfl, hb⟩
    have HB1 : Hid (Below w.heap.size w w1) := (zq w _ _).trans (hb.mono (by simp; omega))
    clear hb
    go_wp2_with fail
    go_ret
    exact ⟨zk HW.out.symm, HB1.out⟩
set_option maxHeartbeats 4000000 in
theorem zgL (l : Lw) (la lb lc : Option Addr) (lca lcb lcc : Nat) (o : Ob) (oa oa' : Option Addr) (ocap ocap' : Nat) (res : ByteArray) (w : World) (hl : qO w l la lb lc) (ho : qQ w o oa oa') (hc : Gate.zw l.ss o = true) (he : res.toList.isEmpty = false) (hlen : o.vs.length <= 1048576) :
    Calls Tryz.prog 99 #[.agg (l.cells la lb lc lca lcb lcc), .agg (oC o oa oa' ocap ocap'), .string res] w fun e w' => e = .returned (.int .i64 (Gate.yY l.ss o res)) /\ Below w.heap.size w w' := by
  have HL := hid hl
  have HO := hid ho
  have HW : Hid (Gate.yY l.ss o res = (if res = o.kd then 1 else 0) + Gate.zcE (Gate.shapeOf l.ss o.kd).fs o.vs res (Gate.shapeOf l.ss o.kd).fs.length) := by unfold Hid Gate.yY; rw [if_pos ⟨hc, he⟩]
  have HC := hid hc
  have HK : Hid (Gate.zC l.ss o.kd = true /\ o.vs.length = (Gate.shapeOf l.ss o.kd).fs.length) := by unfold Gate.zw at hc; unfold Hid; simpa using hc
  have HN := hid hlen
  clear hl ho hc hlen
  unfold Lw.cells
  go_enter Tryz.func99, Tryz.ntmps99
  go_wp2_with fail
  refine (zbi _ _ l.ss o _ _ _ _ _ (HL.out.ss.mono (zq _ _ _)) (HO.out.mono (zq _ _ _)) HC.out).mono ?_
  rintro e w1 ⟨fa, fcap, rfl, hfl, hb⟩
  obtain ⟨hX0, hY0⟩ := qw w (lC l la lb lc lca lcb lcc) (oC o oa oa' ocap ocap') 40 104
  have hY1 := za hY0 (by simp) hb
  have hz1 : w.heap.size + 1 < w1.heap.size := by have := hb.size; simp at this; omega
  have HB1 : Hid (Below w.heap.size w w1) := (zq w _ _).trans (hb.mono (by simp; omega))
  have HFl := hid (hfl.mono hb)
  clear hfl hb hX0 hY0
  obtain ⟨S, HS⟩ : ∃ S, Hid (S = Gate.shapeOf l.ss o.kd) := ⟨_, rfl⟩
  rw [<- HS.out] at HFl HK HW ⊢
  obtain ⟨n0, hn0⟩ : ∃ n0 : Int, n0 = if res = o.kd then 1 else 0 := ⟨_, rfl⟩
  have hb0 : 0 <= n0 /\ n0 <= 1 := by rw [hn0]; split <;> omega
  rw [<- hn0] at HW
  have HN0 := hid hn0
  clear hn0
  by_cases hk : res = o.kd
  all_goals (
    first
    | (have hq : (res.toList == o.kd.toList) = true := by rw [Gate.beq_toList]; simpa using hk)
    | (have hq : (res.toList == o.kd.toList) = false := by rw [Gate.beq_toList]; simpa using hk)
    have HKE := zhN hk
    clear hk
    go_wp2_with fail
    go_loopw [9, 10] (fun nv iv wr => ∃ (k : Nat) (s : Int), k <= S.fs.length /\ iv = .int .i64 k /\ nv = .int .i64 s /\ Hid (s = n0 + Gate.zcE S.fs o.vs res k /\ Below w1.heap.size w1 wr)) (fun _ iv _ => S.fs.length - (intOf iv).toNat)
    case atStart => exact ⟨0, n0, Nat.zero_le _, rfl, by have := HN0.out; first | (rw [if_pos HKE.out] at this; rw [this]) | (rw [if_neg HKE.out] at this; rw [this]), by simp [Gate.zcE], Below.refl _ _⟩
    case round =>
      obtain ⟨k, s, hk, rfl, rfl, HQ⟩ := hrel
      have hsb : 0 <= s /\ s <= 1 + k * 10000000 := by have h1 := HQ.out.1; have h2 := Gate.zbC S.fs o.vs res k; omega
      have hkn : k <= 1048576 := by have := HN.out; have := HK.out.2; omega
      by_cases hlt : k < S.fs.length
      · obtain ⟨b, off, rfl, hb, hr⟩ := HFl.out.rows (by intro e; rw [e] at hlt; simp at hlt)
        obtain ⟨wa, wcap, hf⟩ := hr k hlt
        obtain ⟨c0, c1, c2, c3, c4, c5, c6, c7, c8, c9, c10⟩ := (hf.mono hb HQ.out.2).load
        have hlv : k < o.vs.length := by have := HK.out.2; omega
        have hltI : (k : Int) < (S.fs.length : Int) := by omega
        have hlvI : (k : Int) < (o.vs.length : Int) := by omega
        obtain ⟨vb, voff, rfl, hvb, hvc0⟩ := HO.out.vals.cells (by intro e; rw [e] at hlv; simp at hlv)
        have hvc := ((HB1.out.trans (HQ.out.2.mono HB1.out.size)).cell (p := ⟨vb, voff + k, none⟩) hvb).trans (hvc0 k hlv)
        have hvb' := Nat.lt_of_lt_of_le hvb (HB1.out.trans (HQ.out.2.mono HB1.out.size)).size
        have hb' := Nat.lt_of_lt_of_le hb HQ.out.2.size
        have hY := za hY1 hz1 HQ.out.2
        have hz := Nat.lt_of_lt_of_le hz1 HQ.out.2.size
        have HSt : Hid (Gate.zcE S.fs o.vs res (k + 1) = Gate.zcE S.fs o.vs res k + Gate.yt S.fs[k] o.vs[k] res) := Gate.zmh S.fs o.vs res k hlt hlv
        have HVs : Hid (o.vs[k].size <= maxLen) := HO.out.vals.small _ (List.getElem_mem _)
        have hnr : -1 <= yZ o.vs[k] /\ yZ o.vs[k] <= 10000000 := by
          have h1 := zfM o.vs[k]; have h2 := Gate.zcx o.vs[k]
          have h3 : yZ o.vs[k] = -1 \/ 0 <= yZ o.vs[k] := by
            unfold yZ; split
            · rename_i h; exact Or.inr (Gate.zbL _ h)
            · exact Or.inl rfl
          omega
        clear hf hr hvc0 c0 c2 c3 c4 c5 c6 c7 c8 c9
        go_wp2_with fail
        refine (zct o.vs[k] _ HVs.out).mono ?_
        rintro e w2 ⟨rfl, rfl⟩
        by_cases h1 : S.fs[k].kd = 1
        · have e1 : (S.fs[k].kd == 1) = true := by simpa using h1
          by_cases h2 : S.fs[k].wg = res
          · have e2 : (S.fs[k].wg.toList == res.toList) = true := by rw [Gate.beq_toList]; simpa using h2
            have HFw : Hid (Gate.yt S.fs[k] o.vs[k] res = jH o.vs[k]) := by unfold Hid Gate.yt; rw [if_pos ⟨h1, h2⟩]
            clear h1 h2
            rcases zfM o.vs[k] with ⟨hp, hd⟩ | ⟨hp, hd⟩
            · have HD := zhN hd
              have hpd : decide (0 < yZ o.vs[k]) = true := by simpa using hp
              clear hd
              go_wp2_with fail
              first
                | exact ⟨⟨k + 1, s + yZ o.vs[k], by omega, by go_num, by go_num, by rw [HSt.out, HFw.out, HQ.out.1, HD.out]; omega, HQ.out.2⟩, zm hlt⟩
                | (go_quiet (fail); go_wp2_with fail; exact ⟨⟨k + 1, s + yZ o.vs[k], by omega, by go_num, by go_num, by rw [HSt.out, HFw.out, HQ.out.1, HD.out]; omega, below_drewN HQ.out.2 _⟩, zm hlt⟩)
            · have HD := zhN hd
              have hpd : decide (0 < yZ o.vs[k]) = false := by simpa using hp
              clear hd
              go_wp2_with fail
              first
                | exact ⟨⟨k + 1, s, by omega, by go_num, rfl, by rw [HSt.out, HFw.out, HQ.out.1, HD.out]; omega, HQ.out.2⟩, zm hlt⟩
                | (go_quiet (fail); go_wp2_with fail; exact ⟨⟨k + 1, s, by omega, by go_num, rfl, by rw [HSt.out, HFw.out, HQ.out.1, HD.out]; omega, below_drewN HQ.out.2 _⟩, zm hlt⟩)
          · have e2 : (S.fs[k].wg.toList == res.toList) = false := by rw [Gate.beq_toList]; simpa using h2
            have HFw : Hid (Gate.yt S.fs[k] o.vs[k] res = 0) := by unfold Hid Gate.yt; rw [if_neg (fun h => h2 h.2)]
            clear h1 h2
            go_wp2_with fail
            first
              | exact ⟨⟨k + 1, s, by omega, by go_num, rfl, by rw [HSt.out, HFw.out, HQ.out.1]; omega, HQ.out.2⟩, zm hlt⟩
              | (go_quiet (fail); go_wp2_with fail; exact ⟨⟨k + 1, s, by omega, by go_num, rfl, by rw [HSt.out, HFw.out, HQ.out.1]; omega, below_drewN HQ.out.2 _⟩, zm hlt⟩)
        · have e1 : (S.fs[k].kd == 1) = false := by simpa using h1
          have HFw : Hid (Gate.yt S.fs[k] o.vs[k] res = 0) := by unfold Hid Gate.yt; rw [if_neg (fun h => h1 h.1)]
          clear h1
          go_wp2_with fail
          first
            | exact ⟨⟨k + 1, s, by omega, by go_num, rfl, by rw [HSt.out, HFw.out, HQ.out.1]; omega, HQ.out.2⟩, zm hlt⟩
            | (go_quiet (fail); go_wp2_with fail; exact ⟨⟨k + 1, s, by omega, by go_num, rfl, by rw [HSt.out, HFw.out, HQ.out.1]; omega, below_drewN HQ.out.2 _⟩, zm hlt⟩)
      · have e : k = S.fs.length := by omega
        subst e
        have HE : Hid (Gate.yY l.ss o res = s) := by unfold Hid; rw [HW.out, HQ.out.1]
        clear hlt hk
        go_wp2_with fail
        go_ret
        exact ⟨zk HE.out.symm, HB1.out.trans (HQ.out.2.mono HB1.out.size)⟩)
theorem zg9 (l : Lw) (la lb lc : Option Addr) (lca lcb lcc : Nat) (o : Ob) (oa oa' : Option Addr) (ocap ocap' : Nat) (res : ByteArray) (w : World) (hl : qO w l la lb lc) (ho : qQ w o oa oa') (hlen : o.vs.length <= 1048576) :
    Calls Tryz.prog 193 #[.agg (l.cells la lb lc lca lcb lcc), .agg (oC o oa oa' ocap ocap'), .string res] w fun e w' => e = .returned (.int .i64 (Gate.yY l.ss o res)) /\ Below w.heap.size w w' := by
  by_cases hc : Gate.zw l.ss o = true /\ res.toList.isEmpty = false
  · exact zhk l la lb lc lca lcb lcc o oa oa' ocap ocap' res w hl ho hc.1 hc.2 hlen
  · exact zij l la lb lc lca lcb lcc o oa oa' ocap ocap' res w hl ho hc
theorem zhg (l : Lw) (la lb lc : Option Addr) (lca lcb lcc : Nat) (o : Ob) (oa oa' : Option Addr) (ocap ocap' : Nat) (res : ByteArray) (w : World) (hl : qO w l la lb lc) (ho : qQ w o oa oa') (hlen : o.vs.length <= 1048576) :
    Calls Tryz.prog 99 #[.agg (l.cells la lb lc lca lcb lcc), .agg (oC o oa oa' ocap ocap'), .string res] w fun e w' => e = .returned (.int .i64 (Gate.yY l.ss o res)) /\ Below w.heap.size w w' := by
  by_cases hc : Gate.zw l.ss o = true /\ res.toList.isEmpty = false
  · exact zgL l la lb lc lca lcb lcc o oa oa' ocap ocap' res w hl ho hc.1 hc.2 hlen
  · exact zhW l la lb lc lca lcb lcc o oa oa' ocap ocap' res w hl ho hc
end Go.Proofs.YtkfigdbbncjojaaGreat

namespace Go.Proofs.YtkfigdbbncjojaaGreat
open Go.RowKit
set_option maxHeartbeats 4000000 in
theorem zc6 (b : Bk) (a0 a1 a2 a3 : Option Addr) (c0 c1 c2 c3 : Nat) (w : World) (hl : qY w b a0 a1 a2 a3) (hf : b.Few) :
    Calls Tryz.prog 8 #[.agg (b.cells a0 a1 a2 a3 c0 c1 c2 c3)] w fun e w' => ∃ lo g0 g1 g2 g3, e = .returned (.agg (b.cells (some ⟨g0, 0, none⟩) (some ⟨g1, 0, none⟩) (some ⟨g2, 0, none⟩) (some ⟨g3, 0, none⟩) b.os.length b.gs.length b.ls.length b.ps.length)) /\ w.heap.size <= lo /\ ziC lo w' b g0 g1 g2 g3 /\ Below w.heap.size w w' := by
  have HL : Hid (qY w b a0 a1 a2 a3) := hl
  have HF : Hid b.Few := hf
  clear hl hf
  unfold Bk.cells
  go_enter Tryz.func8, Tryz.ntmps8
  go_wp2_with fail
  have k0 := zn0 w (.cells (bC b a0 a1 a2 a3 c0 c1 c2 c3) 32) (.cells bZ 47) (.cells #[.int .i64 b.now, .int .i64 b.tick, .int .i64 b.given, .slice none 0 0, .slice none 0 0, .slice none 0 0, .slice none 0 0] 47)
  have hB0 := below3' w (.cells (bC b a0 a1 a2 a3 c0 c1 c2 c3) 32) (.cells bZ 47) (.cells #[.int .i64 b.now, .int .i64 b.tick, .int .i64 b.given, .slice none 0 0, .slice none 0 0, .slice none 0 0, .slice none 0 0] 47)
  obtain ⟨W0, hW0⟩ : ∃ W0, W0 = ((w.alloc (.cells (bC b a0 a1 a2 a3 c0 c1 c2 c3) 32)).alloc (.cells bZ 47)).alloc (.cells #[.int .i64 b.now, .int .i64 b.tick, .int .i64 b.given, .slice none 0 0, .slice none 0 0, .slice none 0 0, .slice none 0 0] 47) := ⟨_, rfl⟩
  have hz0 : w.heap.size + 1 + 1 < W0.heap.size := by rw [hW0]; simp
  rw [<- hW0] at k0 hB0 ⊢
  clear hW0
  have HLO : Hid (w.heap.size + 1 + 1 < W0.heap.size) := hz0
  refine (zeD _ _ b.os _ (HL.out.os.mono hB0) HF.out.os.1 HF.out.os.2).mono ?_
  rintro e w1 ⟨rfl, hown, hb⟩
  obtain ⟨g0, hp'⟩ : ∃ g0, g0 = W0.heap.size := ⟨_, rfl⟩
  have HN1 : Hid (q8 W0.heap.size w1 g0 b.os b.os.length) := by rw [hp']; exact hown
  have hX1 := (hb.block _ (by omega)).trans k0.1
  have hR1 := (hb.block _ (by omega)).trans k0.2.1
  have hO1 := (hb.block _ hz0).trans k0.2.2
  have HZ1 : Hid (W0.heap.size <= w1.heap.size) := hb.size
  have HB1 : Hid (Below w.heap.size w w1) := hB0.trans (hb.mono hB0.size)
  rw [<- hp']
  clear hown hb k0 hB0 hz0 hp'
  have cO1 := fun j => cell_of_block (o := j) hO1
  have fO1 := fun j => zi (o := j) hO1
  have HX1' : Hid ((w1.setCell ⟨w.heap.size + 1 + 1, 3, none⟩ (.slice (some ⟨g0, 0, none⟩) b.os.length b.os.length)).heap[w.heap.size]? = some (.cells (bC b a0 a1 a2 a3 c0 c1 c2 c3) 32)) := (zA (by omega)).trans hX1
  have HR1' : Hid ((w1.setCell ⟨w.heap.size + 1 + 1, 3, none⟩ (.slice (some ⟨g0, 0, none⟩) b.os.length b.os.length)).heap[w.heap.size + 1]? = some (.cells bZ 47)) := (zA (by omega)).trans hR1
  have HO1' : Hid ((w1.setCell ⟨w.heap.size + 1 + 1, 3, none⟩ (.slice (some ⟨g0, 0, none⟩) b.os.length b.os.length)).heap[w.heap.size + 1 + 1]? = some (.cells #[.int .i64 b.now, .int .i64 b.tick, .int .i64 b.given, .slice (some ⟨g0, 0, none⟩) b.os.length b.os.length, .slice none 0 0, .slice none 0 0, .slice none 0 0] 47)) := zf hO1 _
  have HAB1 : Hid (yh W0.heap.size w1 (w1.setCell ⟨w.heap.size + 1 + 1, 3, none⟩ (.slice (some ⟨g0, 0, none⟩) b.os.length b.os.length))) := yh.setCell HLO.out _
  have HBB1 : Hid (Below w.heap.size w (w1.setCell ⟨w.heap.size + 1 + 1, 3, none⟩ (.slice (some ⟨g0, 0, none⟩) b.os.length b.os.length))) := HB1.out.setCell (by show w.heap.size <= w.heap.size + 1 + 1; omega) _
  have HZZ1 : Hid (W0.heap.size <= (w1.setCell ⟨w.heap.size + 1 + 1, 3, none⟩ (.slice (some ⟨g0, 0, none⟩) b.os.length b.os.length)).heap.size) := by unfold Hid; rw [World.size_setCell]; exact HZ1.out
  clear hX1 hR1 hO1
  have cX1 := fun j => cell_of_block (o := j) HX1'.out
  have cR1 := fun j => cell_of_block (o := j) HR1'.out
  have fR1 := fun j => zi (o := j) HR1'.out
  have cOO1 := fun j => cell_of_block (o := j) HO1'.out
  go_wp2_with fail
  refine (zeP _ _ b.gs _ (HL.out.gs.mono HBB1.out) HF.out.gs.1 HF.out.gs.2).mono ?_
  rintro e w2 ⟨rfl, hown, hb⟩
  obtain ⟨g1, hp'⟩ : ∃ g1, g1 = (w1.setCell ⟨w.heap.size + 1 + 1, 3, none⟩ (.slice (some ⟨g0, 0, none⟩) b.os.length b.os.length)).heap.size := ⟨_, rfl⟩
  have HN2 : Hid (jB W0.heap.size w2 g1 b.gs b.gs.length) := by rw [hp']; exact hown.weaken HZZ1.out
  have HAA2 : Hid (yh W0.heap.size w1 w2) := HAB1.out.trans (yh.below hb)
  have hX2 := (hb.block _ (lt_of_some HX1'.out)).trans HX1'.out
  have hR2 := (hb.block _ (lt_of_some HR1'.out)).trans HR1'.out
  have hO2 := (hb.block _ (lt_of_some HO1'.out)).trans HO1'.out
  have HZ2 : Hid (W0.heap.size <= w2.heap.size) := Nat.le_trans HZZ1.out hb.size
  have HB2 : Hid (Below w.heap.size w w2) := HBB1.out.trans (hb.mono HBB1.out.size)
  rw [<- hp']
  clear hown hb hp' cX1 cR1 fR1 cOO1
  have cO2 := fun j => cell_of_block (o := j) hO2
  have fO2 := fun j => zi (o := j) hO2
  have HX2' : Hid ((w2.setCell ⟨w.heap.size + 1 + 1, 4, none⟩ (.slice (some ⟨g1, 0, none⟩) b.gs.length b.gs.length)).heap[w.heap.size]? = some (.cells (bC b a0 a1 a2 a3 c0 c1 c2 c3) 32)) := (zA (by omega)).trans hX2
  have HR2' : Hid ((w2.setCell ⟨w.heap.size + 1 + 1, 4, none⟩ (.slice (some ⟨g1, 0, none⟩) b.gs.length b.gs.length)).heap[w.heap.size + 1]? = some (.cells bZ 47)) := (zA (by omega)).trans hR2
  have HO2' : Hid ((w2.setCell ⟨w.heap.size + 1 + 1, 4, none⟩ (.slice (some ⟨g1, 0, none⟩) b.gs.length b.gs.length)).heap[w.heap.size + 1 + 1]? = some (.cells #[.int .i64 b.now, .int .i64 b.tick, .int .i64 b.given, .slice (some ⟨g0, 0, none⟩) b.os.length b.os.length, .slice (some ⟨g1, 0, none⟩) b.gs.length b.gs.length, .slice none 0 0, .slice none 0 0] 47)) := zf hO2 _
  have HAB2 : Hid (yh W0.heap.size w2 (w2.setCell ⟨w.heap.size + 1 + 1, 4, none⟩ (.slice (some ⟨g1, 0, none⟩) b.gs.length b.gs.length))) := yh.setCell HLO.out _
  have HBB2 : Hid (Below w.heap.size w (w2.setCell ⟨w.heap.size + 1 + 1, 4, none⟩ (.slice (some ⟨g1, 0, none⟩) b.gs.length b.gs.length))) := HB2.out.setCell (by show w.heap.size <= w.heap.size + 1 + 1; omega) _
  have HZZ2 : Hid (W0.heap.size <= (w2.setCell ⟨w.heap.size + 1 + 1, 4, none⟩ (.slice (some ⟨g1, 0, none⟩) b.gs.length b.gs.length)).heap.size) := by unfold Hid; rw [World.size_setCell]; exact HZ2.out
  clear hX2 hR2 hO2
  have cX2 := fun j => cell_of_block (o := j) HX2'.out
  have cR2 := fun j => cell_of_block (o := j) HR2'.out
  have fR2 := fun j => zi (o := j) HR2'.out
  have cOO2 := fun j => cell_of_block (o := j) HO2'.out
  go_wp2_with fail
  refine (zeB _ _ b.ls _ (HL.out.ls.mono HBB2.out) HF.out.ls).mono ?_
  rintro e w3 ⟨rfl, hown, hb⟩
  obtain ⟨g2, hp'⟩ : ∃ g2, g2 = (w2.setCell ⟨w.heap.size + 1 + 1, 4, none⟩ (.slice (some ⟨g1, 0, none⟩) b.gs.length b.gs.length)).heap.size := ⟨_, rfl⟩
  have HN3 : Hid (jA W0.heap.size w3 g2 b.ls b.ls.length) := by rw [hp']; exact hown.weaken HZZ2.out
  have HAA3 : Hid (yh W0.heap.size w2 w3) := HAB2.out.trans (yh.below hb)
  have hX3 := (hb.block _ (lt_of_some HX2'.out)).trans HX2'.out
  have hR3 := (hb.block _ (lt_of_some HR2'.out)).trans HR2'.out
  have hO3 := (hb.block _ (lt_of_some HO2'.out)).trans HO2'.out
  have HZ3 : Hid (W0.heap.size <= w3.heap.size) := Nat.le_trans HZZ2.out hb.size
  have HB3 : Hid (Below w.heap.size w w3) := HBB2.out.trans (hb.mono HBB2.out.size)
  rw [<- hp']
  clear hown hb hp' cX2 cR2 fR2 cOO2
  have cO3 := fun j => cell_of_block (o := j) hO3
  have fO3 := fun j => zi (o := j) hO3
  have HX3' : Hid ((w3.setCell ⟨w.heap.size + 1 + 1, 5, none⟩ (.slice (some ⟨g2, 0, none⟩) b.ls.length b.ls.length)).heap[w.heap.size]? = some (.cells (bC b a0 a1 a2 a3 c0 c1 c2 c3) 32)) := (zA (by omega)).trans hX3
  have HR3' : Hid ((w3.setCell ⟨w.heap.size + 1 + 1, 5, none⟩ (.slice (some ⟨g2, 0, none⟩) b.ls.length b.ls.length)).heap[w.heap.size + 1]? = some (.cells bZ 47)) := (zA (by omega)).trans hR3
  have HO3' : Hid ((w3.setCell ⟨w.heap.size + 1 + 1, 5, none⟩ (.slice (some ⟨g2, 0, none⟩) b.ls.length b.ls.length)).heap[w.heap.size + 1 + 1]? = some (.cells #[.int .i64 b.now, .int .i64 b.tick, .int .i64 b.given, .slice (some ⟨g0, 0, none⟩) b.os.length b.os.length, .slice (some ⟨g1, 0, none⟩) b.gs.length b.gs.length, .slice (some ⟨g2, 0, none⟩) b.ls.length b.ls.length, .slice none 0 0] 47)) := zf hO3 _
  have HAB3 : Hid (yh W0.heap.size w3 (w3.setCell ⟨w.heap.size + 1 + 1, 5, none⟩ (.slice (some ⟨g2, 0, none⟩) b.ls.length b.ls.length))) := yh.setCell HLO.out _
  have HBB3 : Hid (Below w.heap.size w (w3.setCell ⟨w.heap.size + 1 + 1, 5, none⟩ (.slice (some ⟨g2, 0, none⟩) b.ls.length b.ls.length))) := HB3.out.setCell (by show w.heap.size <= w.heap.size + 1 + 1; omega) _
  have HZZ3 : Hid (W0.heap.size <= (w3.setCell ⟨w.heap.size + 1 + 1, 5, none⟩ (.slice (some ⟨g2, 0, none⟩) b.ls.length b.ls.length)).heap.size) := by unfold Hid; rw [World.size_setCell]; exact HZ3.out
  clear hX3 hR3 hO3
  have cX3 := fun j => cell_of_block (o := j) HX3'.out
  have cR3 := fun j => cell_of_block (o := j) HR3'.out
  have fR3 := fun j => zi (o := j) HR3'.out
  have cOO3 := fun j => cell_of_block (o := j) HO3'.out
  go_wp2_with fail
  refine (zeZ _ _ b.ps _ (HL.out.ps.mono HBB3.out) HF.out.ps).mono ?_
  rintro e w4 ⟨rfl, hown, hb⟩
  obtain ⟨g3, hp'⟩ : ∃ g3, g3 = (w3.setCell ⟨w.heap.size + 1 + 1, 5, none⟩ (.slice (some ⟨g2, 0, none⟩) b.ls.length b.ls.length)).heap.size := ⟨_, rfl⟩
  have HN4 : Hid (jm W0.heap.size w4 g3 b.ps b.ps.length) := by rw [hp']; exact hown.weaken HZZ3.out
  have HAA4 : Hid (yh W0.heap.size w3 w4) := HAB3.out.trans (yh.below hb)
  have hX4 := (hb.block _ (lt_of_some HX3'.out)).trans HX3'.out
  have hR4 := (hb.block _ (lt_of_some HR3'.out)).trans HR3'.out
  have hO4 := (hb.block _ (lt_of_some HO3'.out)).trans HO3'.out
  have HZ4 : Hid (W0.heap.size <= w4.heap.size) := Nat.le_trans HZZ3.out hb.size
  have HB4 : Hid (Below w.heap.size w w4) := HBB3.out.trans (hb.mono HBB3.out.size)
  rw [<- hp']
  clear hown hb hp' cX3 cR3 fR3 cOO3
  have cO4 := fun j => cell_of_block (o := j) hO4
  have fO4 := fun j => zi (o := j) hO4
  have HX4' : Hid ((w4.setCell ⟨w.heap.size + 1 + 1, 6, none⟩ (.slice (some ⟨g3, 0, none⟩) b.ps.length b.ps.length)).heap[w.heap.size]? = some (.cells (bC b a0 a1 a2 a3 c0 c1 c2 c3) 32)) := (zA (by omega)).trans hX4
  have HR4' : Hid ((w4.setCell ⟨w.heap.size + 1 + 1, 6, none⟩ (.slice (some ⟨g3, 0, none⟩) b.ps.length b.ps.length)).heap[w.heap.size + 1]? = some (.cells bZ 47)) := (zA (by omega)).trans hR4
  have HO4' : Hid ((w4.setCell ⟨w.heap.size + 1 + 1, 6, none⟩ (.slice (some ⟨g3, 0, none⟩) b.ps.length b.ps.length)).heap[w.heap.size + 1 + 1]? = some (.cells (bC b (some ⟨g0, 0, none⟩) (some ⟨g1, 0, none⟩) (some ⟨g2, 0, none⟩) (some ⟨g3, 0, none⟩) (b.os.length) (b.gs.length) (b.ls.length) (b.ps.length)) 47)) := zf hO4 _
  have HAB4 : Hid (yh W0.heap.size w4 (w4.setCell ⟨w.heap.size + 1 + 1, 6, none⟩ (.slice (some ⟨g3, 0, none⟩) b.ps.length b.ps.length))) := yh.setCell HLO.out _
  have HBB4 : Hid (Below w.heap.size w (w4.setCell ⟨w.heap.size + 1 + 1, 6, none⟩ (.slice (some ⟨g3, 0, none⟩) b.ps.length b.ps.length))) := HB4.out.setCell (by show w.heap.size <= w.heap.size + 1 + 1; omega) _
  have HZZ4 : Hid (W0.heap.size <= (w4.setCell ⟨w.heap.size + 1 + 1, 6, none⟩ (.slice (some ⟨g3, 0, none⟩) b.ps.length b.ps.length)).heap.size) := by unfold Hid; rw [World.size_setCell]; exact HZ4.out
  clear hX4 hR4 hO4
  have cX4 := fun j => cell_of_block (o := j) HX4'.out
  have cR4 := fun j => cell_of_block (o := j) HR4'.out
  have fR4 := fun j => zi (o := j) HR4'.out
  have cOO4 := fun j => cell_of_block (o := j) HO4'.out
  go_wp2_with fail
  refine bodyPost_ret (v := .agg #[.int .i64 b.now, .int .i64 b.tick, .int .i64 b.given, .slice (some ⟨g0, 0, none⟩) b.os.length b.os.length, .slice (some ⟨g1, 0, none⟩) b.gs.length b.gs.length, .slice (some ⟨g2, 0, none⟩) b.ls.length b.ls.length, .slice (some ⟨g3, 0, none⟩) b.ps.length b.ps.length]) (by simp [results, Tryz.results8, go_sem, cR4]) rfl ⟨W0.heap.size, g0, g1, g2, g3, rfl, by have := HLO.out; omega, ?_, ?_⟩
  · have hlt1 : w.heap.size + 1 < W0.heap.size := by have := HLO.out; omega
    have hA4 : ∀ v0 v1 v2 v3 v4 v5 v6, yh W0.heap.size w4 ((((((((w4.setCell ⟨w.heap.size + 1 + 1, 6, none⟩ (.slice (some ⟨g3, 0, none⟩) b.ps.length b.ps.length)).setCell ⟨w.heap.size + 1, 0, none⟩ v0).setCell ⟨w.heap.size + 1, 1, none⟩ v1).setCell ⟨w.heap.size + 1, 2, none⟩ v2).setCell ⟨w.heap.size + 1, 3, none⟩ v3).setCell ⟨w.heap.size + 1, 4, none⟩ v4).setCell ⟨w.heap.size + 1, 5, none⟩ v5).setCell ⟨w.heap.size + 1, 6, none⟩ v6) := fun v0 v1 v2 v3 v4 v5 v6 => (((((((HAB4.out.trans (yh.setCell (p := ⟨w.heap.size + 1, 0, none⟩) hlt1 v0)).trans (yh.setCell (p := ⟨w.heap.size + 1, 1, none⟩) hlt1 v1)).trans (yh.setCell (p := ⟨w.heap.size + 1, 2, none⟩) hlt1 v2)).trans (yh.setCell (p := ⟨w.heap.size + 1, 3, none⟩) hlt1 v3)).trans (yh.setCell (p := ⟨w.heap.size + 1, 4, none⟩) hlt1 v4)).trans (yh.setCell (p := ⟨w.heap.size + 1, 5, none⟩) hlt1 v5)).trans (yh.setCell (p := ⟨w.heap.size + 1, 6, none⟩) hlt1 v6))
    exact ⟨HN1.out.above (((HAA2.out.trans HAA3.out).trans HAA4.out).trans (hA4 _ _ _ _ _ _ _)), HN2.out.above ((HAA3.out.trans HAA4.out).trans (hA4 _ _ _ _ _ _ _)), HN3.out.above (HAA4.out.trans (hA4 _ _ _ _ _ _ _)), HN4.out.above (hA4 _ _ _ _ _ _ _)⟩
  · exact ((((((HBB4.out.setCell (Nat.le_succ _) _).setCell (Nat.le_succ _) _).setCell (Nat.le_succ _) _).setCell (Nat.le_succ _) _).setCell (Nat.le_succ _) _).setCell (Nat.le_succ _) _).setCell (Nat.le_succ _) _
theorem zdk (b : Bk) (a0 a1 a2 a3 : Option Addr) (c0 c1 c2 c3 : Nat) (w : World) (hl : qY w b a0 a1 a2 a3) (hf : b.Few) :
    Calls Tryz.prog 8 #[.agg (b.cells a0 a1 a2 a3 c0 c1 c2 c3)] w fun e w' => ∃ a0' a1' a2' a3', e = .returned (.agg (b.cells a0' a1' a2' a3' b.os.length b.gs.length b.ls.length b.ps.length)) /\ qY w' b a0' a1' a2' a3' /\ Below w.heap.size w w' := by
  refine (zc6 b a0 a1 a2 a3 c0 c1 c2 c3 w hl hf).mono ?_
  rintro e w' ⟨lo, g0, g1, g2, g3, he, _, ho, hb⟩
  exact ⟨_, _, _, _, he, ho.at hl.small, hb⟩
end Go.Proofs.YtkfigdbbncjojaaGreat
