import Derived.Test.YtmfgjafdnopfbaaGreatM16
import Derived.Laws.Rows
import Derived.Maps.AppendAt
import Derived.Test.YtmfgjafdnopfbaaGreatM18
import Derived.Test.YtmfgjafdnopfbaaGreatM17
import Derived.Test.YtmfgjafdnopfbaaGreatM19
import Derived.Test.YtmfgjafdnopfbaaGreatM04
namespace Go.Proofs.YtmfgjafdnopfbaaGreat
open Go.RowKit
theorem zhu (w : World) (C : Array Value) (t : TypeId) {r p : Nat} (hr : yF w r p) : ∃ W, W = w.alloc (.cells C t) /\ W.heap[w.heap.size]? = some (.cells C t) /\ w.heap.size < W.heap.size /\ yF W r p /\ Dr r w W :=
  ⟨_, rfl, (MapKept.heap_alloc w _).1, by simp, hr.mono ((Below.refl _ _).alloc (Nat.le_refl _) _), qV ((Below.refl _ _).alloc (Nat.le_refl _) _)⟩
theorem ziq {P : Program} {f : FuncId} {args : Array Value} {w w' : World} {Q : Ending -> World -> Prop} (h : w' = w) (hc : Calls P f args w' Q) : Calls P f args w Q := h ▸ hc
theorem zi9 {r k o : Nat} {w w' : World} {v : Value} (h : Dr r w w') (hk : w.heap.size <= k) : Dr r w (w'.setCell ⟨k, o, none⟩ v) := Below.trans h (zbI ((Below.refl w.heap.size w').setCell hk v))
theorem zja {r p k o : Nat} {w : World} {v : Value} (h : yF w r p) (hk : r < k) : yF (w.setCell ⟨k, o, none⟩ v) r p := h.keep (Below.setCell (Below.refl (r + 1) w) (show r + 1 <= k from hk) v)
end Go.Proofs.YtmfgjafdnopfbaaGreat

namespace Go.Proofs.YtmfgjafdnopfbaaGreat
open Go.RowKit
namespace Gate
def yg (s : Shp) (ms : List Mnd) (p : Nat) : List Int := ms.flatMap fun m => if turns m s p = true then (zK m).map (zG s.fs) else []
theorem zdY (s : Shp) (ms : List Mnd) (p k : Nat) (h : k < ms.length) : yg s (ms.take (k + 1)) p = yg s (ms.take k) p ++ if turns ms[k] s p = true then (zK ms[k]).map (zG s.fs) else [] := by
  unfold yg
  rw [List.take_succ_eq_append_getElem h, List.flatMap_append]
  simp
theorem zb2 (m : Mnd) : (zK m).length <= 2 := List.length_filter_le _ _
theorem zdE (s : Shp) (p : Nat) : ∀ ms : List Mnd, (yg s ms p).length <= ms.length * 2
  | [] => Nat.le_refl _
  | m :: ms => by
    have h1 := zdE s p ms
    have h2 := zb2 m
    unfold yg at h1 ⊢
    rw [List.flatMap_cons, List.length_append, List.length_cons]
    by_cases h : turns m s p = true
    · rw [if_pos h, List.length_map]; omega
    · rw [if_neg h, List.length_nil]; omega
end Gate
theorem zhb {w : World} {lo lo' : Nat} {e e' : TypeId} {v v' : Value} {n n' : Nat} {xs xs' : List Value} (h : w.ownsRow lo e 1 v n xs) (h' : w.ownsRow lo' e' 1 v' n' xs') (he : e ≠ e') : ∀ g, v.ownBlock = some g -> ∀ g', v'.ownBlock = some g' -> g ≠ g' := by
  intro g hg g' hg' hgg
  subst hgg
  obtain ⟨_, ⟨rfl, _⟩ | ⟨b, cap, cur, rfl, _, hh, _⟩⟩ := h
  · cases hg
  · obtain ⟨_, ⟨rfl, _⟩ | ⟨b', cap', cur', rfl, _, hh', _⟩⟩ := h'
    · cases hg'
    · have e1 : b = g := Option.some.inj hg
      have e2 : b' = g := Option.some.inj hg'
      rw [e1] at hh
      rw [e2, hh] at hh'
      simp only [Option.some.injEq, Obj.cells.injEq] at hh'
      exact he hh'.2.1
def ints (l : List Int) : List Value := l.map (Value.int .i64)
set_option maxRecDepth 20000 in
set_option maxHeartbeats 4000000 in
theorem zgw (s : Shp) (ms : List Mnd) (p bm bs : Nat) (ma fa : Option Addr) (mcap fcap : Nat) (w : World) (hm : qg w ma ms) (hf : yc w fa s.fs) (hp : p < s.fs.length) (hl : ms.length <= 1048576)
    (hbs : bs < w.heap.size) (hcm : w.cell? ⟨bm, 0, none⟩ = some (.slice ma ms.length mcap)) (hcs : ∀ j, w.cell? ⟨bs, j, none⟩ = (#[.string s.kd, .slice fa s.fs.length fcap] : Array Value)[j]?) :
    Calls Tryz.prog 51 #[.int .i64 p, .pointer (some ⟨bm, 0, none⟩), .pointer (some ⟨bs, 0, none⟩)] w fun e w' => ∃ v, e = .returned v /\ w'.ownsRow w.heap.size 3 1 v (Gate.yg s ms p).length (ints (Gate.yg s ms p)) /\ Below w.heap.size w w' := by
  obtain ⟨i0, hi, hz0, hz1', hz2⟩ := info_parts Tryz.zfR
  have HM := hid hm
  have HF := hid hf
  clear hm hf
  go_enter Tryz.func51, Tryz.ntmps51
  go_wp2_with fail
  go_loopw [5, 12] (fun v0 iv wr => ∃ (k : Nat) (v : Value), v = v0 /\ k <= ms.length /\ iv = .int .i64 k /\ wr.ownsRow w.heap.size 3 1 v (Gate.yg s (ms.take k) p).length (ints (Gate.yg s (ms.take k) p)) /\ Below w.heap.size w wr) (fun _ iv _ => ms.length - (intOf iv).toNat)
  case atStart => exact ⟨0, _, rfl, Nat.zero_le _, rfl, World.ownsRow_nil _ _ _ _, Below.refl _ _⟩
  case round =>
    obtain ⟨k, v, hv, hk, rfl, hown, hB⟩ := hrel
    subst hv
    by_cases hlt : k < ms.length
    · obtain ⟨b, off, rfl, hb, c0, c1, c2, c3, c4, c5⟩ := HM.out.load hB k hlt
      have hltI : (k : Int) < (ms.length : Int) := by omega
      have hbw := Nat.lt_of_lt_of_le hb hB.size
      have hcsr := ze hcs hbs hB
      have hbsr := Nat.lt_of_lt_of_le hbs hB.size
      have HW := hid hown
      have HB := hid hB
      clear hown hB
      go_wp2_with fail
      have hba := (Below.refl wr.heap.size wr).alloc (Nat.le_refl _) (.cells #[.string ms[k].kd, .string ms[k].fd, .string ms[k].wh, .string ms[k].wi, .string ms[k].pt, .string ms[k].fr] 56)
      have ht := zfc ms[k] s fa fcap p (wr.alloc (.cells #[.string ms[k].kd, .string ms[k].fd, .string ms[k].wh, .string ms[k].wi, .string ms[k].pt, .string ms[k].fr] 56)) (HF.out.mono (HB.out.trans (hba.mono HB.out.size))) hp
      by_cases htt : Gate.turns ms[k] s p = true
      · have HS : Hid (Gate.yg s (ms.take (k + 1)) p = Gate.yg s (ms.take k) p ++ (Gate.zK ms[k]).map (Gate.zG s.fs)) := by unfold Hid; rw [Gate.zdY s ms p k hlt, if_pos htt]
        rw [htt] at ht
        refine ht.mono ?_
        rintro e w1 ⟨rfl, hb1⟩
        have hX1 := ze (zo wr _ _) (by simp) hb1
        have HB1 := hid (hba.trans (hb1.mono hba.size))
        have hz1 : wr.heap.size < w1.heap.size := by have := hb1.size; simp at this; omega
        have hcs1 := ze hcsr hbsr HB1.out
        clear ht hba hb1 c0 c1 c2 c3 c4 c5
        go_wp2_with fail
        refine (zcZ ms[k] w1).mono ?_
        rintro e w2 ⟨nv, rfl, hn, hb2⟩
        obtain ⟨na, ncap, rfl⟩ := qB hn
        have HN2 := hid hn
        have HB2 := hid (HB1.out.trans (hb2.mono HB1.out.size))
        have HW2 : Hid (w2.ownsRow w.heap.size 3 1 v (Gate.yg s (ms.take k) p).length (ints (Gate.yg s (ms.take k) p))) := qF HW.out HB2.out
        have HNL : Hid ((Gate.zK ms[k]).length <= 2) := Gate.zb2 _
        have HRL : Hid ((Gate.yg s (ms.take k) p).length <= 2097152) := by have h1 := Gate.zdE s p (ms.take k); rw [List.length_take] at h1; show _ <= _; omega
        have hcs2 := ze hcs1 (Nat.lt_trans hbsr hz1) hb2
        clear hn hb2 hX1 hcs1 hcsr
        revert HS HN2 HNL
        generalize Gate.zK ms[k] = names
        intro HS HN2 HNL
        go_wp2_with fail
        have hszw := HB2.out.size
        go_loopw [5, 24] (fun v0 iv wq => ∃ (j : Nat) (v1 : Value), v1 = v0 /\ j <= names.length /\ iv = .int .i64 j /\ wq.ownsRow w.heap.size 3 1 v1 ((Gate.yg s (ms.take k) p) ++ (names.take j).map (Gate.zG s.fs)).length (ints ((Gate.yg s (ms.take k) p) ++ (names.take j).map (Gate.zG s.fs))) /\ wq.ownsRow w1.heap.size 9 1 (.slice na names.length ncap) names.length (names.map Value.string) /\ Below w.heap.size w wq) (fun _ iv _ => names.length - (intOf iv).toNat)
        case atStart => exact ⟨0, _, rfl, Nat.zero_le _, rfl, by simpa using HW2.out, HN2.out, HB.out.trans (HB2.out.mono HB.out.size)⟩
        case round =>
          obtain ⟨j, v1, hv1, hj, rfl, hown, hnames, hB⟩ := hrel
          subst hv1
          by_cases hjl : j < names.length
          · obtain ⟨g, rfl, hcell⟩ : ∃ g, na = some ⟨g, 0, none⟩ /\ wr.cell? ⟨g, j, none⟩ = some (.string names[j]) := by
              obtain ⟨_, ⟨h0, h1⟩ | ⟨g, cap, cur, h0, h1⟩⟩ := id hnames
              · rw [h1] at hjl; exact absurd hjl (by omega)
              · cases h0
                refine ⟨g, rfl, ?_⟩
                rw [hnames.cellAt j (by omega)]
                simp [hjl]
            have hjI : (j : Int) < (names.length : Int) := by omega
            have hcsr := ze hcs hbs hB
            have hbsr' := Nat.lt_of_lt_of_le hbs hB.size
            have HX := yK hown hnames hB
            have HTK : Hid ((names.take (j + 1)).map (Gate.zG s.fs) = (names.take j).map (Gate.zG s.fs) ++ [Gate.zG s.fs names[j]]) := by unfold Hid; rw [List.take_succ_eq_append_getElem hjl, List.map_append]; rfl
            have HLL : Hid (((Gate.yg s (ms.take k) p) ++ (names.take j).map (Gate.zG s.fs)).length <= 2097156) := by have h1 := HRL.out; have h2 := HNL.out; show _ <= _; rw [List.length_append, List.length_map, List.length_take]; omega
            clear hown hnames hB
            go_wp2_with fail
            refine (qQ fa fcap s.fs names[j] wr (HF.out.mono HX.out.2.2)).mono ?_
            rintro e w3 ⟨rfl, hb3⟩
            have HB3 := hid hb3
            have HX3 := yK (qF HX.out.1 hb3) (qF HX.out.2.1 hb3) (HX.out.2.2.trans (hb3.mono HX.out.2.2.size))
            clear hb3 hcell hcsr
            go_wp2_with (at_builtin; refine wpList_append_own _ rfl (.tmp 28) (.tmp 33) 59 rfl w.heap.size 3 i0 (.int .i64 0) 1 8 Tryz.underlying59 hi hz0 hz1' hz2 rfl (by decide) _ _ _ rfl (HX3.out.1.alloc _) ⟨w3.heap.size, 0, none⟩ 1 1 [.int .i64 (Gate.zG s.fs names[j])] rfl rfl (zbC _ _ _) (by intro u hu; simp at hu; subst hu; rfl) (by have := HLL.out; unfold maxLen; omega) (by have := HLL.out; omega) (by have := HX3.out.2.2.size; simp; omega) ?_; intro v' w4 hown' hgr _)
            have hgb : ∀ g', v1.ownBlock = some g' -> w.heap.size <= g' := fun g' hg' => (HX3.out.1.lt g' hg').1
            have hap := zhb HX3.out.1 HX3.out.2.1 (by decide)
            refine ⟨⟨j + 1, _, rfl, by omega, by rw [wrap_one (by have := HNL.out; omega)], ?_, ?_, zaM HX3.out.2.2 HX3.out.2.2.size hgr hgb⟩, zcJ hjl (by have := HNL.out; omega)⟩
            · rw [HTK.out, <- List.append_assoc, List.length_append]
              have e1 : ints ((Gate.yg s (ms.take k) p ++ (names.take j).map (Gate.zG s.fs)) ++ [Gate.zG s.fs names[j]]) = ints (Gate.yg s (ms.take k) p ++ (names.take j).map (Gate.zG s.fs)) ++ [.int .i64 (Gate.zG s.fs names[j])] := by simp [ints]
              rw [e1]
              exact hown'
            · refine jV HX3.out.2.1 (fun g' hg' => ?_)
              rw [jS hgr (by have := (HX3.out.2.1.lt g' hg').2; simp; omega) (fun q hq => fun e => hap q hq g' hg' e.symm), Below.heap_alloc _ _ _ (HX3.out.2.1.lt g' hg').2]
          · have e : j = names.length := by omega
            subst e
            rw [List.take_of_length_le (Nat.le_refl _), <- HS.out] at hown
            have HX := qO hown hB
            clear hown hnames hB
            go_wp2_with fail
            exact ⟨⟨k + 1, _, rfl, by omega, by go_num, HX.out.1, HX.out.2⟩, z8 hlt⟩
      · have htf : Gate.turns ms[k] s p = false := by simpa using htt
        have HS : Hid (Gate.yg s (ms.take (k + 1)) p = Gate.yg s (ms.take k) p) := by unfold Hid; rw [Gate.zdY s ms p k hlt, if_neg htt]; simp
        rw [htf] at ht
        refine ht.mono ?_
        rintro e w1 ⟨rfl, hb1⟩
        have HB1 := hid (hba.trans (hb1.mono hba.size))
        clear ht hba hb1
        go_wp2_with fail
        exact ⟨⟨k + 1, _, rfl, by omega, by go_num, by rw [HS.out]; exact qF HW.out HB1.out, HB.out.trans (HB1.out.mono HB.out.size)⟩, z8 hlt⟩
    · have e : k = ms.length := by omega
      subst e
      rw [List.take_of_length_le (Nat.le_refl _)] at hown
      have HW := qO hown hB
      clear hown hB
      go_wp2_with fail
      go_ret
      exact ⟨v, rfl, HW.out⟩
end Go.Proofs.YtmfgjafdnopfbaaGreat

namespace Go.Proofs.YtmfgjafdnopfbaaGreat
open Go.RowKit
theorem ziB {fs : List Fld} {k : Nat} (h : k < fs.length) (hh : Gate.hasName (fs.take k) fs[k].nm = true) : (Gate.zG fs fs[k].nm != (k : Int)) = true := by
  obtain ⟨j, hj, e⟩ := Gate.ze1 fs _ k h hh
  rw [e, bne_iff_ne]; omega
theorem ziz {fs : List Fld} {k : Nat} (h : k < fs.length) (hh : Gate.hasName (fs.take k) fs[k].nm = false) : (Gate.zG fs fs[k].nm != (k : Int)) = false := by
  rw [Gate.zaz fs _ k h hh rfl]; simp
set_option maxHeartbeats 2000000 in
theorem za0 (r : Nat) (a0 : Option Addr) (cap0 : Nat) (ss : List Shp) (a : Option Addr) (cap : Nat) (fs : List Fld) (w : World) (hr : w.heap[r]? = some (.map yU 4)) (hss : yG w a0 ss) (hw : yc w a fs) :
    Calls Tryz.prog 41 #[.map (some r), .slice a0 ss.length cap0, .slice a fs.length cap] w fun e w' => e = .returned (.bool (Gate.yN ss fs)) /\ Below w.heap.size w w' := by
  have hl := hw.len
  unfold maxLen at hl
  have hrlt := (Array.getElem?_eq_some_iff.1 hr).1
  by_cases h6 : fs.length <= 6
  rotate_left
  · have HF : Hid (Gate.yN ss fs = false) := by simp [Hid, Gate.yN, h6]
    clear hw hr hss
    go_enter Tryz.func41, Tryz.ntmps41
    go_wp2
    go_ret
    exact ⟨zh HF.out.symm, Below.refl _ _⟩
  have HG : Hid (Gate.yN ss fs = Gate.up (Gate.zcD ss fs) fs.length) := by simp [Hid, Gate.yN, h6]
  have h6I : (fs.length : Int) <= 6 := by omega
  go_enter Tryz.func41, Tryz.ntmps41
  go_wp2
  go_loopw [14] (fun i wr => ∃ k : Nat, k <= fs.length /\ i = .int .i64 k /\ Gate.up (Gate.zcD ss fs) k = true /\ Below w.heap.size w wr) (fun i _ => fs.length - (intOf i).toNat)
  case atStart => exact ⟨0, Nat.zero_le _, rfl, rfl, Below.refl _ _⟩
  case round =>
    obtain ⟨k, hk, rfl, hup, hB⟩ := hrel
    have hsz := hB.size
    by_cases hlt : k < fs.length
    · obtain ⟨b, off, rfl, hb, hrw⟩ := hw.rows (by rintro rfl; simp at hlt)
      obtain ⟨wa, wcap, hf⟩ := hrw k hlt
      obtain ⟨c0, c1, c2, c3, c4, c5, c6, c7, c8, c9, c10⟩ := (hf.mono hb hB).load
      have hsm := hf.small
      have hst := hf.strs.mono hB
      have hfa := hw.mono hB
      have hsa := hss.mono hB
      have hra := (hB.block r hrlt).trans hr
      have HO := hid (Gate.zbX ss fs k hlt)
      have HS : Hid (Gate.zcD ss fs k = true -> Gate.up (Gate.zcD ss fs) (k + 1) = true) := fun h => by rw [Gate.zbs, hup, h]; rfl
      have HN : Hid (Gate.zcD ss fs k = false -> Gate.yN ss fs = false) := fun h => by rw [HG.out]; exact Gate.zcE hlt h
      clear hw hrw hf hup hss hr
      by_cases hn : Gate.zL fs[k].nm = true
      rotate_left
      · have HNm : Hid (Gate.zL fs[k].nm = false) := by simpa [Hid] using hn
        clear hn
        go_wp2_with fail
        refine (zl HNm.out (qD _ _ hsm.nm)).mono ?_
        rintro e w1 ⟨rfl, rfl⟩
        go_wp2_with fail
        go_ret
        exact ⟨zh (HN.out (by rw [HO.out, HNm.out]; rfl)).symm, hB.alloc hsz _⟩
      have HNm := hid hn
      clear hn
      by_cases hh : Gate.hasName (fs.take k) fs[k].nm = true
      · have HH := hid hh
        have hpl := ziB hlt hh
        clear hh
        go_wp2_with fail
        refine (zl HNm.out (qD _ _ hsm.nm)).mono ?_
        rintro e w1 ⟨rfl, rfl⟩
        go_wp2_with fail
        refine (qQ _ _ _ _ _ (hfa.mono ((Below.refl _ _).alloc (Nat.le_refl _) _))).mono ?_
        rintro e w2 ⟨rfl, hb2⟩
        have hB2 : Below w.heap.size w w2 := (hB.alloc hsz _).trans (hb2.mono (by simp; omega))
        clear hb2
        go_wp2_with fail
        go_ret
        exact ⟨zh (HN.out (by rw [HO.out, HNm.out, HH.out]; rfl)).symm, hB2⟩
      · have HH : Hid (Gate.hasName (fs.take k) fs[k].nm = false) := by simpa [Hid] using hh
        have hpl := ziz hlt HH.out
        clear hh
        by_cases hok : Gate.yA ss fs[k] = true
        all_goals
          first
            | (have HK : Hid (Gate.yA ss fs[k] = true) := hok)
            | (have HK : Hid (Gate.yA ss fs[k] = false) := by simpa [Hid] using hok)
          clear hok
          go_wp2_with fail
          refine (zl HNm.out (qD _ _ hsm.nm)).mono ?_
          rintro e w1 ⟨rfl, rfl⟩
          go_wp2_with fail
          refine (qQ _ _ _ _ _ (hfa.mono ((Below.refl _ _).alloc (Nat.le_refl _) _))).mono ?_
          rintro e w2 ⟨rfl, hb2⟩
          have hX2 := ze (zo wr _ _) (by simp) hb2
          have hz2 : wr.heap.size < w2.heap.size := by have := hb2.size; simp at this; omega
          have hbr2 : Below wr.heap.size wr w2 := ((Below.refl _ _).alloc (Nat.le_refl _) _).trans (hb2.mono (by simp))
          have hB2 := hB.trans (hbr2.mono hsz)
          have hra2 : w2.heap[r]? = some (.map yU 4) := (hbr2.block r (by omega)).trans hra
          clear hb2
          go_wp2_with fail
          refine (zl HK.out (zgs _ _ _ _ _ _ _ _ _ _ _ _ _ _ _ _ _ _ hra2 hsm.df hsm.wg (hst.mono hbr2) (hsa.mono hbr2))).mono ?_
          rintro e w3 ⟨rfl, hb3⟩
          have hB3 : Below w.heap.size w w3 := hB2.trans (hb3.mono (by omega))
          clear hb3 hX2
          go_wp2_with fail
        · exact ⟨⟨k + 1, by omega, by go_num, HS.out (by rw [HO.out, HNm.out, HH.out, HK.out]; rfl), hB3⟩, by simp [intOf]; omega⟩
        · go_ret
          exact ⟨zh (HN.out (by rw [HO.out, HNm.out, HH.out, HK.out]; rfl)).symm, hB3⟩
    · have HF : Hid (Gate.yN ss fs = true) := by
        have e : k = fs.length := by omega
        subst e; rw [HG.out]; exact hup
      clear hup hw
      go_wp2
      go_ret
      exact ⟨zh HF.out.symm, hB⟩
end Go.Proofs.YtmfgjafdnopfbaaGreat

namespace Go.Proofs.YtmfgjafdnopfbaaGreat
open Go.RowKit
set_option maxHeartbeats 2000000 in
theorem zd6 (a0 : Option Addr) (cap0 : Nat) (ss : List Shp) (nm : ByteArray) (kd ls ms : Int) (a : Option Addr) (cap : Nat) (ws : List ByteArray) (to : ByteArray) (rl : Int) (mu fx : Bool) (df wg : ByteArray) (w : World) (hnm : nm.size <= maxLen) (hdf : df.size <= maxLen) (hws : zZ w a ws) (h1 : kd ≠ 1) (h2 : kd ≠ 2) (h3 : kd ≠ 3) (h4 : kd ≠ 4) :
    Calls Tryz.prog 64 #[.slice a0 ss.length cap0, .agg #[.string nm, .int .i64 kd, .int .i64 ls, .int .i64 ms, .slice a ws.length cap, .string to, .int .i64 rl, .bool mu, .bool fx, .string df, .string wg]] w
      fun e w' => e = .returned (.bool (Gate.zL nm && Gate.yA ss ⟨nm, kd, ls, ms, ws, to, rl, mu, fx, df, wg⟩)) /\ Below w.heap.size w w' := by
  have HO : Hid ((Gate.zL nm && Gate.yA ss ⟨nm, kd, ls, ms, ws, to, rl, mu, fx, df, wg⟩) = false) := by simp [Hid, Gate.yA, Gate.bare, Gate.yP, h1, h2, h3, h4]
  generalize (Gate.zL nm && Gate.yA ss ⟨nm, kd, ls, ms, ws, to, rl, mu, fx, df, wg⟩) = res at HO
  have HFit : Hid (Gate.fits kd ls ms ws df = false) := Gate.zda kd ls ms ws df h1 h2 h3 h4
  have HH : Hid (kd ≠ 1 /\ kd ≠ 2 /\ kd ≠ 3 /\ kd ≠ 4) := ⟨h1, h2, h3, h4⟩
  have e1 : (kd == 1) = false := by simpa using h1
  have e2 : (kd == 2) = false := by simpa using h2
  have e3 : (kd == 3) = false := by simpa using h3
  have e4 : (kd == 4) = false := by simpa using h4
  clear h1 h2 h3 h4
  by_cases hn : Gate.zL nm = true
  rotate_left
  · have HNm : Hid (Gate.zL nm = false) := by simpa [Hid] using hn
    clear hn
    go_enter Tryz.func64, Tryz.ntmps64
    go_wp2_with fail
    refine (zl HNm.out (zw _ _ hnm)).mono ?_
    rintro e w1 ⟨rfl, rfl⟩
    go_wp2_with fail
    go_ret
    exact ⟨zh HO.out.symm, (Below.refl _ _).alloc (Nat.le_refl _) _⟩
  have HNm : Hid (Gate.zL nm = true) := hn
  clear hn
  by_cases hd : df.toList.isEmpty = true
  all_goals
    first
      | (have hd1 : df.toList.isEmpty = true := hd)
      | (have hd1 : df.toList.isEmpty = false := by simpa using hd)
    clear hd
    go_enter Tryz.func64, Tryz.ntmps64
    go_wp2_with fail
    refine (zl HNm.out (zw _ _ hnm)).mono ?_
    rintro e w1 ⟨rfl, rfl⟩
    go_wp2_with fail
    refine (zef _ _ _ _ _ _ _ _ _ _ _ _ _ _ HH.out.1 HH.out.2.1 HH.out.2.2.1 HH.out.2.2.2).mono ?_
    rintro e w2 ⟨bb, rfl, hb2⟩
    have hX2 := ze (zo w _ _) (by simp) hb2
    have hz2 : w.heap.size < w2.heap.size := by have := hb2.size; simp at this; omega
    have hB2 : Below w.heap.size w w2 := ((Below.refl _ _).alloc (Nat.le_refl _) _).trans (hb2.mono (by simp))
    clear hb2
    cases bb
    · go_wp2_with fail
      go_ret
      exact ⟨zh HO.out.symm, hB2⟩
  · go_wp2_with fail
    go_ret
    exact ⟨zh HO.out.symm, hB2⟩
  · go_wp2_with fail
    refine (zl HFit.out (qc _ _ _ _ _ _ _ _ _ _ _ _ _ _ _ hdf (hws.mono hB2))).mono ?_
    rintro e w3 ⟨rfl, hb3⟩
    have hB3 : Below w.heap.size w w3 := hB2.trans (hb3.mono (by omega))
    go_wp2_with fail
    go_ret
    exact ⟨zh HO.out.symm, hB3⟩
theorem zcY (a0 : Option Addr) (cap0 : Nat) (ss : List Shp) (nm : ByteArray) (kd ls ms : Int) (a : Option Addr) (cap : Nat) (ws : List ByteArray) (to : ByteArray) (rl : Int) (mu fx : Bool) (df wg : ByteArray) (w : World) (hnm : nm.size <= maxLen) (hdf : df.size <= maxLen) (hwg : wg.size <= maxLen) (hws : zZ w a ws) (hss : yG w a0 ss) :
    Calls Tryz.prog 64 #[.slice a0 ss.length cap0, .agg #[.string nm, .int .i64 kd, .int .i64 ls, .int .i64 ms, .slice a ws.length cap, .string to, .int .i64 rl, .bool mu, .bool fx, .string df, .string wg]] w
      fun e w' => e = .returned (.bool (Gate.zL nm && Gate.yA ss ⟨nm, kd, ls, ms, ws, to, rl, mu, fx, df, wg⟩)) /\ Below w.heap.size w w' := by
  by_cases h1 : kd = 1
  · subst h1; exact zgv a0 cap0 ss nm ls ms a cap ws to rl mu fx df wg w hnm hdf hwg hws
  by_cases h2 : kd = 2
  · subst h2; exact zgp a0 cap0 ss nm ls ms a cap ws to rl mu fx df wg w hnm hdf hws
  by_cases h3 : kd = 3
  · subst h3; exact zgf a0 cap0 ss nm ls ms a cap ws to rl mu fx df wg w hnm hdf hws
  by_cases h4 : kd = 4
  · subst h4; exact zgA a0 cap0 ss nm ls ms a cap ws to rl mu fx df wg w hnm hdf hws hss
  exact zd6 a0 cap0 ss nm kd ls ms a cap ws to rl mu fx df wg w hnm hdf hws h1 h2 h3 h4
end Go.Proofs.YtmfgjafdnopfbaaGreat

namespace Go.Proofs.YtmfgjafdnopfbaaGreat
open Go.RowKit
theorem zdA {w : World} {lo sz : Nat} {e : TypeId} {v : Value} {n : Nat} {xs : List Value} (h : w.ownsRow lo e sz v n xs) (hv : v ≠ .slice none 0 0) : ∃ g cap, v = .slice (some ⟨g, 0, none⟩) n cap := by
  obtain ⟨_, ⟨h0, _⟩ | ⟨g, cap, cur, rfl, _⟩⟩ := h
  · exact absurd h0 hv
  · exact ⟨g, cap, rfl⟩
end Go.Proofs.YtmfgjafdnopfbaaGreat
