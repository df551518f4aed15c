import Derived.Test.YtfpeplbmfbepcaaGreatM42
import Derived.Test.YtfpeplbmfbepcaaGreatM31
import Derived.Test.YtfpeplbmfbepcaaGreatM07
import Derived.Deep.QuietTactic
import Derived.BigQuiet
import Derived.Deep.CutRange
import Derived.Test.YtfpeplbmfbepcaaGreatM39
import Derived.Test.YtfpeplbmfbepcaaGreatM25
import Derived.Test.YtfpeplbmfbepcaaGreatM03
namespace Go.Proofs.YtfpeplbmfbepcaaGreat
open Go.RowKit
theorem zla {P : Program} {f : FuncId} {args : Array Value} {w : World} {b c : Int} {R : World -> Prop} (hb : b = c) (h : Calls P f args w fun e w' => e = .returned (.int .i64 b) /\ R w') : Calls P f args w fun e w' => e = .returned (.int .i64 c) /\ R w' := by
  subst hb; exact h
theorem ziB {a b : ByteArray} (h : a = b) : Ending.returned (.string a) = .returned (.string b) := by rw [h]
theorem Gate.zp6 {s : Shp} {ms : List Mnd} {p : Nat} (hrd : ∀ x ∈ Gate.yg s ms p, 0 <= x /\ x < s.fs.length) {m : Mnd} (hm : m ∈ ms) (ht : Gate.turns m s p = true) {v : ByteArray} (hv : v ∈ Gate.zL m) : ∃ j : Nat, j < s.fs.length /\ Gate.zT s.fs v = (j : Int) := by
  have h := hrd (Gate.zT s.fs v) (by
    unfold Gate.yg; rw [List.mem_flatMap]; refine ⟨m, hm, ?_⟩; rw [if_pos ht]; exact List.mem_map.2 ⟨v, hv, rfl⟩)
  exact ⟨(Gate.zT s.fs v).toNat, by omega, by omega⟩
set_option maxRecDepth 20000 in
set_option maxHeartbeats 8000000 in
theorem zjt (s : Shp) (ms : List Mnd) (o : Ob) (vs : List ByteArray) (p : Nat) (fa ma va ha : Option Addr) (fcap mcap vcap hcap : Nat) (w : World) (hf : zW w fa s.fs) (hm : qy w ma ms) (hv : zA w va vs) (hc : vs.length = s.fs.length) (hp : p < s.fs.length) (hix : Gate.zT s.fs s.fs[p].nm = (p : Int)) (hkd : o.kd = s.kd) (hrd : ∀ x ∈ Gate.yg s ms p, 0 <= x /\ x < s.fs.length) :
    Calls Tryz.prog 176 #[.slice fa s.fs.length fcap, .slice ma ms.length mcap, .agg #[.string o.kd, .string o.nm, .string o.tm, .slice va vs.length vcap, .bool o.en, .slice ha o.hs.length hcap, .int .i64 o.vr], .string s.fs[p].nm] w fun e w' => e = .returned (.string (Gate.decided s ms p vs)) /\ Below w.heap.size w w' := by
  have hpv : p < vs.length := by omega
  have hml := hm.len
  have hl := hv.len
  unfold maxLen at hl hml
  obtain ⟨vb, voff, rfl, hvb, hcell⟩ := hv.cells (by rintro rfl; simp at hpv)
  have HC : Hid (∀ W, Below w.heap.size w W -> ∀ i (h : i < vs.length), W.cell? ⟨vb, voff + i, none⟩ = some (.string vs[i])) := fun W hb i h => (hb.cell (p := ⟨vb, voff + i, none⟩) hvb).trans (hcell i h)
  have HF : Hid (∀ W, Below w.heap.size w W -> zW W fa s.fs) := fun W hb => hf.mono hb
  have HM := zoB hm hc hix hkd hrd
  clear hf hm hv hc hcell hix hkd hrd
  go_enter Tryz.func176, Tryz.ntmps176
  go_upto_region 1 with fail
  refine zbh (fun W => Below w.heap.size w W /\ W.heap[w.heap.size]? = some (.cells #[.string o.kd, .string o.nm, .string o.tm, .slice (some ⟨vb, voff, none⟩) vs.length vcap, .bool o.en, .slice ha o.hs.length hcap, .int .i64 o.vr] 119)) ⟨(Below.refl _ _).alloc (Nat.le_refl _) _, (MapKept.heap_alloc w _).1⟩ ?_
  rintro W0 hW0
  have H0 := hid hW0
  clear hW0
  go_wp2_with fail
  go_loopg [9] ms.length (fun g iv wr => ∃ k : Nat, k + g = ms.length /\ iv = .int .i64 k /\ Hid ((ms.take k).findSome? (Gate.gives s vs p) = none) /\ Hid (Below w.heap.size w wr /\ wr.heap[w.heap.size]? = some (.cells #[.string o.kd, .string o.nm, .string o.tm, .slice (some ⟨vb, voff, none⟩) vs.length vcap, .bool o.en, .slice ha o.hs.length hcap, .int .i64 o.vr] 119)))
  case atStart => exact ⟨0, by omega, rfl, rfl, H0⟩
  case round =>
    clear H0
    obtain ⟨k, hk, rfl, HN, HB⟩ := hrel
    have hXo := fun j => cell_of_block (o := j) HB.out.2
    have hvz : vb < wr.heap.size := Nat.lt_of_lt_of_le hvb HB.out.1.size
    have hzo := (Array.getElem?_eq_some_iff.1 HB.out.2).1
    by_cases hlt : k < ms.length
    · obtain ⟨mb, moff, rfl, hmb, c0, c1, c2, c3, c4, c5⟩ := HM.out.1.load HB.out.1 k hlt
      have hltI : (k : Int) < (ms.length : Int) := by omega
      obtain ⟨m, hmE⟩ : ∃ m, m = ms[k] := ⟨_, rfl⟩
      have HNX : Hid (Gate.gives s vs p m = none -> (ms.take (k + 1)).findSome? (Gate.gives s vs p) = none) := by
        intro h
        rw [List.take_succ_eq_append_getElem hlt, List.findSome?_append, HN.out, <- hmE]
        simp [h]
      have HSX : Hid (∀ x, Gate.gives s vs p m = some x -> Gate.decided s ms p vs = x) := by
        intro x h
        unfold Gate.decided
        have e : ms.findSome? (Gate.gives s vs p) = some x := by
          conv => lhs; rw [<- List.take_append_drop k ms, List.drop_eq_getElem_cons hlt]
          rw [List.findSome?_append, HN.out, List.findSome?_cons, <- hmE, h]
          rfl
        rw [e]; rfl
      have HRD : Hid (Gate.turns m s p = true -> ∀ v, Gate.isSet v = true -> v = m.wh \/ v = m.fr -> ∃ j : Nat, ∃ h : j < vs.length, Gate.zT s.fs v = (j : Int) /\ Gate.qD s.fs vs v = vs[j]) := fun ht v hs hv => by
        obtain ⟨j, hj, hx⟩ := Gate.zp6 HM.out.2.2.2.2 (hmE ▸ List.getElem_mem hlt) ht (show v ∈ Gate.zL m by unfold Gate.zL; rw [List.mem_filter]; exact ⟨by simpa using hv, hs⟩)
        have hjv : j < vs.length := by rw [HM.out.2.1]; exact hj
        exact ⟨j, hjv, hx, by rw [Gate.zfh hx, Gate.getD_at vs j _ hjv]⟩
      have HTU : Hid (Gate.turns m s p = ((m.kd.toList == o.kd.toList) && (m.fd.toList == s.fs[p].nm.toList))) := by
        rw [Hid, Gate.beq_toList, Gate.beq_toList, HM.out.2.2.2.1]; unfold Gate.turns; rw [Gate.getD_at s.fs p _ hp]
      rw [<- hmE] at c0 c1 c2 c3 c4 c5
      clear HN hmE
      go_upto_region 5 with fail
      refine zbh (fun W => Below w.heap.size w W /\ W.heap[w.heap.size]? = some (.cells #[.string o.kd, .string o.nm, .string o.tm, .slice (some ⟨vb, voff, none⟩) vs.length vcap, .bool o.en, .slice ha o.hs.length hcap, .int .i64 o.vr] 119) /\ W.heap[wr.heap.size]? = some (.cells #[.string m.kd, .string m.fd, .string m.wh, .string m.wi, .string m.pt, .string m.fr] 125)) ⟨HB.out.1.alloc HB.out.1.size _, (((Below.refl _ wr).alloc (Nat.le_refl _) _).block _ hzo).trans HB.out.2, (MapKept.heap_alloc wr _).1⟩ ?_
      rintro W2 hW2
      obtain ⟨kM, hkM⟩ : ∃ x, x = wr.heap.size := ⟨_, rfl⟩
      rw [<- hkM] at hW2 ⊢
      have H2 := hid hW2
      have hXm := fun j => cell_of_block (o := j) hW2.2.2
      have hzm := (Array.getElem?_eq_some_iff.1 hW2.2.2).1
      clear hXo hzo hvz
      have hXo := fun j => cell_of_block (o := j) hW2.2.1
      have hzo := (Array.getElem?_eq_some_iff.1 hW2.2.1).1
      have hvz : vb < W2.heap.size := Nat.lt_of_lt_of_le hvb H2.out.1.size
      obtain ⟨app, happ⟩ : ∃ x, x = decide (Gate.turns m s p = true /\ ¬ (Gate.isSet m.wh = true /\ Gate.qD s.fs vs m.wh ≠ m.wi)) := ⟨_, rfl⟩
      have HAP := hid happ
      clear hW2 hkM c0 c1 c2 c3 c4 c5 HB happ
      go_cut [50] from 12 to 66 (fun vx W => vx = .bool (!app) /\ Hid (Below w.heap.size w W /\ W.heap[w.heap.size]? = some (.cells #[.string o.kd, .string o.nm, .string o.tm, .slice (some ⟨vb, voff, none⟩) vs.length vcap, .bool o.en, .slice ha o.hs.length hcap, .int .i64 o.vr] 119) /\ W.heap[kM]? = some (.cells #[.string m.kd, .string m.fd, .string m.wh, .string m.wi, .string m.pt, .string m.fr] 125)))
      case first =>
        have HZ : Hid (∀ n, Below w.heap.size w (W2.drewN n) /\ (W2.drewN n).heap[w.heap.size]? = some (.cells #[.string o.kd, .string o.nm, .string o.tm, .slice (some ⟨vb, voff, none⟩) vs.length vcap, .bool o.en, .slice ha o.hs.length hcap, .int .i64 o.vr] 119) /\ (W2.drewN n).heap[kM]? = some (.cells #[.string m.kd, .string m.fd, .string m.wh, .string m.wi, .string m.pt, .string m.fr] 125)) := fun n => ⟨below_drewN H2.out.1 n, H2.out.2⟩
        rcases hkd : (m.kd.toList == o.kd.toList) with _ | _
        · go_quiet (fail)
          go_wp2_with fail
          go_meet
          case rel => exact ⟨by rw [HAP.out, HTU.out, hkd]; simp, HZ.out _⟩
        rcases hfd : (m.fd.toList == s.fs[p].nm.toList) with _ | _
        · go_quiet (fail)
          go_wp2_with fail
          go_meet
          case rel => exact ⟨by rw [HAP.out, HTU.out, hkd, hfd]; simp, HZ.out _⟩
        rcases hwh : m.wh.toList.isEmpty with _ | _
        · obtain ⟨jw, hjw, hjx, hjv⟩ := HRD.out (by rw [HTU.out, hkd, hfd]; rfl) m.wh (by unfold Gate.isSet; rw [hwh]; rfl) (Or.inl rfl)
          have cw := HC.out _ H2.out.1 jw hjw
          have hjI : (jw : Int) < (vs.length : Int) := by omega
          have hj0 : (0 : Int) <= (jw : Int) := by omega
          have HJ := qJ hjx hjv
          clear hjx hjv
          have HJ1 := hid HJ.out.1
          go_quiet ((go_at_call 171; exact Calls.quiet_of_same (zla HJ1.out (zav _ _ s.fs _ _ (by exact HF.out _ (below_drewN H2.out.1 _))))))
          go_wp2_with fail
          go_meet
          case rel => exact ⟨by rw [HAP.out, HTU.out, hkd, hfd, HJ.out.2, Gate.beq_toList]; simp [Gate.isSet, hwh], HZ.out _⟩
        · go_quiet (fail)
          go_wp2_with fail
          go_meet
          case rel => exact ⟨by rw [HAP.out, HTU.out, hkd, hfd]; simp [Gate.isSet, hwh], HZ.out _⟩
      case rest =>
        obtain ⟨rfl, H3⟩ := hcut
        obtain ⟨W3, rfl⟩ : ∃ x, x = wc := ⟨_, rfl⟩
        clear hXm hXo H2 hzm hzo hvz
        have hXm := fun j => cell_of_block (o := j) H3.out.2.2
        have hXo := fun j => cell_of_block (o := j) H3.out.2.1
        have hzm := (Array.getElem?_eq_some_iff.1 H3.out.2.2).1
        have hzo := (Array.getElem?_eq_some_iff.1 H3.out.2.1).1
        have hvz : vb < W3.heap.size := Nat.lt_of_lt_of_le hvb H3.out.1.size
        have hstep : IntKind.i64.wrap ((k : Int) + 1) = ((k + 1 : Nat) : Int) := by rw [IntKind.wrap_i64]; omega
        obtain ⟨g1, rfl⟩ : ∃ g, gk = g + 1 := ⟨gk - 1, by omega⟩
        cases app with
        | false =>
          have HG := hid (HNX.out (by unfold Gate.gives; rw [if_neg (of_decide_eq_false HAP.out.symm)]))
          go_wp2_with fail
          go_roundg g1
          case measure => omega
          case rel => exact ⟨k + 1, by omega, rfl, HG, ⟨H3.out.1, H3.out.2.1⟩⟩
        | true =>
          have HA := hid (of_decide_eq_true HAP.out.symm)
          rcases hfr : m.fr.toList.isEmpty with _ | _
          · obtain ⟨jf, hjf, hjx, hjv⟩ := HRD.out HA.out.1 m.fr (by unfold Gate.isSet; rw [hfr]; rfl) (Or.inr rfl)
            have cf := HC.out _ H3.out.1 jf hjf
            have hjI : (jf : Int) < (vs.length : Int) := by omega
            have hj0 : (0 : Int) <= (jf : Int) := by omega
            have HJ := qJ hjx hjv
            clear hjx hjv
            have HJ1 := hid HJ.out.1
            have HZ : Hid (∀ n, Below w.heap.size w (W3.drewN n) /\ (W3.drewN n).heap[w.heap.size]? = some (.cells #[.string o.kd, .string o.nm, .string o.tm, .slice (some ⟨vb, voff, none⟩) vs.length vcap, .bool o.en, .slice ha o.hs.length hcap, .int .i64 o.vr] 119)) := fun n => ⟨below_drewN H3.out.1 n, H3.out.2.1⟩
            go_wp2_with fail
            go_quiet ((go_at_call 171; exact Calls.quiet_of_same (zla HJ1.out (zav _ _ s.fs _ _ (by exact HF.out _ (below_drewN H3.out.1 _))))))
            rcases hve : vs[jf].toList.isEmpty with _ | _
            · have HG := hid (HSX.out vs[jf] (by unfold Gate.gives; rw [if_pos HA.out, HJ.out.2]; simp [Gate.isSet, hfr, hve]))
              go_wp2_with fail
              go_ret
              exact ⟨ziB HG.out.symm, (HZ.out _).1⟩
            · have HG := hid (HNX.out (by unfold Gate.gives; rw [if_pos HA.out, HJ.out.2]; simp [Gate.isSet, hfr, hve]))
              go_wp2_with fail
              go_roundg g1
              case measure => omega
              case rel => exact ⟨k + 1, by omega, rfl, HG, HZ.out _⟩
          · have HG := hid (HSX.out m.pt (by unfold Gate.gives; rw [if_pos HA.out]; simp [Gate.isSet, hfr]))
            go_wp2_with fail
            go_ret
            exact ⟨ziB HG.out.symm, H3.out.1⟩
    · have hnI : ¬ (k : Int) < (ms.length : Int) := by omega
      have HD : Hid (Gate.decided s ms p vs = vs[p]) := by
        have e : ms.findSome? (Gate.gives s vs p) = none := by have := HN.out; rwa [List.take_of_length_le (by omega)] at this
        unfold Hid Gate.decided; rw [e, Gate.getD_at vs p _ hpv]; rfl
      have HJP := hid HM.out.2.2.1
      have cp := HC.out _ HB.out.1 p hpv
      have hpI : (p : Int) < (vs.length : Int) := by omega
      have hp0 : (0 : Int) <= (p : Int) := by omega
      go_wp2_with fail
      go_quiet ((go_at_call 171; exact Calls.quiet_of_same (zla HJP.out (zav _ _ s.fs _ _ (by exact HF.out _ (below_drewN HB.out.1 _))))))
      go_wp2_with fail
      go_ret
      exact ⟨ziB HD.out.symm, below_drewN HB.out.1 _⟩
end Go.Proofs.YtfpeplbmfbepcaaGreat

namespace Go.Proofs.YtfpeplbmfbepcaaGreat
open Go.RowKit
theorem Gate.zkb {a b : Int} : Gate.zcH a b < 0 ↔ a < b := by
  unfold Gate.zcH
  split
  · omega
  · split <;> omega
set_option maxRecDepth 20000 in
set_option maxHeartbeats 40000000 in
theorem zi4 (b : Bk) (a0 a1 a2 a3 : Option Addr) (c0 c1 c2 c3 : Nat) (w : World) (hb : y9 w b a0 a1 a2 a3) :
    Calls Tryz.prog 61 #[.agg (b.cells a0 a1 a2 a3 c0 c1 c2 c3)] w fun e w' => e = .returned (.bool (Gate.yB b)) /\ Below w.heap.size w w' := by
  have HK := hid hb
  clear hb
  unfold Bk.cells
  go_enter Tryz.func61, Tryz.ntmps61
  go_upto_region 1 with fail
  refine zbh (fun W => Below w.heap.size w W /\ W.heap[w.heap.size]? = some (.cells (bC b a0 a1 a2 a3 c0 c1 c2 c3) 48)) ⟨(Below.refl _ _).alloc (Nat.le_refl _) _, (MapKept.heap_alloc w _).1⟩ ?_
  rintro W0 ⟨h01, h02⟩
  have HB : Hid (∀ W, Below W0.heap.size W0 W -> Below w.heap.size w W /\ (∀ j, W.cell? ⟨w.heap.size, j, none⟩ = (bC b a0 a1 a2 a3 c0 c1 c2 c3)[j]?)) := fun W h => ⟨h01.trans (h.mono h01.size), fun j => cell_of_block ((h.block _ (Array.getElem?_eq_some_iff.1 h02).1).trans h02)⟩
  clear h01 h02
  have cX := (HB.out W0 (Below.refl _ _)).2
  by_cases hln : b.gs.length <= 24
  rotate_left
  · have HF : Hid (Gate.yB b = false) := by unfold Hid Gate.yB; rw [decide_eq_false hln]; rfl
    have hg : (24 : Int) < (b.gs.length : Int) := by omega
    go_wp2_with fail
    go_ret
    exact ⟨ze HF.out.symm, (HB.out _ (Below.refl _ _)).1⟩
  have hg : decide ((24 : Int) < (b.gs.length : Int)) = false := by simp; omega
  have HLN := hid hln
  clear hln
  go_wp2_with fail
  clear hg cX
  go_loopg [3] b.gs.length (fun gn iv wr => ∃ k : Nat, k + gn = b.gs.length /\ iv = .int .i64 k /\ Hid ((b.gs.take k).all (Gate.yR b.given) = true /\ Gate.zaB Gate.zb4 b.gs k /\ Below W0.heap.size W0 wr))
  case atStart => exact ⟨0, by omega, rfl, by simp, fun i _ h => by omega, Below.refl _ _⟩
  case round =>
    obtain ⟨k, hk, rfl, HQ⟩ := hrel
    have hkn : k <= 24 := by have := HLN.out; omega
    have cX := (HB.out _ HQ.out.2.2).2
    have hstep : IntKind.i64.wrap ((k : Int) + 1) = ((k + 1 : Nat) : Int) := by rw [IntKind.wrap_i64]; omega
    by_cases hlt : k < b.gs.length
    · obtain ⟨g1, rfl⟩ : ∃ g, gk = g + 1 := ⟨gk - 1, by omega⟩
      obtain ⟨ob, off, v0, q0, rfl, hob, hsm, hi0, d0, d1, d2, d3, d4, d5, d6⟩ := HK.out.gs.load (HB.out _ HQ.out.2.2).1 k hlt
      have hltI : (k : Int) < (b.gs.length : Int) := by omega
      obtain ⟨v, hvE⟩ : ∃ v : Gr, ∀ h0 : 0 < k, v = b.gs[k - 1]'(by omega) := by
        by_cases h0 : 0 < k
        · exact ⟨b.gs[k - 1]'(by omega), fun _ => rfl⟩
        · exact ⟨b.gs[k], fun h => absurd h h0⟩
      have HNo : Hid (Gate.yR b.given b.gs[k] = false -> Gate.yB b = false) := fun h => by unfold Gate.yB; rw [Gate.j6 _ _ _ hlt h]; simp
      have HNa : Hid (0 < k -> 0 <= Gate.zb4 v b.gs[k] -> Gate.yB b = false) := fun h0 h => by unfold Gate.yB; rw [Gate.zdr hlt h0 (Int.not_lt.2 (by rw [<- hvE h0]; exact h))]; simp
      have HYes : Hid (Gate.yR b.given b.gs[k] = true -> (0 < k -> Gate.zb4 v b.gs[k] < 0) -> (b.gs.take (k + 1)).all (Gate.yR b.given) = true /\ Gate.zaB Gate.zb4 b.gs (k + 1)) := fun h h' => ⟨by rw [Gate.ql _ _ _ hlt, HQ.out.1, h]; rfl, Gate.zez HQ.out.2.1 hlt (Gate.zh1 hlt fun h0 => by rw [<- hvE h0]; exact h' h0)⟩
      have HVC : Hid (∀ W, Below w.heap.size w W -> 0 < k -> W.cell? ⟨ob, off + (k - 1) * 7, none⟩ = some (.int .i64 v.no)) := fun W hW h0 => by
        obtain ⟨ob', off', v0', q0', e', -, -, -, e0, -⟩ := HK.out.gs.load hW (k - 1) (by omega)
        cases e'
        rw [hvE h0]
        exact e0
      obtain ⟨g, hgE⟩ : ∃ g, g = b.gs[k] := ⟨_, rfl⟩
      rw [<- hgE] at d0 d1 d2 d3 d4 d5 d6 hsm hi0 HNo HNa HYes
      have HSm := qJ hsm hi0
      clear hvE hob hgE hsm hi0
      go_upto_region 7 with fail
      refine zbh (fun W => Below wr.heap.size wr W /\ W.heap[wr.heap.size]? = some (.cells #[.int .i64 g.no, .string g.to, .string g.gb, .slice v0 g.r.vs.length q0, .string g.r.kd, .string g.r.tm, .string g.r.px] 132)) ⟨(Below.refl _ _).alloc (Nat.le_refl _) _, (MapKept.heap_alloc wr _).1⟩ ?_
      rintro W5 ⟨h51, h52⟩
      obtain ⟨kG, hkG⟩ : ∃ x, x = wr.heap.size := ⟨_, rfl⟩
      rw [<- hkG] at h52 ⊢
      have HV : Hid (∀ W, Below W5.heap.size W5 W -> ((∀ j, W.cell? ⟨w.heap.size, j, none⟩ = (bC b a0 (some ⟨ob, off, none⟩) a2 a3 c0 c1 c2 c3)[j]?) /\ (∀ j, W.cell? ⟨kG, j, none⟩ = (#[.int .i64 g.no, .string g.to, .string g.gb, .slice v0 g.r.vs.length q0, .string g.r.kd, .string g.r.tm, .string g.r.px] : Array Value)[j]?) /\ (0 < k -> W.cell? ⟨ob, off + (k - 1) * 7, none⟩ = some (.int .i64 v.no))) /\ Below W0.heap.size W0 W /\ yM W v0 g.r.vs) := fun W h => by
        have h5 := h51.trans (h.mono h51.size)
        have h6 := HQ.out.2.2.trans (h5.mono HQ.out.2.2.size)
        have hB := HB.out _ h6
        exact ⟨⟨hB.2, fun j => cell_of_block ((h.block _ (Array.getElem?_eq_some_iff.1 h52).1).trans h52), HVC.out _ hB.1⟩, h6, HSm.out.2.mono h5⟩
      obtain ⟨y1, hy1⟩ : ∃ x, x = (decide (1 <= g.no) && decide (g.no <= b.given)) := ⟨_, rfl⟩
      obtain ⟨x1, hx1⟩ : ∃ x, x = (!y1 || (decide (0 < k) && decide (g.no <= v.no))) := ⟨_, rfl⟩
      obtain ⟨x2, hx2⟩ : ∃ x, x = (x1 || !Gate.zy g.to) := ⟨_, rfl⟩
      obtain ⟨x3, hx3⟩ : ∃ x, x = (x2 || (!g.gb.toList.isEmpty && !Gate.zy g.gb)) := ⟨_, rfl⟩
      obtain ⟨x4, hx4⟩ : ∃ x, x = (x3 || !Gate.zac g.r) := ⟨_, rfl⟩
      have HX := zoB hy1 hx1 hx2 hx3 hx4
      have hkw : IntKind.i64.wrap ((k : Int) - 1) = (k : Int) - 1 := by rw [IntKind.wrap_i64]; omega
      have hki : decide (0 < k) = true -> 0 < k /\ (0 : Int) <= (k : Int) - 1 /\ (k : Int) - 1 < (b.gs.length : Int) /\ ((k : Int) - 1).toNat = k - 1 /\ (1 : Int) <= (k : Int) := fun h => by have h := of_decide_eq_true h; omega
      have HKI := hid hki
      have HD5 := hid (show Below W5.heap.size W5 W5.drew from (Below.refl _ _).drew)
      clear h51 h52 hkG d0 d1 d2 d3 d4 d5 d6 HVC hy1 hx1 hx2 hx3 hx4 cX hki
      refine wp_region_held_drew (S := fun W => (∀ j, W.cell? ⟨w.heap.size, j, none⟩ = (bC b a0 (some ⟨ob, off, none⟩) a2 a3 c0 c1 c2 c3)[j]?) /\ (∀ j, W.cell? ⟨kG, j, none⟩ = (#[.int .i64 g.no, .string g.to, .string g.gb, .slice v0 g.r.vs.length q0, .string g.r.kd, .string g.r.tm, .string g.r.px] : Array Value)[j]?) /\ (0 < k -> W.cell? ⟨ob, off + (k - 1) * 7, none⟩ = some (.int .i64 v.no))) (by kernel_rfl) (HV.out _ HD5.out).1 (fun hHeld => ?_)
      obtain ⟨V, hVe⟩ : ∃ x, x = W5.drew := ⟨_, rfl⟩
      rw [<- hVe] at HD5 hHeld ⊢
      clear hVe
      refine tG 0 ?_; refine tG 1 ?_; refine tG 2 ?_; refine tG 3 ?_
      refine cH 4 rfl fun K hK => ?_
      go_simp
      refine (zw HX.out.1.symm (jJ _ _ _ _)).mono ?_
      rintro e w6 ⟨rfl, rfl⟩
      (try go_wp2_with fail)
      refine hK.out _ _ hHeld (fun hHeld => ?_)
      clear hK K
      (try simp only [Act.put, sA, s0, sS])
      refine tG 5 ?_; refine tG 6 ?_; refine sF 7 ?_; refine sF 8 ?_; refine sF 9 ?_; refine sFT 10 ?_; refine sFT 11 ?_; refine sFT 12 ?_; refine sFT 13 ?_
      refine sFT 14 ?_ (hy := by
        intro hg hx w hSw
        obtain ⟨-, h1, h2, h3, h4⟩ := HKI.out hx
        go_simp
        try with_reducible rfl)
      refine sFT 15 ?_
      refine sFT (v := .int .i64 v.no) 16 ?_ (hy := by
        intro hg hx w hSw
        obtain ⟨h0, h1, h2, h3, h4⟩ := HKI.out hx
        have e0 := hSw.2.2 h0
        go_simp)
      refine sFT 17 ?_; refine sFT 18 ?_; refine sFT 19 ?_
      refine sF (v := .bool (decide (0 < k) && decide (g.no <= v.no))) 20 ?_ (hy := by intro hg w hSw; cases h : decide (0 < k) <;> go_simp)
      refine tG (v := .bool x1) 21 ?_ (hy := by intro w hSw; rw [HX.out.2.1]; cases h : y1 <;> go_simp)
      refine tG 22 ?_; refine sF 23 ?_; refine sF 24 ?_
      refine cF 25 (.bool (Gate.zy g.to)) (fun W => Below W5.heap.size W5 W) (fun hg K hK => ?_) ?_ HD5.out
      · go_simp
        refine (zS _ _ HSm.out.1.to).mono ?_
        rintro e w6 ⟨rfl, rfl⟩
        (try go_wp2_with fail)
        first | exact ⟨rfl, hK.out _ hHeld HD5.out⟩ | exact hK.out _ hHeld HD5.out
      rintro w7 hw7 hHeld
      have HD6 := hid hw7
      clear hw7 HD5
      (try simp only [Act.put, sA, s0, sS])
      refine sF 26 ?_
      refine tG (v := .bool x2) 27 ?_ (hy := by intro w hSw; rw [HX.out.2.2.1]; cases h : x1 <;> go_simp)
      refine tG 28 ?_; refine sF 29 ?_; refine sF 30 ?_; refine sF 31 ?_; refine sF 32 ?_; refine sFT 33 ?_; refine sFT 34 ?_
      refine cFT 35 (.bool (Gate.zy g.gb)) (fun W => Below W5.heap.size W5 W) (fun hg hx K hK => ?_) ?_ HD6.out
      · go_simp
        refine (zS _ _ HSm.out.1.gb).mono ?_
        rintro e w6 ⟨rfl, rfl⟩
        (try go_wp2_with fail)
        first | exact ⟨rfl, hK.out _ hHeld HD6.out⟩ | exact hK.out _ hHeld HD6.out
      rintro w8 hw8 hHeld
      have HD7 := hid hw8
      clear hw8 HD6
      (try simp only [Act.put, sA, s0, sS])
      refine sFT 36 ?_
      refine sF (v := .bool (!g.gb.toList.isEmpty && !Gate.zy g.gb)) 37 ?_ (hy := by intro hg w hSw; cases h : g.gb.toList.isEmpty <;> go_simp)
      refine tG (v := .bool x3) 38 ?_ (hy := by intro w hSw; rw [HX.out.2.2.2.1]; cases h : x2 <;> go_simp)
      refine tG 39 ?_; refine sF 40 ?_; refine sF 41 ?_
      refine cF 42 (.bool (Gate.zac g.r)) (fun W => Below W5.heap.size W5 W) (fun hg K hK => ?_) ?_ HD7.out
      · go_simp
        refine (zlw g.r v0 q0 _ HSm.out.1.r (HV.out _ HD7.out).2.2).mono ?_
        rintro e w6 ⟨rfl, hb6⟩
        (try go_wp2_with fail)
        have hb6 := HD7.out.trans (hb6.mono HD7.out.size)
        first | exact ⟨rfl, hK.out _ (HV.out _ hb6).1 hb6⟩ | exact hK.out _ (HV.out _ hb6).1 hb6
      rintro w9 hw9 hHeld
      have HD8 := hid hw9
      clear hw9 HD7
      (try simp only [Act.put, sA, s0, sS])
      refine sF 43 ?_
      refine tG (v := .bool x4) 44 ?_ (hy := by intro w hSw; rw [HX.out.2.2.2.2]; cases h : x3 <;> go_simp)
      refine wpAnyH_done (by kernel_rfl) ?_ _
      clear hHeld HKI
      have HGA : Hid (x4 = (!Gate.yR b.given g || (decide (0 < k) && decide (g.no <= v.no)))) := by
        unfold Hid Gate.yR Gate.within
        rw [HX.out.2.2.2.2, HX.out.2.2.2.1, HX.out.2.2.1, HX.out.2.1, HX.out.1]
        cases (decide (1 <= g.no) && decide (g.no <= b.given)) <;> cases (decide (0 < k) && decide (g.no <= v.no)) <;> cases Gate.zy g.to <;> cases g.gb.toList.isEmpty <;> cases Gate.zy g.gb <;> cases Gate.zac g.r <;> rfl
      have HR9 := hid (HV.out _ HD8.out).2.1
      cases x4 with
      | true =>
        have HF : Hid (Gate.yB b = false) := by
          cases hq : Gate.yR b.given g with
          | false => exact HNo.out hq
          | true =>
            have h := HGA.out.symm
            rw [hq] at h
            simp only [Bool.not_true, Bool.false_or, Bool.and_eq_true, decide_eq_true_eq] at h
            exact HNa.out h.1 (Int.not_lt.1 fun h2 => by have := Gate.zkb.1 h2; omega)
        go_wp2_with fail
        go_ret
        exact ⟨ze HF.out.symm, (HB.out _ HR9.out).1⟩
      | false =>
        have HY : Hid ((b.gs.take (k + 1)).all (Gate.yR b.given) = true /\ Gate.zaB Gate.zb4 b.gs (k + 1)) := by
          have h := HGA.out.symm
          simp only [Bool.or_eq_false_iff, Bool.not_eq_false'] at h
          refine HYes.out h.1 fun h0 => ?_
          have h2 := h.2
          rw [decide_eq_true h0, Bool.true_and] at h2
          exact Gate.zkb.2 (Int.not_le.1 (of_decide_eq_false h2))
        go_wp2_with fail
        go_roundg g1
        case measure => omega
        case rel => exact ⟨k + 1, by omega, rfl, HY.out.1, HY.out.2, HR9.out⟩
    · have e : k = b.gs.length := by omega
      subst e
      have HE : Hid (Gate.yB b = true) := by
        unfold Hid Gate.yB
        rw [Gate.zff HQ.out.2.1 (Nat.le_refl _), decide_eq_true HLN.out]
        have := HQ.out.1
        rw [List.take_of_length_le (Nat.le_refl _)] at this
        rw [this]; rfl
      have HR := hid (HB.out _ HQ.out.2.2).1
      clear HQ hlt hk
      go_wp2_with fail
      go_ret
      exact ⟨ze HE.out.symm, HR.out⟩
end Go.Proofs.YtfpeplbmfbepcaaGreat
