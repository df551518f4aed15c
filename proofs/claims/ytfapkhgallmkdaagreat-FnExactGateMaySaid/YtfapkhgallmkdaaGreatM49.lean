import Derived.Test.YtfapkhgallmkdaaGreatM48
import Derived.Test.YtfapkhgallmkdaaGreatM07
import Derived.Test.YtfapkhgallmkdaaGreatM47
import Derived.Test.YtfapkhgallmkdaaGreatM39
import Derived.Deep.QuietTactic
import Derived.BigQuiet
import Derived.Deep.CutRange
import Derived.Test.YtfapkhgallmkdaaGreatM45
import Derived.Test.YtfapkhgallmkdaaGreatM34
namespace Go.Proofs.YtfapkhgallmkdaaGreat
open Go.RowKit
set_option maxRecDepth 20000 in
set_option maxHeartbeats 2000000 in
theorem zlS (w00 : World) (l : Lw) (a b c : Option Addr) (ca cb cc : Nat) (o : Ob) (va ha : Option Addr) (cap cap' : Nat) (w : World) (hL : qH w00 l a b c) (hbb : Below w00.heap.size w00 w) :
    Calls Tryz.prog 191 #[.agg (lC l a b c ca cb cc), .agg (oC o va ha cap cap')] w
      fun e w' => ∃ Bs Bo fa fcap, e = .returned (.func (.func 211) #[] #[.pointer (some ⟨Bs, 0, none⟩), .pointer (some ⟨Bo, 0, none⟩)]) /\ Bs < w'.heap.size /\ Bo < w'.heap.size /\ w.heap.size <= Bo /\ yc w00 fa (Gate.shapeOf l.ss o.kd).fs /\
        (∀ j, w'.cell? ⟨Bs, j, none⟩ = (#[.string (Gate.shapeOf l.ss o.kd).kd, .slice fa (Gate.shapeOf l.ss o.kd).fs.length fcap] : Array Value)[j]?) /\ (∀ j, w'.cell? ⟨Bo, j, none⟩ = (oC o va ha cap cap')[j]?) /\ Below w.heap.size w w' := by
  have HH := j4 hL hbb
  clear hL hbb
  go_enter Tryz.func191, Tryz.ntmps191
  go_wp2_with fail
  have hb2 := zu w (.cells (lC l a b c ca cb cc) 43) (.cells (oC o va ha cap cap') 121)
  refine (zj1 w00 _ _ l.ss o.kd _ HH.out.1.ss (HH.out.2.trans (hb2.mono HH.out.2.size))).mono ?_
  rintro e w1 ⟨fa, fcap, rfl, hfl0, hb1⟩
  have HFL := hid hfl0
  have hX1 : ∀ j, w1.cell? ⟨w.heap.size + 1, j, none⟩ = (oC o va ha cap cap')[j]? := fun j => cell_of_block ((hb1.block (w.heap.size + 1) (by simp)).trans (zP _ _ _).2)
  have hz1 : w.heap.size + 1 < w1.heap.size := by have := hb1.size; simp at this; omega
  have HB1 : Hid (Below w.heap.size w w1) := hb2.trans (hb1.mono (by simp; omega))
  have HX1 := hid hX1
  clear hb1 hb2 hfl0
  go_wp2_with fail
  go_ret
  have hba := (Below.refl w1.heap.size w1).alloc (Nat.le_refl _) (.cells #[.string (Gate.shapeOf l.ss o.kd).kd, .slice fa (Gate.shapeOf l.ss o.kd).fs.length fcap] 115)
  exact ⟨w1.heap.size, w.heap.size + 1, fa, fcap, rfl, by simp, Nat.lt_of_lt_of_le hz1 hba.size, Nat.le_succ _, HFL.out, zG w1 _ _, za HX1.out hz1 hba, HB1.out.trans (hba.mono HB1.out.size)⟩
theorem zk4 (l : Lw) (a b c : Option Addr) (ca cb cc : Nat) (o : Ob) (va ha : Option Addr) (cap cap' : Nat) (w : World) (hL : qH w l a b c) :
    Calls Tryz.prog 191 #[.agg (lC l a b c ca cb cc), .agg (oC o va ha cap cap')] w
      fun e w' => ∃ Bs Bo fa fcap, e = .returned (.func (.func 211) #[] #[.pointer (some ⟨Bs, 0, none⟩), .pointer (some ⟨Bo, 0, none⟩)]) /\ Bs < w'.heap.size /\ Bo < w'.heap.size /\ yc w' fa (Gate.shapeOf l.ss o.kd).fs /\
        (∀ j, w'.cell? ⟨Bs, j, none⟩ = (#[.string (Gate.shapeOf l.ss o.kd).kd, .slice fa (Gate.shapeOf l.ss o.kd).fs.length fcap] : Array Value)[j]?) /\ (∀ j, w'.cell? ⟨Bo, j, none⟩ = (oC o va ha cap cap')[j]?) /\ Below w.heap.size w w' :=
  (zlS w l a b c ca cb cc o va ha cap cap' w hL (Below.refl _ _)).mono fun _ _ ⟨Bs, Bo, fa, fcap, he, h1, h2, _, hf, hX, hY, hb⟩ => ⟨Bs, Bo, fa, fcap, he, h1, h2, hf.mono hb, hX, hY, hb⟩
end Go.Proofs.YtfapkhgallmkdaaGreat

namespace Go.Proofs.YtfapkhgallmkdaaGreat
open Go.RowKit
theorem zj3 {P : Program} {f : FuncId} {args : Array Value} {w : World} {b c : Int} {R : World -> Prop} (hb : b = c) (h : Calls P f args w fun e w' => e = .returned (.int .i64 b) /\ R w') : Calls P f args w fun e w' => e = .returned (.int .i64 c) /\ R w' := by
  subst hb; exact h
theorem zhE {a b : ByteArray} (h : a = b) : Ending.returned (.string a) = .returned (.string b) := by rw [h]
theorem Gate.zoO {s : Shp} {ms : List Mnd} {p : Nat} (hrd : ∀ x ∈ Gate.yh s ms p, 0 <= x /\ x < s.fs.length) {m : Mnd} (hm : m ∈ ms) (ht : Gate.turns m s p = true) {v : ByteArray} (hv : v ∈ Gate.zL m) : ∃ j : Nat, j < s.fs.length /\ Gate.zS s.fs v = (j : Int) := by
  have h := hrd (Gate.zS s.fs v) (by
    unfold Gate.yh; rw [List.mem_flatMap]; refine ⟨m, hm, ?_⟩; rw [if_pos ht]; exact List.mem_map.2 ⟨v, hv, rfl⟩)
  exact ⟨(Gate.zS s.fs v).toNat, by omega, by omega⟩
set_option maxRecDepth 20000 in
set_option maxHeartbeats 8000000 in
theorem ziv (s : Shp) (ms : List Mnd) (o : Ob) (vs : List ByteArray) (p : Nat) (fa ma va ha : Option Addr) (fcap mcap vcap hcap : Nat) (w : World) (hf : yc w fa s.fs) (hm : qp w ma ms) (hv : zC w va vs) (hc : vs.length = s.fs.length) (hp : p < s.fs.length) (hix : Gate.zS s.fs s.fs[p].nm = (p : Int)) (hkd : o.kd = s.kd) (hrd : ∀ x ∈ Gate.yh s ms p, 0 <= x /\ x < s.fs.length) :
    Calls Tryz.prog 168 #[.slice fa s.fs.length fcap, .slice ma ms.length mcap, .agg #[.string o.kd, .string o.nm, .string o.tm, .slice va vs.length vcap, .bool o.en, .slice ha o.hs.length hcap, .int .i64 o.vr], .string s.fs[p].nm] w fun e w' => e = .returned (.string (Gate.decided s ms p vs)) /\ Below w.heap.size w w' := by
  have hpv : p < vs.length := by omega
  have hml := hm.len
  have hl := hv.len
  unfold maxLen at hl hml
  obtain ⟨vb, voff, rfl, hvb, hcell⟩ := hv.cells (by rintro rfl; simp at hpv)
  have HC : Hid (∀ W, Below w.heap.size w W -> ∀ i (h : i < vs.length), W.cell? ⟨vb, voff + i, none⟩ = some (.string vs[i])) := fun W hb i h => (hb.cell (p := ⟨vb, voff + i, none⟩) hvb).trans (hcell i h)
  have HF : Hid (∀ W, Below w.heap.size w W -> yc W fa s.fs) := fun W hb => hf.mono hb
  have HM := znZ hm hc hix hkd hrd
  clear hf hm hv hc hcell hix hkd hrd
  go_enter Tryz.func168, Tryz.ntmps168
  go_upto_region 1 with fail
  refine zaW (fun W => Below w.heap.size w W /\ W.heap[w.heap.size]? = some (.cells #[.string o.kd, .string o.nm, .string o.tm, .slice (some ⟨vb, voff, none⟩) vs.length vcap, .bool o.en, .slice ha o.hs.length hcap, .int .i64 o.vr] 121)) ⟨(Below.refl _ _).alloc (Nat.le_refl _) _, (MapKept.heap_alloc w _).1⟩ ?_
  rintro W0 hW0
  have H0 := hid hW0
  clear hW0
  go_wp2_with fail
  go_loopg [9] ms.length (fun g iv wr => ∃ k : Nat, k + g = ms.length /\ iv = .int .i64 k /\ Hid ((ms.take k).findSome? (Gate.gives s vs p) = none) /\ Hid (Below w.heap.size w wr /\ wr.heap[w.heap.size]? = some (.cells #[.string o.kd, .string o.nm, .string o.tm, .slice (some ⟨vb, voff, none⟩) vs.length vcap, .bool o.en, .slice ha o.hs.length hcap, .int .i64 o.vr] 121)))
  case atStart => exact ⟨0, by omega, rfl, rfl, H0⟩
  case round =>
    clear H0
    obtain ⟨k, hk, rfl, HN, HB⟩ := hrel
    have hXo := fun j => cell_of_block (o := j) HB.out.2
    have hvz : vb < wr.heap.size := Nat.lt_of_lt_of_le hvb HB.out.1.size
    have hzo := (Array.getElem?_eq_some_iff.1 HB.out.2).1
    by_cases hlt : k < ms.length
    · obtain ⟨mb, moff, rfl, hmb, c0, c1, c2, c3, c4, c5⟩ := HM.out.1.load HB.out.1 k hlt
      have hltI : (k : Int) < (ms.length : Int) := by omega
      obtain ⟨m, hmE⟩ : ∃ m, m = ms[k] := ⟨_, rfl⟩
      have HNX : Hid (Gate.gives s vs p m = none -> (ms.take (k + 1)).findSome? (Gate.gives s vs p) = none) := by
        intro h
        rw [List.take_succ_eq_append_getElem hlt, List.findSome?_append, HN.out, <- hmE]
        simp [h]
      have HSX : Hid (∀ x, Gate.gives s vs p m = some x -> Gate.decided s ms p vs = x) := by
        intro x h
        unfold Gate.decided
        have e : ms.findSome? (Gate.gives s vs p) = some x := by
          conv => lhs; rw [<- List.take_append_drop k ms, List.drop_eq_getElem_cons hlt]
          rw [List.findSome?_append, HN.out, List.findSome?_cons, <- hmE, h]
          rfl
        rw [e]; rfl
      have HRD : Hid (Gate.turns m s p = true -> ∀ v, Gate.isSet v = true -> v = m.wh \/ v = m.fr -> ∃ j : Nat, ∃ h : j < vs.length, Gate.zS s.fs v = (j : Int) /\ Gate.qE s.fs vs v = vs[j]) := fun ht v hs hv => by
        obtain ⟨j, hj, hx⟩ := Gate.zoO HM.out.2.2.2.2 (hmE ▸ List.getElem_mem hlt) ht (show v ∈ Gate.zL m by unfold Gate.zL; rw [List.mem_filter]; exact ⟨by simpa using hv, hs⟩)
        have hjv : j < vs.length := by rw [HM.out.2.1]; exact hj
        exact ⟨j, hjv, hx, by rw [Gate.zeB hx, Gate.getD_at vs j _ hjv]⟩
      have HTU : Hid (Gate.turns m s p = ((m.kd.toList == o.kd.toList) && (m.fd.toList == s.fs[p].nm.toList))) := by
        rw [Hid, Gate.beq_toList, Gate.beq_toList, HM.out.2.2.2.1]; unfold Gate.turns; rw [Gate.getD_at s.fs p _ hp]
      rw [<- hmE] at c0 c1 c2 c3 c4 c5
      clear HN hmE
      go_upto_region 5 with fail
      refine zaW (fun W => Below w.heap.size w W /\ W.heap[w.heap.size]? = some (.cells #[.string o.kd, .string o.nm, .string o.tm, .slice (some ⟨vb, voff, none⟩) vs.length vcap, .bool o.en, .slice ha o.hs.length hcap, .int .i64 o.vr] 121) /\ W.heap[wr.heap.size]? = some (.cells #[.string m.kd, .string m.fd, .string m.wh, .string m.wi, .string m.pt, .string m.fr] 117)) ⟨HB.out.1.alloc HB.out.1.size _, (((Below.refl _ wr).alloc (Nat.le_refl _) _).block _ hzo).trans HB.out.2, (MapKept.heap_alloc wr _).1⟩ ?_
      rintro W2 hW2
      obtain ⟨kM, hkM⟩ : ∃ x, x = wr.heap.size := ⟨_, rfl⟩
      rw [<- hkM] at hW2 ⊢
      have H2 := hid hW2
      have hXm := fun j => cell_of_block (o := j) hW2.2.2
      have hzm := (Array.getElem?_eq_some_iff.1 hW2.2.2).1
      clear hXo hzo hvz
      have hXo := fun j => cell_of_block (o := j) hW2.2.1
      have hzo := (Array.getElem?_eq_some_iff.1 hW2.2.1).1
      have hvz : vb < W2.heap.size := Nat.lt_of_lt_of_le hvb H2.out.1.size
      obtain ⟨app, happ⟩ : ∃ x, x = decide (Gate.turns m s p = true /\ ¬ (Gate.isSet m.wh = true /\ Gate.qE s.fs vs m.wh ≠ m.wi)) := ⟨_, rfl⟩
      have HAP := hid happ
      clear hW2 hkM c0 c1 c2 c3 c4 c5 HB happ
      go_cut [50] from 12 to 66 (fun vx W => vx = .bool (!app) /\ Hid (Below w.heap.size w W /\ W.heap[w.heap.size]? = some (.cells #[.string o.kd, .string o.nm, .string o.tm, .slice (some ⟨vb, voff, none⟩) vs.length vcap, .bool o.en, .slice ha o.hs.length hcap, .int .i64 o.vr] 121) /\ W.heap[kM]? = some (.cells #[.string m.kd, .string m.fd, .string m.wh, .string m.wi, .string m.pt, .string m.fr] 117)))
      case first =>
        have HZ : Hid (∀ n, Below w.heap.size w (W2.drewN n) /\ (W2.drewN n).heap[w.heap.size]? = some (.cells #[.string o.kd, .string o.nm, .string o.tm, .slice (some ⟨vb, voff, none⟩) vs.length vcap, .bool o.en, .slice ha o.hs.length hcap, .int .i64 o.vr] 121) /\ (W2.drewN n).heap[kM]? = some (.cells #[.string m.kd, .string m.fd, .string m.wh, .string m.wi, .string m.pt, .string m.fr] 117)) := fun n => ⟨below_drewN H2.out.1 n, H2.out.2⟩
        rcases hkd : (m.kd.toList == o.kd.toList) with _ | _
        · go_quiet (fail)
          go_wp2_with fail
          go_meet
          case rel => exact ⟨by rw [HAP.out, HTU.out, hkd]; simp, HZ.out _⟩
        rcases hfd : (m.fd.toList == s.fs[p].nm.toList) with _ | _
        · go_quiet (fail)
          go_wp2_with fail
          go_meet
          case rel => exact ⟨by rw [HAP.out, HTU.out, hkd, hfd]; simp, HZ.out _⟩
        rcases hwh : m.wh.toList.isEmpty with _ | _
        · obtain ⟨jw, hjw, hjx, hjv⟩ := HRD.out (by rw [HTU.out, hkd, hfd]; rfl) m.wh (by unfold Gate.isSet; rw [hwh]; rfl) (Or.inl rfl)
          have cw := HC.out _ H2.out.1 jw hjw
          have hjI : (jw : Int) < (vs.length : Int) := by omega
          have hj0 : (0 : Int) <= (jw : Int) := by omega
          have HJ := j4 hjx hjv
          clear hjx hjv
          have HJ1 := hid HJ.out.1
          go_quiet ((go_at_call 163; exact Calls.quiet_of_same (zj3 HJ1.out (zaf _ _ s.fs _ _ (by exact HF.out _ (below_drewN H2.out.1 _))))))
          go_wp2_with fail
          go_meet
          case rel => exact ⟨by rw [HAP.out, HTU.out, hkd, hfd, HJ.out.2, Gate.beq_toList]; simp [Gate.isSet, hwh], HZ.out _⟩
        · go_quiet (fail)
          go_wp2_with fail
          go_meet
          case rel => exact ⟨by rw [HAP.out, HTU.out, hkd, hfd]; simp [Gate.isSet, hwh], HZ.out _⟩
      case rest =>
        obtain ⟨rfl, H3⟩ := hcut
        obtain ⟨W3, rfl⟩ : ∃ x, x = wc := ⟨_, rfl⟩
        clear hXm hXo H2 hzm hzo hvz
        have hXm := fun j => cell_of_block (o := j) H3.out.2.2
        have hXo := fun j => cell_of_block (o := j) H3.out.2.1
        have hzm := (Array.getElem?_eq_some_iff.1 H3.out.2.2).1
        have hzo := (Array.getElem?_eq_some_iff.1 H3.out.2.1).1
        have hvz : vb < W3.heap.size := Nat.lt_of_lt_of_le hvb H3.out.1.size
        have hstep : IntKind.i64.wrap ((k : Int) + 1) = ((k + 1 : Nat) : Int) := by rw [IntKind.wrap_i64]; omega
        obtain ⟨g1, rfl⟩ : ∃ g, gk = g + 1 := ⟨gk - 1, by omega⟩
        cases app with
        | false =>
          have HG := hid (HNX.out (by unfold Gate.gives; rw [if_neg (of_decide_eq_false HAP.out.symm)]))
          go_wp2_with fail
          go_roundg g1
          case measure => omega
          case rel => exact ⟨k + 1, by omega, rfl, HG, ⟨H3.out.1, H3.out.2.1⟩⟩
        | true =>
          have HA := hid (of_decide_eq_true HAP.out.symm)
          rcases hfr : m.fr.toList.isEmpty with _ | _
          · obtain ⟨jf, hjf, hjx, hjv⟩ := HRD.out HA.out.1 m.fr (by unfold Gate.isSet; rw [hfr]; rfl) (Or.inr rfl)
            have cf := HC.out _ H3.out.1 jf hjf
            have hjI : (jf : Int) < (vs.length : Int) := by omega
            have hj0 : (0 : Int) <= (jf : Int) := by omega
            have HJ := j4 hjx hjv
            clear hjx hjv
            have HJ1 := hid HJ.out.1
            have HZ : Hid (∀ n, Below w.heap.size w (W3.drewN n) /\ (W3.drewN n).heap[w.heap.size]? = some (.cells #[.string o.kd, .string o.nm, .string o.tm, .slice (some ⟨vb, voff, none⟩) vs.length vcap, .bool o.en, .slice ha o.hs.length hcap, .int .i64 o.vr] 121)) := fun n => ⟨below_drewN H3.out.1 n, H3.out.2.1⟩
            go_wp2_with fail
            go_quiet ((go_at_call 163; exact Calls.quiet_of_same (zj3 HJ1.out (zaf _ _ s.fs _ _ (by exact HF.out _ (below_drewN H3.out.1 _))))))
            rcases hve : vs[jf].toList.isEmpty with _ | _
            · have HG := hid (HSX.out vs[jf] (by unfold Gate.gives; rw [if_pos HA.out, HJ.out.2]; simp [Gate.isSet, hfr, hve]))
              go_wp2_with fail
              go_ret
              exact ⟨zhE HG.out.symm, (HZ.out _).1⟩
            · have HG := hid (HNX.out (by unfold Gate.gives; rw [if_pos HA.out, HJ.out.2]; simp [Gate.isSet, hfr, hve]))
              go_wp2_with fail
              go_roundg g1
              case measure => omega
              case rel => exact ⟨k + 1, by omega, rfl, HG, HZ.out _⟩
          · have HG := hid (HSX.out m.pt (by unfold Gate.gives; rw [if_pos HA.out]; simp [Gate.isSet, hfr]))
            go_wp2_with fail
            go_ret
            exact ⟨zhE HG.out.symm, H3.out.1⟩
    · have hnI : ¬ (k : Int) < (ms.length : Int) := by omega
      have HD : Hid (Gate.decided s ms p vs = vs[p]) := by
        have e : ms.findSome? (Gate.gives s vs p) = none := by have := HN.out; rwa [List.take_of_length_le (by omega)] at this
        unfold Hid Gate.decided; rw [e, Gate.getD_at vs p _ hpv]; rfl
      have HJP := hid HM.out.2.2.1
      have cp := HC.out _ HB.out.1 p hpv
      have hpI : (p : Int) < (vs.length : Int) := by omega
      have hp0 : (0 : Int) <= (p : Int) := by omega
      go_wp2_with fail
      go_quiet ((go_at_call 163; exact Calls.quiet_of_same (zj3 HJP.out (zaf _ _ s.fs _ _ (by exact HF.out _ (below_drewN HB.out.1 _))))))
      go_wp2_with fail
      go_ret
      exact ⟨zhE HD.out.symm, below_drewN HB.out.1 _⟩
end Go.Proofs.YtfapkhgallmkdaaGreat

namespace Go.Proofs.YtfapkhgallmkdaaGreat
open Go.RowKit
namespace Gate
theorem zmL {ss : List Shp} {v : ByteArray} (h : zF ss v = true) : (shapeOf ss v).kd = v := by
  unfold zF at h
  rw [List.any_eq_true] at h
  obtain ⟨x, hx, he⟩ := h
  unfold shapeOf
  cases hf : ss.find? (fun s => decide (s.kd = v)) with
  | none => rw [List.find?_eq_none] at hf; exact absurd he (hf x hx)
  | some y => simpa using List.find?_some hf
theorem zaL {ss : List Shp} {ms : List Mnd} {o : Ob} (hm : yg ss ms = true) : qx ss ms o = zx ss o := by
  unfold qx zx; rw [hm, Bool.and_true]
structure zoY (ss : List Shp) (ms : List Mnd) (o : Ob) (pl : List Nat) : Prop where
  names : z8 (shapeOf ss o.kd) ms (shapeOf ss o.kd).fs.length = pl.map (zau (shapeOf ss o.kd))
  znS : ziJ (zi (shapeOf ss o.kd) ms) (shapeOf ss o.kd).fs.length pl
  place : ∀ q (h : q < (shapeOf ss o.kd).fs.length), zS (shapeOf ss o.kd).fs (shapeOf ss o.kd).fs[q].nm = (q : Int)
  kd : (shapeOf ss o.kd).kd = o.kd
  few : (shapeOf ss o.kd).fs.length <= 6
  reads : ∀ q, q < (shapeOf ss o.kd).fs.length -> ∀ x ∈ yh (shapeOf ss o.kd) ms q, 0 <= x /\ x < (shapeOf ss o.kd).fs.length
  len : o.vs.length = (shapeOf ss o.kd).fs.length
  mends : ms.length <= 12
  res : zfQ ss ms o = zM (decided (shapeOf ss o.kd) ms) pl o.vs
theorem rowOf {ss : List Shp} {ms : List Mnd} {o : Ob} (hm : yg ss ms = true) (hc : zx ss o = true) : zoY ss ms o (greedy (zi (shapeOf ss o.kd) ms) (shapeOf ss o.kd).fs.length (shapeOf ss o.kd).fs.length) := by
  have hmd : qx ss ms o = true := by rw [zaL hm]; exact hc
  obtain ⟨hl, h6, hr, hw⟩ := zbS hmd
  unfold zx at hc
  simp only [Bool.and_eq_true] at hc
  obtain ⟨i, hi, e⟩ := zdr hc.1
  have hkd := zmL hc.1
  unfold yg at hm
  simp only [Bool.and_eq_true, decide_eq_true_eq] at hm
  obtain ⟨⟨⟨h12, hs⟩, ha⟩, _⟩ := hm
  have hrd : ∀ p, p < (shapeOf ss o.kd).fs.length -> ∀ q ∈ zi (shapeOf ss o.kd) ms p, q < (shapeOf ss o.kd).fs.length := by
    intro p hp q hq
    unfold zi at hq
    obtain ⟨x, hx, rfl⟩ := List.mem_map.1 hq
    have := hr p hp x hx
    omega
  have htw := zcZ hrd hw
  have htg : ziJ (zi (shapeOf ss o.kd) ms) (shapeOf ss o.kd).fs.length (greedy (zi (shapeOf ss o.kd) ms) (shapeOf ss o.kd).fs.length (shapeOf ss o.kd).fs.length) :=
    (zbm _ _ _).znS (zgg htw.zjR _ (Nat.le_refl _))
  refine ⟨?_, htg, ?_, hkd, h6, hr, hl, h12, ?_⟩
  · rw [e]; exact zcJ hs ha i hi _
  · rw [e]
    intro q hq
    refine zc7 ss[i].fs _ q hq ?_ rfl
    unfold hasName
    rw [List.any_eq_false]
    intro x hx
    obtain ⟨j, hj, rfl⟩ := List.mem_iff_getElem.1 hx
    have hjq : j < q := by simp at hj; omega
    simp only [List.getElem_take, decide_eq_true_eq]
    exact zdQ hs i hi j q hjq hq
  · exact zkK htw htg (zit _ _) o.vs hl
theorem zj0 {α : Type} (D : Nat -> List α -> α) (pl : List Nat) (vs : List α) (k : Nat) (h : k < pl.length) : zM D (pl.take (k + 1)) vs = (zM D (pl.take k) vs).set pl[k] (D pl[k] (zM D (pl.take k) vs)) := by
  unfold zM; rw [List.take_succ_eq_append_getElem h, List.foldl_append]; rfl
end Gate
theorem zoB {lo : Nat} {w : World} {g : Nat} {us : List ByteArray} (h : zo lo w (some ⟨g, 0, none⟩) us) (p : Nat) (hp : p < us.length) : w.cell? ⟨g, p, none⟩ = some (.string us[p]) := by
  rcases h with ⟨h0, _⟩ | ⟨g', C, hg, _, hh, hc⟩
  · cases h0
  · cases hg; rw [cell_of_block hh, hc p hp]
theorem zom {lo : Nat} {w : World} {g p : Nat} {us : List ByteArray} (h : zo lo w (some ⟨g, 0, none⟩) us) (_hp : p < us.length) : w.frozen? ⟨g, p, none⟩ = false := by
  rcases h with ⟨h0, _⟩ | ⟨g', C, hg, _, hh, hc⟩
  · cases h0
  · cases hg; exact zl hh
theorem zn7 {w : World} {lo : Nat} {v : Value} {row : List ByteArray} (h : w.ownsRow lo 9 1 v row.length (row.map Value.string)) : ∃ ra rcap, v = .slice ra row.length rcap /\ (row ≠ [] -> ∃ rb, ra = some ⟨rb, 0, none⟩ /\ lo <= rb /\ rb < w.heap.size /\ ∀ i (h : i < row.length), w.cell? ⟨rb, i, none⟩ = some (.string row[i])) := by
  obtain ⟨_, ⟨h0, h1⟩ | ⟨g, cp, cur, h0, h1⟩⟩ := id h
  · have e := List.length_eq_zero_iff.1 h1
    subst e
    exact ⟨none, 0, by rw [h0]; rfl, fun hn => absurd rfl hn⟩
  · subst h0
    refine ⟨some ⟨g, 0, none⟩, cp, rfl, fun _ => ⟨g, rfl, (h.lt g rfl).1, (h.lt g rfl).2, fun i hi => ?_⟩⟩
    rw [h.cellAt i (by omega)]
    simp [hi]
theorem zhV (s : Shp) (ms : List Mnd) (o : Ob) (vs : List ByteArray) (n : Nat) (hn : vs.length = n) (p : Nat) (fa ma va ha : Option Addr) (fcap mcap vcap hcap : Nat) (w : World) (hf : yc w fa s.fs) (hm : qp w ma ms) (hv : zC w va vs) (hc : vs.length = s.fs.length) (hp : p < s.fs.length) (hix : Gate.zS s.fs s.fs[p].nm = (p : Int)) (hkd : o.kd = s.kd) (hrd : ∀ x ∈ Gate.yh s ms p, 0 <= x /\ x < s.fs.length) :
    Calls Tryz.prog 168 #[.slice fa s.fs.length fcap, .slice ma ms.length mcap, .agg #[.string o.kd, .string o.nm, .string o.tm, .slice va n vcap, .bool o.en, .slice ha o.hs.length hcap, .int .i64 o.vr], .string s.fs[p].nm] w fun e w' => e = .returned (.string (Gate.decided s ms p vs)) /\ Below w.heap.size w w' := by
  subst hn
  exact ziv s ms o vs p fa ma va ha fcap mcap vcap hcap w hf hm hv hc hp hix hkd hrd
set_option maxRecDepth 20000 in
set_option maxHeartbeats 8000000 in
theorem zkg (a0 ma : Option Addr) (cap0 mcap : Nat) (ss : List Shp) (ms : List Mnd) (o : Ob) (b off b' off' cap cap' : Nat) (w : World) (hw : yH w a0 ss) (hm : qp w ma ms) (ho : jg w o (some ⟨b, off, none⟩) (some ⟨b', off', none⟩)) (hl : o.vs.length <= 1048576) (hl' : o.hs.length <= 1048576) (hok : Gate.yg ss ms = true) :
    Calls Tryz.prog 122 #[.slice a0 ss.length cap0, .slice ma ms.length mcap, .agg (oC o (some ⟨b, off, none⟩) (some ⟨b', off', none⟩) cap cap')] w (ze4 o (Gate.zbF ss ms o) w) := by
  have hsl := hw.len
  unfold maxLen at hsl
  have HW := j4 hw hm
  clear hw hm
  by_cases hc : Gate.zx ss o = true
  rotate_left
  · have HC : Hid (Gate.zx ss o = false) := by simpa [Hid] using hc
    have HRES : Hid (Gate.zbF ss ms o = o.vs) := by unfold Hid Gate.zbF; rw [if_neg (by rw [Gate.zaL hok]; exact hc)]
    have HH := hid ho
    clear hc ho
    go_enter Tryz.func122, Tryz.ntmps122
    go_wp2_with fail
    refine (zhA o b off b' off' cap cap' _ (HH.out.mono (zu w (.cells (oC o (some ⟨b, off, none⟩) (some ⟨b', off', none⟩) cap cap') 121) (.cells oZ 121))) hl hl').mono ?_
    rintro e w1 ⟨a, dap, a', dap', m, rfl, ht, hm, hsm, ht', hb1⟩
    have HO1 : Hid (w1.heap[w.heap.size]? = some (.cells (oC o (some ⟨b, off, none⟩) (some ⟨b', off', none⟩) cap cap') 121)) := (hb1.block w.heap.size (by simp; omega)).trans (zP _ _ _).1
    have HR1 : Hid (w1.heap[w.heap.size + 1]? = some (.cells oZ 121)) := (hb1.block (w.heap.size + 1) (by simp)).trans (zP _ _ _).2
    have hX1 : ∀ j, w1.cell? ⟨w.heap.size, j, none⟩ = (oC o (some ⟨b, off, none⟩) (some ⟨b', off', none⟩) cap cap')[j]? := fun j => cell_of_block HO1.out
    have hz1 : w.heap.size + 1 < w1.heap.size := by have := hb1.size; simp at this; omega
    have hz0 : w.heap.size < w1.heap.size := by omega
    have hB1 : Below w.heap.size w w1 := (zu _ _ _).trans (hb1.mono (by simp; omega))
    have HT : Hid (zo (w.heap.size + 1 + 1) w1 a o.vs /\ (∀ g, a = some g -> g.block < m) /\ w.heap.size + 1 + 1 <= m /\ zo m w1 a' o.hs) := by
      simp only [World.size_alloc] at ht hsm
      exact ⟨ht, hm, hsm, ht'⟩
    clear ht hm hsm ht' hb1
    go_wp2_with fail
    have hbs := (Below.refl w1.heap.size w1).alloc (Nat.le_refl _) (.cells (oC o a a' dap dap') 121)
    have hBs := hB1.trans (hbs.mono hB1.size)
    refine (zch a0 cap0 ss o _ _ cap cap' _ (HW.out.1.mono hBs) (HH.out.mono hBs) HC.out).mono ?_
    rintro e w2 ⟨v, rfl, hb2⟩
    have hba := hbs.trans (hb2.mono hbs.size)
    have hR2 := (hba.block _ hz1).trans HR1.out
    have hU2 : ∀ j, w2.cell? ⟨w1.heap.size, j, none⟩ = (oC o a a' dap dap')[j]? := za (zG w1 _ _) (by simp) hb2
    have hRc : ∀ j, w2.cell? ⟨w.heap.size + 1, j, none⟩ = oZ[j]? := fun j => cell_of_block hR2
    have hRf : ∀ j, w2.frozen? ⟨w.heap.size + 1, j, none⟩ = false := fun j => zl hR2
    have HX := zff (HT.out.1.mono hba) (HT.out.2.2.2.mono hba) (hB1.trans (hba.mono hB1.size))
    clear hbs hBs hb2 hba hR2 hX1
    go_wp2_with fail
    refine bodyPost_ret (v := (.agg (oC o a a' dap dap'))) (by simp [results, Tryz.results122, go_sem, hRc]) rfl ?_
    obtain ⟨ht, ht', hB⟩ := HX.out
    rw [HRES.out]
    exact ⟨a, dap, a', dap', m, rfl, (qZ ht _ (by omega) _ _ _ _ _ _ _).low (by omega), HT.out.2.1, by have := HT.out.2.2.1; omega, qZ ht' _ (by have := HT.out.2.2.1; omega) _ _ _ _ _ _ _, zad hB _ (by omega) _ _ _ _ _ _ _⟩
  have HC := hid hc
  have HRO := hid (Gate.rowOf hok hc)
  have HRES : Hid (Gate.zbF ss ms o = Gate.zfQ ss ms o) := by unfold Hid Gate.zbF; rw [if_pos (by rw [Gate.zaL hok]; exact hc)]
  have HK : Hid (Gate.zF ss o.kd = true) := by unfold Gate.zx at hc; simp only [Bool.and_eq_true] at hc; exact hc.1
  have HH := hid ho
  clear hc ho
  go_enter Tryz.func122, Tryz.ntmps122
  go_wp2_with fail
  refine (zhA o b off b' off' cap cap' _ (HH.out.mono (zu w (.cells (oC o (some ⟨b, off, none⟩) (some ⟨b', off', none⟩) cap cap') 121) (.cells oZ 121))) hl hl').mono ?_
  rintro e w1 ⟨a, dap, a', dap', m, rfl, ht, hm, hsm, ht', hb1⟩
  have HO1 : Hid (w1.heap[w.heap.size]? = some (.cells (oC o (some ⟨b, off, none⟩) (some ⟨b', off', none⟩) cap cap') 121)) := (hb1.block w.heap.size (by simp; omega)).trans (zP _ _ _).1
  have HR1 : Hid (w1.heap[w.heap.size + 1]? = some (.cells oZ 121)) := (hb1.block (w.heap.size + 1) (by simp)).trans (zP _ _ _).2
  have hX1 : ∀ j, w1.cell? ⟨w.heap.size, j, none⟩ = (oC o (some ⟨b, off, none⟩) (some ⟨b', off', none⟩) cap cap')[j]? := fun j => cell_of_block HO1.out
  have hz1 : w.heap.size + 1 < w1.heap.size := by have := hb1.size; simp at this; omega
  have hz0 : w.heap.size < w1.heap.size := by omega
  have hB1 : Below w.heap.size w w1 := (zu _ _ _).trans (hb1.mono (by simp; omega))
  have HT : Hid (zo (w.heap.size + 1 + 1) w1 a o.vs /\ (∀ g, a = some g -> g.block < m) /\ w.heap.size + 1 + 1 <= m /\ zo m w1 a' o.hs) := by
    simp only [World.size_alloc] at ht hsm
    exact ⟨ht, hm, hsm, ht'⟩
  clear ht hm hsm ht' hb1
  go_wp2_with fail
  have hbs := (Below.refl w1.heap.size w1).alloc (Nat.le_refl _) (.cells (oC o a a' dap dap') 121)
  have hBs := hB1.trans (hbs.mono hB1.size)
  refine (zec a0 cap0 ss o _ _ cap cap' w _ HW.out.1 hBs HC.out).mono ?_
  rintro e w2 ⟨fa, fcap, rfl, hf, hb2⟩
  have HFA := hid hf
  have hba := hbs.trans (hb2.mono hbs.size)
  have HR2 := hid ((hba.block _ hz1).trans HR1.out)
  have HO2 := hid ((hba.block _ hz0).trans HO1.out)
  have HU2 : Hid (w2.heap[w1.heap.size]? = some (.cells (oC o a a' dap dap') 121)) := (hb2.block _ (by simp)).trans (alloc_at _ _)
  have HX2 := zff (HT.out.1.mono hba) (HT.out.2.2.2.mono hba) (hB1.trans (hba.mono hB1.size))
  have hz2 := (Array.getElem?_eq_some_iff.1 HU2.out).1
  have hX2 : ∀ j, w2.cell? ⟨w.heap.size, j, none⟩ = (oC o (some ⟨b, off, none⟩) (some ⟨b', off', none⟩) cap cap')[j]? := fun j => cell_of_block HO2.out
  have hzo2 : w.heap.size < w2.heap.size := by omega
  clear hbs hBs hb2 hba hX1 hf
  go_wp2_with fail
  refine (zaP _ _ _ _ _ (HW.out.1.mono HX2.out.2.2) HK.out).mono ?_
  rintro e w3 ⟨ix, hix, rfl, hsh, rfl⟩
  have HSh := hid hsh
  clear hsh
  obtain ⟨sb, soff, rfl, hsb0, hsr⟩ := HW.out.1.rows (by rintro rfl; simp at hix)
  obtain ⟨fa2, fcap2, hs0⟩ := hsr ix hix
  have hs := hs0.mono hsb0 HX2.out.2.2
  have hck := hs.kind
  have hcl := hs.list
  have HF2 := hid hs0.flds
  have hixI : (ix : Int) < (ss.length : Int) := by omega
  have hsbw := Nat.lt_of_lt_of_le hsb0 HX2.out.2.2.size
  clear hsr hs hs0
  go_wp2_with fail
  refine (zji fa2 ma fcap2 mcap ss[ix] ms _ (HF2.out.mono HX2.out.2.2) (HW.out.2.mono HX2.out.2.2) HRO.out.mends (by have := HRO.out.few; rw [HSh.out] at this; exact this)).mono ?_
  rintro e w4 ⟨v, rfl, hrow, hb4⟩
  rw [<- HSh.out, HRO.out.names] at hrow
  obtain ⟨ra, rcap, rfl, hrw⟩ := zn7 (by rw [List.length_map]; rw [List.length_map] at hrow; exact hrow)
  rw [List.length_map]
  have HRO2 := HRO.out
  have HX4 : Hid (zo (w.heap.size + 1 + 1) w4 a o.vs /\ zo m w4 a' o.hs /\ Below w.heap.size w w4) := ⟨HX2.out.1.mono hb4, HX2.out.2.1.mono hb4, HX2.out.2.2.trans (hb4.mono HX2.out.2.2.size)⟩
  have HR4 : Hid (w4.heap[w.heap.size + 1]? = some (.cells oZ 121)) := (hb4.block _ (by omega)).trans HR2.out
  have HU4 : Hid (w4.heap[w1.heap.size]? = some (.cells (oC o a a' dap dap') 121)) := (hb4.block _ hz2).trans HU2.out
  have HZ4 : Hid (w3.heap.size <= w4.heap.size) := hb4.size
  clear hb4 hX2 hck hcl HSh HF2 HRO hixI hrow
  revert HRO2 HFA hrw
  generalize Gate.greedy (Gate.zi (Gate.shapeOf ss o.kd) ms) (Gate.shapeOf ss o.kd).fs.length (Gate.shapeOf ss o.kd).fs.length = pl
  intro HFA hrw hro
  have HRW : Hid (Gate.zoY ss ms o pl) := hro
  have HVS : Hid (Gate.zfQ ss ms o = Gate.zM (Gate.decided (Gate.shapeOf ss o.kd) ms) pl o.vs) := hro.res
  have hpl6 : pl.length <= 6 := by
    have h1 := Gate.za4 pl (List.range (Gate.shapeOf ss o.kd).fs.length) hro.znS.nodup (fun x hx => List.mem_range.2 ((hro.znS.mem x).1 hx))
    rw [List.length_range] at h1
    have := hro.few
    omega
  clear hro
  go_wp2_with fail
  go_loopw [11] (fun i wr => ∃ k : Nat, k <= pl.length /\ i = .int .i64 k /\ zo (w.heap.size + 1 + 1) wr a (Gate.zM (Gate.decided (Gate.shapeOf ss o.kd) ms) (pl.take k) o.vs) /\ zo m wr a' o.hs /\ wr.heap[w.heap.size + 1]? = some (.cells oZ 121) /\ wr.heap[w1.heap.size]? = some (.cells (oC o a a' dap dap') 121) /\ Below w.heap.size w wr /\ w3.heap.size <= wr.heap.size /\ (pl.map (Gate.zau (Gate.shapeOf ss o.kd)) ≠ [] -> ∃ rb, ra = some ⟨rb, 0, none⟩ /\ w3.heap.size <= rb /\ rb < wr.heap.size /\ ∀ i (h : i < (pl.map (Gate.zau (Gate.shapeOf ss o.kd))).length), wr.cell? ⟨rb, i, none⟩ = some (.string (pl.map (Gate.zau (Gate.shapeOf ss o.kd)))[i]))) (fun i _ => pl.length - (intOf i).toNat)
  case atStart => exact ⟨0, Nat.zero_le _, rfl, HX4.out.1, HX4.out.2.1, HR4.out, HU4.out, HX4.out.2.2, HZ4.out, hrw⟩
  case round =>
    obtain ⟨k, hk, rfl, ht, ht', hR, hO, hB, hz3, hrr⟩ := hrel
    by_cases hlt : k < pl.length
    · obtain ⟨rb, rfl, hrb0, hrbz, hrc⟩ := hrr (by intro h; have := congrArg List.length h; simp at this; rw [this] at hlt; simp at hlt)
      have hpn : pl[k] < (Gate.shapeOf ss o.kd).fs.length := (HRW.out.znS.mem _).1 (List.getElem_mem hlt)
      have hck := hrc k (by rw [List.length_map]; exact hlt)
      rw [List.getElem_map] at hck
      have hnm : Gate.zau (Gate.shapeOf ss o.kd) pl[k] = (Gate.shapeOf ss o.kd).fs[pl[k]].nm := by unfold Gate.zau; rw [Gate.getD_at _ _ _ hpn]
      rw [hnm] at hck
      have HTS : Hid (Gate.zM (Gate.decided (Gate.shapeOf ss o.kd) ms) (pl.take (k + 1)) o.vs = (Gate.zM (Gate.decided (Gate.shapeOf ss o.kd) ms) (pl.take k) o.vs).set pl[k] (Gate.decided (Gate.shapeOf ss o.kd) ms pl[k] (Gate.zM (Gate.decided (Gate.shapeOf ss o.kd) ms) (pl.take k) o.vs))) := Gate.zj0 _ pl o.vs k hlt
      have HUS : Hid (∀ x ∈ Gate.zM (Gate.decided (Gate.shapeOf ss o.kd) ms) (pl.take k) o.vs, x.size <= maxLen) := Gate.zbj HW.out.2.small _ _ HH.out.vals.small
      have HLV : Hid ((Gate.zM (Gate.decided (Gate.shapeOf ss o.kd) ms) (pl.take k) o.vs).length = o.vs.length) := Gate.q8 _ _ _
      have HRR : Hid (∀ i (h : i < (pl.map (Gate.zau (Gate.shapeOf ss o.kd))).length), wr.cell? ⟨rb, i, none⟩ = some (.string (pl.map (Gate.zau (Gate.shapeOf ss o.kd)))[i])) := hrc
      clear hrr hrc hnm
      revert hck HTS hpn
      generalize pl[k] = p
      intro hpn hck HTS
      revert HTS HLV HUS ht
      generalize Gate.zM (Gate.decided (Gate.shapeOf ss o.kd) ms) (pl.take k) o.vs = us
      intro ht HUS HLV HTS
      have hltI : (k : Int) < (pl.length : Int) := by omega
      have hpv : p < us.length := by rw [HLV.out, HRW.out.len]; exact hpn
      have hpI : (p : Int) < (o.vs.length : Int) := by have := HRW.out.len; omega
      obtain ⟨g, C, hga, hgl, hgh, hgc⟩ : ∃ g C, a = some ⟨g, 0, none⟩ /\ w.heap.size + 1 + 1 <= g /\ wr.heap[g]? = some (.cells C 9) /\ ∀ i (h : i < us.length), C[i]? = some (.string us[i]) := by
        rcases ht with ⟨_, h0⟩ | h0
        · rw [h0] at hpv; simp at hpv
        · exact h0
      have hgm : g < m := HT.out.2.1 _ hga
      have hgw1 : g < w1.heap.size := HT.out.1.lt _ hga
      have hgw : g < wr.heap.size := by omega
      subst hga
      have hUS : zC wr (some ⟨g, 0, none⟩) us := ht.at (by rw [HLV.out]; exact HH.out.vals.len) HUS.out
      have HJP : Hid (Gate.zS (Gate.shapeOf ss o.kd).fs (Gate.shapeOf ss o.kd).fs[p].nm = (p : Int)) := HRW.out.place p hpn
      have hOc : ∀ j, wr.cell? ⟨w1.heap.size, j, none⟩ = (oC o (some ⟨g, 0, none⟩) a' dap dap')[j]? := fun j => cell_of_block hO
      have hOz : w1.heap.size < wr.heap.size := (Array.getElem?_eq_some_iff.1 hO).1
      have hRk : (k : Int) < ((pl.map (Gate.zau (Gate.shapeOf ss o.kd))).length : Int) := by rw [List.length_map]; exact hltI
      have hkr : wr.cell? ⟨rb, 0 + k, none⟩ = some (.string (Gate.shapeOf ss o.kd).fs[p].nm) := by rw [Nat.zero_add]; exact hck
      have HX : Hid (zo (w.heap.size + 1 + 1) wr (some ⟨g, 0, none⟩) us /\ zo m wr a' o.hs /\ wr.heap[w.heap.size + 1]? = some (.cells oZ 121) /\ wr.heap[w1.heap.size]? = some (.cells (oC o (some ⟨g, 0, none⟩) a' dap dap') 121) /\ Below w.heap.size w wr /\ w3.heap.size <= wr.heap.size) := ⟨ht, ht', hR, hO, hB, hz3⟩
      clear ht ht' hR hO hB hz3 hgh hgc
      go_wp2_with fail
      have hb := (Below.refl wr.heap.size wr).drew
      have hS1 : ∀ j, wr.drew.cell? ⟨w1.heap.size, j, none⟩ = (oC o (some ⟨g, 0, none⟩) a' dap dap')[j]? := hOc
      have hS2 : wr.drew.cell? ⟨rb, k, none⟩ = some (.string (Gate.shapeOf ss o.kd).fs[p].nm) := hck
      have hrg : rb ≠ g := by omega
      have how : w1.heap.size ≠ g := by omega
      clear hOc hck hkr
      go_region_held3 (fun w' => (∀ j, w'.cell? ⟨w1.heap.size, j, none⟩ = (oC o (some ⟨g, 0, none⟩) a' dap dap')[j]?) /\ w'.cell? ⟨rb, k, none⟩ = some (.string (Gate.shapeOf ss o.kd).fs[p].nm)) (first | exact ⟨hS1, hS2⟩ | exact ⟨hS3, hS4⟩) (first
        | (go_at_call 163; refine (zj3 HJP.out (zaf _ _ (Gate.shapeOf ss o.kd).fs _ _ (by exact HFA.out.mono (HX.out.2.2.2.2.1.trans (hb.mono HX.out.2.2.2.2.1.size))))).mono ?_; rintro e w5 ⟨rfl, rfl⟩)
        | (go_at_call 168; refine (zhV (Gate.shapeOf ss o.kd) ms o us _ HLV.out p _ _ _ _ _ _ _ _ _ (by exact HFA.out.mono (HX.out.2.2.2.2.1.trans (hb.mono HX.out.2.2.2.2.1.size))) (by exact HW.out.2.mono (HX.out.2.2.2.2.1.trans (hb.mono HX.out.2.2.2.2.1.size))) (by exact hUS.mono hb) (by rw [HLV.out]; exact HRW.out.len) hpn HJP.out HRW.out.kd.symm (HRW.out.reads p hpn)).mono ?_; rintro e w6 ⟨rfl, hb6⟩; have hb := hb.trans (hb6.mono hb.size); have hS1 := za hS1 hOz hb6; have hS2 := (hb6.cell (p := ⟨rb, k, none⟩) hrbz).trans hS2; have hU6 := hUS.mono hb; have hG := HX.out.1.mono hb; clear hb6; have hS3 : ∀ j, (w6.setCell ⟨g, p, none⟩ (.string (Gate.decided (Gate.shapeOf ss o.kd) ms p us))).cell? ⟨w1.heap.size, j, none⟩ = (oC o (some ⟨g, 0, none⟩) a' dap dap')[j]? := fun j => (zT how).trans (hS1 j); have hS4 : (w6.setCell ⟨g, p, none⟩ (.string (Gate.decided (Gate.shapeOf ss o.kd) ms p us))).cell? ⟨rb, k, none⟩ = some (.string (Gate.shapeOf ss o.kd).fs[p].nm) := (zT hrg).trans hS2; have hgc6 : w6.cell? ⟨g, p, none⟩ = some (.string us[p]) := zoB hG p hpv; have hgf6 : w6.frozen? ⟨g, p, none⟩ = false := zom hG hpv))
      go_wp2_with fail
      obtain ⟨ht, ht', hR, hO, hB, hz3⟩ := HX.out
      exact ⟨⟨k + 1, by omega, by go_num, by rw [HTS.out]; exact (ht.mono hb).set p _, (ht'.mono hb).setCell _ hgm _, (Below.heap_setCell _ _ _ _ (by show w.heap.size + 1 ≠ g; omega)).trans ((hb.block _ (by omega)).trans hR), (Below.heap_setCell _ _ _ _ (by show w1.heap.size ≠ g; omega)).trans ((hb.block _ hOz).trans hO), (hB.trans (hb.mono hB.size)).setCell (p := ⟨g, p, none⟩) (by show w.heap.size <= g; omega) _, by rw [World.size_setCell]; exact Nat.le_trans hz3 hb.size, fun _ => ⟨rb, rfl, hrb0, by rw [World.size_setCell]; exact Nat.lt_of_lt_of_le hrbz hb.size, fun i hi => (zT hrg).trans ((hb.cell (p := ⟨rb, i, none⟩) hrbz).trans (HRR.out i hi))⟩⟩, zm hlt⟩
    · have e : k = pl.length := by omega
      subst e
      rw [List.take_of_length_le (Nat.le_refl _), <- HVS.out] at ht
      have hRc : ∀ j, wr.cell? ⟨w.heap.size + 1, j, none⟩ = oZ[j]? := fun j => cell_of_block hR
      have hRf : ∀ j, wr.frozen? ⟨w.heap.size + 1, j, none⟩ = false := fun j => zl hR
      have hOc : ∀ j, wr.cell? ⟨w1.heap.size, j, none⟩ = (oC o a a' dap dap')[j]? := fun j => cell_of_block hO
      have hOz := (Array.getElem?_eq_some_iff.1 hO).1
      have HX := zff ht ht' hB
      clear ht ht' hB hR hO hrr
      go_wp2_with fail
      refine bodyPost_ret (v := (.agg (oC o a a' dap dap'))) (by simp [results, Tryz.results122, go_sem, hRc]) rfl ?_
      obtain ⟨ht, ht', hB⟩ := HX.out
      rw [HRES.out]
      exact ⟨a, dap, a', dap', m, rfl, (qZ ht _ (by omega) _ _ _ _ _ _ _).low (by omega), HT.out.2.1, by have := HT.out.2.2.1; omega, qZ ht' _ (by have := HT.out.2.2.1; omega) _ _ _ _ _ _ _, zad hB _ (by omega) _ _ _ _ _ _ _⟩
end Go.Proofs.YtfapkhgallmkdaaGreat

namespace Go.Proofs.YtfapkhgallmkdaaGreat
open Go.RowKit
def znf (o : Ob) (vs : List ByteArray) (w : World) (e : Ending) (w' : World) : Prop :=
  ∃ a dap a' dap' m, e = .returned (.agg (oC o a a' dap dap')) /\ zo w.heap.size w' a vs /\ (∀ g, a = some g -> g.block < m) /\ w.heap.size <= m /\ zo m w' a' o.hs /\ Below w.heap.size w w' /\ (∃ g, a = some ⟨g, 0, none⟩) /\ ∃ g, a' = some ⟨g, 0, none⟩
theorem zgc (o : Ob) (b off b' off' cap cap' : Nat) (w : World) (ho : jg w o (some ⟨b, off, none⟩) (some ⟨b', off', none⟩)) (hl : o.vs.length <= 1048576) (hl' : o.hs.length <= 1048576) :
    Calls Tryz.prog 167 #[.agg (oC o (some ⟨b, off, none⟩) (some ⟨b', off', none⟩) cap cap')] w
      fun e w' => ∃ a dap a' dap' m, e = .returned (.agg (oC o a a' dap dap')) /\ zo w.heap.size w' a o.vs /\ (∀ g, a = some g -> g.block < m) /\ w.heap.size <= m /\ zo m w' a' o.hs /\ Below w.heap.size w w' /\ (∃ g, a = some ⟨g, 0, none⟩) /\ ∃ g, a' = some ⟨g, 0, none⟩ :=
  zhu o _ _ cap cap' w ho hl hl'
set_option maxHeartbeats 4000000 in
theorem zlA (a0 : Option Addr) (cap0 : Nat) (ss : List Shp) (o : Ob) (b off b' off' cap cap' : Nat) (w : World) (hw : yH w a0 ss) (ho : jg w o (some ⟨b, off, none⟩) (some ⟨b', off', none⟩)) (hl : o.vs.length <= 1048576) (hl' : o.hs.length <= 1048576) :
    Calls Tryz.prog 123 #[.slice a0 ss.length cap0, .agg (oC o (some ⟨b, off, none⟩) (some ⟨b', off', none⟩) cap cap')] w (znf o (Gate.yR ss o) w) := by
  by_cases hc : Gate.zx ss o = true
  rotate_left
  · have HC : Hid (Gate.zx ss o = false) := by simpa [Hid] using hc
    have HRES : Hid (Gate.yR ss o = o.vs) := by unfold Hid Gate.yR; rw [if_neg hc]
    clear hc
    have HH : Hid (jg w o (some ⟨b, off, none⟩) (some ⟨b', off', none⟩)) := ho
    clear ho
    go_enter Tryz.func123, Tryz.ntmps123
    go_wp2_with fail
    refine (zgc o b off b' off' cap cap' _ (HH.out.mono (zu w (.cells (oC o (some ⟨b, off, none⟩) (some ⟨b', off', none⟩) cap cap') 121) (.cells oZ 121))) hl hl').mono ?_
    rintro e w1 ⟨a, dap, a', dap', m, rfl, ht, hm, hsm, ht', hb1, hsA, hsA'⟩
    have HO1 : Hid (w1.heap[w.heap.size]? = some (.cells (oC o (some ⟨b, off, none⟩) (some ⟨b', off', none⟩) cap cap') 121)) := (hb1.block w.heap.size (by simp; omega)).trans (zP _ _ _).1
    have HR1 : Hid (w1.heap[w.heap.size + 1]? = some (.cells oZ 121)) := (hb1.block (w.heap.size + 1) (by simp)).trans (zP _ _ _).2
    have hX1 : ∀ j, w1.cell? ⟨w.heap.size, j, none⟩ = (oC o (some ⟨b, off, none⟩) (some ⟨b', off', none⟩) cap cap')[j]? := fun j => cell_of_block HO1.out
    have hz1 : w.heap.size + 1 < w1.heap.size := by have := hb1.size; simp at this; omega
    have hz0 : w.heap.size < w1.heap.size := by omega
    have hB1 : Below w.heap.size w w1 := (zu _ _ _).trans (hb1.mono (by simp; omega))
    have HT : Hid (zo (w.heap.size + 1 + 1) w1 a o.vs /\ (∀ g, a = some g -> g.block < m) /\ w.heap.size + 1 + 1 <= m /\ zo m w1 a' o.hs) := by
      simp only [World.size_alloc] at ht hsm
      exact ⟨ht, hm, hsm, ht'⟩
    clear ht hm hsm ht' hb1
    go_wp2_with fail
    have hbs := (Below.refl w1.heap.size w1).alloc (Nat.le_refl _) (.cells (oC o a a' dap dap') 121)
    have hBs := hB1.trans (hbs.mono hB1.size)
    refine (zch a0 cap0 ss o _ _ cap cap' _ (hw.mono hBs) (HH.out.mono hBs) HC.out).mono ?_
    rintro e w2 ⟨v, rfl, hb2⟩
    have hba := hbs.trans (hb2.mono hbs.size)
    have hR2 := (hba.block _ hz1).trans HR1.out
    have hU2 : ∀ j, w2.cell? ⟨w1.heap.size, j, none⟩ = (oC o a a' dap dap')[j]? := za (zG w1 _ _) (by simp) hb2
    have hRc : ∀ j, w2.cell? ⟨w.heap.size + 1, j, none⟩ = oZ[j]? := fun j => cell_of_block hR2
    have hRf : ∀ j, w2.frozen? ⟨w.heap.size + 1, j, none⟩ = false := fun j => zl hR2
    have HX : Hid (zo (w.heap.size + 1 + 1) w2 a o.vs /\ zo m w2 a' o.hs /\ Below w.heap.size w w2) := ⟨HT.out.1.mono hba, HT.out.2.2.2.mono hba, hB1.trans (hba.mono hB1.size)⟩
    clear hbs hBs hb2 hba hR2 hX1
    go_wp2_with fail
    refine bodyPost_ret (v := (.agg (oC o a a' dap dap'))) (by simp [results, Tryz.results123, go_sem, hRc]) rfl ?_
    obtain ⟨ht, ht', hB⟩ := HX.out
    rw [HRES.out]
    exact ⟨a, dap, a', dap', m, rfl, (qZ ht _ (by omega) _ _ _ _ _ _ _).low (by omega), HT.out.2.1, by have := HT.out.2.2.1; omega, qZ ht' _ (by have := HT.out.2.2.1; omega) _ _ _ _ _ _ _, zad hB _ (by omega) _ _ _ _ _ _ _, hsA, hsA'⟩
  have HC : Hid (Gate.zx ss o = true) := hc
  have HRES : Hid (Gate.yR ss o = Gate.jG (Gate.shapeOf ss o.kd).fs o.vs) := by unfold Hid Gate.yR; rw [if_pos hc]
  have HCC : Hid (o.vs.length = (Gate.shapeOf ss o.kd).fs.length) := by unfold Gate.zx at hc; simp only [Bool.and_eq_true, decide_eq_true_eq] at hc; exact hc.2
  clear hc
  have HH : Hid (jg w o (some ⟨b, off, none⟩) (some ⟨b', off', none⟩)) := ho
  clear ho
  go_enter Tryz.func123, Tryz.ntmps123
  go_wp2_with fail
  refine (zgc o b off b' off' cap cap' _ (HH.out.mono (zu w (.cells (oC o (some ⟨b, off, none⟩) (some ⟨b', off', none⟩) cap cap') 121) (.cells oZ 121))) hl hl').mono ?_
  rintro e w1 ⟨a, dap, a', dap', m, rfl, ht, hm, hsm, ht', hb1, hsA, hsA'⟩
  have HO1 : Hid (w1.heap[w.heap.size]? = some (.cells (oC o (some ⟨b, off, none⟩) (some ⟨b', off', none⟩) cap cap') 121)) := (hb1.block w.heap.size (by simp; omega)).trans (zP _ _ _).1
  have HR1 : Hid (w1.heap[w.heap.size + 1]? = some (.cells oZ 121)) := (hb1.block (w.heap.size + 1) (by simp)).trans (zP _ _ _).2
  have hX1 : ∀ j, w1.cell? ⟨w.heap.size, j, none⟩ = (oC o (some ⟨b, off, none⟩) (some ⟨b', off', none⟩) cap cap')[j]? := fun j => cell_of_block HO1.out
  have hz1 : w.heap.size + 1 < w1.heap.size := by have := hb1.size; simp at this; omega
  have hz0 : w.heap.size < w1.heap.size := by omega
  have hB1 : Below w.heap.size w w1 := (zu _ _ _).trans (hb1.mono (by simp; omega))
  have HT : Hid (zo (w.heap.size + 1 + 1) w1 a o.vs /\ (∀ g, a = some g -> g.block < m) /\ w.heap.size + 1 + 1 <= m /\ zo m w1 a' o.hs) := by
    simp only [World.size_alloc] at ht hsm
    exact ⟨ht, hm, hsm, ht'⟩
  clear ht hm hsm ht' hb1
  go_wp2_with fail
  have hbs := (Below.refl w1.heap.size w1).alloc (Nat.le_refl _) (.cells (oC o a a' dap dap') 121)
  have hBs := hB1.trans (hbs.mono hB1.size)
  refine (zec a0 cap0 ss o _ _ cap cap' w _ hw hBs HC.out).mono ?_
  rintro e w2 ⟨fa, fcap, rfl, hf, hb2⟩
  have hba := hbs.trans (hb2.mono hbs.size)
  have HR2 : Hid (w2.heap[w.heap.size + 1]? = some (.cells oZ 121)) := (hba.block _ hz1).trans HR1.out
  have HU2 : Hid (w2.heap[w1.heap.size]? = some (.cells (oC o a a' dap dap') 121)) := (hb2.block _ (by simp)).trans (alloc_at _ _)
  have HX2 : Hid (zo (w.heap.size + 1 + 1) w2 a o.vs /\ zo m w2 a' o.hs /\ Below w.heap.size w w2) := ⟨HT.out.1.mono hba, HT.out.2.2.2.mono hba, hB1.trans (hba.mono hB1.size)⟩
  have hz2 : w1.heap.size < w2.heap.size := (Array.getElem?_eq_some_iff.1 HU2.out).1
  clear hbs hBs hb2 hba hX1 hw
  have hlen := hf.len
  unfold maxLen at hlen
  revert HRES HCC hf hlen
  generalize (Gate.shapeOf ss o.kd).fs = fs
  intro HRES HCC hf hlen
  go_wp2_with fail
  go_loopw [8] (fun i wr => ∃ k : Nat, k <= fs.length /\ i = .int .i64 k /\ zo (w.heap.size + 1 + 1) wr a (Gate.qJ fs o.vs k) /\ zo m wr a' o.hs /\ wr.heap[w.heap.size + 1]? = some (.cells oZ 121) /\ wr.heap[w1.heap.size]? = some (.cells (oC o a a' dap dap') 121) /\ Below w.heap.size w wr) (fun i _ => fs.length - (intOf i).toNat)
  case atStart => exact ⟨0, Nat.zero_le _, rfl, by rw [Gate.zge]; exact HX2.out.1, HX2.out.2.1, HR2.out, HU2.out, HX2.out.2.2⟩
  case round =>
    obtain ⟨k, hk, rfl, ht, ht', hR, hO, hB⟩ := hrel
    have hOc : ∀ j, wr.cell? ⟨w1.heap.size, j, none⟩ = (oC o a a' dap dap')[j]? := fun j => cell_of_block hO
    have hOz : w1.heap.size < wr.heap.size := (Array.getElem?_eq_some_iff.1 hO).1
    by_cases hlt : k < fs.length
    · have hltv : k < o.vs.length := by rw [HCC.out]; exact hlt
      obtain ⟨fb, foff, rfl, hfb, hr⟩ := hf.rows (by rintro rfl; simp at hlt)
      obtain ⟨wa, wcap, hf0⟩ := hr k hlt
      have hf1 := hf0.mono hfb hB
      obtain ⟨c0, c1, c2, c3, c4, c5, c6, c7, c8, c9, c10⟩ := hf1.load
      have hltI : (k : Int) < (fs.length : Int) := by omega
      have hltV : (k : Int) < (o.vs.length : Int) := by omega
      obtain ⟨g, C, hga, hgl, hgh, hgc⟩ : ∃ g C, a = some ⟨g, 0, none⟩ /\ w.heap.size + 1 + 1 <= g /\ wr.heap[g]? = some (.cells C 9) /\ ∀ i (h : i < (Gate.qJ fs o.vs k).length), C[i]? = some (.string (Gate.qJ fs o.vs k)[i]) := by
        rcases ht with ⟨_, h0⟩ | h0
        · have := Gate.jU HCC.out k; rw [h0] at this; simp at this; omega
        · exact h0
      have hgm : g < m := HT.out.2.1 _ hga
      have hgw1 : g < w1.heap.size := HT.out.1.lt _ hga
      have hgw : g < wr.heap.size := by omega
      subst hga
      have hcell : wr.cell? ⟨g, k, none⟩ = some (.string o.vs[k]) := by
        have h1 := Gate.zdX HCC.out k hlt
        have hkl : k < (Gate.qJ fs o.vs k).length := by rw [Gate.jU HCC.out]; exact hltv
        rw [List.getElem?_eq_getElem hkl, List.getElem?_eq_getElem hltv] at h1
        rw [cell_of_block hgh, hgc k hkl, Option.some.inj h1]
      have hgf : wr.frozen? ⟨g, k, none⟩ = false := zl hgh
      have HX : Hid (zo (w.heap.size + 1 + 1) wr (some ⟨g, 0, none⟩) (Gate.qJ fs o.vs k) /\ zo m wr a' o.hs /\ wr.heap[w.heap.size + 1]? = some (.cells oZ 121) /\ wr.heap[w1.heap.size]? = some (.cells (oC o (some ⟨g, 0, none⟩) a' dap dap') 121) /\ Below w.heap.size w wr) := ⟨ht, ht', hR, hO, hB⟩
      clear ht ht' hR hO hB hr hf0 hf1 hgh hgc hf
      by_cases hv : o.vs[k].toList.isEmpty = true
      · have HV : Hid (Gate.jQ fs[k] o.vs[k] = fs[k].df) := by unfold Hid Gate.jQ; rw [if_pos hv]
        go_wp2_with fail
        have hfg : fb ≠ g := by omega
        have hq1 : (wr.setCell ⟨g, k, none⟩ (.string fs[k].df)).drew.cell? ⟨w1.heap.size, 3, none⟩ = some (.slice (some ⟨g, 0, none⟩) o.vs.length dap) := (zT (by show w1.heap.size ≠ g; omega)).trans (hOc 3)
        have hq2 : (wr.setCell ⟨g, k, none⟩ (.string fs[k].df)).drew.cell? ⟨fb, foff + k * 11 + 9, none⟩ = some (.string fs[k].df) := (zT hfg).trans c9
        have hgd : wr.drew.frozen? ⟨g, k, none⟩ = false := hgf
        have hcd : wr.drew.cell? ⟨g, k, none⟩ = some (.string o.vs[k]) := hcell
        go_region_held3 (fun w' => w'.cell? ⟨w1.heap.size, 3, none⟩ = some (.slice (some ⟨g, 0, none⟩) o.vs.length dap) /\ w'.cell? ⟨fb, foff + k * 11 + 9, none⟩ = some (.string fs[k].df)) (first | exact ⟨hOc 3, c9⟩ | exact ⟨hq1, hq2⟩) (fail)
        go_wp2_with fail
        obtain ⟨ht, ht', hR, hO, hB⟩ := HX.out
        exact ⟨⟨k + 1, by omega, by go_num, by rw [Gate.zcg HCC.out k hlt, HV.out]; exact ht.set k _, ht'.setCell _ hgm _, (Below.heap_setCell _ _ _ _ (by show w.heap.size + 1 ≠ g; omega)).trans hR, (Below.heap_setCell _ _ _ _ (by show w1.heap.size ≠ g; omega)).trans hO, (hB.setCell (p := ⟨g, k, none⟩) (by show w.heap.size <= g; omega) _).drew⟩, zm hlt⟩
      · have HV : Hid (Gate.jQ fs[k] o.vs[k] = o.vs[k]) := by unfold Hid Gate.jQ; rw [if_neg hv]
        go_wp2_with fail
        obtain ⟨ht, ht', hR, hO, hB⟩ := HX.out
        have hsame : (Gate.qJ fs o.vs k).set k o.vs[k] = Gate.qJ fs o.vs k := by
          have h1 := Gate.zdX HCC.out k hlt
          have hkl : k < (Gate.qJ fs o.vs k).length := by rw [Gate.jU HCC.out]; exact hltv
          rw [List.getElem?_eq_getElem hkl, List.getElem?_eq_getElem hltv] at h1
          rw [<- Option.some.inj h1, List.set_getElem_self]
        exact ⟨⟨k + 1, by omega, by go_num, by rw [Gate.zcg HCC.out k hlt, HV.out, hsame]; exact ht, ht', hR, hO, hB⟩, zm hlt⟩
    · have e : k = fs.length := by omega
      subst e
      rw [Gate.zhv HCC.out] at ht
      have hRc : ∀ j, wr.cell? ⟨w.heap.size + 1, j, none⟩ = oZ[j]? := fun j => cell_of_block hR
      have hRf : ∀ j, wr.frozen? ⟨w.heap.size + 1, j, none⟩ = false := fun j => zl hR
      have HX : Hid (zo (w.heap.size + 1 + 1) wr a (Gate.jG fs o.vs) /\ zo m wr a' o.hs /\ Below w.heap.size w wr) := ⟨ht, ht', hB⟩
      clear ht ht' hB hR hO hf
      go_wp2_with fail
      refine bodyPost_ret (v := (.agg (oC o a a' dap dap'))) (by simp [results, Tryz.results123, go_sem, hRc]) rfl ?_
      obtain ⟨ht, ht', hB⟩ := HX.out
      rw [HRES.out]
      exact ⟨a, dap, a', dap', m, rfl, (qZ ht _ (by omega) _ _ _ _ _ _ _).low (by omega), HT.out.2.1, by have := HT.out.2.2.1; omega, qZ ht' _ (by have := HT.out.2.2.1; omega) _ _ _ _ _ _ _, zad hB _ (by omega) _ _ _ _ _ _ _, hsA, hsA'⟩
end Go.Proofs.YtfapkhgallmkdaaGreat

namespace Go.Proofs.YtfapkhgallmkdaaGreat
open Go.RowKit
namespace Gate
theorem zbc (ss : List Shp) (o : Ob) : (yR ss o).length = o.vs.length := by
  unfold yR
  split
  · rename_i h; unfold zx at h; simp only [Bool.and_eq_true, decide_eq_true_eq] at h; exact y5 h.2
  · rfl
theorem zh6 {ss : List Shp} {ms : List Mnd} (h : yg ss ms = true) : zQ ss = true := by
  unfold yg at h; simp only [Bool.and_eq_true] at h; exact h.1.1.2
theorem zlz {ss : List Shp} {ms : List Mnd} {o : Ob} (h : yg ss ms = true) : zba ss ms o = zbF ss ms ⟨o.kd, o.nm, o.tm, yR ss o, o.en, o.hs, o.vr⟩ := by
  have e : qx ss ms ⟨o.kd, o.nm, o.tm, yR ss o, o.en, o.hs, o.vr⟩ = qx ss ms o := by
    unfold qx; simp only [zbc]
  unfold zba zbF
  rw [e]
  by_cases hm : qx ss ms o = true
  · rw [if_pos hm, if_pos hm]
    have hc : zx ss o = true := by rw [<- zaL h]; exact hm
    unfold ze6 yR
    rw [if_pos hc]
  · rw [if_neg hm, if_neg hm]
    have hc : ¬ zx ss o = true := by rw [<- zaL h]; exact hm
    show o.vs = yR ss o
    unfold yR
    rw [if_neg hc]
end Gate
theorem zkM (a0 ma : Option Addr) (cap0 mcap : Nat) (ss : List Shp) (ms : List Mnd) (o : Ob) (us : List ByteArray) (hus : us.length = o.vs.length) (b off b' off' cap cap' : Nat) (w : World) (hw : yH w a0 ss) (hm : qp w ma ms) (hsm : o.Small) (ho : zC w (some ⟨b, off, none⟩) us) (ho' : zC w (some ⟨b', off', none⟩) o.hs) (hl : o.vs.length <= 1048576) (hl' : o.hs.length <= 1048576) (hok : Gate.yg ss ms = true) :
    Calls Tryz.prog 122 #[.slice a0 ss.length cap0, .slice ma ms.length mcap, .agg (oC o (some ⟨b, off, none⟩) (some ⟨b', off', none⟩) cap cap')] w (ze4 o (Gate.zbF ss ms ⟨o.kd, o.nm, o.tm, us, o.en, o.hs, o.vr⟩) w) := by
  have h := zkg a0 ma cap0 mcap ss ms ⟨o.kd, o.nm, o.tm, us, o.en, o.hs, o.vr⟩ b off b' off' cap cap' w hw hm ⟨⟨hsm.kd, hsm.nm, hsm.tm⟩, ho, ho'⟩ (by show us.length <= _; omega) hl' hok
  unfold ze4 at h ⊢
  simp only [oC, hus] at h
  exact h
set_option maxHeartbeats 2000000 in
theorem zjO (a0 ma : Option Addr) (cap0 mcap : Nat) (ss : List Shp) (ms : List Mnd) (o : Ob) (b off b' off' cap cap' : Nat) (w : World) (hw : yH w a0 ss) (hmm : qp w ma ms) (ho : jg w o (some ⟨b, off, none⟩) (some ⟨b', off', none⟩)) (hl : o.vs.length <= 1048576) (hl' : o.hs.length <= 1048576) (hok : Gate.yg ss ms = true) :
    Calls Tryz.prog 83 #[.slice a0 ss.length cap0, .slice ma ms.length mcap, .agg (oC o (some ⟨b, off, none⟩) (some ⟨b', off', none⟩) cap cap')] w (ze4 o (Gate.zba ss ms o) w) := by
  have HRES : Hid (Gate.zba ss ms o = Gate.zbF ss ms ⟨o.kd, o.nm, o.tm, Gate.yR ss o, o.en, o.hs, o.vr⟩) := Gate.zlz hok
  have HSM : Hid ((Gate.yR ss o).length <= maxLen /\ ∀ s ∈ Gate.yR ss o, s.size <= maxLen) := ⟨by rw [Gate.zbc]; exact ho.vals.len, by rw [<- Gate.zmC (Gate.zh6 hok)]; exact zmz hw.smalls ho.vals.small⟩
  have HH := zff hw hmm ho
  clear hw hmm ho
  have hb2 := zu w (.cells (oC o (some ⟨b, off, none⟩) (some ⟨b', off', none⟩) cap cap') 121) (.cells oZ 121)
  go_enter Tryz.func83, Tryz.ntmps83
  go_wp2_with fail
  refine (zlA a0 cap0 ss o b off b' off' cap cap' _ (HH.out.1.mono hb2) (HH.out.2.2.mono hb2) hl hl').mono ?_
  rintro e w1 ⟨a1, dap1, a1', dap1', m1, rfl, ht1, hm1, hsm1, ht1', hb1, ⟨g, rfl⟩, ⟨g', rfl⟩⟩
  have HR1 : Hid (w1.heap[w.heap.size + 1]? = some (.cells oZ 121)) := (hb1.block (w.heap.size + 1) (by simp)).trans (zP _ _ _).2
  have hz1 : w.heap.size + 1 < w1.heap.size := by have := hb1.size; simp at this; omega
  have hB1 : Below w.heap.size w w1 := hb2.trans (hb1.mono (by simp; omega))
  have hv1 := ht1.at HSM.out.1 HSM.out.2
  have hv1' := ht1'.at HH.out.2.2.holds.len HH.out.2.2.holds.small
  clear hb1 hb2 ht1 hm1 hsm1 ht1'
  go_wp2_with fail
  refine (zkM a0 ma cap0 mcap ss ms o (Gate.yR ss o) (Gate.zbc ss o) g 0 g' 0 _ _ _ (HH.out.1.mono hB1) (HH.out.2.1.mono hB1) HH.out.2.2.small hv1 hv1' hl hl' hok).mono ?_
  rintro e w4 ⟨a, dap, a', dap', m, rfl, ht, hm, hsm, ht', hb4⟩
  have hR4 := (hb4.block (w.heap.size + 1) hz1).trans HR1.out
  have hRc : ∀ j, w4.cell? ⟨w.heap.size + 1, j, none⟩ = oZ[j]? := fun j => cell_of_block hR4
  have hRf : ∀ j, w4.frozen? ⟨w.heap.size + 1, j, none⟩ = false := fun j => zl hR4
  have HX : Hid (zo (w.heap.size + 1 + 1) w4 a (Gate.zba ss ms o) /\ (∀ g, a = some g -> g.block < m) /\ w.heap.size + 1 + 1 <= m /\ zo m w4 a' o.hs /\ Below w.heap.size w w4) := by rw [HRES.out]; exact ⟨ht.low hz1, hm, Nat.le_trans hz1 hsm, ht', hB1.trans (hb4.mono hB1.size)⟩
  clear ht hm hsm ht' hb4 hR4
  go_wp2_with fail
  refine bodyPost_ret (v := (.agg (oC o a a' dap dap'))) (by simp [results, Tryz.results83, go_sem, hRc]) rfl ?_
  obtain ⟨ht, hm, hsm, ht', hB⟩ := HX.out
  exact ⟨a, dap, a', dap', m, rfl, (qZ ht _ (by omega) _ _ _ _ _ _ _).low (by omega), hm, by omega, qZ ht' _ (by omega) _ _ _ _ _ _ _, zad hB _ (by omega) _ _ _ _ _ _ _⟩
end Go.Proofs.YtfapkhgallmkdaaGreat
