import Derived.Test.YtkfigdbbncjojaaGreatM45
import Derived.Test.YtkfigdbbncjojaaGreatM32
import Derived.Test.YtkfigdbbncjojaaGreatM09
import Derived.Test.YtkfigdbbncjojaaGreatM44
import Derived.Test.YtkfigdbbncjojaaGreatM39
import Derived.Test.YtkfigdbbncjojaaGreatM11
import Derived.Deep.QuietTactic
import Derived.BigQuiet
import Derived.Deep.CutRange
import Derived.Test.YtkfigdbbncjojaaGreatM26
import Derived.Test.YtkfigdbbncjojaaGreatM08
import Derived.Test.YtkfigdbbncjojaaGreatM38
namespace Go.Proofs.YtkfigdbbncjojaaGreat
open Go.RowKit
end Go.Proofs.YtkfigdbbncjojaaGreat

namespace Go.Proofs.YtkfigdbbncjojaaGreat
open Go.RowKit
theorem zjG {P : Program} {f : FuncId} {args : Array Value} {w : World} {b c : Int} {R : World -> Prop} (hb : b = c) (h : Calls P f args w fun e w' => e = .returned (.int .i64 b) /\ R w') : Calls P f args w fun e w' => e = .returned (.int .i64 c) /\ R w' := by
  subst hb; exact h
theorem zhj {a b : ByteArray} (h : a = b) : Ending.returned (.string a) = .returned (.string b) := by rw [h]
theorem Gate.znI {s : Shp} {ms : List Mnd} {p : Nat} (hrd : ∀ x ∈ Gate.zZ s ms p, 0 <= x /\ x < s.fs.length) {m : Mnd} (hm : m ∈ ms) (ht : Gate.turns m s p = true) {v : ByteArray} (hv : v ∈ Gate.zI m) : ∃ j : Nat, j < s.fs.length /\ Gate.zQ s.fs v = (j : Int) := by
  have h := hrd (Gate.zQ s.fs v) (by
    unfold Gate.zZ; rw [List.mem_flatMap]; refine ⟨m, hm, ?_⟩; rw [if_pos ht]; exact List.mem_map.2 ⟨v, hv, rfl⟩)
  exact ⟨(Gate.zQ s.fs v).toNat, by omega, by omega⟩
set_option maxRecDepth 20000 in
set_option maxHeartbeats 8000000 in
theorem zhZ (s : Shp) (ms : List Mnd) (o : Ob) (vs : List ByteArray) (p : Nat) (fa ma va ha : Option Addr) (fcap mcap vcap hcap : Nat) (w : World) (hf : zW w fa s.fs) (hm : y5 w ma ms) (hv : zB w va vs) (hc : vs.length = s.fs.length) (hp : p < s.fs.length) (hix : Gate.zQ s.fs s.fs[p].nm = (p : Int)) (hkd : o.kd = s.kd) (hrd : ∀ x ∈ Gate.zZ s ms p, 0 <= x /\ x < s.fs.length) :
    Calls Tryz.prog 143 #[.slice fa s.fs.length fcap, .slice ma ms.length mcap, .agg #[.string o.kd, .string o.nm, .string o.tm, .slice va vs.length vcap, .bool o.en, .slice ha o.hs.length hcap, .int .i64 o.vr], .string s.fs[p].nm] w fun e w' => e = .returned (.string (Gate.decided s ms p vs)) /\ Below w.heap.size w w' := by
  have hpv : p < vs.length := by omega
  have hml := hm.len
  have hl := hv.len
  unfold maxLen at hl hml
  obtain ⟨vb, voff, rfl, hvb, hcell⟩ := hv.cells (by rintro rfl; simp at hpv)
  have HC : Hid (∀ W, Below w.heap.size w W -> ∀ i (h : i < vs.length), W.cell? ⟨vb, voff + i, none⟩ = some (.string vs[i])) := fun W hb i h => (hb.cell (p := ⟨vb, voff + i, none⟩) hvb).trans (hcell i h)
  have HF : Hid (∀ W, Below w.heap.size w W -> zW W fa s.fs) := fun W hb => hf.mono hb
  have HM := znz hm hc hix hkd hrd
  clear hf hm hv hc hcell hix hkd hrd
  go_enter Tryz.func143, Tryz.ntmps143
  go_upto_region 1 with fail
  refine zaI (fun W => Below w.heap.size w W /\ W.heap[w.heap.size]? = some (.cells #[.string o.kd, .string o.nm, .string o.tm, .slice (some ⟨vb, voff, none⟩) vs.length vcap, .bool o.en, .slice ha o.hs.length hcap, .int .i64 o.vr] 104)) ⟨(Below.refl _ _).alloc (Nat.le_refl _) _, (MapKept.heap_alloc w _).1⟩ ?_
  rintro W0 hW0
  have H0 := hid hW0
  clear hW0
  go_wp2_with fail
  go_loopg [9] ms.length (fun g iv wr => ∃ k : Nat, k + g = ms.length /\ iv = .int .i64 k /\ Hid ((ms.take k).findSome? (Gate.gives s vs p) = none) /\ Hid (Below w.heap.size w wr /\ wr.heap[w.heap.size]? = some (.cells #[.string o.kd, .string o.nm, .string o.tm, .slice (some ⟨vb, voff, none⟩) vs.length vcap, .bool o.en, .slice ha o.hs.length hcap, .int .i64 o.vr] 104)))
  case atStart => exact ⟨0, by omega, rfl, rfl, H0⟩
  case round =>
    clear H0
    obtain ⟨k, hk, rfl, HN, HB⟩ := hrel
    have hXo := fun j => cell_of_block (o := j) HB.out.2
    have hvz : vb < wr.heap.size := Nat.lt_of_lt_of_le hvb HB.out.1.size
    have hzo := (Array.getElem?_eq_some_iff.1 HB.out.2).1
    by_cases hlt : k < ms.length
    · obtain ⟨mb, moff, rfl, hmb, c0, c1, c2, c3, c4, c5⟩ := HM.out.1.load HB.out.1 k hlt
      have hltI : (k : Int) < (ms.length : Int) := by omega
      obtain ⟨m, hmE⟩ : ∃ m, m = ms[k] := ⟨_, rfl⟩
      have HNX : Hid (Gate.gives s vs p m = none -> (ms.take (k + 1)).findSome? (Gate.gives s vs p) = none) := by
        intro h
        rw [List.take_succ_eq_append_getElem hlt, List.findSome?_append, HN.out, <- hmE]
        simp [h]
      have HSX : Hid (∀ x, Gate.gives s vs p m = some x -> Gate.decided s ms p vs = x) := by
        intro x h
        unfold Gate.decided
        have e : ms.findSome? (Gate.gives s vs p) = some x := by
          conv => lhs; rw [<- List.take_append_drop k ms, List.drop_eq_getElem_cons hlt]
          rw [List.findSome?_append, HN.out, List.findSome?_cons, <- hmE, h]
          rfl
        rw [e]; rfl
      have HRD : Hid (Gate.turns m s p = true -> ∀ v, Gate.isSet v = true -> v = m.wh \/ v = m.fr -> ∃ j : Nat, ∃ h : j < vs.length, Gate.zQ s.fs v = (j : Int) /\ Gate.qp s.fs vs v = vs[j]) := fun ht v hs hv => by
        obtain ⟨j, hj, hx⟩ := Gate.znI HM.out.2.2.2.2 (hmE ▸ List.getElem_mem hlt) ht (show v ∈ Gate.zI m by unfold Gate.zI; rw [List.mem_filter]; exact ⟨by simpa using hv, hs⟩)
        have hjv : j < vs.length := by rw [HM.out.2.1]; exact hj
        exact ⟨j, hjv, hx, by rw [Gate.zer hx, Gate.getD_at vs j _ hjv]⟩
      have HTU : Hid (Gate.turns m s p = ((m.kd.toList == o.kd.toList) && (m.fd.toList == s.fs[p].nm.toList))) := by
        rw [Hid, Gate.beq_toList, Gate.beq_toList, HM.out.2.2.2.1]; unfold Gate.turns; rw [Gate.getD_at s.fs p _ hp]
      rw [<- hmE] at c0 c1 c2 c3 c4 c5
      clear HN hmE
      go_upto_region 5 with fail
      refine zaI (fun W => Below w.heap.size w W /\ W.heap[w.heap.size]? = some (.cells #[.string o.kd, .string o.nm, .string o.tm, .slice (some ⟨vb, voff, none⟩) vs.length vcap, .bool o.en, .slice ha o.hs.length hcap, .int .i64 o.vr] 104) /\ W.heap[wr.heap.size]? = some (.cells #[.string m.kd, .string m.fd, .string m.wh, .string m.wi, .string m.pt, .string m.fr] 129)) ⟨HB.out.1.alloc HB.out.1.size _, (((Below.refl _ wr).alloc (Nat.le_refl _) _).block _ hzo).trans HB.out.2, (MapKept.heap_alloc wr _).1⟩ ?_
      rintro W2 hW2
      obtain ⟨kM, hkM⟩ : ∃ x, x = wr.heap.size := ⟨_, rfl⟩
      rw [<- hkM] at hW2 ⊢
      have H2 := hid hW2
      have hXm := fun j => cell_of_block (o := j) hW2.2.2
      have hzm := (Array.getElem?_eq_some_iff.1 hW2.2.2).1
      clear hXo hzo hvz
      have hXo := fun j => cell_of_block (o := j) hW2.2.1
      have hzo := (Array.getElem?_eq_some_iff.1 hW2.2.1).1
      have hvz : vb < W2.heap.size := Nat.lt_of_lt_of_le hvb H2.out.1.size
      obtain ⟨app, happ⟩ : ∃ x, x = decide (Gate.turns m s p = true /\ ¬ (Gate.isSet m.wh = true /\ Gate.qp s.fs vs m.wh ≠ m.wi)) := ⟨_, rfl⟩
      have HAP := hid happ
      clear hW2 hkM c0 c1 c2 c3 c4 c5 HB happ
      go_cut [50] from 12 to 66 (fun vx W => vx = .bool (!app) /\ Hid (Below w.heap.size w W /\ W.heap[w.heap.size]? = some (.cells #[.string o.kd, .string o.nm, .string o.tm, .slice (some ⟨vb, voff, none⟩) vs.length vcap, .bool o.en, .slice ha o.hs.length hcap, .int .i64 o.vr] 104) /\ W.heap[kM]? = some (.cells #[.string m.kd, .string m.fd, .string m.wh, .string m.wi, .string m.pt, .string m.fr] 129)))
      case first =>
        have HZ : Hid (∀ n, Below w.heap.size w (W2.drewN n) /\ (W2.drewN n).heap[w.heap.size]? = some (.cells #[.string o.kd, .string o.nm, .string o.tm, .slice (some ⟨vb, voff, none⟩) vs.length vcap, .bool o.en, .slice ha o.hs.length hcap, .int .i64 o.vr] 104) /\ (W2.drewN n).heap[kM]? = some (.cells #[.string m.kd, .string m.fd, .string m.wh, .string m.wi, .string m.pt, .string m.fr] 129)) := fun n => ⟨below_drewN H2.out.1 n, H2.out.2⟩
        rcases hkd : (m.kd.toList == o.kd.toList) with _ | _
        · go_quiet (fail)
          go_wp2_with fail
          go_meet
          case rel => exact ⟨by rw [HAP.out, HTU.out, hkd]; simp, HZ.out _⟩
        rcases hfd : (m.fd.toList == s.fs[p].nm.toList) with _ | _
        · go_quiet (fail)
          go_wp2_with fail
          go_meet
          case rel => exact ⟨by rw [HAP.out, HTU.out, hkd, hfd]; simp, HZ.out _⟩
        rcases hwh : m.wh.toList.isEmpty with _ | _
        · obtain ⟨jw, hjw, hjx, hjv⟩ := HRD.out (by rw [HTU.out, hkd, hfd]; rfl) m.wh (by unfold Gate.isSet; rw [hwh]; rfl) (Or.inl rfl)
          have cw := HC.out _ H2.out.1 jw hjw
          have hjI : (jw : Int) < (vs.length : Int) := by omega
          have hj0 : (0 : Int) <= (jw : Int) := by omega
          have HJ := jO hjx hjv
          clear hjx hjv
          have HJ1 := hid HJ.out.1
          go_quiet ((go_at_call 138; exact Calls.quiet_of_same (zjG HJ1.out (jT _ _ s.fs _ _ (by exact HF.out _ (below_drewN H2.out.1 _))))))
          go_wp2_with fail
          go_meet
          case rel => exact ⟨by rw [HAP.out, HTU.out, hkd, hfd, HJ.out.2, Gate.beq_toList]; simp [Gate.isSet, hwh], HZ.out _⟩
        · go_quiet (fail)
          go_wp2_with fail
          go_meet
          case rel => exact ⟨by rw [HAP.out, HTU.out, hkd, hfd]; simp [Gate.isSet, hwh], HZ.out _⟩
      case rest =>
        obtain ⟨rfl, H3⟩ := hcut
        obtain ⟨W3, rfl⟩ : ∃ x, x = wc := ⟨_, rfl⟩
        clear hXm hXo H2 hzm hzo hvz
        have hXm := fun j => cell_of_block (o := j) H3.out.2.2
        have hXo := fun j => cell_of_block (o := j) H3.out.2.1
        have hzm := (Array.getElem?_eq_some_iff.1 H3.out.2.2).1
        have hzo := (Array.getElem?_eq_some_iff.1 H3.out.2.1).1
        have hvz : vb < W3.heap.size := Nat.lt_of_lt_of_le hvb H3.out.1.size
        have hstep : IntKind.i64.wrap ((k : Int) + 1) = ((k + 1 : Nat) : Int) := by rw [IntKind.wrap_i64]; omega
        obtain ⟨g1, rfl⟩ : ∃ g, gk = g + 1 := ⟨gk - 1, by omega⟩
        cases app with
        | false =>
          have HG := hid (HNX.out (by unfold Gate.gives; rw [if_neg (of_decide_eq_false HAP.out.symm)]))
          go_wp2_with fail
          go_roundg g1
          case measure => omega
          case rel => exact ⟨k + 1, by omega, rfl, HG, ⟨H3.out.1, H3.out.2.1⟩⟩
        | true =>
          have HA := hid (of_decide_eq_true HAP.out.symm)
          rcases hfr : m.fr.toList.isEmpty with _ | _
          · obtain ⟨jf, hjf, hjx, hjv⟩ := HRD.out HA.out.1 m.fr (by unfold Gate.isSet; rw [hfr]; rfl) (Or.inr rfl)
            have cf := HC.out _ H3.out.1 jf hjf
            have hjI : (jf : Int) < (vs.length : Int) := by omega
            have hj0 : (0 : Int) <= (jf : Int) := by omega
            have HJ := jO hjx hjv
            clear hjx hjv
            have HJ1 := hid HJ.out.1
            have HZ : Hid (∀ n, Below w.heap.size w (W3.drewN n) /\ (W3.drewN n).heap[w.heap.size]? = some (.cells #[.string o.kd, .string o.nm, .string o.tm, .slice (some ⟨vb, voff, none⟩) vs.length vcap, .bool o.en, .slice ha o.hs.length hcap, .int .i64 o.vr] 104)) := fun n => ⟨below_drewN H3.out.1 n, H3.out.2.1⟩
            go_wp2_with fail
            go_quiet ((go_at_call 138; exact Calls.quiet_of_same (zjG HJ1.out (jT _ _ s.fs _ _ (by exact HF.out _ (below_drewN H3.out.1 _))))))
            rcases hve : vs[jf].toList.isEmpty with _ | _
            · have HG := hid (HSX.out vs[jf] (by unfold Gate.gives; rw [if_pos HA.out, HJ.out.2]; simp [Gate.isSet, hfr, hve]))
              go_wp2_with fail
              go_ret
              exact ⟨zhj HG.out.symm, (HZ.out _).1⟩
            · have HG := hid (HNX.out (by unfold Gate.gives; rw [if_pos HA.out, HJ.out.2]; simp [Gate.isSet, hfr, hve]))
              go_wp2_with fail
              go_roundg g1
              case measure => omega
              case rel => exact ⟨k + 1, by omega, rfl, HG, HZ.out _⟩
          · have HG := hid (HSX.out m.pt (by unfold Gate.gives; rw [if_pos HA.out]; simp [Gate.isSet, hfr]))
            go_wp2_with fail
            go_ret
            exact ⟨zhj HG.out.symm, H3.out.1⟩
    · have hnI : ¬ (k : Int) < (ms.length : Int) := by omega
      have HD : Hid (Gate.decided s ms p vs = vs[p]) := by
        have e : ms.findSome? (Gate.gives s vs p) = none := by have := HN.out; rwa [List.take_of_length_le (by omega)] at this
        unfold Hid Gate.decided; rw [e, Gate.getD_at vs p _ hpv]; rfl
      have HJP := hid HM.out.2.2.1
      have cp := HC.out _ HB.out.1 p hpv
      have hpI : (p : Int) < (vs.length : Int) := by omega
      have hp0 : (0 : Int) <= (p : Int) := by omega
      go_wp2_with fail
      go_quiet ((go_at_call 138; exact Calls.quiet_of_same (zjG HJP.out (jT _ _ s.fs _ _ (by exact HF.out _ (below_drewN HB.out.1 _))))))
      go_wp2_with fail
      go_ret
      exact ⟨zhj HD.out.symm, below_drewN HB.out.1 _⟩
end Go.Proofs.YtkfigdbbncjojaaGreat

namespace Go.Proofs.YtkfigdbbncjojaaGreat
open Go.RowKit
set_option maxRecDepth 20000 in
set_option maxHeartbeats 4000000 in
theorem zlh (o : Ob) (s : Shp) (ms : List Mnd) (fa ma ova oha : Option Addr) (fcap mcap cap cap' : Nat) (w : World) (hf : zW w fa s.fs) (hm : y5 w ma ms) (ho : qQ w o ova oha) (hA : zkA ova o.vs) (hA' : zkA oha o.hs) (hl : o.vs.length <= 1048576) (hl' : o.hs.length <= 1048576) (hc : o.vs.length = s.fs.length)
    (hml : ms.length <= 1048576) (hn : s.fs.length <= 6) (hrd : ∀ q, q < s.fs.length -> ∀ x ∈ Gate.zZ s ms q, 0 <= x /\ x < s.fs.length) (hwk : (Gate.zD (Gate.zh s ms) s.fs.length).1 = true) :
    Calls Tryz.prog 187 #[.agg #[.string s.kd, .slice fa s.fs.length fcap], .slice ma ms.length mcap, .agg (oC o ova oha cap cap')] w
      fun e w' => ∃ a dap a' dap' m, e = .returned (.agg (oC o a a' dap dap')) /\ zn w.heap.size w' a (Gate.zK (Gate.decided s ms) (Gate.zD (Gate.zh s ms) s.fs.length).2.row o.vs) /\ (∀ g, a = some g -> g.block < m) /\ w.heap.size <= m /\ zn m w' a' o.hs /\ Below w.heap.size w w' := by
  have HH : Hid (zW w fa s.fs /\ y5 w ma ms /\ o.vs.length = s.fs.length /\ ms.length <= 1048576 /\ s.fs.length <= 6 /\ (∀ q, q < s.fs.length -> ∀ x ∈ Gate.zZ s ms q, 0 <= x /\ x < s.fs.length) /\ (∀ x ∈ o.vs, x.size <= maxLen)) := ⟨hf, hm, hc, hml, hn, hrd, ho.vals.small⟩
  have HWK := hid hwk
  clear hf hm hc hml hrd hwk
  go_enter Tryz.func187, Tryz.ntmps187
  go_wp2_with fail
  refine (zgX o ova oha cap cap' _ (ho.mono (qU _ _ _ _)) hA hA' hl hl').mono ?_
  rintro e w1 ⟨a, dap, a', dap', m, rfl, ht, hmm, hsm, ht', hb1⟩
  have hX1 : ∀ j, w1.cell? ⟨w.heap.size, j, none⟩ = (#[.string s.kd, .slice fa s.fs.length fcap] : Array Value)[j]? := fun j => cell_of_block ((hb1.block w.heap.size (by simp; omega)).trans (za4 _ _ _ _))
  have HS1 : Hid (w1.heap[w.heap.size]? = some (.cells #[.string s.kd, .slice fa s.fs.length fcap] 127)) := (hb1.block w.heap.size (by simp; omega)).trans (za4 _ _ _ _)
  have HR1 : Hid (w1.heap[w.heap.size + 1 + 1]? = some (.cells oZ 104)) := (hb1.block (w.heap.size + 1 + 1) (by simp)).trans (zbT _ _ _ _)
  have HB1 : Hid (Below w.heap.size w w1) := (qU _ _ _ _).trans (hb1.mono (by simp; omega))
  have hz1 : w.heap.size + 1 + 1 < w1.heap.size := by have := hb1.size; simp at this; omega
  have HT : Hid (zn (w.heap.size + 1 + 1 + 1) w1 a o.vs /\ (∀ g, a = some g -> g.block < m) /\ w.heap.size + 1 + 1 + 1 <= m /\ zn m w1 a' o.hs) := by
    simp only [World.size_alloc] at ht hsm
    exact ⟨ht, hmm, hsm, ht'⟩
  have hz0 : w.heap.size < w1.heap.size := by omega
  clear ht hmm hsm ht' hb1 ho
  have hba := (Below.refl w1.heap.size w1).alloc (Nat.le_refl _) (.cells (oC o a a' dap dap') 104)
  have HBA := hid (HB1.out.trans (hba.mono HB1.out.size))
  have HBB := hid hba
  clear hba
  go_wp2_with fail
  have h := zfw s ms ma fa mcap fcap _ (HH.out.2.1.mono HBA.out) (HH.out.1.mono HBA.out) HH.out.2.2.2.1 HH.out.2.2.2.2.1 HH.out.2.2.2.2.2.1
  rw [HWK.out] at h
  refine h.mono ?_
  rintro e w2 ⟨rv, rfl, hb2, hrow⟩
  have hrow := hrow rfl
  obtain ⟨ra, rcap, rfl⟩ := yM hrow
  have HBC := hid (HBB.out.trans (hb2.mono HBB.out.size))
  have HR2 : Hid (w2.ownsRow (w1.heap.size + 1) 3 1 (.slice ra (Gate.zD (Gate.zh s ms) s.fs.length).2.row.length rcap) (Gate.zD (Gate.zh s ms) s.fs.length).2.row.length (zcZ (Gate.zD (Gate.zh s ms) s.fs.length).2.row)) := by
    have := hrow; rw [World.size_alloc] at this; exact this
  have HU2 : Hid (w2.heap[w1.heap.size]? = some (.cells (oC o a a' dap dap') 104)) := (hb2.block _ (by simp)).trans (alloc_at _ _)
  have HTP : Hid (Gate.zio (Gate.zh s ms) s.fs.length (Gate.zD (Gate.zh s ms) s.fs.length).2.row) := Gate.zcz (fun p hp q hq => by
    unfold Gate.zh at hq
    obtain ⟨x, hx, rfl⟩ := List.mem_map.1 hq
    have := HH.out.2.2.2.2.2.1 p hp x hx
    omega) HWK.out
  have hz2 := (Array.getElem?_eq_some_iff.1 HU2.out).1
  have HRL : Hid ((Gate.zD (Gate.zh s ms) s.fs.length).2.row.length <= 6) := by
    have h1 := Gate.zaK (Gate.zD (Gate.zh s ms) s.fs.length).2.row (List.range s.fs.length) HTP.out.nodup (fun x hx => List.mem_range.2 ((HTP.out.mem x).1 hx))
    have h2 := HH.out.2.2.2.2.1
    rw [List.length_range] at h1
    show _ <= _; omega
  clear h hrow hb2 hX1
  go_wp2_with fail
  go_loopw [22] (fun iv wr => ∃ j : Nat, j <= (Gate.zD (Gate.zh s ms) s.fs.length).2.row.length /\ iv = .int .i64 j /\ zn (w.heap.size + 1 + 1 + 1) wr a (Gate.zK (Gate.decided s ms) ((Gate.zD (Gate.zh s ms) s.fs.length).2.row.take j) o.vs) /\ zn m wr a' o.hs /\ wr.heap[w.heap.size + 1 + 1]? = some (.cells oZ 104) /\ wr.heap[w1.heap.size]? = some (.cells (oC o a a' dap dap') 104) /\ wr.heap[w.heap.size]? = some (.cells #[.string s.kd, .slice fa s.fs.length fcap] 127) /\ wr.ownsRow (w1.heap.size + 1) 3 1 (.slice ra (Gate.zD (Gate.zh s ms) s.fs.length).2.row.length rcap) (Gate.zD (Gate.zh s ms) s.fs.length).2.row.length (zcZ (Gate.zD (Gate.zh s ms) s.fs.length).2.row) /\ Below w.heap.size w wr) (fun iv _ => (Gate.zD (Gate.zh s ms) s.fs.length).2.row.length - (intOf iv).toNat)
  case atStart => exact ⟨0, Nat.zero_le _, rfl, HT.out.1.mono HBC.out, HT.out.2.2.2.mono HBC.out, (HBC.out.block _ hz1).trans HR1.out, HU2.out, (HBC.out.block _ hz0).trans HS1.out, HR2.out, HB1.out.trans (HBC.out.mono HB1.out.size)⟩
  case round =>
    obtain ⟨j, hj, rfl, hinv⟩ := hrel
    have HI : Hid (zn (w.heap.size + 1 + 1 + 1) wr a (Gate.zK (Gate.decided s ms) ((Gate.zD (Gate.zh s ms) s.fs.length).2.row.take j) o.vs) /\ zn m wr a' o.hs /\ wr.heap[w.heap.size + 1 + 1]? = some (.cells oZ 104) /\ wr.heap[w1.heap.size]? = some (.cells (oC o a a' dap dap') 104) /\ wr.heap[w.heap.size]? = some (.cells #[.string s.kd, .slice fa s.fs.length fcap] 127) /\ wr.ownsRow (w1.heap.size + 1) 3 1 (.slice ra (Gate.zD (Gate.zh s ms) s.fs.length).2.row.length rcap) (Gate.zD (Gate.zh s ms) s.fs.length).2.row.length (zcZ (Gate.zD (Gate.zh s ms) s.fs.length).2.row) /\ Below w.heap.size w wr) := hinv
    clear hinv
    by_cases hlt : j < (Gate.zD (Gate.zh s ms) s.fs.length).2.row.length
    · have hltI : (j : Int) < ((Gate.zD (Gate.zh s ms) s.fs.length).2.row.length : Int) := by omega
      have hqn : (Gate.zD (Gate.zh s ms) s.fs.length).2.row[j] < s.fs.length := (HTP.out.mem _).1 (List.getElem_mem hlt)
      obtain ⟨rg, rfl, hrc⟩ : ∃ rg, ra = some ⟨rg, 0, none⟩ /\ wr.cell? ⟨rg, j, none⟩ = some (.int .i64 (((Gate.zD (Gate.zh s ms) s.fs.length).2.row[j] : Nat) : Int)) := by
        have hrow := HI.out.2.2.2.2.2.1
        obtain ⟨_, ⟨h0, h1⟩ | ⟨g, cp, cur, h0, h1⟩⟩ := id hrow
        · rw [h1] at hlt; exact absurd hlt (by omega)
        · cases h0
          refine ⟨g, rfl, ?_⟩
          rw [hrow.cellAt j (by omega)]
          simp [zcZ, hlt]
      have HTS : Hid ((Gate.zK (Gate.decided s ms) ((Gate.zD (Gate.zh s ms) s.fs.length).2.row.take (j + 1)) o.vs) = (Gate.zK (Gate.decided s ms) ((Gate.zD (Gate.zh s ms) s.fs.length).2.row.take j) o.vs).set (Gate.zD (Gate.zh s ms) s.fs.length).2.row[j] (Gate.decided s ms (Gate.zD (Gate.zh s ms) s.fs.length).2.row[j] (Gate.zK (Gate.decided s ms) ((Gate.zD (Gate.zh s ms) s.fs.length).2.row.take j) o.vs))) := by
        unfold Hid
        rw [List.take_succ_eq_append_getElem hlt, Gate.zbs]
        rfl
      have HTL : Hid ((Gate.zK (Gate.decided s ms) ((Gate.zD (Gate.zh s ms) s.fs.length).2.row.take j) o.vs).length = o.vs.length) := Gate.qL _ _ _
      have HSML : Hid (∀ x ∈ (Gate.zK (Gate.decided s ms) ((Gate.zD (Gate.zh s ms) s.fs.length).2.row.take j) o.vs), x.size <= maxLen) := Gate.zaX HH.out.2.1.small _ _ HH.out.2.2.2.2.2.2
      have hvl : 0 < o.vs.length := by rw [HH.out.2.2.1]; omega
      obtain ⟨g, C, hga, hgl, hgh, hgc⟩ : ∃ g C, a = some ⟨g, 0, none⟩ /\ w.heap.size + 1 + 1 + 1 <= g /\ wr.heap[g]? = some (.cells C 9) /\ ∀ i (h : i < (Gate.zK (Gate.decided s ms) ((Gate.zD (Gate.zh s ms) s.fs.length).2.row.take j) o.vs).length), C[i]? = some (.string (Gate.zK (Gate.decided s ms) ((Gate.zD (Gate.zh s ms) s.fs.length).2.row.take j) o.vs)[i]) := by
        rcases HI.out.1 with ⟨_, h0⟩ | h0
        · have := HTL.out; rw [h0] at this; simp at this; omega
        · exact h0
      have hgm := HT.out.2.1 _ hga
      have hgw1 := HT.out.1.lt _ hga
      subst hga
      revert hqn hrc HTS
      generalize (Gate.zD (Gate.zh s ms) s.fs.length).2.row[j] = q
      intro hqn hrc HTS
      have hqv : q < o.vs.length := by rw [HH.out.2.2.1]; exact hqn
      have hqI : (q : Int) < (o.vs.length : Int) := by omega
      have HCS : Hid (C.size = C.size /\ q < C.size) := by
        refine ⟨rfl, ?_⟩
        rcases Nat.lt_or_ge q C.size with h1 | h1
        · exact h1
        · have h2 := hgc q (by rw [HTL.out]; exact hqv)
          rw [Array.getElem?_eq_none h1] at h2; cases h2
      have hOc := zay HI.out.2.2.2.1
      have hSc := zay HI.out.2.2.2.2.1
      have hzw : w1.heap.size < wr.heap.size := (Array.getElem?_eq_some_iff.1 HI.out.2.2.2.1).1
      have HST : Hid (zB wr (some ⟨g, 0, none⟩) (Gate.zK (Gate.decided s ms) ((Gate.zD (Gate.zh s ms) s.fs.length).2.row.take j) o.vs)) := HI.out.1.at (by rw [HTL.out]; unfold maxLen; omega) HSML.out
      have HBD : Hid (Below w.heap.size w wr.drew /\ Below wr.heap.size wr wr.drew) := ⟨HI.out.2.2.2.2.2.2.drew, (Below.refl _ _).drew⟩
      have HGH := hid hgh
      clear hgh hgc
      go_wp2_with fail
      clear hrc
      have hbd := HBD.out.2
      have hOd := za hOc hzw hbd
      have hSd := za hSc (by omega) hbd
      have HDV : Hid (∀ W, Below wr.heap.size wr W -> Calls Tryz.prog 198 #[.agg #[.string s.kd, .slice fa s.fs.length fcap], .slice ma ms.length mcap, .slice (some ⟨g, 0, none⟩) o.vs.length dap, .int .i64 (q : Int)] W fun e w' => e = .returned (.string (Gate.decided s ms q (Gate.zK (Gate.decided s ms) ((Gate.zD (Gate.zh s ms) s.fs.length).2.row.take j) o.vs))) /\ Below W.heap.size W w') := by
        intro W hb
        have hbw := HI.out.2.2.2.2.2.2.trans (hb.mono HI.out.2.2.2.2.2.2.size)
        have h := zfm s ms (Gate.zK (Gate.decided s ms) ((Gate.zD (Gate.zh s ms) s.fs.length).2.row.take j) o.vs) q fa ma (some ⟨g, 0, none⟩) fcap mcap dap W (HH.out.1.mono hbw) (HH.out.2.1.mono hbw) (HST.out.mono hb) (by rw [HTL.out]; exact HH.out.2.2.1) hqn
        rw [HTL.out] at h
        exact h
      go_region_held3 (fun w' => (∀ k, w'.cell? ⟨w1.heap.size, k, none⟩ = (oC o (some ⟨g, 0, none⟩) a' dap dap')[k]?) /\ ∀ k, w'.cell? ⟨w.heap.size, k, none⟩ = (#[.string s.kd, .slice fa s.fs.length fcap] : Array Value)[k]?) (first | (refine ⟨fun k => ?_, fun k => ?_⟩; rw [hOd]; rw [hSd]) | (refine ⟨fun k => ?_, fun k => ?_⟩; rw [hqo]; rw [hqs])) (first
        | (go_at_call 198; refine (HDV.out _ hbd).mono ?_; rintro e w5 ⟨rfl, hb5⟩; have hbd := hbd.trans (hb5.mono hbd.size); have hOd := za hOc hzw hbd; have hSd := za hSc (by omega) hbd; have hg5 := (hbd.block g (by omega)).trans HGH.out; have hcg : w5.cell? ⟨g, q, none⟩ = some (C[q]'HCS.out.2) := (by rw [cell_of_block hg5]; exact Array.getElem?_eq_getElem HCS.out.2); have hfg : w5.frozen? ⟨g, q, none⟩ = false := zi hg5; have hqo : ∀ k, (w5.setCell ⟨g, q, none⟩ (.string (Gate.decided s ms q (Gate.zK (Gate.decided s ms) ((Gate.zD (Gate.zh s ms) s.fs.length).2.row.take j) o.vs)))).cell? ⟨w1.heap.size, k, none⟩ = (oC o (some ⟨g, 0, none⟩) a' dap dap')[k]? := (fun k => (zR (by show w1.heap.size ≠ g; omega)).trans (hOd k)); have hqs : ∀ k, (w5.setCell ⟨g, q, none⟩ (.string (Gate.decided s ms q (Gate.zK (Gate.decided s ms) ((Gate.zD (Gate.zh s ms) s.fs.length).2.row.take j) o.vs)))).cell? ⟨w.heap.size, k, none⟩ = (#[.string s.kd, .slice fa s.fs.length fcap] : Array Value)[k]? := (fun k => (zR (by show w.heap.size ≠ g; omega)).trans (hSd k)); have HBE : Hid (Below wr.heap.size wr w5) := hbd; clear hb5 hg5))
      go_wp2_with fail
      obtain ⟨i1, i2, i3, i4, i5, i6, i7⟩ := HI.out
      have hE := HBE.out
      refine ⟨⟨j + 1, by omega, by rw [wrap_one (by have := HRL.out; omega)], ?_, (i2.mono hE).setCell _ hgm _, (Below.heap_setCell _ _ _ _ (by show w.heap.size + 1 + 1 ≠ g; omega)).trans ((hE.block _ (by omega)).trans i3), (Below.heap_setCell _ _ _ _ (by show w1.heap.size ≠ g; omega)).trans ((hE.block _ hzw).trans i4), (Below.heap_setCell _ _ _ _ (by show w.heap.size ≠ g; omega)).trans ((hE.block _ (by omega)).trans i5), ?_, (i7.trans (hE.mono i7.size)).setCell (p := ⟨g, q, none⟩) (by show w.heap.size <= g; omega) _⟩, zdz hlt (by have := HRL.out; omega)⟩
      · rw [HTS.out]; exact (i1.mono hE).set q _
      · refine jX (qy i6 hE) (fun g' hg' => Below.heap_setCell _ _ _ _ ?_)
        have := (i6.lt g' hg').1
        show g' ≠ g
        omega
    · have e : j = (Gate.zD (Gate.zh s ms) s.fs.length).2.row.length := by omega
      obtain ⟨i1, i2, i3, i4, i5, i6, i7⟩ := HI.out
      rw [e, List.take_of_length_le (Nat.le_refl _)] at i1
      have hRc : ∀ k, wr.cell? ⟨w.heap.size + 1 + 1, k, none⟩ = oZ[k]? := fun k => cell_of_block i3
      have hRf : ∀ k, wr.frozen? ⟨w.heap.size + 1 + 1, k, none⟩ = false := fun k => zi i3
      have hOc := zay i4
      have HX := zee i1 i2 i7
      clear i1 i2 i3 i4 i5 i6 i7 HI
      subst e
      go_wp2_with fail
      refine bodyPost_ret (v := (.agg (oC o a a' dap dap'))) (by simp [results, Tryz.results187, go_sem, hRc]) rfl ?_
      obtain ⟨ht, ht', hB⟩ := HX.out
      exact ⟨a, dap, a', dap', m, rfl, (qK ht _ (by omega) _ _ _ _ _ _ _).low (by omega), HT.out.2.1, by have := HT.out.2.2.1; omega, qK ht' _ (by have := HT.out.2.2.1; omega) _ _ _ _ _ _ _, jU hB _ (by omega) _ _ _ _ _ _ _⟩
end Go.Proofs.YtkfigdbbncjojaaGreat

namespace Go.Proofs.YtkfigdbbncjojaaGreat
open Go.RowKit
def Gate.y8 (ss : List Shp) (ms : List Mnd) (o : Ob) : Bool := Gate.zC ss o.kd && (decide (o.vs.length = (Gate.shapeOf ss o.kd).fs.length) && Gate.zY ss ms)
namespace Gate
theorem zdb {ss : List Shp} {v : ByteArray} (h : zC ss v = true) : ∃ i, ∃ hi : i < ss.length, shapeOf ss v = ss[i] := by
  unfold zC at h
  rw [List.any_eq_true] at h
  obtain ⟨x, hx, he⟩ := h
  unfold shapeOf
  cases hf : ss.find? (fun s => decide (s.kd = v)) with
  | none => rw [List.find?_eq_none] at hf; exact absurd he (hf x hx)
  | some y =>
    obtain ⟨i, hi, rfl⟩ := List.mem_iff_getElem.1 (List.mem_of_find?_eq_some hf)
    exact ⟨i, hi, rfl⟩
theorem zbH {ss : List Shp} {ms : List Mnd} {o : Ob} (h : y8 ss ms o = true) : o.vs.length = (shapeOf ss o.kd).fs.length /\ (shapeOf ss o.kd).fs.length <= 6 /\ (∀ q, q < (shapeOf ss o.kd).fs.length -> ∀ x ∈ zZ (shapeOf ss o.kd) ms q, 0 <= x /\ x < (shapeOf ss o.kd).fs.length) /\ (zD (zh (shapeOf ss o.kd) ms) (shapeOf ss o.kd).fs.length).1 = true := by
  unfold y8 at h
  simp only [Bool.and_eq_true, decide_eq_true_eq] at h
  obtain ⟨hk, hl, hm⟩ := h
  obtain ⟨i, hi, e⟩ := zdb hk
  unfold zY at hm
  simp only [Bool.and_eq_true, decide_eq_true_eq] at hm
  obtain ⟨⟨⟨h12, hs⟩, ha⟩, hr⟩ := hm
  rw [e] at hl ⊢
  refine ⟨hl, zdU hs i hi, zg1 hs ha i hi, ?_⟩
  have := List.all_eq_true.1 hr ss[i] (List.getElem_mem hi)
  exact this
def zfl (ss : List Shp) (ms : List Mnd) (o : Ob) : List ByteArray := zK (decided (shapeOf ss o.kd) ms) (zD (zh (shapeOf ss o.kd) ms) (shapeOf ss o.kd).fs.length).2.row o.vs
def zbj (ss : List Shp) (ms : List Mnd) (o : Ob) : List ByteArray := if y8 ss ms o = true then zfl ss ms o else o.vs
end Gate
namespace Gate
def zez (ss : List Shp) (o : Ob) : Ob := ⟨o.kd, o.nm, o.tm, jg (shapeOf ss o.kd).fs o.vs, o.en, o.hs, o.vr⟩
def zaT (ss : List Shp) (ms : List Mnd) (o : Ob) : List ByteArray := if y8 ss ms o = true then zfl ss ms (zez ss o) else o.vs
theorem zl0 {ss : List Shp} {ms : List Mnd} {o : Ob} (h : y8 ss ms o = true) : (zez ss o).vs.length = o.vs.length := yR (zbH h).1
end Gate
theorem zeC {fs : List Fld} {vs : List ByteArray} (hf : zaS fs) (hv : ∀ s ∈ vs, s.size <= maxLen) (hl : vs.length = fs.length) : ∀ s ∈ Gate.jg fs vs, s.size <= maxLen := by
  intro s hm
  obtain ⟨i, hi, rfl⟩ := List.mem_iff_getElem.1 hm
  have h2 := Gate.yR hl
  have e : (Gate.jg fs vs)[i] = Gate.jy (fs[i]'(by omega)) (vs[i]'(by omega)) := by simp [Gate.jg]
  rw [e]
  unfold Gate.jy
  split
  · exact (hf.small i (by omega)).1.df
  · exact hv _ (List.getElem_mem _)
theorem zmq (o : Ob) (us : List ByteArray) (hnn : us.length = o.vs.length) (s : Shp) (ms : List Mnd) (fa ma ova oha : Option Addr) (fcap mcap cap cap' : Nat) (w : World) (hf : zW w fa s.fs) (hm : y5 w ma ms) (hsm : o.Small) (ho : zB w ova us) (ho' : zB w oha o.hs) (hA : zkA ova us) (hA' : zkA oha o.hs) (hl : o.vs.length <= 1048576) (hl' : o.hs.length <= 1048576) (hc : o.vs.length = s.fs.length)
    (hml : ms.length <= 1048576) (hn : s.fs.length <= 6) (hrd : ∀ q, q < s.fs.length -> ∀ x ∈ Gate.zZ s ms q, 0 <= x /\ x < s.fs.length) (hwk : (Gate.zD (Gate.zh s ms) s.fs.length).1 = true) :
    Calls Tryz.prog 187 #[.agg #[.string s.kd, .slice fa s.fs.length fcap], .slice ma ms.length mcap, .agg #[.string o.kd, .string o.nm, .string o.tm, .slice ova o.vs.length cap, .bool o.en, .slice oha o.hs.length cap', .int .i64 o.vr]] w
      fun e w' => ∃ a dap a' dap' m, e = .returned (.agg #[.string o.kd, .string o.nm, .string o.tm, .slice a o.vs.length dap, .bool o.en, .slice a' o.hs.length dap', .int .i64 o.vr]) /\ zn w.heap.size w' a (Gate.zK (Gate.decided s ms) (Gate.zD (Gate.zh s ms) s.fs.length).2.row us) /\ (∀ g, a = some g -> g.block < m) /\ w.heap.size <= m /\ zn m w' a' o.hs /\ Below w.heap.size w w' := by
  have h := zlh ⟨o.kd, o.nm, o.tm, us, o.en, o.hs, o.vr⟩ s ms fa ma ova oha fcap mcap cap cap' w hf hm ⟨⟨hsm.kd, hsm.nm, hsm.tm⟩, ho, ho'⟩ hA hA' (by show us.length <= _; omega) hl' (by show us.length = _; omega) hml hn hrd hwk
  simp only [oC, hnn] at h
  exact h
end Go.Proofs.YtkfigdbbncjojaaGreat
