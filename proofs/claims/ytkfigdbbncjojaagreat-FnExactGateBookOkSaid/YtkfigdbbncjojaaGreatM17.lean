import Derived.Test.YtkfigdbbncjojaaGreatM11
import Derived.Test.YtkfigdbbncjojaaGreatM14
import Derived.Test.YtkfigdbbncjojaaGreatM01
import Derived.WalkKit
import Derived.WalkSpells
import Derived.WalkLawsBesides
import Derived.Deep.QuietTactic
import Derived.BigQuiet
import Derived.Deep.RegionWith
import Derived.Test.YtkfigdbbncjojaaGreatM08
import Derived.Test.YtkfigdbbncjojaaGreatM15
namespace Go.Proofs.YtkfigdbbncjojaaGreat
open Go.RowKit
theorem zn1 {o : Ob} {l : Int} (h : (zce o : Int) <= l) (hl : l <= 1048576) : o.vs.length <= 1048576 /\ o.hs.length <= 1048576 := by
  unfold zce yX at h
  omega
end Go.Proofs.YtkfigdbbncjojaaGreat

namespace Go.Proofs.YtkfigdbbncjojaaGreat
open Go.RowKit
set_option maxHeartbeats 400000 in
theorem zbM (v : Int) (w : World) :
    Calls Tryz.prog 191 #[.int .i64 v] w fun e w' => e = .returned (.bool (Gate.zbY v)) /\ w' = w := by
  go_enter Tryz.func191, Tryz.ntmps191
  go_wp2
  all_goals
    go_ret
    refine ⟨ze ?_, rfl⟩
    rw [Bool.eq_iff_iff]; simp [Gate.zbY]; try omega
theorem Gate.ziE {vs : List Int} {k : Nat} (h : k < vs.length) (hn : Gate.zbY vs[k] = false) : Gate.jG vs k = false := by
  unfold Gate.jG; rw [Gate.getD_at vs k _ h, hn]; rfl
theorem Gate.zec {vs : List Int} (h : 0 < vs.length) (hn : Gate.zbY vs[0] = true) : Gate.jG vs 0 = true := by
  unfold Gate.jG; rw [Gate.getD_at vs 0 _ h, hn]; rfl
theorem Gate.zft {vs : List Int} {k : Nat} (h : k + 1 < vs.length) (hn : Gate.zbY vs[k + 1] = true) : Gate.jG vs (k + 1) = decide (vs[k] < vs[k + 1]) := by
  unfold Gate.jG; rw [Gate.getD_at vs (k + 1) _ h, Nat.add_sub_cancel, Gate.getD_at vs k _ (by omega), hn]; simp
set_option maxHeartbeats 1000000 in
theorem zjd (a : Option Addr) (cap : Nat) (vs : List Int) (w : World) (hw : yQ w a vs) :
    Calls Tryz.prog 170 #[.slice a vs.length cap] w fun e w' => e = .returned (.bool (Gate.za1 vs)) /\ w' = w := by
  have hl := hw.len
  unfold maxLen at hl
  have HG : Hid (Gate.up (Gate.jG vs) vs.length = false -> Gate.za1 vs = false) := fun h => by unfold Gate.za1; rw [h, Bool.and_false]
  go_enter Tryz.func170, Tryz.ntmps170
  go_wp2_with fail
  go_loop [7] (fun i => ∃ k : Nat, k <= vs.length /\ i = .int .i64 k /\ Gate.up (Gate.jG vs) k = true) (fun i => vs.length - (intOf i).toNat)
  case atStart => exact ⟨0, Nat.zero_le _, rfl, rfl⟩
  case round =>
    obtain ⟨k, hk, rfl, hup⟩ := hrel
    by_cases hlt : k < vs.length
    · obtain ⟨b, off, rfl, hb, hck⟩ := hw.load (Below.refl _ _) k hlt
      have hltI : (k : Int) < (vs.length : Int) := by omega
      by_cases hn : Gate.zbY vs[k] = true
      · by_cases hk0 : k = 0
        · have HF : Hid (Gate.up (Gate.jG vs) (k + 1) = true) := by subst hk0; unfold Hid; rw [Gate.je, Gate.zec hlt hn]; rfl
          have hg : decide (0 < k) = false := by simp; omega
          have HN := hid hn
          clear hn hup hk0 hw
          go_wp2_with (go_at_call 191; refine (zu HN.out (zbM _ _)).mono ?_; rintro e w' ⟨rfl, rfl⟩)
          go_round
          case rel => exact ⟨k + 1, by omega, by go_num, HF.out⟩
          case measure => simp [intOf]; omega
        · obtain ⟨m, rfl⟩ : ∃ m, k = m + 1 := ⟨k - 1, by omega⟩
          obtain ⟨b', off', e', hb', hcm⟩ := hw.load (Below.refl _ _) m (by omega)
          simp only [Option.some.injEq, Addr.mk.injEq] at e'
          obtain ⟨rfl, rfl, _⟩ := e'
          have HU : Hid (Gate.up (Gate.jG vs) (m + 1 + 1) = decide (vs[m] < vs[m + 1])) := by unfold Hid; rw [Gate.je, hup, Gate.zft hlt hn]; rfl
          have HNN : Hid (¬ vs[m] < vs[m + 1] -> Gate.za1 vs = false) := fun h => HG.out (Gate.zaF hlt (by rw [Gate.zft hlt hn]; simpa using h))
          have HN := hid hn
          clear hn hup hk0 hw
          by_cases hls : vs[m] < vs[m + 1]
          · have hls' : decide (vs[m + 1] <= vs[m]) = false := by simp; omega
            have HLS := hid hls
            clear hls
            go_wp2_with (go_at_call 191; refine (zu HN.out (zbM _ _)).mono ?_; rintro e w' ⟨rfl, rfl⟩)
            go_round
            case rel => exact ⟨m + 1 + 1, by omega, by go_num, by rw [HU.out]; simpa using HLS.out⟩
            case measure => simp [intOf]; omega
          · have hls' : vs[m + 1] <= vs[m] := by omega
            have HLS := hid hls
            clear hls
            go_wp2_with (go_at_call 191; refine (zu HN.out (zbM _ _)).mono ?_; rintro e w' ⟨rfl, rfl⟩)
            go_ret
            exact ⟨ze (HNN.out HLS.out).symm, rfl⟩
      · have hn' : Gate.zbY vs[k] = false := by simpa using hn
        have HF := hid (HG.out (Gate.zaF hlt (Gate.ziE hlt hn')))
        have HN := hid hn'
        clear hn hn' hup hw
        go_wp2_with (go_at_call 191; refine (zu HN.out (zbM _ _)).mono ?_; rintro e w' ⟨rfl, rfl⟩)
        go_ret
        exact ⟨ze HF.out.symm, rfl⟩
    · have HF : Hid (Gate.za1 vs = decide (0 < vs.length)) := by
        have e : k = vs.length := by omega
        subst e; unfold Hid Gate.za1; rw [hup, Bool.and_true]
      clear hw hup
      go_wp2_with fail
      go_ret
      exact ⟨ze (by rw [HF.out]), rfl⟩
end Go.Proofs.YtkfigdbbncjojaaGreat

namespace Go.Proofs.YtkfigdbbncjojaaGreat
open Go.RowKit
theorem zdD {α : Type} (p : α -> Bool) (l : List α) (k : Nat) (h : k < l.length) : (l.take (k + 1)).any p = ((l.take k).any p || p l[k]) := by
  rw [List.take_succ_eq_append_getElem h, List.any_append]; simp
theorem zm7 {α : Type} (p : α -> Bool) (l : List α) (k : Nat) (h : k < l.length) (hp : p l[k] = true) : l.any p = true := by
  rw [List.any_eq_true]; exact ⟨l[k], List.getElem_mem h, hp⟩
def ze9 (P : Program) (fid : Nat) (q : Value) (ts : List Tm) (w : World) (p : Tm -> Bool) : Prop :=
  ∀ w1, Below w.heap.size w w1 -> ∀ i (h : i < ts.length), Calls P fid #[.agg ts[i].cells, q] w1 fun e w' => e = .returned (.bool (p ts[i])) /\ Below w1.heap.size w1 w'
set_option maxHeartbeats 1000000 in
theorem zg5 (a : Option Addr) (cap : Nat) (ts : List Tm) (q : Value) (p : Tm -> Bool) (w : World) (hw : qP w a ts) (hf : ze9 Tryz.prog 159 q ts w p) :
    Calls Tryz.prog 160 #[.slice a ts.length cap, .func (.func 159) #[] #[q]] w fun e w' => ∃ r : Int, e = .returned (.int .i64 r) /\ decide (0 <= r) = ts.any p /\ Below w.heap.size w w' := by
  have hl := hw.len
  unfold maxLen at hl
  go_enter Tryz.func160, Tryz.ntmps160
  go_wp2_with fail
  go_loopw [8] (fun i wr => ∃ k : Nat, k <= ts.length /\ i = .int .i64 k /\ (ts.take k).any p = false /\ Below w.heap.size w wr) (fun i _ => ts.length - (intOf i).toNat)
  case atStart => exact ⟨0, Nat.zero_le _, rfl, rfl, Below.refl _ _⟩
  case round =>
    obtain ⟨k, hk, rfl, hno, hB⟩ := hrel
    by_cases hlt : k < ts.length
    · obtain ⟨b, off, rfl, hb, c0, c1⟩ := hw.load hB k hlt
      have hltI : (k : Int) < (ts.length : Int) := by omega
      have hc := hf wr hB k hlt
      clear hw hf
      by_cases he : p ts[k] = true
      · have HA : Hid (ts.any p = true) := zm7 p ts k hlt he
        have HE : Hid (p ts[k] = true) := he
        clear he hno
        go_wp2_with fail
        refine (zu HE.out hc).mono ?_
        rintro e w2 ⟨rfl, hb2⟩
        go_wp2_with fail
        go_ret
        exact ⟨_, rfl, by rw [HA.out]; simp, hB.trans (hb2.mono hB.size)⟩
      · have he' : p ts[k] = false := by simpa using he
        have HS : Hid ((ts.take (k + 1)).any p = false) := by unfold Hid; rw [zdD p ts k hlt, hno, he']; rfl
        have HE : Hid (p ts[k] = false) := he'
        clear he he' hno
        go_wp2_with fail
        refine (zu HE.out hc).mono ?_
        rintro e w2 ⟨rfl, hb2⟩
        go_wp2_with fail
        exact ⟨⟨k + 1, by omega, by go_num, HS.out, hB.trans (hb2.mono hB.size)⟩, by simp [intOf]; omega⟩
    · have HA : Hid (ts.any p = false) := by unfold Hid; rw [<- hno, List.take_of_length_le (by omega)]
      clear hno hw hf
      go_wp2_with fail
      go_ret
      exact ⟨_, rfl, by rw [HA.out]; rfl, hB⟩
set_option maxHeartbeats 400000 in
theorem zd7 (a : Option Addr) (cap : Nat) (ts : List Tm) (q : Value) (p : Tm -> Bool) (w : World) (hw : qP w a ts) (hf : ze9 Tryz.prog 159 q ts w p) :
    Calls Tryz.prog 110 #[.slice a ts.length cap, .func (.func 159) #[] #[q]] w fun e w' => e = .returned (.bool (ts.any p)) /\ Below w.heap.size w w' := by
  go_enter Tryz.func110, Tryz.ntmps110
  go_wp2_with fail
  refine (zg5 _ _ _ _ _ _ hw hf).mono ?_
  rintro e w2 ⟨r, rfl, hr, hb2⟩
  go_wp2_with fail
  go_ret
  exact ⟨rfl, hb2⟩
set_option maxHeartbeats 1000000 in
theorem zgW (a : Option Addr) (cap : Nat) (ts : List Tm) (q : Value) (p : Tm -> Bool) (w : World) (hw : qP w a ts) (hf : ze9 Tryz.prog 111 q ts w p) :
    Calls Tryz.prog 160 #[.slice a ts.length cap, .func (.func 111) #[] #[q]] w fun e w' => ∃ r : Int, e = .returned (.int .i64 r) /\ decide (0 <= r) = ts.any p /\ Below w.heap.size w w' := by
  have hl := hw.len
  unfold maxLen at hl
  go_enter Tryz.func160, Tryz.ntmps160
  go_wp2_with fail
  go_loopw [8] (fun i wr => ∃ k : Nat, k <= ts.length /\ i = .int .i64 k /\ (ts.take k).any p = false /\ Below w.heap.size w wr) (fun i _ => ts.length - (intOf i).toNat)
  case atStart => exact ⟨0, Nat.zero_le _, rfl, rfl, Below.refl _ _⟩
  case round =>
    obtain ⟨k, hk, rfl, hno, hB⟩ := hrel
    by_cases hlt : k < ts.length
    · obtain ⟨b, off, rfl, hb, c0, c1⟩ := hw.load hB k hlt
      have hltI : (k : Int) < (ts.length : Int) := by omega
      have hc := hf wr hB k hlt
      clear hw hf
      by_cases he : p ts[k] = true
      · have HA : Hid (ts.any p = true) := zm7 p ts k hlt he
        have HE : Hid (p ts[k] = true) := he
        clear he hno
        go_wp2_with fail
        refine (zu HE.out hc).mono ?_
        rintro e w2 ⟨rfl, hb2⟩
        go_wp2_with fail
        go_ret
        exact ⟨_, rfl, by rw [HA.out]; simp, hB.trans (hb2.mono hB.size)⟩
      · have he' : p ts[k] = false := by simpa using he
        have HS : Hid ((ts.take (k + 1)).any p = false) := by unfold Hid; rw [zdD p ts k hlt, hno, he']; rfl
        have HE : Hid (p ts[k] = false) := he'
        clear he he' hno
        go_wp2_with fail
        refine (zu HE.out hc).mono ?_
        rintro e w2 ⟨rfl, hb2⟩
        go_wp2_with fail
        exact ⟨⟨k + 1, by omega, by go_num, HS.out, hB.trans (hb2.mono hB.size)⟩, by simp [intOf]; omega⟩
    · have HA : Hid (ts.any p = false) := by unfold Hid; rw [<- hno, List.take_of_length_le (by omega)]
      clear hno hw hf
      go_wp2_with fail
      go_ret
      exact ⟨_, rfl, by rw [HA.out]; rfl, hB⟩
set_option maxHeartbeats 400000 in
theorem zef (a : Option Addr) (cap : Nat) (ts : List Tm) (q : Value) (p : Tm -> Bool) (w : World) (hw : qP w a ts) (hf : ze9 Tryz.prog 111 q ts w p) :
    Calls Tryz.prog 110 #[.slice a ts.length cap, .func (.func 111) #[] #[q]] w fun e w' => e = .returned (.bool (ts.any p)) /\ Below w.heap.size w w' := by
  go_enter Tryz.func110, Tryz.ntmps110
  go_wp2_with fail
  refine (zgW _ _ _ _ _ _ hw hf).mono ?_
  rintro e w2 ⟨r, rfl, hr, hb2⟩
  go_wp2_with fail
  go_ret
  exact ⟨rfl, hb2⟩
set_option maxHeartbeats 400000 in
theorem zjr (t : Tm) (v : ByteArray) (bn : Nat) (w : World) (hb : bn < w.heap.size) (hn : w.cell? ⟨bn, 0, none⟩ = some (.string v)) :
    Calls Tryz.prog 159 #[.agg t.cells, .pointer (some ⟨bn, 0, none⟩)] w fun e w' => e = .returned (.bool (t.nm.toList == v.toList)) /\ Below w.heap.size w w' := by
  unfold Tm.cells
  go_enter Tryz.func159, Tryz.ntmps159
  go_wp2_with fail
  go_ret
  exact ⟨rfl, (Below.refl _ _).alloc (Nat.le_refl _) _⟩
theorem zk0 (ts : List Tm) (v : ByteArray) (bn : Nat) (w : World) (hb : bn < w.heap.size) (hn : w.cell? ⟨bn, 0, none⟩ = some (.string v)) :
    ze9 Tryz.prog 159 (.pointer (some ⟨bn, 0, none⟩)) ts w (fun t => decide (t.nm = v)) := fun w1 hB i hi => by
  refine (zjr ts[i] v bn w1 (Nat.lt_of_lt_of_le hb hB.size) ((hB.cell (p := ⟨bn, 0, none⟩) hb).trans hn)).mono ?_
  rintro e w' ⟨rfl, hb'⟩
  exact ⟨ze (Gate.beq_toList _ _), hb'⟩
set_option maxHeartbeats 400000 in
theorem zbt (a : Option Addr) (cap : Nat) (ts : List Tm) (v : ByteArray) (w : World) (hw : qP w a ts) :
    Calls Tryz.prog 109 #[.slice a ts.length cap, .string v] w fun e w' => e = .returned (.bool (Gate.z8 ts v)) /\ Below w.heap.size w w' := by
  go_enter Tryz.func109, Tryz.ntmps109
  go_wp2_with fail
  refine (zd7 _ _ _ _ _ _ (hw.mono ((Below.refl _ _).alloc (Nat.le_refl _) _)) (zk0 ts v _ _ (by simp) (by rw [World.cell?_alloc_at _ _ _ _ rfl]; rfl))).mono ?_
  rintro e w2 ⟨rfl, hb2⟩
  go_wp2_with fail
  go_ret
  exact ⟨rfl, ((Below.refl _ _).alloc (Nat.le_refl _) _).trans (hb2.mono (by simp))⟩
set_option maxHeartbeats 800000 in
theorem zh7 (a : Option Addr) (cap : Nat) (ts : List Tm) (t : Tm) (w : World) (hw : qP w a ts) :
    Calls Tryz.prog 112 #[.slice a ts.length cap, .agg t.cells] w fun e w' => e = .returned (.bool (!Gate.zcq ts t)) /\ Below w.heap.size w w' := by
  unfold Tm.cells
  go_enter Tryz.func112, Tryz.ntmps112
  go_wp2_with fail
  go_loopw [5, 8] (fun p i wr => ∃ (k : Nat) (z : ByteArray), k <= 4 /\ p = .string z /\ i = .int .i64 k /\ Gate.zdc ts 4 t.ov = Gate.zdc ts (4 - k) z /\ Below w.heap.size w wr) (fun _ i _ => 4 - (intOf i).toNat)
  case atStart => exact ⟨0, t.ov, Nat.zero_le _, rfl, rfl, rfl, (Below.refl _ _).alloc (Nat.le_refl _) _⟩
  case round =>
    obtain ⟨k, z, hk, rfl, rfl, hz, hB⟩ := hrel
    by_cases hlt : k < 4
    · have hltI : (k : Int) < 4 := by omega
      have HZ : Hid (Gate.zdc ts 4 t.ov = Gate.zdc ts (4 - (k + 1)) (Gate.over ts z)) := by
        obtain ⟨m, hm⟩ : ∃ m, 4 - k = m + 1 := ⟨3 - k, by omega⟩
        rw [Hid, hz, hm, show 4 - (k + 1) = m by omega]; rfl
      clear hz
      go_wp2_with fail
      refine (zcJ _ _ _ _ _ (hw.mono hB)).mono ?_
      rintro e w1 ⟨rfl, hb1⟩
      have hB1 := hB.trans (hb1.mono hB.size)
      clear hb1
      go_wp2_with fail
      exact ⟨⟨k + 1, Gate.over ts z, by omega, rfl, by go_num, HZ.out, hB1⟩, by simp [intOf]; omega⟩
    · have HF : Hid (Gate.zcq ts t = z.toList.isEmpty) := by
        have e : 4 - k = 0 := by omega
        rw [e] at hz
        unfold Hid Gate.zcq
        rw [hz, Gate.zo]; rfl
      clear hz
      go_wp2_with fail
      go_ret
      exact ⟨ze (by rw [HF.out]), hB⟩
set_option maxHeartbeats 400000 in
theorem zlF (a : Option Addr) (cap : Nat) (ts : List Tm) (t : Tm) (bn : Nat) (w : World) (hw : qP w a ts) (hb : bn < w.heap.size) (hn : w.cell? ⟨bn, 0, none⟩ = some (.slice a ts.length cap)) :
    Calls Tryz.prog 111 #[.agg t.cells, .pointer (some ⟨bn, 0, none⟩)] w fun e w' => e = .returned (.bool (!Gate.zcq ts t)) /\ Below w.heap.size w w' := by
  unfold Tm.cells
  go_enter Tryz.func111, Tryz.ntmps111
  go_wp2_with fail
  refine (zh7 _ _ _ t _ (hw.mono ((Below.refl _ _).alloc (Nat.le_refl _) _))).mono ?_
  rintro e w2 ⟨rfl, hb2⟩
  go_wp2_with fail
  go_ret
  exact ⟨rfl, ((Below.refl _ _).alloc (Nat.le_refl _) _).trans (hb2.mono (by simp))⟩
theorem zmD (a : Option Addr) (cap : Nat) (ts : List Tm) (bn : Nat) (w : World) (hw : qP w a ts) (hb : bn < w.heap.size) (hn : w.cell? ⟨bn, 0, none⟩ = some (.slice a ts.length cap)) :
    ze9 Tryz.prog 111 (.pointer (some ⟨bn, 0, none⟩)) ts w (fun t => !Gate.zcq ts t) := fun w1 hB i _ =>
  zlF a cap ts ts[i] bn w1 (hw.mono hB) (Nat.lt_of_lt_of_le hb hB.size) ((hB.cell (p := ⟨bn, 0, none⟩) hb).trans hn)
end Go.Proofs.YtkfigdbbncjojaaGreat

namespace Go.Proofs.YtkfigdbbncjojaaGreat
open Go.RowKit
set_option maxHeartbeats 800000 in
theorem zit (a : Option Addr) (cap : Nat) (ts : List Tm) (x y : ByteArray) (w : World) (hw : qP w a ts) :
    Calls Tryz.prog 98 #[.slice a ts.length cap, .string x, .string y] w fun e w' => e = .returned (.bool (Gate.under ts 4 x y)) /\ w' = w := by
  by_cases hxy : x = y
  · have HF := hid (Gate.zcB ts 4 x y hxy)
    have hbe : (x.toList == y.toList) = true := by rw [Gate.beq_toList]; simpa using hxy
    clear hxy
    go_enter Tryz.func98, Tryz.ntmps98
    go_wp2_with fail
    go_ret
    exact ⟨ze HF.out.symm, rfl⟩
  have hbe : (x.toList == y.toList) = false := by rw [Gate.beq_toList]; simpa using hxy
  have HXY := hid hxy
  clear hxy
  go_enter Tryz.func98, Tryz.ntmps98
  go_wp2_with fail
  go_loop [1, 7] (fun p i => ∃ (k : Nat) (z : ByteArray), k <= 4 /\ p = .string z /\ i = .int .i64 k /\ ¬ z = y /\ Gate.under ts 4 x y = Gate.under ts (4 - k) z y) (fun _ i => 4 - (intOf i).toNat)
  case atStart => exact ⟨0, x, Nat.zero_le _, rfl, rfl, HXY.out, rfl⟩
  case round =>
    obtain ⟨k, z, hk, rfl, rfl, hz, hu⟩ := hrel
    have HZ := jO hz hu
    clear hz hu hbe
    by_cases hlt : k < 4
    · have hltI : (k : Int) < 4 := by omega
      obtain ⟨m, hm⟩ : ∃ m, 4 - k = m + 1 := ⟨3 - k, by omega⟩
      by_cases h0 : (Gate.over ts z).size = 0
      · have HF : Hid (Gate.under ts 4 x y = false) := by rw [HZ.out.2, hm]; exact Gate.zgU ts m HZ.out.1 h0
        have h0' : (Gate.over ts z).toList.isEmpty = true := by rw [Gate.zo]; simpa using h0
        clear h0 hm
        go_wp2_with (go_at_call 90; refine (zby _ _ _ _ _ hw).mono ?_; rintro e w' ⟨rfl, rfl⟩)
        go_ret
        exact ⟨ze HF.out.symm, rfl⟩
      · have HO : Hid (Gate.under ts 4 x y = Gate.under ts m (Gate.over ts z) y) := by rw [Hid, HZ.out.2, hm]; exact Gate.zkP ts m HZ.out.1 h0
        have h0' : (Gate.over ts z).toList.isEmpty = false := by rw [Gate.zo]; simpa using h0
        clear h0
        by_cases hy : Gate.over ts z = y
        · have HF : Hid (Gate.under ts 4 x y = true) := by rw [Hid, HO.out]; exact Gate.zcB ts m _ _ hy
          have hy' : ((Gate.over ts z).toList == y.toList) = true := by rw [Gate.beq_toList]; simpa using hy
          clear hy
          go_wp2_with (go_at_call 90; refine (zby _ _ _ _ _ hw).mono ?_; rintro e w' ⟨rfl, rfl⟩)
          go_ret
          exact ⟨ze HF.out.symm, rfl⟩
        · have hy' : ((Gate.over ts z).toList == y.toList) = false := by rw [Gate.beq_toList]; simpa using hy
          have HY := hid hy
          clear hy
          go_wp2_with (go_at_call 90; refine (zby _ _ _ _ _ hw).mono ?_; rintro e w' ⟨rfl, rfl⟩)
          go_round
          case rel => exact ⟨k + 1, Gate.over ts z, by omega, rfl, by go_num, HY.out, by rw [HO.out, show 4 - (k + 1) = m by omega]⟩
          case measure => simp [intOf]; omega
    · have HF : Hid (Gate.under ts 4 x y = false) := by
        have e : 4 - k = 0 := by omega
        rw [Hid, HZ.out.2, e]; exact Gate.zi1 ts HZ.out.1
      go_wp2_with fail
      go_ret
      exact ⟨ze HF.out.symm, rfl⟩
set_option maxHeartbeats 800000 in
theorem zh1 (a : Option Addr) (cap : Nat) (ts : List Tm) (x y : ByteArray) (w : World) (hw : qP w a ts) :
    Calls Tryz.prog 192 #[.slice a ts.length cap, .string x, .string y] w fun e w' => e = .returned (.bool (Gate.under ts 4 x y)) /\ Below w.heap.size w w' := by
  by_cases hxy : x = y
  · have HF := hid (Gate.zcB ts 4 x y hxy)
    have hbe : (x.toList == y.toList) = true := by rw [Gate.beq_toList]; simpa using hxy
    clear hxy
    go_enter Tryz.func192, Tryz.ntmps192
    go_wp2_with fail
    go_ret
    exact ⟨ze HF.out.symm, Below.refl _ _⟩
  have hbe : (x.toList == y.toList) = false := by rw [Gate.beq_toList]; simpa using hxy
  have HXY := hid hxy
  clear hxy
  go_enter Tryz.func192, Tryz.ntmps192
  go_wp2_with fail
  go_loopw [1, 10] (fun p i wr => ∃ (k : Nat) (z : ByteArray), k <= 4 /\ p = .string z /\ i = .int .i64 k /\ ¬ z = y /\ Gate.under ts 4 x y = Gate.under ts (4 - k) z y /\ Below w.heap.size w wr) (fun _ i _ => 4 - (intOf i).toNat)
  case atStart => exact ⟨0, x, Nat.zero_le _, rfl, rfl, HXY.out, rfl, Below.refl _ _⟩
  case round =>
    obtain ⟨k, z, hk, rfl, rfl, hz, hu, hB⟩ := hrel
    have HZ := jO hz hu
    clear hz hu hbe
    by_cases hlt : k < 4
    · have hltI : (k : Int) < 4 := by omega
      obtain ⟨m, hm⟩ : ∃ m, 4 - k = m + 1 := ⟨3 - k, by omega⟩
      by_cases h0 : (Gate.over ts z).size = 0
      · have HF : Hid (Gate.under ts 4 x y = false) := by rw [HZ.out.2, hm]; exact Gate.zgU ts m HZ.out.1 h0
        have h0' : (Gate.over ts z).toList.isEmpty = true := by rw [Gate.zo]; simpa using h0
        clear h0 hm
        go_wp2_with fail
        refine (zcJ _ _ _ _ _ (hw.mono hB)).mono ?_
        rintro e w1 ⟨rfl, hb1⟩
        have hB1 := hB.trans (hb1.mono hB.size)
        clear hb1
        go_wp2_with fail
        go_ret
        exact ⟨ze HF.out.symm, hB1⟩
      · have HO : Hid (Gate.under ts 4 x y = Gate.under ts m (Gate.over ts z) y) := by rw [Hid, HZ.out.2, hm]; exact Gate.zkP ts m HZ.out.1 h0
        have h0' : (Gate.over ts z).toList.isEmpty = false := by rw [Gate.zo]; simpa using h0
        clear h0
        by_cases hy : Gate.over ts z = y
        · have HF : Hid (Gate.under ts 4 x y = true) := by rw [Hid, HO.out]; exact Gate.zcB ts m _ _ hy
          have hy' : ((Gate.over ts z).toList == y.toList) = true := by rw [Gate.beq_toList]; simpa using hy
          clear hy
          go_wp2_with fail
          refine (zcJ _ _ _ _ _ (hw.mono hB)).mono ?_
          rintro e w1 ⟨rfl, hb1⟩
          have hB1 := hB.trans (hb1.mono hB.size)
          clear hb1
          go_wp2_with fail
          go_ret
          exact ⟨ze HF.out.symm, hB1⟩
        · have hy' : ((Gate.over ts z).toList == y.toList) = false := by rw [Gate.beq_toList]; simpa using hy
          have HY := hid hy
          clear hy
          go_wp2_with fail
          refine (zcJ _ _ _ _ _ (hw.mono hB)).mono ?_
          rintro e w1 ⟨rfl, hb1⟩
          have hB1 := hB.trans (hb1.mono hB.size)
          clear hb1
          go_wp2_with fail
          exact ⟨⟨k + 1, Gate.over ts z, by omega, rfl, by go_num, HY.out, by rw [HO.out, show 4 - (k + 1) = m by omega], hB1⟩, by simp [intOf]; omega⟩
    · have HF : Hid (Gate.under ts 4 x y = false) := by
        have e : 4 - k = 0 := by omega
        rw [Hid, HZ.out.2, e]; exact Gate.zi1 ts HZ.out.1
      go_wp2_with fail
      go_ret
      exact ⟨ze HF.out.symm, hB⟩
end Go.Proofs.YtkfigdbbncjojaaGreat

namespace Go.Proofs.YtkfigdbbncjojaaGreat
open Go.ChangeShapes Go.WideShapes Go.ChangeAt Go.RowKit
theorem Tryz.zmw : Tryz.prog.cellsOf 91 = 1 := by kernel_rfl
theorem Tryz.ziH : Tryz.prog.cellsOf 93 = 4 := by kernel_rfl
section
variable {H : Type} {enc : TypeId × Value -> H} {w : World} {base : Nat} {spare : Nat -> Bool} {held : Bool}
theorem zmT {fuel : Nat} {cs : List Value} {x : DataW H × List MemPlace} (h : DataW.trod enc Tryz.prog w base spare held fuel 91 cs = some x) :
    ∃ a cap vs, cs = [.slice a (List.length vs) cap] /\ yQ w a vs := by
  obtain ⟨a, len, cap, rfl, hm, hr⟩ := jY Tryz.underlying91 Tryz.qW (by omega) h
  rcases Nat.eq_zero_or_pos len with h0 | hp
  · subst h0
    exact ⟨a, cap, [], rfl, ⟨by simp [maxLen], fun h => absurd rfl h⟩⟩
  · obtain ⟨b, off, rfl, hb, hrow⟩ := hr hp
    have hf : ∀ i, i < len -> ∃ v : Int, w.cell? ⟨b, off + i, none⟩ = some (.int .i64 v) := by
      intro i hi
      obtain ⟨es, n, y, hel, hcell, hy⟩ := hrow i hi
      obtain ⟨v, e0, _, _⟩ := DataW.trod_int Tryz.underlying3 hy
      subst e0
      exact ⟨v, by simpa using hcell 0 (by omega)⟩
    obtain ⟨vs, hl, hvs⟩ := zaW len hf
    exact ⟨_, cap, vs, by rw [hl], ⟨by omega, fun _ => ⟨b, off, rfl, hb, hvs⟩⟩⟩
theorem zmk {fuel : Nat} {cs : List Value} {x : DataW H × List MemPlace} (h : DataW.trod enc Tryz.prog w base spare held fuel 93 cs = some x) :
    ∃ (r : Rl) (a : Option Addr) (cap : Nat), cs = (r.cells a cap).toList /\ r.Small /\ yQ w a r.vs := by
  have hlen : cs.length = 4 := by
    obtain ⟨_, _, _, _, hl, _, _⟩ := DataW.trod_struct Tryz.underlying93 h
    rw [hl]; exact Tryz.ziH
  match cs, hlen with
  | [c0, c1, c2, c3], _ =>
    have hf := jk Tryz.underlying93 h
    obtain ⟨_, _, f0⟩ := hf 0 91 0 c0 rfl Tryz.zmw rfl
    obtain ⟨_, _, f1⟩ := hf 1 9 1 c1 rfl Tryz.zJ rfl
    obtain ⟨_, _, f2⟩ := hf 2 9 2 c2 rfl Tryz.zJ rfl
    obtain ⟨_, _, f3⟩ := hf 3 9 3 c3 rfl Tryz.zJ rfl
    obtain ⟨a, cap, vs, e0, hI⟩ := zmT f0
    obtain ⟨x1, e1, _, s1⟩ := DataW.trod_string Tryz.underlying9 f1
    obtain ⟨x2, e2, _, s2⟩ := DataW.trod_string Tryz.underlying9 f2
    obtain ⟨x3, e3, _, s3⟩ := DataW.trod_string Tryz.underlying9 f3
    simp only [List.cons.injEq, and_true] at e0 e1 e2 e3
    subst e0 e1 e2 e3
    exact ⟨⟨vs, x1, x2, x3⟩, a, cap, rfl, ⟨s1, s2, s3⟩, hI⟩
end
end Go.Proofs.YtkfigdbbncjojaaGreat
