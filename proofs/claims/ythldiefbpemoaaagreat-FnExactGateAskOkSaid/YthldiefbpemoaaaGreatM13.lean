import Derived.Test.YthldiefbpemoaaaGreatM07
import Derived.Test.YthldiefbpemoaaaGreatM10
import Derived.Test.YthldiefbpemoaaaGreatM12
namespace Go.Proofs.YthldiefbpemoaaaGreat
open Go.RowKit

theorem ret_str {a b : ByteArray} (h : a = b) : Ending.returned (.string a) = .returned (.string b) := by rw [h]

theorem over_small (ts : List Tm) (v : ByteArray) (hs : ∀ i (h : i < ts.length), ts[i].Small) : (Gate.over ts v).size ≤ maxLen := by
  unfold Gate.over
  cases hf : ts.find? (fun t => decide (t.nm = v)) with
  | none => simp [Gate.noTeam, maxLen]
  | some t =>
    obtain ⟨k, hk, rfl⟩ := List.mem_iff_getElem.1 (List.mem_of_find?_eq_some hf)
    exact (hs k hk).ov

set_option maxHeartbeats 400000 in
theorem l4Over_any (a : Option Addr) (cap : Nat) (ts : List Tm) (v : ByteArray) (w : World) (hw : TmsAt w a ts) :
    Calls Tryz.prog 63 #[.slice a ts.length cap, .string v] w fun e w' => e = .returned (.string (Gate.over ts v)) ∧ w' = w := by
  have hl := hw.len
  unfold maxLen at hl
  go_enter Tryz.func63, Tryz.ntmps63
  go_wp2_with fail
  go_loop [5] (fun i => ∃ k : Nat, k ≤ ts.length ∧ i = .int .i64 k ∧ Gate.hasTeam (ts.take k) v = false) (fun i => ts.length - (intOf i).toNat)
  case atStart => exact ⟨0, Nat.zero_le _, rfl, rfl⟩
  case round =>
    obtain ⟨k, hk, rfl, hall⟩ := hrel
    by_cases hlt : k < ts.length
    · obtain ⟨b, off, rfl, hb, c0, c1⟩ := hw.load (Below.refl _ _) k hlt
      clear hw
      have HS : Hid (Gate.hasTeam (ts.take (k + 1)) v = (false || decide (ts[k].nm = v))) := by rw [Gate.hasTeam_snoc ts v k hlt, hall]; rfl
      have hltI : (k : Int) < (ts.length : Int) := by omega
      by_cases he : ts[k].nm = v
      · have hbe : (ts[k].nm.toList == v.toList) = true := by rw [Gate.beq_toList]; simpa using he
        have HR : Hid (Gate.over ts v = ts[k].ov) := Gate.over_at ts v k hlt hall he
        clear he hall
        go_wp2_with fail
        go_ret
        exact ⟨ret_str HR.out.symm, rfl⟩
      · have hbe : (ts[k].nm.toList == v.toList) = false := by rw [Gate.beq_toList]; simpa using he
        have HE : Hid (¬ ts[k].nm = v) := he
        clear he hall
        go_wp2_with fail
        go_round
        case rel => exact ⟨k + 1, by omega, by go_num, by rw [HS.out, decide_eq_false HE.out]; rfl⟩
        case measure => simp [intOf]; omega
    · have HR : Hid (Gate.over ts v = ByteArray.empty) := Gate.over_none ts v (by rw [← Gate.hasTeam_all ts v k (by omega)]; exact hall)
      clear hall hw
      go_wp2_with fail
      go_ret
      exact ⟨ret_str HR.out.symm, rfl⟩

set_option maxHeartbeats 800000 in
theorem overOf_any (a : Option Addr) (cap : Nat) (ts : List Tm) (v : ByteArray) (w : World) (hw : TmsAt w a ts) :
    Calls Tryz.prog 99 #[.slice a ts.length cap, .string v] w fun e w' => e = .returned (.string (Gate.over ts v)) ∧ Below w.heap.size w w' := by
  have hl := hw.len
  unfold maxLen at hl
  go_enter Tryz.func99, Tryz.ntmps99
  go_wp2_with fail
  go_loopw [9] (fun i wr => ∃ k : Nat, k ≤ ts.length ∧ i = .int .i64 k ∧ Gate.hasTeam (ts.take k) v = false ∧ Below w.heap.size w wr) (fun i _ => ts.length - (intOf i).toNat)
  case atStart => exact ⟨0, Nat.zero_le _, rfl, rfl, Below.refl _ _⟩
  case round =>
    obtain ⟨k, hk, rfl, hall, hB⟩ := hrel
    have hsz := hB.size
    by_cases hlt : k < ts.length
    · obtain ⟨b, off, rfl, hb, c0, c1⟩ := hw.load hB k hlt
      clear hw
      have HS : Hid (Gate.hasTeam (ts.take (k + 1)) v = (false || decide (ts[k].nm = v))) := by rw [Gate.hasTeam_snoc ts v k hlt, hall]; rfl
      have hltI : (k : Int) < (ts.length : Int) := by omega
      have hbr : b < wr.heap.size := by omega
      by_cases he : ts[k].nm = v
      · have hbe : (ts[k].nm.toList == v.toList) = true := by rw [Gate.beq_toList]; simpa using he
        have HR : Hid (Gate.over ts v = ts[k].ov) := Gate.over_at ts v k hlt hall he
        clear he hall
        go_wp2_with fail
        go_ret
        exact ⟨ret_str HR.out.symm, hB.alloc hsz _⟩
      · have hbe : (ts[k].nm.toList == v.toList) = false := by rw [Gate.beq_toList]; simpa using he
        have HE : Hid (¬ ts[k].nm = v) := he
        clear he hall
        go_wp2_with fail
        exact ⟨⟨k + 1, by omega, by go_num, by rw [HS.out, decide_eq_false HE.out]; rfl, hB.alloc hsz _⟩, by simp [intOf]; omega⟩
    · have HR : Hid (Gate.over ts v = ByteArray.empty) := Gate.over_none ts v (by rw [← Gate.hasTeam_all ts v k (by omega)]; exact hall)
      clear hall hw
      go_wp2_with fail
      go_ret
      exact ⟨ret_str HR.out.symm, hB⟩

end Go.Proofs.YthldiefbpemoaaaGreat

namespace Go.Proofs.YthldiefbpemoaaaGreat
open Go.RowKit

theorem any_take_snoc {α : Type} (p : α → Bool) (l : List α) (k : Nat) (h : k < l.length) : (l.take (k + 1)).any p = ((l.take k).any p || p l[k]) := by
  rw [List.take_succ_eq_append_getElem h, List.any_append]; simp
theorem any_at {α : Type} (p : α → Bool) (l : List α) (k : Nat) (h : k < l.length) (hp : p l[k] = true) : l.any p = true := by
  rw [List.any_eq_true]; exact ⟨l[k], List.getElem_mem h, hp⟩

/-- A function value of one captured box, called at each team: what it answers. -/
def TeamFn (P : Program) (fid : Nat) (q : Value) (ts : List Tm) (w : World) (p : Tm → Bool) : Prop :=
  ∀ w1, Below w.heap.size w w1 → ∀ i (h : i < ts.length), Calls P fid #[.agg ts[i].cells, q] w1 fun e w' => e = .returned (.bool (p ts[i])) ∧ Below w1.heap.size w1 w'

set_option maxHeartbeats 1000000 in
theorem IndexFuncT_any (a : Option Addr) (cap : Nat) (ts : List Tm) (q : Value) (p : Tm → Bool) (w : World) (hw : TmsAt w a ts) (hf : TeamFn Tryz.prog 97 q ts w p) :
    Calls Tryz.prog 98 #[.slice a ts.length cap, .func (.func 97) #[] #[q]] w fun e w' => ∃ r : Int, e = .returned (.int .i64 r) ∧ decide (0 ≤ r) = ts.any p ∧ Below w.heap.size w w' := by
  have hl := hw.len
  unfold maxLen at hl
  go_enter Tryz.func98, Tryz.ntmps98
  go_wp2_with fail
  go_loopw [8] (fun i wr => ∃ k : Nat, k ≤ ts.length ∧ i = .int .i64 k ∧ (ts.take k).any p = false ∧ Below w.heap.size w wr) (fun i _ => ts.length - (intOf i).toNat)
  case atStart => exact ⟨0, Nat.zero_le _, rfl, rfl, Below.refl _ _⟩
  case round =>
    obtain ⟨k, hk, rfl, hno, hB⟩ := hrel
    by_cases hlt : k < ts.length
    · obtain ⟨b, off, rfl, hb, c0, c1⟩ := hw.load hB k hlt
      have hltI : (k : Int) < (ts.length : Int) := by omega
      have hc := hf wr hB k hlt
      clear hw hf
      by_cases he : p ts[k] = true
      · have HA : Hid (ts.any p = true) := any_at p ts k hlt he
        have HE : Hid (p ts[k] = true) := he
        clear he hno
        go_wp2_with fail
        refine (as_bool HE.out hc).mono ?_
        rintro e w2 ⟨rfl, hb2⟩
        go_wp2_with fail
        go_ret
        exact ⟨_, rfl, by rw [HA.out]; simp, hB.trans (hb2.mono hB.size)⟩
      · have he' : p ts[k] = false := by simpa using he
        have HS : Hid ((ts.take (k + 1)).any p = false) := by unfold Hid; rw [any_take_snoc p ts k hlt, hno, he']; rfl
        have HE : Hid (p ts[k] = false) := he'
        clear he he' hno
        go_wp2_with fail
        refine (as_bool HE.out hc).mono ?_
        rintro e w2 ⟨rfl, hb2⟩
        go_wp2_with fail
        exact ⟨⟨k + 1, by omega, by go_num, HS.out, hB.trans (hb2.mono hB.size)⟩, by simp [intOf]; omega⟩
    · have HA : Hid (ts.any p = false) := by unfold Hid; rw [← hno, List.take_of_length_le (by omega)]
      clear hno hw hf
      go_wp2_with fail
      go_ret
      exact ⟨_, rfl, by rw [HA.out]; rfl, hB⟩

set_option maxHeartbeats 400000 in
theorem ContainsFuncT_any (a : Option Addr) (cap : Nat) (ts : List Tm) (q : Value) (p : Tm → Bool) (w : World) (hw : TmsAt w a ts) (hf : TeamFn Tryz.prog 97 q ts w p) :
    Calls Tryz.prog 72 #[.slice a ts.length cap, .func (.func 97) #[] #[q]] w fun e w' => e = .returned (.bool (ts.any p)) ∧ Below w.heap.size w w' := by
  go_enter Tryz.func72, Tryz.ntmps72
  go_wp2_with fail
  refine (IndexFuncT_any _ _ _ _ _ _ hw hf).mono ?_
  rintro e w2 ⟨r, rfl, hr, hb2⟩
  go_wp2_with fail
  go_ret
  exact ⟨rfl, hb2⟩

set_option maxHeartbeats 1000000 in
theorem IndexFuncU_any (a : Option Addr) (cap : Nat) (ts : List Tm) (q : Value) (p : Tm → Bool) (w : World) (hw : TmsAt w a ts) (hf : TeamFn Tryz.prog 73 q ts w p) :
    Calls Tryz.prog 98 #[.slice a ts.length cap, .func (.func 73) #[] #[q]] w fun e w' => ∃ r : Int, e = .returned (.int .i64 r) ∧ decide (0 ≤ r) = ts.any p ∧ Below w.heap.size w w' := by
  have hl := hw.len
  unfold maxLen at hl
  go_enter Tryz.func98, Tryz.ntmps98
  go_wp2_with fail
  go_loopw [8] (fun i wr => ∃ k : Nat, k ≤ ts.length ∧ i = .int .i64 k ∧ (ts.take k).any p = false ∧ Below w.heap.size w wr) (fun i _ => ts.length - (intOf i).toNat)
  case atStart => exact ⟨0, Nat.zero_le _, rfl, rfl, Below.refl _ _⟩
  case round =>
    obtain ⟨k, hk, rfl, hno, hB⟩ := hrel
    by_cases hlt : k < ts.length
    · obtain ⟨b, off, rfl, hb, c0, c1⟩ := hw.load hB k hlt
      have hltI : (k : Int) < (ts.length : Int) := by omega
      have hc := hf wr hB k hlt
      clear hw hf
      by_cases he : p ts[k] = true
      · have HA : Hid (ts.any p = true) := any_at p ts k hlt he
        have HE : Hid (p ts[k] = true) := he
        clear he hno
        go_wp2_with fail
        refine (as_bool HE.out hc).mono ?_
        rintro e w2 ⟨rfl, hb2⟩
        go_wp2_with fail
        go_ret
        exact ⟨_, rfl, by rw [HA.out]; simp, hB.trans (hb2.mono hB.size)⟩
      · have he' : p ts[k] = false := by simpa using he
        have HS : Hid ((ts.take (k + 1)).any p = false) := by unfold Hid; rw [any_take_snoc p ts k hlt, hno, he']; rfl
        have HE : Hid (p ts[k] = false) := he'
        clear he he' hno
        go_wp2_with fail
        refine (as_bool HE.out hc).mono ?_
        rintro e w2 ⟨rfl, hb2⟩
        go_wp2_with fail
        exact ⟨⟨k + 1, by omega, by go_num, HS.out, hB.trans (hb2.mono hB.size)⟩, by simp [intOf]; omega⟩
    · have HA : Hid (ts.any p = false) := by unfold Hid; rw [← hno, List.take_of_length_le (by omega)]
      clear hno hw hf
      go_wp2_with fail
      go_ret
      exact ⟨_, rfl, by rw [HA.out]; rfl, hB⟩

set_option maxHeartbeats 400000 in
theorem ContainsFuncU_any (a : Option Addr) (cap : Nat) (ts : List Tm) (q : Value) (p : Tm → Bool) (w : World) (hw : TmsAt w a ts) (hf : TeamFn Tryz.prog 73 q ts w p) :
    Calls Tryz.prog 72 #[.slice a ts.length cap, .func (.func 73) #[] #[q]] w fun e w' => e = .returned (.bool (ts.any p)) ∧ Below w.heap.size w w' := by
  go_enter Tryz.func72, Tryz.ntmps72
  go_wp2_with fail
  refine (IndexFuncU_any _ _ _ _ _ _ hw hf).mono ?_
  rintro e w2 ⟨r, rfl, hr, hb2⟩
  go_wp2_with fail
  go_ret
  exact ⟨rfl, hb2⟩

set_option maxHeartbeats 400000 in
theorem isTeamFn_any (t : Tm) (v : ByteArray) (bn : Nat) (w : World) (hb : bn < w.heap.size) (hn : w.cell? ⟨bn, 0, none⟩ = some (.string v)) :
    Calls Tryz.prog 97 #[.agg t.cells, .pointer (some ⟨bn, 0, none⟩)] w fun e w' => e = .returned (.bool (t.nm.toList == v.toList)) ∧ Below w.heap.size w w' := by
  unfold Tm.cells
  go_enter Tryz.func97, Tryz.ntmps97
  go_wp2_with fail
  go_ret
  exact ⟨rfl, (Below.refl _ _).alloc (Nat.le_refl _) _⟩

theorem isTeamFn_fn (ts : List Tm) (v : ByteArray) (bn : Nat) (w : World) (hb : bn < w.heap.size) (hn : w.cell? ⟨bn, 0, none⟩ = some (.string v)) :
    TeamFn Tryz.prog 97 (.pointer (some ⟨bn, 0, none⟩)) ts w (fun t => decide (t.nm = v)) := fun w1 hB i hi => by
  refine (isTeamFn_any ts[i] v bn w1 (Nat.lt_of_lt_of_le hb hB.size) ((hB.cell (p := ⟨bn, 0, none⟩) hb).trans hn)).mono ?_
  rintro e w' ⟨rfl, hb'⟩
  exact ⟨ret_bool (Gate.beq_toList _ _), hb'⟩

set_option maxHeartbeats 400000 in
theorem isTeam_any (a : Option Addr) (cap : Nat) (ts : List Tm) (v : ByteArray) (w : World) (hw : TmsAt w a ts) :
    Calls Tryz.prog 71 #[.slice a ts.length cap, .string v] w fun e w' => e = .returned (.bool (Gate.hasTeam ts v)) ∧ Below w.heap.size w w' := by
  go_enter Tryz.func71, Tryz.ntmps71
  go_wp2_with fail
  refine (ContainsFuncT_any _ _ _ _ _ _ (hw.mono ((Below.refl _ _).alloc (Nat.le_refl _) _)) (isTeamFn_fn ts v _ _ (by simp) (by rw [World.cell?_alloc_at _ _ _ _ rfl]; rfl))).mono ?_
  rintro e w2 ⟨rfl, hb2⟩
  go_wp2_with fail
  go_ret
  exact ⟨rfl, ((Below.refl _ _).alloc (Nat.le_refl _) _).trans (hb2.mono (by simp))⟩

set_option maxHeartbeats 800000 in
theorem isTooDeep_any (a : Option Addr) (cap : Nat) (ts : List Tm) (t : Tm) (w : World) (hw : TmsAt w a ts) :
    Calls Tryz.prog 74 #[.slice a ts.length cap, .agg t.cells] w fun e w' => e = .returned (.bool (!Gate.deepOk ts t)) ∧ Below w.heap.size w w' := by
  unfold Tm.cells
  go_enter Tryz.func74, Tryz.ntmps74
  go_wp2_with fail
  go_loopw [5, 8] (fun p i wr => ∃ (k : Nat) (z : ByteArray), k ≤ 4 ∧ p = .string z ∧ i = .int .i64 k ∧ Gate.climb ts 4 t.ov = Gate.climb ts (4 - k) z ∧ Below w.heap.size w wr) (fun _ i _ => 4 - (intOf i).toNat)
  case atStart => exact ⟨0, t.ov, Nat.zero_le _, rfl, rfl, rfl, (Below.refl _ _).alloc (Nat.le_refl _) _⟩
  case round =>
    obtain ⟨k, z, hk, rfl, rfl, hz, hB⟩ := hrel
    by_cases hlt : k < 4
    · have hltI : (k : Int) < 4 := by omega
      have HZ : Hid (Gate.climb ts 4 t.ov = Gate.climb ts (4 - (k + 1)) (Gate.over ts z)) := by
        obtain ⟨m, hm⟩ : ∃ m, 4 - k = m + 1 := ⟨3 - k, by omega⟩
        rw [Hid, hz, hm, show 4 - (k + 1) = m by omega]; rfl
      clear hz
      go_wp2_with fail
      refine (overOf_any _ _ _ _ _ (hw.mono hB)).mono ?_
      rintro e w1 ⟨rfl, hb1⟩
      have hB1 := hB.trans (hb1.mono hB.size)
      clear hb1
      go_wp2_with fail
      exact ⟨⟨k + 1, Gate.over ts z, by omega, rfl, by go_num, HZ.out, hB1⟩, by simp [intOf]; omega⟩
    · have HF : Hid (Gate.deepOk ts t = z.toList.isEmpty) := by
        have e : 4 - k = 0 := by omega
        rw [e] at hz
        unfold Hid Gate.deepOk
        rw [hz, Gate.isEmpty_of_size]; rfl
      clear hz
      go_wp2_with fail
      go_ret
      exact ⟨ret_bool (by rw [HF.out]), hB⟩

set_option maxHeartbeats 400000 in
theorem deepFn_any (a : Option Addr) (cap : Nat) (ts : List Tm) (t : Tm) (bn : Nat) (w : World) (hw : TmsAt w a ts) (hb : bn < w.heap.size) (hn : w.cell? ⟨bn, 0, none⟩ = some (.slice a ts.length cap)) :
    Calls Tryz.prog 73 #[.agg t.cells, .pointer (some ⟨bn, 0, none⟩)] w fun e w' => e = .returned (.bool (!Gate.deepOk ts t)) ∧ Below w.heap.size w w' := by
  unfold Tm.cells
  go_enter Tryz.func73, Tryz.ntmps73
  go_wp2_with fail
  refine (isTooDeep_any _ _ _ t _ (hw.mono ((Below.refl _ _).alloc (Nat.le_refl _) _))).mono ?_
  rintro e w2 ⟨rfl, hb2⟩
  go_wp2_with fail
  go_ret
  exact ⟨rfl, ((Below.refl _ _).alloc (Nat.le_refl _) _).trans (hb2.mono (by simp))⟩

theorem deepFn_fn (a : Option Addr) (cap : Nat) (ts : List Tm) (bn : Nat) (w : World) (hw : TmsAt w a ts) (hb : bn < w.heap.size) (hn : w.cell? ⟨bn, 0, none⟩ = some (.slice a ts.length cap)) :
    TeamFn Tryz.prog 73 (.pointer (some ⟨bn, 0, none⟩)) ts w (fun t => !Gate.deepOk ts t) := fun w1 hB i _ =>
  deepFn_any a cap ts ts[i] bn w1 (hw.mono hB) (Nat.lt_of_lt_of_le hb hB.size) ((hB.cell (p := ⟨bn, 0, none⟩) hb).trans hn)

end Go.Proofs.YthldiefbpemoaaaGreat

namespace Go.Proofs.YthldiefbpemoaaaGreat
open Go.RowKit

set_option maxHeartbeats 2000000 in
theorem isKey_any (x : Ak) (a0 a1 a2 : Option Addr) (c0 c1 c2 : Nat) (l : Lw) (la lb lc : Option Addr) (lca lcb lcc : Nat) (w : World) (hs : ShpsAt w la l.ss) (hn : x.nm.size ≤ maxLen) :
    Calls Tryz.prog 129 #[.agg (x.cells a0 a1 a2 c0 c1 c2), .agg (l.cells la lb lc lca lcb lcc)] w fun e w' => e = .returned (.bool (Gate.keyOk l x)) ∧ Below w.heap.size w w' := by
  have HS : Hid (ShpsAt w la l.ss ∧ x.nm.size ≤ maxLen) := ⟨hs, hn⟩
  clear hs hn
  unfold Ak.cells Lw.cells
  by_cases hk : Gate.hasKind l.ss x.kd = true
  · have HF : Hid (Gate.keyOk l x = Gate.nameOk x.nm) := by unfold Hid Gate.keyOk; rw [hk]; rfl
    have HK : Hid (Gate.hasKind l.ss x.kd = true) := hk
    clear hk
    go_enter Tryz.func129, Tryz.ntmps129
    go_wp2_with fail
    obtain ⟨W0, hW0, hX0, hY0, hz0, hB0⟩ := pair_boxes w #[.string x.who, .int .i64 x.vb, .string x.kd, .string x.nm, .string x.tm, .slice a0 x.vs.length c0, .slice a1 x.hs.length c1, .int .i64 x.sn, .string x.hd, .string x.to, .slice a2 x.r.vs.length c2, .string x.r.kd, .string x.r.tm, .string x.r.px, .int .i64 x.no] #[.slice la l.ss.length lca, .slice lb l.ms.length lcb, .slice lc l.ts.length lcc] 44 40
    rw [← hW0]
    clear hW0
    refine (shapeOf_any _ _ l.ss x.kd _ (HS.out.1.mono hB0)).mono ?_
    rintro e w1 ⟨fa, fcap, rfl, _, hb⟩
    have hX1 := box_later hX0 (Nat.lt_of_succ_lt hz0) hb
    have hz1 := Nat.lt_of_lt_of_le hz0 hb.size
    have hq1 := Nat.lt_of_succ_lt hz1
    have hB1 := hB0.trans (hb.mono hB0.size)
    have HBa : Hid (∀ o, Below w.heap.size w (w1.alloc o)) := fun o => hB1.alloc hB1.size o
    clear hb hX0 hY0 hz0 hB0 hB1
    rw [HK.out]
    go_wp2_with fail
    refine (isName_any _ _ HS.out.2).mono ?_
    rintro e w2 ⟨rfl, rfl⟩
    go_wp2_with fail
    go_ret
    exact ⟨ret_bool HF.out.symm, HBa.out _⟩
  · have HF : Hid (Gate.keyOk l x = false) := by unfold Hid Gate.keyOk; rw [Bool.eq_false_iff.2 hk]; rfl
    have HK : Hid (Gate.hasKind l.ss x.kd = false) := Bool.eq_false_iff.2 hk
    clear hk
    go_enter Tryz.func129, Tryz.ntmps129
    go_wp2_with fail
    obtain ⟨W0, hW0, hX0, hY0, hz0, hB0⟩ := pair_boxes w #[.string x.who, .int .i64 x.vb, .string x.kd, .string x.nm, .string x.tm, .slice a0 x.vs.length c0, .slice a1 x.hs.length c1, .int .i64 x.sn, .string x.hd, .string x.to, .slice a2 x.r.vs.length c2, .string x.r.kd, .string x.r.tm, .string x.r.px, .int .i64 x.no] #[.slice la l.ss.length lca, .slice lb l.ms.length lcb, .slice lc l.ts.length lcc] 44 40
    rw [← hW0]
    clear hW0
    refine (shapeOf_any _ _ l.ss x.kd _ (HS.out.1.mono hB0)).mono ?_
    rintro e w1 ⟨fa, fcap, rfl, _, hb⟩
    have hX1 := box_later hX0 (Nat.lt_of_succ_lt hz0) hb
    have hz1 := Nat.lt_of_lt_of_le hz0 hb.size
    have hq1 := Nat.lt_of_succ_lt hz1
    have hB1 := hB0.trans (hb.mono hB0.size)
    have HBa : Hid (∀ o, Below w.heap.size w (w1.alloc o)) := fun o => hB1.alloc hB1.size o
    clear hb hX0 hY0 hz0 hB0 hB1
    rw [HK.out]
    go_wp2_with fail
    go_ret
    exact ⟨ret_bool HF.out.symm, HBa.out _⟩

set_option maxHeartbeats 2000000 in
theorem areValues_any (x : Ak) (a0 a1 a2 : Option Addr) (c0 c1 c2 : Nat) (l : Lw) (la lb lc : Option Addr) (lca lcb lcc : Nat) (w : World) (hs : ShpsAt w la l.ss) (hn : x.nm.size ≤ maxLen) :
    Calls Tryz.prog 124 #[.agg (x.cells a0 a1 a2 c0 c1 c2), .agg (l.cells la lb lc lca lcb lcc)] w fun e w' => e = .returned (.bool (Gate.countOk l x)) ∧ Below w.heap.size w w' := by
  have HS : Hid (ShpsAt w la l.ss ∧ x.nm.size ≤ maxLen) := ⟨hs, hn⟩
  clear hs hn
  unfold Ak.cells Lw.cells
  have HF : Hid (((x.vs.length : Int) == ((Gate.shapeOf l.ss x.kd).fs.length : Int)) = Gate.countOk l x) := by unfold Hid Gate.countOk; rw [Bool.eq_iff_iff]; simp; omega
  go_enter Tryz.func124, Tryz.ntmps124
  go_wp2_with fail
  obtain ⟨W0, hW0, hX0, hY0, hz0, hB0⟩ := pair_boxes w #[.string x.who, .int .i64 x.vb, .string x.kd, .string x.nm, .string x.tm, .slice a0 x.vs.length c0, .slice a1 x.hs.length c1, .int .i64 x.sn, .string x.hd, .string x.to, .slice a2 x.r.vs.length c2, .string x.r.kd, .string x.r.tm, .string x.r.px, .int .i64 x.no] #[.slice la l.ss.length lca, .slice lb l.ms.length lcb, .slice lc l.ts.length lcc] 44 40
  rw [← hW0]
  clear hW0
  refine (shapeOf_any _ _ l.ss x.kd _ (HS.out.1.mono hB0)).mono ?_
  rintro e w1 ⟨fa, fcap, rfl, _, hb⟩
  have hX1 := box_later hX0 (Nat.lt_of_succ_lt hz0) hb
  have hz1 := Nat.lt_of_lt_of_le hz0 hb.size
  have hq1 := Nat.lt_of_succ_lt hz1
  have hB1 := hB0.trans (hb.mono hB0.size)
  have HBa : Hid (∀ o, Below w.heap.size w (w1.alloc o)) := fun o => hB1.alloc hB1.size o
  clear hb hX0 hY0 hz0 hB0 hB1
  go_wp2_with fail
  go_ret
  exact ⟨ret_bool HF.out, HBa.out _⟩

set_option maxHeartbeats 4000000 in
theorem makeUse_any (l : Lw) (la lb lc : Option Addr) (lca lcb lcc : Nat) (x : Ak) (a0 a1 a2 : Option Addr) (c0 c1 c2 : Nat) (w : World) (hl : LwAt w l la lb lc) (hx : AkAt w x a0 a1 a2) :
    Calls Tryz.prog 126 #[.agg #[], .agg (l.cells la lb lc lca lcb lcc), .agg (x.cells a0 a1 a2 c0 c1 c2)] w fun e w' => e = .returned (.bool (Gate.useMake l x)) ∧ Below w.heap.size w w' := by
  have HL : Hid (LwAt w l la lb lc) := hl
  have HX : Hid (AkAt w x a0 a1 a2) := hx
  clear hl hx
  unfold Ak.cells Lw.cells
  by_cases h0 : (Gate.keyOk l x) = true
  rotate_left
  · have HF : Hid (Gate.useMake l x = false) := by unfold Hid Gate.useMake; simp [h0]
    have H0 : Hid ((Gate.keyOk l x) = false) := Bool.eq_false_iff.2 h0
    clear h0
    go_enter Tryz.func126, Tryz.ntmps126
    go_wp2_with fail
    obtain ⟨W0, hW0, hY0, hZ0, hz0, hB0⟩ := three_boxes w #[] #[.slice la l.ss.length lca, .slice lb l.ms.length lcb, .slice lc l.ts.length lcc] #[.string x.who, .int .i64 x.vb, .string x.kd, .string x.nm, .string x.tm, .slice a0 x.vs.length c0, .slice a1 x.hs.length c1, .int .i64 x.sn, .string x.hd, .string x.to, .slice a2 x.r.vs.length c2, .string x.r.kd, .string x.r.tm, .string x.r.px, .int .i64 x.no] 122 40 44
    rw [← hW0]
    clear hW0
    refine (as_bool H0.out (isKey_any x a0 a1 a2 c0 c1 c2 l la lb lc lca lcb lcc _ (HL.out.ss.mono hB0) HX.out.small.nm)).mono ?_
    rintro e w1 ⟨rfl, hb⟩
    have hY1 := box_later hY0 (Nat.lt_of_succ_lt hz0) hb
    have hZ1 := box_later hZ0 hz0 hb
    have hz1 := Nat.lt_of_lt_of_le hz0 hb.size
    have hB1 := hB0.trans (hb.mono hB0.size)
    clear hb hY0 hZ0 hz0 hB0
    have hq1 := Nat.lt_of_succ_lt hz1
    go_wp2_with fail
    go_ret
    exact ⟨ret_bool HF.out.symm, hB1⟩
  by_cases h1 : (Gate.hasTeam l.ts x.tm) = true
  rotate_left
  · have HF : Hid (Gate.useMake l x = false) := by unfold Hid Gate.useMake; simp [h1]
    have H0 : Hid ((Gate.keyOk l x) = true) := h0
    have H1 : Hid ((Gate.hasTeam l.ts x.tm) = false) := Bool.eq_false_iff.2 h1
    clear h0 h1
    go_enter Tryz.func126, Tryz.ntmps126
    go_wp2_with fail
    obtain ⟨W0, hW0, hY0, hZ0, hz0, hB0⟩ := three_boxes w #[] #[.slice la l.ss.length lca, .slice lb l.ms.length lcb, .slice lc l.ts.length lcc] #[.string x.who, .int .i64 x.vb, .string x.kd, .string x.nm, .string x.tm, .slice a0 x.vs.length c0, .slice a1 x.hs.length c1, .int .i64 x.sn, .string x.hd, .string x.to, .slice a2 x.r.vs.length c2, .string x.r.kd, .string x.r.tm, .string x.r.px, .int .i64 x.no] 122 40 44
    rw [← hW0]
    clear hW0
    refine (as_bool H0.out (isKey_any x a0 a1 a2 c0 c1 c2 l la lb lc lca lcb lcc _ (HL.out.ss.mono hB0) HX.out.small.nm)).mono ?_
    rintro e w1 ⟨rfl, hb⟩
    have hY1 := box_later hY0 (Nat.lt_of_succ_lt hz0) hb
    have hZ1 := box_later hZ0 hz0 hb
    have hz1 := Nat.lt_of_lt_of_le hz0 hb.size
    have hB1 := hB0.trans (hb.mono hB0.size)
    clear hb hY0 hZ0 hz0 hB0
    have hq1 := Nat.lt_of_succ_lt hz1
    go_wp2_with fail
    refine (as_bool H1.out (isTeam_any _ _ l.ts x.tm _ (HL.out.ts.mono hB1))).mono ?_
    rintro e w2 ⟨rfl, hb⟩
    have hY2 := box_later hY1 (Nat.lt_of_succ_lt hz1) hb
    have hZ2 := box_later hZ1 hz1 hb
    have hz2 := Nat.lt_of_lt_of_le hz1 hb.size
    have hB2 := hB1.trans (hb.mono hB1.size)
    clear hb hY1 hZ1 hz1 hB1
    have hq2 := Nat.lt_of_succ_lt hz2
    go_wp2_with fail
    go_ret
    exact ⟨ret_bool HF.out.symm, hB2⟩
  by_cases h2 : (Gate.countOk l x) = true
  rotate_left
  · have HF : Hid (Gate.useMake l x = false) := by unfold Hid Gate.useMake; simp [h2]
    have H0 : Hid ((Gate.keyOk l x) = true) := h0
    have H1 : Hid ((Gate.hasTeam l.ts x.tm) = true) := h1
    have H2 : Hid ((Gate.countOk l x) = false) := Bool.eq_false_iff.2 h2
    clear h0 h1 h2
    go_enter Tryz.func126, Tryz.ntmps126
    go_wp2_with fail
    obtain ⟨W0, hW0, hY0, hZ0, hz0, hB0⟩ := three_boxes w #[] #[.slice la l.ss.length lca, .slice lb l.ms.length lcb, .slice lc l.ts.length lcc] #[.string x.who, .int .i64 x.vb, .string x.kd, .string x.nm, .string x.tm, .slice a0 x.vs.length c0, .slice a1 x.hs.length c1, .int .i64 x.sn, .string x.hd, .string x.to, .slice a2 x.r.vs.length c2, .string x.r.kd, .string x.r.tm, .string x.r.px, .int .i64 x.no] 122 40 44
    rw [← hW0]
    clear hW0
    refine (as_bool H0.out (isKey_any x a0 a1 a2 c0 c1 c2 l la lb lc lca lcb lcc _ (HL.out.ss.mono hB0) HX.out.small.nm)).mono ?_
    rintro e w1 ⟨rfl, hb⟩
    have hY1 := box_later hY0 (Nat.lt_of_succ_lt hz0) hb
    have hZ1 := box_later hZ0 hz0 hb
    have hz1 := Nat.lt_of_lt_of_le hz0 hb.size
    have hB1 := hB0.trans (hb.mono hB0.size)
    clear hb hY0 hZ0 hz0 hB0
    have hq1 := Nat.lt_of_succ_lt hz1
    go_wp2_with fail
    refine (as_bool H1.out (isTeam_any _ _ l.ts x.tm _ (HL.out.ts.mono hB1))).mono ?_
    rintro e w2 ⟨rfl, hb⟩
    have hY2 := box_later hY1 (Nat.lt_of_succ_lt hz1) hb
    have hZ2 := box_later hZ1 hz1 hb
    have hz2 := Nat.lt_of_lt_of_le hz1 hb.size
    have hB2 := hB1.trans (hb.mono hB1.size)
    clear hb hY1 hZ1 hz1 hB1
    have hq2 := Nat.lt_of_succ_lt hz2
    go_wp2_with fail
    refine (as_bool H2.out (areValues_any x a0 a1 a2 c0 c1 c2 l la lb lc lca lcb lcc _ (HL.out.ss.mono hB2) HX.out.small.nm)).mono ?_
    rintro e w3 ⟨rfl, hb⟩
    have hY3 := box_later hY2 (Nat.lt_of_succ_lt hz2) hb
    have hZ3 := box_later hZ2 hz2 hb
    have hz3 := Nat.lt_of_lt_of_le hz2 hb.size
    have hB3 := hB2.trans (hb.mono hB2.size)
    clear hb hY2 hZ2 hz2 hB2
    have hq3 := Nat.lt_of_succ_lt hz3
    go_wp2_with fail
    go_ret
    exact ⟨ret_bool HF.out.symm, hB3⟩
  by_cases h3 : (decide (x.hs.length ≤ 3)) = true
  rotate_left
  · have HF : Hid (Gate.useMake l x = false) := by unfold Hid Gate.useMake; simp [h3]
    have H0 : Hid ((Gate.keyOk l x) = true) := h0
    have H1 : Hid ((Gate.hasTeam l.ts x.tm) = true) := h1
    have H2 : Hid ((Gate.countOk l x) = true) := h2
    have g3 : decide ((x.hs.length : Int) ≤ 3) = false := decide_eq_false (by have := of_decide_eq_false (Bool.eq_false_iff.2 h3); omega)
    clear h0 h1 h2 h3
    go_enter Tryz.func126, Tryz.ntmps126
    go_wp2_with fail
    obtain ⟨W0, hW0, hY0, hZ0, hz0, hB0⟩ := three_boxes w #[] #[.slice la l.ss.length lca, .slice lb l.ms.length lcb, .slice lc l.ts.length lcc] #[.string x.who, .int .i64 x.vb, .string x.kd, .string x.nm, .string x.tm, .slice a0 x.vs.length c0, .slice a1 x.hs.length c1, .int .i64 x.sn, .string x.hd, .string x.to, .slice a2 x.r.vs.length c2, .string x.r.kd, .string x.r.tm, .string x.r.px, .int .i64 x.no] 122 40 44
    rw [← hW0]
    clear hW0
    refine (as_bool H0.out (isKey_any x a0 a1 a2 c0 c1 c2 l la lb lc lca lcb lcc _ (HL.out.ss.mono hB0) HX.out.small.nm)).mono ?_
    rintro e w1 ⟨rfl, hb⟩
    have hY1 := box_later hY0 (Nat.lt_of_succ_lt hz0) hb
    have hZ1 := box_later hZ0 hz0 hb
    have hz1 := Nat.lt_of_lt_of_le hz0 hb.size
    have hB1 := hB0.trans (hb.mono hB0.size)
    clear hb hY0 hZ0 hz0 hB0
    have hq1 := Nat.lt_of_succ_lt hz1
    go_wp2_with fail
    refine (as_bool H1.out (isTeam_any _ _ l.ts x.tm _ (HL.out.ts.mono hB1))).mono ?_
    rintro e w2 ⟨rfl, hb⟩
    have hY2 := box_later hY1 (Nat.lt_of_succ_lt hz1) hb
    have hZ2 := box_later hZ1 hz1 hb
    have hz2 := Nat.lt_of_lt_of_le hz1 hb.size
    have hB2 := hB1.trans (hb.mono hB1.size)
    clear hb hY1 hZ1 hz1 hB1
    have hq2 := Nat.lt_of_succ_lt hz2
    go_wp2_with fail
    refine (as_bool H2.out (areValues_any x a0 a1 a2 c0 c1 c2 l la lb lc lca lcb lcc _ (HL.out.ss.mono hB2) HX.out.small.nm)).mono ?_
    rintro e w3 ⟨rfl, hb⟩
    have hY3 := box_later hY2 (Nat.lt_of_succ_lt hz2) hb
    have hZ3 := box_later hZ2 hz2 hb
    have hz3 := Nat.lt_of_lt_of_le hz2 hb.size
    have hB3 := hB2.trans (hb.mono hB2.size)
    clear hb hY2 hZ2 hz2 hB2
    have hq3 := Nat.lt_of_succ_lt hz3
    go_wp2_with fail
    go_ret
    exact ⟨ret_bool HF.out.symm, hB3⟩
  by_cases h4 : (Gate.asc x.hs) = true
  rotate_left
  · have HF : Hid (Gate.useMake l x = false) := by unfold Hid Gate.useMake; simp [h4]
    have H0 : Hid ((Gate.keyOk l x) = true) := h0
    have H1 : Hid ((Gate.hasTeam l.ts x.tm) = true) := h1
    have H2 : Hid ((Gate.countOk l x) = true) := h2
    have g3 : (x.hs.length : Int) ≤ 3 := by have := of_decide_eq_true h3; omega
    have H4 : Hid ((Gate.asc x.hs) = false) := Bool.eq_false_iff.2 h4
    clear h0 h1 h2 h3 h4
    go_enter Tryz.func126, Tryz.ntmps126
    go_wp2_with fail
    obtain ⟨W0, hW0, hY0, hZ0, hz0, hB0⟩ := three_boxes w #[] #[.slice la l.ss.length lca, .slice lb l.ms.length lcb, .slice lc l.ts.length lcc] #[.string x.who, .int .i64 x.vb, .string x.kd, .string x.nm, .string x.tm, .slice a0 x.vs.length c0, .slice a1 x.hs.length c1, .int .i64 x.sn, .string x.hd, .string x.to, .slice a2 x.r.vs.length c2, .string x.r.kd, .string x.r.tm, .string x.r.px, .int .i64 x.no] 122 40 44
    rw [← hW0]
    clear hW0
    refine (as_bool H0.out (isKey_any x a0 a1 a2 c0 c1 c2 l la lb lc lca lcb lcc _ (HL.out.ss.mono hB0) HX.out.small.nm)).mono ?_
    rintro e w1 ⟨rfl, hb⟩
    have hY1 := box_later hY0 (Nat.lt_of_succ_lt hz0) hb
    have hZ1 := box_later hZ0 hz0 hb
    have hz1 := Nat.lt_of_lt_of_le hz0 hb.size
    have hB1 := hB0.trans (hb.mono hB0.size)
    clear hb hY0 hZ0 hz0 hB0
    have hq1 := Nat.lt_of_succ_lt hz1
    go_wp2_with fail
    refine (as_bool H1.out (isTeam_any _ _ l.ts x.tm _ (HL.out.ts.mono hB1))).mono ?_
    rintro e w2 ⟨rfl, hb⟩
    have hY2 := box_later hY1 (Nat.lt_of_succ_lt hz1) hb
    have hZ2 := box_later hZ1 hz1 hb
    have hz2 := Nat.lt_of_lt_of_le hz1 hb.size
    have hB2 := hB1.trans (hb.mono hB1.size)
    clear hb hY1 hZ1 hz1 hB1
    have hq2 := Nat.lt_of_succ_lt hz2
    go_wp2_with fail
    refine (as_bool H2.out (areValues_any x a0 a1 a2 c0 c1 c2 l la lb lc lca lcb lcc _ (HL.out.ss.mono hB2) HX.out.small.nm)).mono ?_
    rintro e w3 ⟨rfl, hb⟩
    have hY3 := box_later hY2 (Nat.lt_of_succ_lt hz2) hb
    have hZ3 := box_later hZ2 hz2 hb
    have hz3 := Nat.lt_of_lt_of_le hz2 hb.size
    have hB3 := hB2.trans (hb.mono hB2.size)
    clear hb hY2 hZ2 hz2 hB2
    have hq3 := Nat.lt_of_succ_lt hz3
    go_wp2_with fail
    refine (as_bool H4.out (areAsc_any _ _ _ _ (HX.out.hs.mono hB3))).mono ?_
    rintro e w4 ⟨rfl, rfl⟩
    have hY4 := hY3
    have hZ4 := hZ3
    have hz4 := hz3
    have hB4 := hB3
    clear hY3 hZ3 hz3 hB3
    have hq4 := Nat.lt_of_succ_lt hz4
    go_wp2_with fail
    go_ret
    exact ⟨ret_bool HF.out.symm, hB4⟩
  · have HF : Hid (Gate.useMake l x = true) := by unfold Hid Gate.useMake; simp only [Bool.and_eq_true]; exact ⟨h0, h1, h2, h3, h4⟩
    have H0 : Hid ((Gate.keyOk l x) = true) := h0
    have H1 : Hid ((Gate.hasTeam l.ts x.tm) = true) := h1
    have H2 : Hid ((Gate.countOk l x) = true) := h2
    have g3 : (x.hs.length : Int) ≤ 3 := by have := of_decide_eq_true h3; omega
    have H4 : Hid ((Gate.asc x.hs) = true) := h4
    clear h0 h1 h2 h3 h4
    go_enter Tryz.func126, Tryz.ntmps126
    go_wp2_with fail
    obtain ⟨W0, hW0, hY0, hZ0, hz0, hB0⟩ := three_boxes w #[] #[.slice la l.ss.length lca, .slice lb l.ms.length lcb, .slice lc l.ts.length lcc] #[.string x.who, .int .i64 x.vb, .string x.kd, .string x.nm, .string x.tm, .slice a0 x.vs.length c0, .slice a1 x.hs.length c1, .int .i64 x.sn, .string x.hd, .string x.to, .slice a2 x.r.vs.length c2, .string x.r.kd, .string x.r.tm, .string x.r.px, .int .i64 x.no] 122 40 44
    rw [← hW0]
    clear hW0
    refine (as_bool H0.out (isKey_any x a0 a1 a2 c0 c1 c2 l la lb lc lca lcb lcc _ (HL.out.ss.mono hB0) HX.out.small.nm)).mono ?_
    rintro e w1 ⟨rfl, hb⟩
    have hY1 := box_later hY0 (Nat.lt_of_succ_lt hz0) hb
    have hZ1 := box_later hZ0 hz0 hb
    have hz1 := Nat.lt_of_lt_of_le hz0 hb.size
    have hB1 := hB0.trans (hb.mono hB0.size)
    clear hb hY0 hZ0 hz0 hB0
    have hq1 := Nat.lt_of_succ_lt hz1
    go_wp2_with fail
    refine (as_bool H1.out (isTeam_any _ _ l.ts x.tm _ (HL.out.ts.mono hB1))).mono ?_
    rintro e w2 ⟨rfl, hb⟩
    have hY2 := box_later hY1 (Nat.lt_of_succ_lt hz1) hb
    have hZ2 := box_later hZ1 hz1 hb
    have hz2 := Nat.lt_of_lt_of_le hz1 hb.size
    have hB2 := hB1.trans (hb.mono hB1.size)
    clear hb hY1 hZ1 hz1 hB1
    have hq2 := Nat.lt_of_succ_lt hz2
    go_wp2_with fail
    refine (as_bool H2.out (areValues_any x a0 a1 a2 c0 c1 c2 l la lb lc lca lcb lcc _ (HL.out.ss.mono hB2) HX.out.small.nm)).mono ?_
    rintro e w3 ⟨rfl, hb⟩
    have hY3 := box_later hY2 (Nat.lt_of_succ_lt hz2) hb
    have hZ3 := box_later hZ2 hz2 hb
    have hz3 := Nat.lt_of_lt_of_le hz2 hb.size
    have hB3 := hB2.trans (hb.mono hB2.size)
    clear hb hY2 hZ2 hz2 hB2
    have hq3 := Nat.lt_of_succ_lt hz3
    go_wp2_with fail
    refine (as_bool H4.out (areAsc_any _ _ _ _ (HX.out.hs.mono hB3))).mono ?_
    rintro e w4 ⟨rfl, rfl⟩
    have hY4 := hY3
    have hZ4 := hZ3
    have hz4 := hz3
    have hB4 := hB3
    clear hY3 hZ3 hz3 hB3
    have hq4 := Nat.lt_of_succ_lt hz4
    go_wp2_with fail
    go_ret
    exact ⟨ret_bool HF.out.symm, hB4⟩

set_option maxHeartbeats 4000000 in
theorem changeUse_any (l : Lw) (la lb lc : Option Addr) (lca lcb lcc : Nat) (x : Ak) (a0 a1 a2 : Option Addr) (c0 c1 c2 : Nat) (w : World) (hl : LwAt w l la lb lc) (hx : AkAt w x a0 a1 a2) :
    Calls Tryz.prog 132 #[.agg #[], .agg (l.cells la lb lc lca lcb lcc), .agg (x.cells a0 a1 a2 c0 c1 c2)] w fun e w' => e = .returned (.bool (Gate.useChange l x)) ∧ Below w.heap.size w w' := by
  have HL : Hid (LwAt w l la lb lc) := hl
  have HX : Hid (AkAt w x a0 a1 a2) := hx
  clear hl hx
  unfold Ak.cells Lw.cells
  by_cases h0 : (Gate.keyOk l x) = true
  rotate_left
  · have HF : Hid (Gate.useChange l x = false) := by unfold Hid Gate.useChange; simp [h0]
    have H0 : Hid ((Gate.keyOk l x) = false) := Bool.eq_false_iff.2 h0
    clear h0
    go_enter Tryz.func132, Tryz.ntmps132
    go_wp2_with fail
    obtain ⟨W0, hW0, hY0, hZ0, hz0, hB0⟩ := three_boxes w #[] #[.slice la l.ss.length lca, .slice lb l.ms.length lcb, .slice lc l.ts.length lcc] #[.string x.who, .int .i64 x.vb, .string x.kd, .string x.nm, .string x.tm, .slice a0 x.vs.length c0, .slice a1 x.hs.length c1, .int .i64 x.sn, .string x.hd, .string x.to, .slice a2 x.r.vs.length c2, .string x.r.kd, .string x.r.tm, .string x.r.px, .int .i64 x.no] 123 40 44
    rw [← hW0]
    clear hW0
    refine (as_bool H0.out (isKey_any x a0 a1 a2 c0 c1 c2 l la lb lc lca lcb lcc _ (HL.out.ss.mono hB0) HX.out.small.nm)).mono ?_
    rintro e w1 ⟨rfl, hb⟩
    have hY1 := box_later hY0 (Nat.lt_of_succ_lt hz0) hb
    have hZ1 := box_later hZ0 hz0 hb
    have hz1 := Nat.lt_of_lt_of_le hz0 hb.size
    have hB1 := hB0.trans (hb.mono hB0.size)
    clear hb hY0 hZ0 hz0 hB0
    have hq1 := Nat.lt_of_succ_lt hz1
    go_wp2_with fail
    go_ret
    exact ⟨ret_bool HF.out.symm, hB1⟩
  by_cases h1 : (Gate.countOk l x) = true
  rotate_left
  · have HF : Hid (Gate.useChange l x = false) := by unfold Hid Gate.useChange; simp [h1]
    have H0 : Hid ((Gate.keyOk l x) = true) := h0
    have H1 : Hid ((Gate.countOk l x) = false) := Bool.eq_false_iff.2 h1
    clear h0 h1
    go_enter Tryz.func132, Tryz.ntmps132
    go_wp2_with fail
    obtain ⟨W0, hW0, hY0, hZ0, hz0, hB0⟩ := three_boxes w #[] #[.slice la l.ss.length lca, .slice lb l.ms.length lcb, .slice lc l.ts.length lcc] #[.string x.who, .int .i64 x.vb, .string x.kd, .string x.nm, .string x.tm, .slice a0 x.vs.length c0, .slice a1 x.hs.length c1, .int .i64 x.sn, .string x.hd, .string x.to, .slice a2 x.r.vs.length c2, .string x.r.kd, .string x.r.tm, .string x.r.px, .int .i64 x.no] 123 40 44
    rw [← hW0]
    clear hW0
    refine (as_bool H0.out (isKey_any x a0 a1 a2 c0 c1 c2 l la lb lc lca lcb lcc _ (HL.out.ss.mono hB0) HX.out.small.nm)).mono ?_
    rintro e w1 ⟨rfl, hb⟩
    have hY1 := box_later hY0 (Nat.lt_of_succ_lt hz0) hb
    have hZ1 := box_later hZ0 hz0 hb
    have hz1 := Nat.lt_of_lt_of_le hz0 hb.size
    have hB1 := hB0.trans (hb.mono hB0.size)
    clear hb hY0 hZ0 hz0 hB0
    have hq1 := Nat.lt_of_succ_lt hz1
    go_wp2_with fail
    refine (as_bool H1.out (areValues_any x a0 a1 a2 c0 c1 c2 l la lb lc lca lcb lcc _ (HL.out.ss.mono hB1) HX.out.small.nm)).mono ?_
    rintro e w2 ⟨rfl, hb⟩
    have hY2 := box_later hY1 (Nat.lt_of_succ_lt hz1) hb
    have hZ2 := box_later hZ1 hz1 hb
    have hz2 := Nat.lt_of_lt_of_le hz1 hb.size
    have hB2 := hB1.trans (hb.mono hB1.size)
    clear hb hY1 hZ1 hz1 hB1
    have hq2 := Nat.lt_of_succ_lt hz2
    go_wp2_with fail
    go_ret
    exact ⟨ret_bool HF.out.symm, hB2⟩
  by_cases h2 : (decide (0 ≤ x.sn)) = true
  rotate_left
  · have HF : Hid (Gate.useChange l x = false) := by unfold Hid Gate.useChange; simp [h2]
    have H0 : Hid ((Gate.keyOk l x) = true) := h0
    have H1 : Hid ((Gate.countOk l x) = true) := h1
    have g2 : decide (0 ≤ x.sn) = false := decide_eq_false (by have := of_decide_eq_false (Bool.eq_false_iff.2 h2); omega)
    clear h0 h1 h2
    go_enter Tryz.func132, Tryz.ntmps132
    go_wp2_with fail
    obtain ⟨W0, hW0, hY0, hZ0, hz0, hB0⟩ := three_boxes w #[] #[.slice la l.ss.length lca, .slice lb l.ms.length lcb, .slice lc l.ts.length lcc] #[.string x.who, .int .i64 x.vb, .string x.kd, .string x.nm, .string x.tm, .slice a0 x.vs.length c0, .slice a1 x.hs.length c1, .int .i64 x.sn, .string x.hd, .string x.to, .slice a2 x.r.vs.length c2, .string x.r.kd, .string x.r.tm, .string x.r.px, .int .i64 x.no] 123 40 44
    rw [← hW0]
    clear hW0
    refine (as_bool H0.out (isKey_any x a0 a1 a2 c0 c1 c2 l la lb lc lca lcb lcc _ (HL.out.ss.mono hB0) HX.out.small.nm)).mono ?_
    rintro e w1 ⟨rfl, hb⟩
    have hY1 := box_later hY0 (Nat.lt_of_succ_lt hz0) hb
    have hZ1 := box_later hZ0 hz0 hb
    have hz1 := Nat.lt_of_lt_of_le hz0 hb.size
    have hB1 := hB0.trans (hb.mono hB0.size)
    clear hb hY0 hZ0 hz0 hB0
    have hq1 := Nat.lt_of_succ_lt hz1
    go_wp2_with fail
    refine (as_bool H1.out (areValues_any x a0 a1 a2 c0 c1 c2 l la lb lc lca lcb lcc _ (HL.out.ss.mono hB1) HX.out.small.nm)).mono ?_
    rintro e w2 ⟨rfl, hb⟩
    have hY2 := box_later hY1 (Nat.lt_of_succ_lt hz1) hb
    have hZ2 := box_later hZ1 hz1 hb
    have hz2 := Nat.lt_of_lt_of_le hz1 hb.size
    have hB2 := hB1.trans (hb.mono hB1.size)
    clear hb hY1 hZ1 hz1 hB1
    have hq2 := Nat.lt_of_succ_lt hz2
    go_wp2_with fail
    go_ret
    exact ⟨ret_bool HF.out.symm, hB2⟩
  · have HF : Hid (Gate.useChange l x = true) := by unfold Hid Gate.useChange; simp only [Bool.and_eq_true]; exact ⟨h0, h1, h2⟩
    have H0 : Hid ((Gate.keyOk l x) = true) := h0
    have H1 : Hid ((Gate.countOk l x) = true) := h1
    have g2 : 0 ≤ x.sn := by have := of_decide_eq_true h2; omega
    clear h0 h1 h2
    go_enter Tryz.func132, Tryz.ntmps132
    go_wp2_with fail
    obtain ⟨W0, hW0, hY0, hZ0, hz0, hB0⟩ := three_boxes w #[] #[.slice la l.ss.length lca, .slice lb l.ms.length lcb, .slice lc l.ts.length lcc] #[.string x.who, .int .i64 x.vb, .string x.kd, .string x.nm, .string x.tm, .slice a0 x.vs.length c0, .slice a1 x.hs.length c1, .int .i64 x.sn, .string x.hd, .string x.to, .slice a2 x.r.vs.length c2, .string x.r.kd, .string x.r.tm, .string x.r.px, .int .i64 x.no] 123 40 44
    rw [← hW0]
    clear hW0
    refine (as_bool H0.out (isKey_any x a0 a1 a2 c0 c1 c2 l la lb lc lca lcb lcc _ (HL.out.ss.mono hB0) HX.out.small.nm)).mono ?_
    rintro e w1 ⟨rfl, hb⟩
    have hY1 := box_later hY0 (Nat.lt_of_succ_lt hz0) hb
    have hZ1 := box_later hZ0 hz0 hb
    have hz1 := Nat.lt_of_lt_of_le hz0 hb.size
    have hB1 := hB0.trans (hb.mono hB0.size)
    clear hb hY0 hZ0 hz0 hB0
    have hq1 := Nat.lt_of_succ_lt hz1
    go_wp2_with fail
    refine (as_bool H1.out (areValues_any x a0 a1 a2 c0 c1 c2 l la lb lc lca lcb lcc _ (HL.out.ss.mono hB1) HX.out.small.nm)).mono ?_
    rintro e w2 ⟨rfl, hb⟩
    have hY2 := box_later hY1 (Nat.lt_of_succ_lt hz1) hb
    have hZ2 := box_later hZ1 hz1 hb
    have hz2 := Nat.lt_of_lt_of_le hz1 hb.size
    have hB2 := hB1.trans (hb.mono hB1.size)
    clear hb hY1 hZ1 hz1 hB1
    have hq2 := Nat.lt_of_succ_lt hz2
    go_wp2_with fail
    go_ret
    exact ⟨ret_bool HF.out.symm, hB2⟩

set_option maxHeartbeats 4000000 in
theorem endUse_any (l : Lw) (la lb lc : Option Addr) (lca lcb lcc : Nat) (x : Ak) (a0 a1 a2 : Option Addr) (c0 c1 c2 : Nat) (w : World) (hl : LwAt w l la lb lc) (hx : AkAt w x a0 a1 a2) :
    Calls Tryz.prog 136 #[.agg #[], .agg (l.cells la lb lc lca lcb lcc), .agg (x.cells a0 a1 a2 c0 c1 c2)] w fun e w' => e = .returned (.bool (Gate.useEnd l x)) ∧ Below w.heap.size w w' := by
  have HL : Hid (LwAt w l la lb lc) := hl
  have HX : Hid (AkAt w x a0 a1 a2) := hx
  clear hl hx
  unfold Ak.cells Lw.cells
  by_cases h0 : (Gate.keyOk l x) = true
  rotate_left
  · have HF : Hid (Gate.useEnd l x = false) := by unfold Hid Gate.useEnd; simp [h0]
    have H0 : Hid ((Gate.keyOk l x) = false) := Bool.eq_false_iff.2 h0
    clear h0
    go_enter Tryz.func136, Tryz.ntmps136
    go_wp2_with fail
    obtain ⟨W0, hW0, hY0, hZ0, hz0, hB0⟩ := three_boxes w #[] #[.slice la l.ss.length lca, .slice lb l.ms.length lcb, .slice lc l.ts.length lcc] #[.string x.who, .int .i64 x.vb, .string x.kd, .string x.nm, .string x.tm, .slice a0 x.vs.length c0, .slice a1 x.hs.length c1, .int .i64 x.sn, .string x.hd, .string x.to, .slice a2 x.r.vs.length c2, .string x.r.kd, .string x.r.tm, .string x.r.px, .int .i64 x.no] 124 40 44
    rw [← hW0]
    clear hW0
    refine (as_bool H0.out (isKey_any x a0 a1 a2 c0 c1 c2 l la lb lc lca lcb lcc _ (HL.out.ss.mono hB0) HX.out.small.nm)).mono ?_
    rintro e w1 ⟨rfl, hb⟩
    have hY1 := box_later hY0 (Nat.lt_of_succ_lt hz0) hb
    have hZ1 := box_later hZ0 hz0 hb
    have hz1 := Nat.lt_of_lt_of_le hz0 hb.size
    have hB1 := hB0.trans (hb.mono hB0.size)
    clear hb hY0 hZ0 hz0 hB0
    have hq1 := Nat.lt_of_succ_lt hz1
    go_wp2_with fail
    go_ret
    exact ⟨ret_bool HF.out.symm, hB1⟩
  by_cases h1 : (decide (0 ≤ x.sn)) = true
  rotate_left
  · have HF : Hid (Gate.useEnd l x = false) := by unfold Hid Gate.useEnd; simp [h1]
    have H0 : Hid ((Gate.keyOk l x) = true) := h0
    have g1 : decide (0 ≤ x.sn) = false := decide_eq_false (by have := of_decide_eq_false (Bool.eq_false_iff.2 h1); omega)
    clear h0 h1
    go_enter Tryz.func136, Tryz.ntmps136
    go_wp2_with fail
    obtain ⟨W0, hW0, hY0, hZ0, hz0, hB0⟩ := three_boxes w #[] #[.slice la l.ss.length lca, .slice lb l.ms.length lcb, .slice lc l.ts.length lcc] #[.string x.who, .int .i64 x.vb, .string x.kd, .string x.nm, .string x.tm, .slice a0 x.vs.length c0, .slice a1 x.hs.length c1, .int .i64 x.sn, .string x.hd, .string x.to, .slice a2 x.r.vs.length c2, .string x.r.kd, .string x.r.tm, .string x.r.px, .int .i64 x.no] 124 40 44
    rw [← hW0]
    clear hW0
    refine (as_bool H0.out (isKey_any x a0 a1 a2 c0 c1 c2 l la lb lc lca lcb lcc _ (HL.out.ss.mono hB0) HX.out.small.nm)).mono ?_
    rintro e w1 ⟨rfl, hb⟩
    have hY1 := box_later hY0 (Nat.lt_of_succ_lt hz0) hb
    have hZ1 := box_later hZ0 hz0 hb
    have hz1 := Nat.lt_of_lt_of_le hz0 hb.size
    have hB1 := hB0.trans (hb.mono hB0.size)
    clear hb hY0 hZ0 hz0 hB0
    have hq1 := Nat.lt_of_succ_lt hz1
    go_wp2_with fail
    go_ret
    exact ⟨ret_bool HF.out.symm, hB1⟩
  · have HF : Hid (Gate.useEnd l x = true) := by unfold Hid Gate.useEnd; simp only [Bool.and_eq_true]; exact ⟨h0, h1⟩
    have H0 : Hid ((Gate.keyOk l x) = true) := h0
    have g1 : 0 ≤ x.sn := by have := of_decide_eq_true h1; omega
    clear h0 h1
    go_enter Tryz.func136, Tryz.ntmps136
    go_wp2_with fail
    obtain ⟨W0, hW0, hY0, hZ0, hz0, hB0⟩ := three_boxes w #[] #[.slice la l.ss.length lca, .slice lb l.ms.length lcb, .slice lc l.ts.length lcc] #[.string x.who, .int .i64 x.vb, .string x.kd, .string x.nm, .string x.tm, .slice a0 x.vs.length c0, .slice a1 x.hs.length c1, .int .i64 x.sn, .string x.hd, .string x.to, .slice a2 x.r.vs.length c2, .string x.r.kd, .string x.r.tm, .string x.r.px, .int .i64 x.no] 124 40 44
    rw [← hW0]
    clear hW0
    refine (as_bool H0.out (isKey_any x a0 a1 a2 c0 c1 c2 l la lb lc lca lcb lcc _ (HL.out.ss.mono hB0) HX.out.small.nm)).mono ?_
    rintro e w1 ⟨rfl, hb⟩
    have hY1 := box_later hY0 (Nat.lt_of_succ_lt hz0) hb
    have hZ1 := box_later hZ0 hz0 hb
    have hz1 := Nat.lt_of_lt_of_le hz0 hb.size
    have hB1 := hB0.trans (hb.mono hB0.size)
    clear hb hY0 hZ0 hz0 hB0
    have hq1 := Nat.lt_of_succ_lt hz1
    go_wp2_with fail
    go_ret
    exact ⟨ret_bool HF.out.symm, hB1⟩

set_option maxHeartbeats 4000000 in
theorem letGoUse_any (l : Lw) (la lb lc : Option Addr) (lca lcb lcc : Nat) (x : Ak) (a0 a1 a2 : Option Addr) (c0 c1 c2 : Nat) (w : World) (hl : LwAt w l la lb lc) (hx : AkAt w x a0 a1 a2) :
    Calls Tryz.prog 140 #[.agg #[], .agg (l.cells la lb lc lca lcb lcc), .agg (x.cells a0 a1 a2 c0 c1 c2)] w fun e w' => e = .returned (.bool (Gate.useLetGo l x)) ∧ Below w.heap.size w w' := by
  have HL : Hid (LwAt w l la lb lc) := hl
  have HX : Hid (AkAt w x a0 a1 a2) := hx
  clear hl hx
  unfold Ak.cells Lw.cells
  by_cases h0 : (Gate.keyOk l x) = true
  rotate_left
  · have HF : Hid (Gate.useLetGo l x = false) := by unfold Hid Gate.useLetGo; simp [h0]
    have H0 : Hid ((Gate.keyOk l x) = false) := Bool.eq_false_iff.2 h0
    clear h0
    go_enter Tryz.func140, Tryz.ntmps140
    go_wp2_with fail
    obtain ⟨W0, hW0, hY0, hZ0, hz0, hB0⟩ := three_boxes w #[] #[.slice la l.ss.length lca, .slice lb l.ms.length lcb, .slice lc l.ts.length lcc] #[.string x.who, .int .i64 x.vb, .string x.kd, .string x.nm, .string x.tm, .slice a0 x.vs.length c0, .slice a1 x.hs.length c1, .int .i64 x.sn, .string x.hd, .string x.to, .slice a2 x.r.vs.length c2, .string x.r.kd, .string x.r.tm, .string x.r.px, .int .i64 x.no] 125 40 44
    rw [← hW0]
    clear hW0
    refine (as_bool H0.out (isKey_any x a0 a1 a2 c0 c1 c2 l la lb lc lca lcb lcc _ (HL.out.ss.mono hB0) HX.out.small.nm)).mono ?_
    rintro e w1 ⟨rfl, hb⟩
    have hY1 := box_later hY0 (Nat.lt_of_succ_lt hz0) hb
    have hZ1 := box_later hZ0 hz0 hb
    have hz1 := Nat.lt_of_lt_of_le hz0 hb.size
    have hB1 := hB0.trans (hb.mono hB0.size)
    clear hb hY0 hZ0 hz0 hB0
    have hq1 := Nat.lt_of_succ_lt hz1
    go_wp2_with fail
    go_ret
    exact ⟨ret_bool HF.out.symm, hB1⟩
  by_cases h1 : (Gate.nameOk x.hd) = true
  rotate_left
  · have HF : Hid (Gate.useLetGo l x = false) := by unfold Hid Gate.useLetGo; simp [h1]
    have H0 : Hid ((Gate.keyOk l x) = true) := h0
    have H1 : Hid ((Gate.nameOk x.hd) = false) := Bool.eq_false_iff.2 h1
    clear h0 h1
    go_enter Tryz.func140, Tryz.ntmps140
    go_wp2_with fail
    obtain ⟨W0, hW0, hY0, hZ0, hz0, hB0⟩ := three_boxes w #[] #[.slice la l.ss.length lca, .slice lb l.ms.length lcb, .slice lc l.ts.length lcc] #[.string x.who, .int .i64 x.vb, .string x.kd, .string x.nm, .string x.tm, .slice a0 x.vs.length c0, .slice a1 x.hs.length c1, .int .i64 x.sn, .string x.hd, .string x.to, .slice a2 x.r.vs.length c2, .string x.r.kd, .string x.r.tm, .string x.r.px, .int .i64 x.no] 125 40 44
    rw [← hW0]
    clear hW0
    refine (as_bool H0.out (isKey_any x a0 a1 a2 c0 c1 c2 l la lb lc lca lcb lcc _ (HL.out.ss.mono hB0) HX.out.small.nm)).mono ?_
    rintro e w1 ⟨rfl, hb⟩
    have hY1 := box_later hY0 (Nat.lt_of_succ_lt hz0) hb
    have hZ1 := box_later hZ0 hz0 hb
    have hz1 := Nat.lt_of_lt_of_le hz0 hb.size
    have hB1 := hB0.trans (hb.mono hB0.size)
    clear hb hY0 hZ0 hz0 hB0
    have hq1 := Nat.lt_of_succ_lt hz1
    go_wp2_with fail
    refine (as_bool H1.out (isName_any _ _ HX.out.small.hd)).mono ?_
    rintro e w2 ⟨rfl, rfl⟩
    have hY2 := hY1
    have hZ2 := hZ1
    have hz2 := hz1
    have hB2 := hB1
    clear hY1 hZ1 hz1 hB1
    have hq2 := Nat.lt_of_succ_lt hz2
    go_wp2_with fail
    go_ret
    exact ⟨ret_bool HF.out.symm, hB2⟩
  · have HF : Hid (Gate.useLetGo l x = true) := by unfold Hid Gate.useLetGo; simp only [Bool.and_eq_true]; exact ⟨h0, h1⟩
    have H0 : Hid ((Gate.keyOk l x) = true) := h0
    have H1 : Hid ((Gate.nameOk x.hd) = true) := h1
    clear h0 h1
    go_enter Tryz.func140, Tryz.ntmps140
    go_wp2_with fail
    obtain ⟨W0, hW0, hY0, hZ0, hz0, hB0⟩ := three_boxes w #[] #[.slice la l.ss.length lca, .slice lb l.ms.length lcb, .slice lc l.ts.length lcc] #[.string x.who, .int .i64 x.vb, .string x.kd, .string x.nm, .string x.tm, .slice a0 x.vs.length c0, .slice a1 x.hs.length c1, .int .i64 x.sn, .string x.hd, .string x.to, .slice a2 x.r.vs.length c2, .string x.r.kd, .string x.r.tm, .string x.r.px, .int .i64 x.no] 125 40 44
    rw [← hW0]
    clear hW0
    refine (as_bool H0.out (isKey_any x a0 a1 a2 c0 c1 c2 l la lb lc lca lcb lcc _ (HL.out.ss.mono hB0) HX.out.small.nm)).mono ?_
    rintro e w1 ⟨rfl, hb⟩
    have hY1 := box_later hY0 (Nat.lt_of_succ_lt hz0) hb
    have hZ1 := box_later hZ0 hz0 hb
    have hz1 := Nat.lt_of_lt_of_le hz0 hb.size
    have hB1 := hB0.trans (hb.mono hB0.size)
    clear hb hY0 hZ0 hz0 hB0
    have hq1 := Nat.lt_of_succ_lt hz1
    go_wp2_with fail
    refine (as_bool H1.out (isName_any _ _ HX.out.small.hd)).mono ?_
    rintro e w2 ⟨rfl, rfl⟩
    have hY2 := hY1
    have hZ2 := hZ1
    have hz2 := hz1
    have hB2 := hB1
    clear hY1 hZ1 hz1 hB1
    have hq2 := Nat.lt_of_succ_lt hz2
    go_wp2_with fail
    go_ret
    exact ⟨ret_bool HF.out.symm, hB2⟩

set_option maxHeartbeats 4000000 in
theorem giveUse_any (l : Lw) (la lb lc : Option Addr) (lca lcb lcc : Nat) (x : Ak) (a0 a1 a2 : Option Addr) (c0 c1 c2 : Nat) (w : World) (hl : LwAt w l la lb lc) (hx : AkAt w x a0 a1 a2) :
    Calls Tryz.prog 144 #[.agg #[], .agg (l.cells la lb lc lca lcb lcc), .agg (x.cells a0 a1 a2 c0 c1 c2)] w fun e w' => e = .returned (.bool (Gate.useGive x)) ∧ Below w.heap.size w w' := by
  have HL : Hid (LwAt w l la lb lc) := hl
  have HX : Hid (AkAt w x a0 a1 a2) := hx
  clear hl hx
  unfold Ak.cells Lw.cells
  by_cases h0 : (Gate.nameOk x.to) = true
  rotate_left
  · have HF : Hid (Gate.useGive x = false) := by unfold Hid Gate.useGive; simp [h0]
    have H0 : Hid ((Gate.nameOk x.to) = false) := Bool.eq_false_iff.2 h0
    clear h0
    go_enter Tryz.func144, Tryz.ntmps144
    go_wp2_with fail
    obtain ⟨W0, hW0, hY0, hZ0, hz0, hB0⟩ := three_boxes w #[] #[.slice la l.ss.length lca, .slice lb l.ms.length lcb, .slice lc l.ts.length lcc] #[.string x.who, .int .i64 x.vb, .string x.kd, .string x.nm, .string x.tm, .slice a0 x.vs.length c0, .slice a1 x.hs.length c1, .int .i64 x.sn, .string x.hd, .string x.to, .slice a2 x.r.vs.length c2, .string x.r.kd, .string x.r.tm, .string x.r.px, .int .i64 x.no] 126 40 44
    rw [← hW0]
    clear hW0
    refine (as_bool H0.out (isName_any _ _ HX.out.small.to)).mono ?_
    rintro e w1 ⟨rfl, rfl⟩
    have hY1 := hY0
    have hZ1 := hZ0
    have hz1 := hz0
    have hB1 := hB0
    clear hY0 hZ0 hz0 hB0
    have hq1 := Nat.lt_of_succ_lt hz1
    go_wp2_with fail
    go_ret
    exact ⟨ret_bool HF.out.symm, hB1⟩
  by_cases h1 : (Gate.ruleOk x.r) = true
  rotate_left
  · have HF : Hid (Gate.useGive x = false) := by unfold Hid Gate.useGive; simp [h1]
    have H0 : Hid ((Gate.nameOk x.to) = true) := h0
    have H1 : Hid ((Gate.ruleOk x.r) = false) := Bool.eq_false_iff.2 h1
    clear h0 h1
    go_enter Tryz.func144, Tryz.ntmps144
    go_wp2_with fail
    obtain ⟨W0, hW0, hY0, hZ0, hz0, hB0⟩ := three_boxes w #[] #[.slice la l.ss.length lca, .slice lb l.ms.length lcb, .slice lc l.ts.length lcc] #[.string x.who, .int .i64 x.vb, .string x.kd, .string x.nm, .string x.tm, .slice a0 x.vs.length c0, .slice a1 x.hs.length c1, .int .i64 x.sn, .string x.hd, .string x.to, .slice a2 x.r.vs.length c2, .string x.r.kd, .string x.r.tm, .string x.r.px, .int .i64 x.no] 126 40 44
    rw [← hW0]
    clear hW0
    refine (as_bool H0.out (isName_any _ _ HX.out.small.to)).mono ?_
    rintro e w1 ⟨rfl, rfl⟩
    have hY1 := hY0
    have hZ1 := hZ0
    have hz1 := hz0
    have hB1 := hB0
    clear hY0 hZ0 hz0 hB0
    have hq1 := Nat.lt_of_succ_lt hz1
    go_wp2_with fail
    refine (as_bool H1.out (isRule_any x.r _ _ _ HX.out.small.r (HX.out.r.mono hB1))).mono ?_
    rintro e w2 ⟨rfl, hb⟩
    have hY2 := box_later hY1 (Nat.lt_of_succ_lt hz1) hb
    have hZ2 := box_later hZ1 hz1 hb
    have hz2 := Nat.lt_of_lt_of_le hz1 hb.size
    have hB2 := hB1.trans (hb.mono hB1.size)
    clear hb hY1 hZ1 hz1 hB1
    have hq2 := Nat.lt_of_succ_lt hz2
    go_wp2_with fail
    go_ret
    exact ⟨ret_bool HF.out.symm, hB2⟩
  · have HF : Hid (Gate.useGive x = true) := by unfold Hid Gate.useGive; simp only [Bool.and_eq_true]; exact ⟨h0, h1⟩
    have H0 : Hid ((Gate.nameOk x.to) = true) := h0
    have H1 : Hid ((Gate.ruleOk x.r) = true) := h1
    clear h0 h1
    go_enter Tryz.func144, Tryz.ntmps144
    go_wp2_with fail
    obtain ⟨W0, hW0, hY0, hZ0, hz0, hB0⟩ := three_boxes w #[] #[.slice la l.ss.length lca, .slice lb l.ms.length lcb, .slice lc l.ts.length lcc] #[.string x.who, .int .i64 x.vb, .string x.kd, .string x.nm, .string x.tm, .slice a0 x.vs.length c0, .slice a1 x.hs.length c1, .int .i64 x.sn, .string x.hd, .string x.to, .slice a2 x.r.vs.length c2, .string x.r.kd, .string x.r.tm, .string x.r.px, .int .i64 x.no] 126 40 44
    rw [← hW0]
    clear hW0
    refine (as_bool H0.out (isName_any _ _ HX.out.small.to)).mono ?_
    rintro e w1 ⟨rfl, rfl⟩
    have hY1 := hY0
    have hZ1 := hZ0
    have hz1 := hz0
    have hB1 := hB0
    clear hY0 hZ0 hz0 hB0
    have hq1 := Nat.lt_of_succ_lt hz1
    go_wp2_with fail
    refine (as_bool H1.out (isRule_any x.r _ _ _ HX.out.small.r (HX.out.r.mono hB1))).mono ?_
    rintro e w2 ⟨rfl, hb⟩
    have hY2 := box_later hY1 (Nat.lt_of_succ_lt hz1) hb
    have hZ2 := box_later hZ1 hz1 hb
    have hz2 := Nat.lt_of_lt_of_le hz1 hb.size
    have hB2 := hB1.trans (hb.mono hB1.size)
    clear hb hY1 hZ1 hz1 hB1
    have hq2 := Nat.lt_of_succ_lt hz2
    go_wp2_with fail
    go_ret
    exact ⟨ret_bool HF.out.symm, hB2⟩

set_option maxHeartbeats 4000000 in
theorem takeUse_any (l : Lw) (la lb lc : Option Addr) (lca lcb lcc : Nat) (x : Ak) (a0 a1 a2 : Option Addr) (c0 c1 c2 : Nat) (w : World) (hl : LwAt w l la lb lc) (hx : AkAt w x a0 a1 a2) :
    Calls Tryz.prog 151 #[.agg #[], .agg (l.cells la lb lc lca lcb lcc), .agg (x.cells a0 a1 a2 c0 c1 c2)] w fun e w' => e = .returned (.bool (Gate.useTake x)) ∧ Below w.heap.size w w' := by
  have HL : Hid (LwAt w l la lb lc) := hl
  have HX : Hid (AkAt w x a0 a1 a2) := hx
  clear hl hx
  unfold Ak.cells Lw.cells
  by_cases h0 : (decide (1 ≤ x.no)) = true
  rotate_left
  · have HF : Hid (Gate.useTake x = false) := by unfold Hid Gate.useTake; simp [h0]
    have g0 : decide (1 ≤ x.no) = false := decide_eq_false (by have := of_decide_eq_false (Bool.eq_false_iff.2 h0); omega)
    clear h0
    go_enter Tryz.func151, Tryz.ntmps151
    go_wp2_with fail
    go_ret
    exact ⟨ret_bool HF.out.symm, below3' _ _ _ _⟩
  · have HF : Hid (Gate.useTake x = true) := by unfold Hid Gate.useTake; exact h0
    have g0 : 1 ≤ x.no := by have := of_decide_eq_true h0; omega
    clear h0
    go_enter Tryz.func151, Tryz.ntmps151
    go_wp2_with fail
    go_ret
    exact ⟨ret_bool HF.out.symm, below3' _ _ _ _⟩

end Go.Proofs.YthldiefbpemoaaaGreat
