import Derived.Lib.ItoaLen
import Derived.Test.YtmfgjafdnopfbaaGreatM09
import Derived.Lib.QuoteBits
import Derived.Test.YtmfgjafdnopfbaaGreatM08
import Derived.Deep.QuietTactic
import Derived.BigQuiet
import Derived.Test.YtmfgjafdnopfbaaGreatM10
import Derived.Test.YtmfgjafdnopfbaaGreatM07
import Derived.Test.YtmfgjafdnopfbaaGreatRows
import Derived.Test.YtmfgjafdnopfbaaGreatM01
import Derived.WalkKit
import Derived.WalkSpells
import Derived.WalkLawsBesides
import Derived.Deep.RegionWith
import Derived.Deep.RegionHeld3
namespace Go.Proofs.YtmfgjafdnopfbaaGreat
open Go.RowKit
theorem Gate.ziS {n : Nat} (h : ¬ n < 10) : (⟨(Lib.decDigits n).toArray⟩ : ByteArray) = ⟨(Lib.decDigits (n / 10)).toArray⟩ ++ ⟨#[UInt8.ofNat (48 + n % 10)]⟩ := by
  rw [Lib.decDigits, dif_neg h, ByteArray.mk_append_mk]
set_option maxHeartbeats 1000000 in
theorem zhS (n : Nat) (h : ¬ n < 10) (hn : n < 4611686018427387904) (ih : zhk (n / 10)) : zhk n := by
  intro w
  have hI : ¬ (n : Int) < 10 := by omega
  have hnI : (n : Int) < 4611686018427387904 := by omega
  have h0 : (0 : Int) <= (n : Int) := by omega
  obtain ⟨q, HQ⟩ : ∃ q : ByteArray, Hid (⟨(Lib.decDigits (n / 10)).toArray⟩ = q) := ⟨_, rfl⟩
  obtain ⟨d, HD⟩ : ∃ d : ByteArray, Hid (⟨#[UInt8.ofNat (48 + n % 10)]⟩ = d) := ⟨_, rfl⟩
  have hr0 : 0 <= (n : Int) % 10 := by omega
  have hr1 : (n : Int) % 10 < 10 := by omega
  have hrem : (n : Int).tmod 10 = (n : Int) % 10 := Int.tmod_eq_emod_of_nonneg (by omega)
  have hw1 : IntKind.i64.wrap ((n : Int) / 10) = (n : Int) / 10 := by
    have e : ((n : Int) / 10) = ((n / 10 : Nat) : Int) := by simp
    rw [e]; exact Lib.wrap_i64_small _ (by omega)
  have hw2 : IntKind.u8.wrap (IntKind.i64.wrap (48 + (n : Int) % 10)) = 48 + (n : Int) % 10 := by
    have e : (48 + (n : Int) % 10) = ((48 + n % 10 : Nat) : Int) := by simp
    rw [e, Lib.wrap_i64_small _ (by omega)]
    show (((48 + n % 10 : Nat) : Int)) % 256 = _
    omega
  have HC : Hid (∀ w, Calls Tryz.prog 82 #[.int .i64 (IntKind.i64.wrap ((n : Int) / 10))] w fun e w' => e = .returned (.string q) /\ Below w.heap.size w w') := by rw [hw1, <- HQ.out]; exact ih
  have hsz : q.size + d.size <= 9223372036854775807 := by
    have h1 := Lib.itoa_length_le ((n / 10 : Nat) : Int) (by omega) (by omega)
    rw [Lib.itoa_nonneg] at h1
    have h2 : q.size <= 21 := by rw [<- HQ.out]; simpa [ByteArray.size] using h1
    have h3 : d.size = 1 := by rw [<- HD.out]; rfl
    omega
  obtain ⟨s, hadd, HF⟩ : ∃ s : ByteArray, (∀ W, (Op.stringOp .add q d).run Tryz.prog W = .ok (.string s) W) /\ Hid ((⟨(Lib.decDigits n).toArray⟩ : ByteArray) = s) := ⟨q ++ d, fun W => run_string_add_sum W _ _ hsz, by rw [<- HQ.out, <- HD.out]; exact Gate.ziS h⟩
  have hbk : ∀ (W : World) (b : Nat), W.cell? ⟨b, 0, none⟩ = some (.int .u8 (IntKind.u8.wrap (IntKind.i64.wrap (48 + (n : Int).tmod 10)))) -> (convert 22 9 (.slice (some ⟨b, 0, none⟩) 1 1)).run Tryz.prog W = .ok (.string d) W := fun W b hc => by
    rw [<- HD.out]; exact byte_back (n := n % 10) (by omega) W b (by rw [hc, hrem, hw2]; simp)
  clear hn ih hsz hw1 hw2 HQ HD hrem hr0 hr1
  go_enter Tryz.func82, Tryz.ntmps82
  go_wp2_with fail
  have hB0 : Below w.heap.size w w.drew := (Below.refl _ _).drew
  have hB1 : ∀ o, Below w.heap.size w (w.alloc o).drew := fun o => ((Below.refl _ _).alloc (Nat.le_refl _) o).drew
  refine wp_region_held_drew (S := fun _ => True) (by kernel_rfl) trivial (fun hHeld => ?_)
  refine qb (i := 0) (v := ?_) rfl (by kernel_rfl) (by kernel_rfl) (by kernel_rfl) (fun _ _ _ h => h) (by rfl) hHeld ?_ ?_
  rotate_left
  · intro w hSw
    go_simp
    try with_reducible rfl
  (try simp only [Act.put, List.setIfInBounds_toArray, List.set_cons_zero, List.set_cons_succ])
  refine qb (i := 1) (v := ?_) rfl (by kernel_rfl) (by kernel_rfl) (by kernel_rfl) (fun _ _ _ h => h) (by rfl) hHeld ?_ ?_
  rotate_left
  · intro w hSw
    go_simp
    try with_reducible rfl
  (try simp only [Act.put, List.setIfInBounds_toArray, List.set_cons_zero, List.set_cons_succ])
  refine qb (i := 3) (v := ?_) rfl (by kernel_rfl) (by kernel_rfl) (by kernel_rfl) (fun _ _ _ h => h) (by rfl) hHeld ?_ ?_
  rotate_left
  · intro w hSw
    go_simp
    try with_reducible rfl
  (try simp only [Act.put, List.setIfInBounds_toArray, List.set_cons_zero, List.set_cons_succ])
  refine qb (i := 4) (v := ?_) rfl (by kernel_rfl) (by kernel_rfl) (by kernel_rfl) (fun _ _ _ h => h) (by rfl) hHeld ?_ ?_
  rotate_left
  · intro w hSw
    go_simp
    try with_reducible rfl
  (try simp only [Act.put, List.setIfInBounds_toArray, List.set_cons_zero, List.set_cons_succ])
  refine qb (i := 5) (v := ?_) rfl (by kernel_rfl) (by kernel_rfl) (by kernel_rfl) (fun _ _ _ h => h) (by rfl) hHeld ?_ ?_
  rotate_left
  · intro w hSw
    go_simp
    try with_reducible rfl
  (try simp only [Act.put, List.setIfInBounds_toArray, List.set_cons_zero, List.set_cons_succ])
  refine qb (i := 6) (v := ?_) rfl (by kernel_rfl) (by kernel_rfl) (by kernel_rfl) (fun _ _ _ h => h) (by rfl) hHeld ?_ ?_
  rotate_left
  · intro w hSw
    go_simp
    try with_reducible rfl
  (try simp only [Act.put, List.setIfInBounds_toArray, List.set_cons_zero, List.set_cons_succ])
  refine wpAnyH_ready (rs := [2, 7]) (by kernel_rfl) (by simp) (AllReadyH.cons (jZ (i := 2) rfl) (fun K hK => ?_) (AllReadyH.cons (jZ (i := 7) rfl) (fun K hK => ?_) AllReadyH.nil))
  · rw [if_pos (by rfl)]
    go_simp
    refine (HC.out _).mono ?_
    rintro e w4 ⟨rfl, hb4⟩
    (try go_wp2_with fail)
    refine hK.out _ _ trivial (fun hHeld => ?_)
    clear hK K
    (try simp only [Act.put, List.setIfInBounds_toArray, List.set_cons_zero, List.set_cons_succ])
    refine zdv (i := 7) rfl (by kernel_rfl) (by rfl) (fun K hK => ?_)
    go_simp
    (try go_wp2_with fail)
    refine hK.out _ _ trivial (fun hHeld => ?_)
    clear hK K
    (try simp only [Act.put, List.setIfInBounds_toArray, List.set_cons_zero, List.set_cons_succ])
    have hc8 := hbk (w4.alloc (.cells #[.int .u8 (IntKind.u8.wrap (IntKind.i64.wrap (48 + (n : Int).tmod 10)))] 5)) w4.heap.size (zo w4 _ _ 0)
    refine zdv (i := 8) rfl (by kernel_rfl) (by rfl) (fun K hK => ?_)
    go_simp
    (try go_wp2_with fail)
    refine hK.out _ _ trivial (fun hHeld => ?_)
    clear hK K
    (try simp only [Act.put, List.setIfInBounds_toArray, List.set_cons_zero, List.set_cons_succ])
    refine qb (i := 9) (v := ?_) rfl (by kernel_rfl) (by kernel_rfl) (by kernel_rfl) (fun _ _ _ h => h) (by rfl) hHeld ?_ ?_
    rotate_left
    · intro w hSw
      go_simp
      try with_reducible rfl
    (try simp only [Act.put, List.setIfInBounds_toArray, List.set_cons_zero, List.set_cons_succ])
    refine qb (i := 10) (v := ?_) rfl (by kernel_rfl) (by kernel_rfl) (by kernel_rfl) (fun _ _ _ h => h) (by rfl) hHeld ?_ ?_
    rotate_left
    · intro w hSw
      go_simp
      try with_reducible rfl
    (try simp only [Act.put, List.setIfInBounds_toArray, List.set_cons_zero, List.set_cons_succ])
    refine wpAnyH_done (by kernel_rfl) ?_ _
    go_wp2_with fail
    go_ret
    exact ⟨by rw [HF.out]; rfl, ((hB0.trans (hb4.mono hB0.size)).alloc (hB0.trans (hb4.mono hB0.size)).size _)⟩
  · rw [if_pos (by rfl)]
    go_simp
    (try go_wp2_with fail)
    refine hK.out _ _ trivial (fun hHeld => ?_)
    clear hK K
    (try simp only [Act.put, List.setIfInBounds_toArray, List.set_cons_zero, List.set_cons_succ])
    refine wpAnyH_ready (rs := [2, 8]) (by kernel_rfl) (by simp) (AllReadyH.cons (jZ (i := 2) rfl) (fun K hK => ?_) (AllReadyH.cons (jZ (i := 8) rfl) (fun K hK => ?_) AllReadyH.nil))
    · rw [if_pos (by rfl)]
      go_simp
      refine (HC.out _).mono ?_
      rintro e w4 ⟨rfl, hb4⟩
      (try go_wp2_with fail)
      refine hK.out _ _ trivial (fun hHeld => ?_)
      clear hK K
      (try simp only [Act.put, List.setIfInBounds_toArray, List.set_cons_zero, List.set_cons_succ])
      have hc8 := hbk w4 w.heap.size ((hb4.cell (p := ⟨w.heap.size, 0, none⟩) (by simp)).trans (zo w _ _ 0))
      refine zdv (i := 8) rfl (by kernel_rfl) (by rfl) (fun K hK => ?_)
      go_simp
      (try go_wp2_with fail)
      refine hK.out _ _ trivial (fun hHeld => ?_)
      clear hK K
      (try simp only [Act.put, List.setIfInBounds_toArray, List.set_cons_zero, List.set_cons_succ])
      refine qb (i := 9) (v := ?_) rfl (by kernel_rfl) (by kernel_rfl) (by kernel_rfl) (fun _ _ _ h => h) (by rfl) hHeld ?_ ?_
      rotate_left
      · intro w hSw
        go_simp
        try with_reducible rfl
      (try simp only [Act.put, List.setIfInBounds_toArray, List.set_cons_zero, List.set_cons_succ])
      refine qb (i := 10) (v := ?_) rfl (by kernel_rfl) (by kernel_rfl) (by kernel_rfl) (fun _ _ _ h => h) (by rfl) hHeld ?_ ?_
      rotate_left
      · intro w hSw
        go_simp
        try with_reducible rfl
      (try simp only [Act.put, List.setIfInBounds_toArray, List.set_cons_zero, List.set_cons_succ])
      refine wpAnyH_done (by kernel_rfl) ?_ _
      go_wp2_with fail
      go_ret
      exact ⟨by rw [HF.out]; rfl, (hB1 _).trans (hb4.mono (hB1 _).size)⟩
    · rw [if_pos (by rfl)]
      have hc8 := hbk (w.alloc (.cells #[.int .u8 (IntKind.u8.wrap (IntKind.i64.wrap (48 + (n : Int).tmod 10)))] 5)).drew w.heap.size (zo w _ _ 0)
      go_simp
      (try go_wp2_with fail)
      refine hK.out _ _ trivial (fun hHeld => ?_)
      clear hK K
      (try simp only [Act.put, List.setIfInBounds_toArray, List.set_cons_zero, List.set_cons_succ])
      refine zdv (i := 2) rfl (by kernel_rfl) (by rfl) (fun K hK => ?_)
      go_simp
      refine (HC.out _).mono ?_
      rintro e w4 ⟨rfl, hb4⟩
      (try go_wp2_with fail)
      refine hK.out _ _ trivial (fun hHeld => ?_)
      clear hK K
      (try simp only [Act.put, List.setIfInBounds_toArray, List.set_cons_zero, List.set_cons_succ])
      refine qb (i := 9) (v := ?_) rfl (by kernel_rfl) (by kernel_rfl) (by kernel_rfl) (fun _ _ _ h => h) (by rfl) hHeld ?_ ?_
      rotate_left
      · intro w hSw
        go_simp
        try with_reducible rfl
      (try simp only [Act.put, List.setIfInBounds_toArray, List.set_cons_zero, List.set_cons_succ])
      refine qb (i := 10) (v := ?_) rfl (by kernel_rfl) (by kernel_rfl) (by kernel_rfl) (fun _ _ _ h => h) (by rfl) hHeld ?_ ?_
      rotate_left
      · intro w hSw
        go_simp
        try with_reducible rfl
      (try simp only [Act.put, List.setIfInBounds_toArray, List.set_cons_zero, List.set_cons_succ])
      refine wpAnyH_done (by kernel_rfl) ?_ _
      go_wp2_with fail
      go_ret
      exact ⟨by rw [HF.out]; rfl, (hB1 _).trans (hb4.mono (hB1 _).size)⟩
theorem zht (n : Nat) : n < 4611686018427387904 -> zhk n := by
  induction n using Nat.strongRecOn with
  | _ n ih =>
    intro hn
    by_cases h : n < 10
    · exact zgc n h
    · exact zhS n h hn (ih (n / 10) (by omega) (by omega))
end Go.Proofs.YtmfgjafdnopfbaaGreat

namespace Go.Proofs.YtmfgjafdnopfbaaGreat
open Go.RowKit
set_option maxHeartbeats 1000000 in
theorem l2Fields_yes (a0 : Option Addr) (cap0 : Nat) (ss : List Shp) (o : Ob) (a a' : Option Addr) (cap cap' : Nat) (w : World) (hw : yG w a0 ss) (_ho : qX w o a a') (hc : Gate.yL ss o = true) :
    Calls Tryz.prog 71 #[.slice a0 ss.length cap0, .agg #[.string o.kd, .string o.nm, .string o.tm, .slice a o.vs.length cap, .bool o.en, .slice a' o.hs.length cap', .int .i64 o.vr]] w fun e w' => ∃ fa fcap, e = .returned (.tuple #[.slice fa (Gate.shapeOf ss o.kd).fs.length fcap, .bool true]) /\ yc w fa (Gate.shapeOf ss o.kd).fs /\ Below w.heap.size w w' := by
  unfold Gate.yL at hc
  simp only [Bool.and_eq_true, decide_eq_true_eq] at hc
  have HK := hid hc.1
  have HL := hid hc.2
  clear hc
  have hl := hw.len
  unfold maxLen at hl
  go_enter Tryz.func71, Tryz.ntmps71
  go_wp2_with fail
  refine (jr _ _ _ _ _ (hw.mono ((Below.refl _ _).alloc (Nat.le_refl _) _)) HK.out).mono ?_
  rintro e w1 ⟨ix, hix, rfl, hsh, rfl⟩
  have HSh := hid hsh
  clear hsh
  obtain ⟨b, off, rfl, hb, hr⟩ := hw.rows (by rintro rfl; simp at hix)
  obtain ⟨fa, fcap, hs⟩ := hr ix hix
  have hcl := hs.list
  have hfl := hs.flds
  have hixI : (ix : Int) < (ss.length : Int) := by omega
  have hix0 : decide ((ix : Int) < 0) = false := by simp
  have hneq : ((ss[ix].fs.length : Int) != (o.vs.length : Int)) = false := by have h1 := HL.out; have h2 := HSh.out; rw [h2] at h1; simp [h1]
  have hbw := hb
  clear hr hs
  go_wp2_with fail
  go_quiet (fail)
  go_wp2_with fail
  go_ret2
  rw [HSh.out]
  exact ⟨fa, fcap, rfl, hfl, below_drewN ((Below.refl _ _).alloc (Nat.le_refl _) _) _⟩
set_option maxHeartbeats 1000000 in
theorem zdZ (a0 : Option Addr) (cap0 : Nat) (ss : List Shp) (o : Ob) (a a' : Option Addr) (cap cap' : Nat) (w : World) (hw : yG w a0 ss) (_ho : qX w o a a') (hc : Gate.yL ss o = false) :
    Calls Tryz.prog 71 #[.slice a0 ss.length cap0, .agg #[.string o.kd, .string o.nm, .string o.tm, .slice a o.vs.length cap, .bool o.en, .slice a' o.hs.length cap', .int .i64 o.vr]] w fun e w' => ∃ v, e = .returned (.tuple #[v, .bool false]) /\ Below w.heap.size w w' := by
  have hl := hw.len
  unfold maxLen at hl
  by_cases hk : Gate.zy ss o.kd = true
  · have HK := hid hk
    have HL : Hid (¬ o.vs.length = (Gate.shapeOf ss o.kd).fs.length) := by unfold Gate.yL at hc; rw [hk] at hc; simpa [Hid] using hc
    clear hc hk
    go_enter Tryz.func71, Tryz.ntmps71
    go_wp2_with fail
    refine (jr _ _ _ _ _ (hw.mono ((Below.refl _ _).alloc (Nat.le_refl _) _)) HK.out).mono ?_
    rintro e w1 ⟨ix, hix, rfl, hsh, rfl⟩
    have HSh := hid hsh
    clear hsh
    obtain ⟨b, off, rfl, hb, hr⟩ := hw.rows (by rintro rfl; simp at hix)
    obtain ⟨fa, fcap, hs⟩ := hr ix hix
    have hcl := hs.list
    have hixI : (ix : Int) < (ss.length : Int) := by omega
    have hix0 : decide ((ix : Int) < 0) = false := by simp
    have hneq : ((ss[ix].fs.length : Int) != (o.vs.length : Int)) = true := by have h1 := HL.out; have h2 := HSh.out; rw [h2] at h1; rw [bne_iff_ne]; omega
    have hbw := hb
    clear hr hs
    go_wp2_with fail
    go_quiet (fail)
    go_wp2_with fail
    go_ret2
    exact ⟨_, rfl, below_drewN (yC _ _ _) _⟩
  · have HK : Hid (Gate.zy ss o.kd = false) := by simpa [Hid] using hk
    clear hc hk
    go_enter Tryz.func71, Tryz.ntmps71
    go_wp2_with fail
    refine (zbY _ _ _ _ _ (hw.mono ((Below.refl _ _).alloc (Nat.le_refl _) _)) HK.out).mono ?_
    rintro e w1 ⟨rfl, rfl⟩
    go_wp2_with fail
    go_quiet (fail)
    go_wp2_with fail
    go_ret2
    exact ⟨_, rfl, below_drewN (yC _ _ _) _⟩
end Go.Proofs.YtmfgjafdnopfbaaGreat

namespace Go.Proofs.YtmfgjafdnopfbaaGreat
open Go.RowKit
set_option maxHeartbeats 400000 in
theorem zbm (ls ms lo hi : Int) (w : World) :
    Calls Tryz.prog 113 #[.int .i64 ls, .int .i64 ms, .int .i64 lo, .int .i64 hi] w fun e w' => e = .returned (.bool (Gate.zab ls ms lo hi)) /\ w' = w := by
  go_enter Tryz.func113, Tryz.ntmps113
  go_wp2
  all_goals
    go_ret
    refine ⟨zh ?_, rfl⟩
    rw [Bool.eq_iff_iff]; simp [Gate.zab]; try omega
set_option maxHeartbeats 400000 in
theorem zan (nm : ByteArray) (kd ls ms : Int) (a : Option Addr) (n cap : Nat) (to : ByteArray) (rl : Int) (mu fx : Bool) (df wg : ByteArray) (w : World) :
    Calls Tryz.prog 109 #[.agg #[.string nm, .int .i64 kd, .int .i64 ls, .int .i64 ms, .slice a n cap, .string to, .int .i64 rl, .bool mu, .bool fx, .string df, .string wg]] w fun e w' => e = .returned (.bool (Gate.yP 1 ls ms n to rl wg)) /\ Below w.heap.size w w' := by
  go_enter Tryz.func109, Tryz.ntmps109
  go_wp2
  all_goals
    go_ret
    refine ⟨zh ?_, (Below.refl _ _).alloc (Nat.le_refl _) _⟩
    simp_all [Gate.yP]
    try (rw [Bool.eq_iff_iff]; simp)
set_option maxHeartbeats 400000 in
theorem zaZ (nm : ByteArray) (kd ls ms : Int) (a : Option Addr) (n cap : Nat) (to : ByteArray) (rl : Int) (mu fx : Bool) (df wg : ByteArray) (w : World) :
    Calls Tryz.prog 114 #[.agg #[.string nm, .int .i64 kd, .int .i64 ls, .int .i64 ms, .slice a n cap, .string to, .int .i64 rl, .bool mu, .bool fx, .string df, .string wg]] w fun e w' => e = .returned (.bool (Gate.yP 2 ls ms n to rl wg)) /\ Below w.heap.size w w' := by
  go_enter Tryz.func114, Tryz.ntmps114
  go_wp2
  all_goals
    go_ret
    refine ⟨zh ?_, (Below.refl _ _).alloc (Nat.le_refl _) _⟩
    simp_all [Gate.yP]
    try (rw [Bool.eq_iff_iff]; simp)
set_option maxHeartbeats 400000 in
theorem za3 (nm : ByteArray) (kd ls ms : Int) (a : Option Addr) (n cap : Nat) (to : ByteArray) (rl : Int) (mu fx : Bool) (df wg : ByteArray) (w : World) :
    Calls Tryz.prog 120 #[.agg #[.string nm, .int .i64 kd, .int .i64 ls, .int .i64 ms, .slice a n cap, .string to, .int .i64 rl, .bool mu, .bool fx, .string df, .string wg]] w fun e w' => e = .returned (.bool (Gate.yP 3 ls ms n to rl wg)) /\ Below w.heap.size w w' := by
  go_enter Tryz.func120, Tryz.ntmps120
  go_wp2
  all_goals
    go_ret
    refine ⟨zh ?_, (Below.refl _ _).alloc (Nat.le_refl _) _⟩
    simp_all [Gate.yP]
    try (rw [Bool.eq_iff_iff]; simp)
set_option maxHeartbeats 400000 in
theorem za4 (nm : ByteArray) (kd ls ms : Int) (a : Option Addr) (n cap : Nat) (to : ByteArray) (rl : Int) (mu fx : Bool) (df wg : ByteArray) (w : World) :
    Calls Tryz.prog 123 #[.agg #[.string nm, .int .i64 kd, .int .i64 ls, .int .i64 ms, .slice a n cap, .string to, .int .i64 rl, .bool mu, .bool fx, .string df, .string wg]] w fun e w' => e = .returned (.bool (Gate.yP 4 ls ms n to rl wg)) /\ Below w.heap.size w w' := by
  go_enter Tryz.func123, Tryz.ntmps123
  go_wp2
  all_goals
    go_ret
    refine ⟨zh ?_, (Below.refl _ _).alloc (Nat.le_refl _) _⟩
    simp_all [Gate.yP]
    try (rw [Bool.eq_iff_iff]; simp)
set_option maxHeartbeats 400000 in
theorem zaT (nm : ByteArray) (ls ms : Int) (a : Option Addr) (cap : Nat) (ws : List ByteArray) (to : ByteArray) (rl : Int) (mu fx : Bool) (df wg : ByteArray) (a0 : Option Addr) (cap0 : Nat) (ss : List Shp) (w : World) (hwg : wg.size <= maxLen) :
    Calls Tryz.prog 111 #[.agg #[.string nm, .int .i64 1, .int .i64 ls, .int .i64 ms, .slice a ws.length cap, .string to, .int .i64 rl, .bool mu, .bool fx, .string df, .string wg], .slice a0 ss.length cap0] w fun e w' => e = .returned (.bool (Gate.zV ss ⟨nm, 1, ls, ms, ws, to, rl, mu, fx, df, wg⟩)) /\ Below w.heap.size w w' := by
  have HF : Hid (Gate.zV ss ⟨nm, 1, ls, ms, ws, to, rl, mu, fx, df, wg⟩ = (Gate.zab ls ms 0 1000000 && (wg.toList.isEmpty || Gate.zL wg))) := by simp [Gate.zV, Hid]
  by_cases hr : Gate.zab ls ms 0 1000000 = true
  · by_cases he : wg.toList.isEmpty = true
    · go_enter Tryz.func111, Tryz.ntmps111
      go_wp2_with (go_at_call 113; refine (zbm _ _ _ _ _).mono ?_; rintro e w' ⟨rfl, rfl⟩)
      go_ret
      exact ⟨zh (by rw [HF.out, hr, he]; rfl), (Below.refl _ _).alloc (Nat.le_refl _) _⟩
    · have he' : wg.toList.isEmpty = false := by simpa using he
      clear he
      go_enter Tryz.func111, Tryz.ntmps111
      go_wp2_with (first | (go_at_call 113; refine (zbm _ _ _ _ _).mono ?_; rintro e w' ⟨rfl, rfl⟩) | (go_at_call 40; refine (qD _ _ hwg).mono ?_; rintro e w' ⟨rfl, rfl⟩))
      go_ret
      exact ⟨zh (by rw [HF.out, hr, he']; rfl), (Below.refl _ _).alloc (Nat.le_refl _) _⟩
  · have hr' : Gate.zab ls ms 0 1000000 = false := by simpa using hr
    clear hr
    go_enter Tryz.func111, Tryz.ntmps111
    go_wp2_with (go_at_call 113; refine (zbm _ _ _ _ _).mono ?_; rintro e w' ⟨rfl, rfl⟩)
    go_ret
    exact ⟨zh (by rw [HF.out, hr']; rfl), (Below.refl _ _).alloc (Nat.le_refl _) _⟩
set_option maxHeartbeats 400000 in
theorem zbx (nm : ByteArray) (ls ms : Int) (a : Option Addr) (cap : Nat) (ws : List ByteArray) (to : ByteArray) (rl : Int) (mu fx : Bool) (df wg : ByteArray) (a0 : Option Addr) (cap0 : Nat) (ss : List Shp) (w : World) :
    Calls Tryz.prog 122 #[.agg #[.string nm, .int .i64 3, .int .i64 ls, .int .i64 ms, .slice a ws.length cap, .string to, .int .i64 rl, .bool mu, .bool fx, .string df, .string wg], .slice a0 ss.length cap0] w fun e w' => e = .returned (.bool (Gate.zV ss ⟨nm, 3, ls, ms, ws, to, rl, mu, fx, df, wg⟩)) /\ Below w.heap.size w w' := by
  have HF : Hid (Gate.zV ss ⟨nm, 3, ls, ms, ws, to, rl, mu, fx, df, wg⟩ = Gate.zab ls ms 1 40) := by simp [Gate.zV, Hid]
  go_enter Tryz.func122, Tryz.ntmps122
  go_wp2_with (go_at_call 113; refine (zbm _ _ _ _ _).mono ?_; rintro e w' ⟨rfl, rfl⟩)
  go_ret
  exact ⟨zh HF.out.symm, (Below.refl _ _).alloc (Nat.le_refl _) _⟩
set_option maxHeartbeats 400000 in
theorem zby (nm : ByteArray) (ls ms : Int) (a : Option Addr) (cap : Nat) (ws : List ByteArray) (to : ByteArray) (rl : Int) (mu fx : Bool) (df wg : ByteArray) (a0 : Option Addr) (cap0 : Nat) (ss : List Shp) (w : World) (hw : zZ w a ws) :
    Calls Tryz.prog 116 #[.agg #[.string nm, .int .i64 2, .int .i64 ls, .int .i64 ms, .slice a ws.length cap, .string to, .int .i64 rl, .bool mu, .bool fx, .string df, .string wg], .slice a0 ss.length cap0] w fun e w' => e = .returned (.bool (Gate.zV ss ⟨nm, 2, ls, ms, ws, to, rl, mu, fx, df, wg⟩)) /\ Below w.heap.size w w' := by
  have HF : Hid (Gate.zV ss ⟨nm, 2, ls, ms, ws, to, rl, mu, fx, df, wg⟩ = (decide (1 <= ws.length) && decide (ws.length <= 6) && Gate.asc ws)) := by simp [Gate.zV, Hid]
  have hl := hw.len
  unfold maxLen at hl
  by_cases h1 : 0 < ws.length
  · by_cases h6 : ws.length <= 6
    · go_enter Tryz.func116, Tryz.ntmps116
      go_wp2_with (go_at_call 118; refine (zg7 _ _ _ _ (by exact hw.mono ((Below.refl _ _).alloc (Nat.le_refl _) _))).mono ?_; rintro e w' ⟨rfl, rfl⟩)
      go_ret
      exact ⟨zh (by rw [HF.out, decide_eq_true (show 1 <= ws.length by omega), decide_eq_true h6]; rfl), (Below.refl _ _).alloc (Nat.le_refl _) _⟩
    · go_enter Tryz.func116, Tryz.ntmps116
      go_wp2_with fail
      go_ret
      exact ⟨zh (by rw [HF.out, decide_eq_true (show 1 <= ws.length by omega), decide_eq_false (show ¬ ws.length <= 6 by omega)]; rfl), (Below.refl _ _).alloc (Nat.le_refl _) _⟩
  · go_enter Tryz.func116, Tryz.ntmps116
    go_wp2_with fail
    go_ret
    exact ⟨zh (by rw [HF.out, decide_eq_false (show ¬ 1 <= ws.length by omega)]; rfl), (Below.refl _ _).alloc (Nat.le_refl _) _⟩
end Go.Proofs.YtmfgjafdnopfbaaGreat

namespace Go.Proofs.YtmfgjafdnopfbaaGreat
open Go.RowKit
set_option maxHeartbeats 400000 in
theorem zcB (nm : ByteArray) (kd ls ms : Int) (sl : Value) (to : ByteArray) (rl : Int) (mu fx : Bool) (df wg : ByteArray) (s : ByteArray) (w : World) (hs : s.size <= maxLen) :
    Calls Tryz.prog 110 #[.agg #[.string nm, .int .i64 kd, .int .i64 ls, .int .i64 ms, sl, .string to, .int .i64 rl, .bool mu, .bool fx, .string df, .string wg], .string s] w
      fun e w' => e = .returned (.bool (Gate.jP ls ms s)) /\ Below w.heap.size w w' := by
  by_cases hd : Gate.jQ s = true
  · have HE : Hid (zcs s = Gate.zdB s) := by unfold zcs Hid; rw [hd]; rfl
    have HF : Hid (Gate.jP ls ms s = (decide (ls <= Gate.zdB s) && decide (Gate.zdB s <= ms))) := by unfold Gate.jP Hid; rw [hd]; rfl
    go_enter Tryz.func110, Tryz.ntmps110
    go_wp2_with (go_at_call 112; refine (zcV _ _ hs).mono ?_; rintro e w' ⟨rfl, rfl⟩)
    all_goals
      go_ret
      refine ⟨zh ?_, (Below.refl _ _).alloc (Nat.le_refl _) _⟩
      rw [HF.out]; have := HE.out; rw [Bool.eq_iff_iff]; simp; omega
  · have hd' : Gate.jQ s = false := by simpa using hd
    have HF : Hid (Gate.jP ls ms s = false) := by unfold Gate.jP Hid; rw [hd']; rfl
    go_enter Tryz.func110, Tryz.ntmps110
    go_wp2_with (go_at_call 112; refine (zcV _ _ hs).mono ?_; rintro e w' ⟨rfl, rfl⟩)
    go_ret
    exact ⟨zh HF.out.symm, (Below.refl _ _).alloc (Nat.le_refl _) _⟩
end Go.Proofs.YtmfgjafdnopfbaaGreat

namespace Go.Proofs.YtmfgjafdnopfbaaGreat
open Go.RowKit
def zk (lo : Nat) (w : World) (a : Option Addr) (ws : List ByteArray) : Prop :=
  (a = none /\ ws = []) \/ ∃ g C, a = some ⟨g, 0, none⟩ /\ lo <= g /\ w.heap[g]? = some (.cells C 9) /\ ∀ i (h : i < ws.length), C[i]? = some (.string ws[i])
theorem zk.qC {lo : Nat} {w : World} {v : Value} {ws : List ByteArray} (h : w.ownsRow lo 9 1 v ws.length (ws.map Value.string)) : ∃ a cap, v = .slice a ws.length cap /\ zk lo w a ws := by
  obtain ⟨_, ⟨rfl, h0⟩ | ⟨g, cap, cur, rfl, hg, hh, _, _, _, ht⟩⟩ := h
  · exact ⟨none, 0, by rw [h0], Or.inl ⟨rfl, List.length_eq_zero_iff.1 h0⟩⟩
  · refine ⟨some ⟨g, 0, none⟩, cap, rfl, Or.inr ⟨g, cur, rfl, hg, hh, fun i hi => ?_⟩⟩
    have h1 : (cur.toList.take (ws.length * 1))[i]? = (ws.map Value.string)[i]? := by rw [ht]
    rw [List.getElem?_take_of_lt (by omega), List.getElem?_map, List.getElem?_eq_getElem hi] at h1
    simpa using h1
theorem zk.mono {lo : Nat} {w w' : World} {a : Option Addr} {ws : List ByteArray} (h : zk lo w a ws) (hb : Below w.heap.size w w') : zk lo w' a ws := by
  rcases h with ⟨rfl, rfl⟩ | ⟨g, C, rfl, hg, hh, hc⟩
  · exact Or.inl ⟨rfl, rfl⟩
  · exact Or.inr ⟨g, C, rfl, hg, (hb.block g (Array.getElem?_eq_some_iff.1 hh).1).trans hh, hc⟩
theorem zk.at {lo : Nat} {w : World} {a : Option Addr} {ws : List ByteArray} (h : zk lo w a ws) (hl : ws.length <= maxLen) (hs : ∀ s ∈ ws, s.size <= maxLen) : zZ w a ws := by
  refine ⟨hl, hs, fun hne => ?_⟩
  rcases h with ⟨_, rfl⟩ | ⟨g, C, rfl, _, hh, hc⟩
  · exact absurd rfl hne
  · refine ⟨g, 0, rfl, (Array.getElem?_eq_some_iff.1 hh).1, fun i hi => ?_⟩
    simp only [World.cell?, hh, Nat.zero_add]
    simpa using hc i hi
end Go.Proofs.YtmfgjafdnopfbaaGreat

namespace Go.Proofs.YtmfgjafdnopfbaaGreat
open Go.RowKit
def clr (r : Nat) (w : World) : World := { w with heap := w.heap.setIfInBounds r (.cells #[] 0) }
theorem jA (r : Nat) (w : World) : (clr r w).heap.size = w.heap.size := by simp [clr]
theorem zam {r k : Nat} (w : World) (h : k ≠ r) : (clr r w).heap[k]? = w.heap[k]? := by simp [clr, Array.getElem?_setIfInBounds_ne (Ne.symm h)]
theorem zdq {r : Nat} (w : World) (h : r < w.heap.size) : (clr r w).heap[r]? = some (.cells #[] 0) := by simp [clr, h]
theorem zbI {r B : Nat} {w w' : World} (h : Below B w w') : Below B (clr r w) (clr r w') :=
  ⟨h.os, h.tape, h.output, by rw [jA, jA]; exact h.size, fun k hk => by
    by_cases e : k = r
    · subst e
      by_cases hb : k < w.heap.size
      · rw [zdq w hb, zdq w' (Nat.lt_of_lt_of_le hb h.size)]
      · have h1 : (Go.Proofs.YtmfgjafdnopfbaaGreat.clr k w).heap[k]? = none := by rw [Array.getElem?_eq_none]; rw [jA]; omega
        have h2 := h.block k hk
        have h3 : w.heap[k]? = none := Array.getElem?_eq_none (by omega)
        rw [h3] at h2
        have h4 := Array.getElem?_eq_none_iff.1 h2
        rw [h1, Array.getElem?_eq_none]; rw [jA]; omega
    · rw [zam w e, zam w' e]; exact h.block k hk⟩
theorem zdS (r B : Nat) (w : World) (o : Nat) (v : Value) : Below B (clr r w) (clr r (w.setCell ⟨r, o, none⟩ v)) := by
  have hz : (w.setCell ⟨r, o, none⟩ v).heap.size = w.heap.size := by simp
  refine ⟨rfl, rfl, rfl, by rw [jA, jA, hz]; exact Nat.le_refl _, fun k _ => ?_⟩
  by_cases e : k = r
  · subst e
    by_cases hb : k < w.heap.size
    · rw [zdq w hb, zdq _ (by rw [hz]; exact hb)]
    · have h1 : (clr k w).heap[k]? = none := Array.getElem?_eq_none (by rw [jA]; omega)
      have h2 : (clr k (w.setCell ⟨k, o, none⟩ v)).heap[k]? = none := Array.getElem?_eq_none (by rw [jA, hz]; omega)
      rw [h1, h2]
  · rw [zam _ e, zam _ e, yt e]
structure zcq (w : World) (a : Option Addr) (n : Nat) : Prop where
  len : n <= maxLen
  cells : 0 < n -> ∃ b off, a = some ⟨b, off, none⟩ /\ b < w.heap.size /\ ∀ i, i < n -> ∃ x : Int, 0 <= x /\ x <= 255 /\ w.cell? ⟨b, off + i, none⟩ = some (.int .u8 x)
theorem zcq.mono {w w' : World} {a : Option Addr} {n : Nat} (h : zcq w a n) (hb : Below w.heap.size w w') : zcq w' a n :=
  ⟨h.len, fun hp => by
    obtain ⟨b, off, ha, hbs, hc⟩ := h.cells hp
    refine ⟨b, off, ha, Nat.lt_of_lt_of_le hbs hb.size, fun i hi => ?_⟩
    obtain ⟨x, h0, h1, hx⟩ := hc i hi
    exact ⟨x, h0, h1, (hb.cell (p := ⟨b, off + i, none⟩) hbs).trans hx⟩⟩
structure yF (w : World) (r p : Nat) : Prop where
  rd : ∃ a n cap, n <= 2000 /\ w.heap[r]? = some (.cells #[.slice a n cap, .int .i64 (p : Int)] 89) /\ (0 < n -> ∃ b off, a = some ⟨b, off, none⟩ /\ b < r /\ ∀ i, i < n -> ∃ x : Int, 0 <= x /\ x <= 255 /\ w.cell? ⟨b, off + i, none⟩ = some (.int .u8 x))
theorem yF.lt {w : World} {r p : Nat} (h : yF w r p) : r < w.heap.size := by
  obtain ⟨a, n, cap, _, hr, _⟩ := h.rd
  exact (Array.getElem?_eq_some_iff.1 hr).1
theorem yF.keep {w w' : World} {r p : Nat} (h : yF w r p) (hb : Below (r + 1) w w') : yF w' r p := by
  obtain ⟨a, n, cap, hn, hr, hu⟩ := h.rd
  refine ⟨a, n, cap, hn, (hb.block r (by omega)).trans hr, fun hp => ?_⟩
  obtain ⟨b, off, ha, hbr, hc⟩ := hu hp
  refine ⟨b, off, ha, hbr, fun i hi => ?_⟩
  obtain ⟨x, h0, h1, hx⟩ := hc i hi
  exact ⟨x, h0, h1, (hb.cell (p := ⟨b, off + i, none⟩) (by show b < r + 1; omega)).trans hx⟩
theorem yF.mono {w w' : World} {r p : Nat} (h : yF w r p) (hb : Below w.heap.size w w') : yF w' r p := h.keep (hb.mono h.lt)
end Go.Proofs.YtmfgjafdnopfbaaGreat
