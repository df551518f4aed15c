import Derived.Test.YtfpeplbmfbepcaaGreatM33
import Derived.Test.YtfpeplbmfbepcaaGreatM03
namespace Go.Proofs.YtfpeplbmfbepcaaGreat
open Go.RowKit
set_option maxHeartbeats 4000000 in
theorem zgh (a : Option Addr) (cap : Nat) (ms : List Lg) (t : Lg) (w : World) (hw : zck w a ms) (hl : ms.length <= 1000) (hr : Gate.rising Gate.yU ms) :
    Calls Tryz.prog 200 #[.slice a ms.length cap, .agg t.cells, .func (.func 159) #[] #[]] w fun e w' => (∃ p : Nat, e = .returned (.tuple #[.int .i64 p, .bool (Gate.jK ms t.tm t.rs)]) /\ Gate.zdT ms t.tm t.rs p) /\ Below w.heap.size w w' := by
  have HW := hid hw
  have HR : Hid (Gate.rising Gate.yU ms) := hr
  clear hw hr
  unfold Lg.cells
  go_enter Tryz.func200, Tryz.ntmps200
  go_wp2_with fail
  have hT0 := zG w #[.string t.tm, .string t.rs, .int .i64 t.mo, .int .i64 t.fr] 134
  have HB0 : Hid (Below w.heap.size w (w.alloc (.cells #[.string t.tm, .string t.rs, .int .i64 t.mo, .int .i64 t.fr] 134))) := (Below.refl _ _).alloc (Nat.le_refl _) _
  obtain ⟨W0, hW0⟩ : ∃ W0, W0 = w.alloc (.cells #[.string t.tm, .string t.rs, .int .i64 t.mo, .int .i64 t.fr] 134) := ⟨_, rfl⟩
  have hz0 : w.heap.size < W0.heap.size := by rw [hW0]; simp
  rw [<- hW0] at HB0 hT0 ⊢
  clear hW0
  have hlI : (ms.length : Int) <= 1000 := by omega
  go_loopw [9, 10] (fun iv jv wr => ∃ lo hi : Nat, iv = .int .i64 lo /\ jv = .int .i64 hi /\ lo <= hi /\ hi <= ms.length /\ Hid ((∀ i (h : i < ms.length), i < lo -> Gate.yU ms[i] t < 0) /\ (∀ i (h : i < ms.length), hi <= i -> 0 <= Gate.yU ms[i] t) /\ Below W0.heap.size W0 wr)) (fun iv jv _ => (intOf jv).toNat - (intOf iv).toNat)
  case atStart => exact ⟨0, ms.length, rfl, rfl, Nat.zero_le _, Nat.le_refl _, fun i h h' => by omega, fun i h h' => by omega, Below.refl _ _⟩
  case round =>
    obtain ⟨lo, hi, rfl, rfl, hlh, hhn, HQ⟩ := hrel
    have hT := za hT0 hz0 HQ.out.2.2
    have hzT := Nat.lt_of_lt_of_le hz0 HQ.out.2.2.size
    have HBr := hid (HB0.out.trans (HQ.out.2.2.mono HB0.out.size))
    have HBW : Hid (∀ W, Below w.heap.size w W -> Below wr.heap.size wr W -> Below W0.heap.size W0 W) := fun W _ h => HQ.out.2.2.trans (h.mono HQ.out.2.2.size)
    have hloI : (lo : Int) <= 1000 := by omega
    have hhiI : (hi : Int) <= 1000 := by omega
    by_cases hlt : lo < hi
    · obtain ⟨m, hm⟩ : ∃ m, m = (lo + hi) / 2 := ⟨_, rfl⟩
      have HM1 : Hid (lo <= m /\ m < hi) := ⟨by omega, by omega⟩
      have hml : m < ms.length := by omega
      have hmI : ((lo : Int) + (hi : Int)) / 2 = (m : Int) := by omega
      clear hm
      obtain ⟨b, off, rfl, hb, d0, d1, d2, d3⟩ := HW.out.load HBr.out m hml
      have hb' := Nat.lt_of_lt_of_le hb HBr.out.size
      have hmlI : (m : Int) < (ms.length : Int) := by omega
      have hS : (∀ j, wr.drew.cell? ⟨w.heap.size, j, none⟩ = (#[.string t.tm, .string t.rs, .int .i64 t.mo, .int .i64 t.fr] : Array Value)[j]?) /\ wr.drew.cell? ⟨b, off + m * 4, none⟩ = some (.string ms[m].tm) /\ wr.drew.cell? ⟨b, off + m * 4 + 1, none⟩ = some (.string ms[m].rs) /\ wr.drew.cell? ⟨b, off + m * 4 + 2, none⟩ = some (.int .i64 ms[m].mo) /\ wr.drew.cell? ⟨b, off + m * 4 + 3, none⟩ = some (.int .i64 ms[m].fr) := ⟨hT, d0, d1, d2, d3⟩
      clear d0 d1 d2 d3 hT
      go_wp2_with fail
      go_region_held3 (fun w' => (∀ j, w'.cell? ⟨w.heap.size, j, none⟩ = (#[.string t.tm, .string t.rs, .int .i64 t.mo, .int .i64 t.fr] : Array Value)[j]?) /\ w'.cell? ⟨b, off + m * 4, none⟩ = some (.string ms[m].tm) /\ w'.cell? ⟨b, off + m * 4 + 1, none⟩ = some (.string ms[m].rs) /\ w'.cell? ⟨b, off + m * 4 + 2, none⟩ = some (.int .i64 ms[m].mo) /\ w'.cell? ⟨b, off + m * 4 + 3, none⟩ = some (.int .i64 ms[m].fr)) (exact hS) (first | (go_at_call 159; refine (zbS ms[m] t _).mono ?_; rintro e w2 ⟨rfl, hb2⟩; have hS := (⟨za hS.1 hzT hb2, (hb2.cell (p := ⟨b, _, none⟩) hb').trans hS.2.1, (hb2.cell (p := ⟨b, _, none⟩) hb').trans hS.2.2.1, (hb2.cell (p := ⟨b, _, none⟩) hb').trans hS.2.2.2.1, (hb2.cell (p := ⟨b, _, none⟩) hb').trans hS.2.2.2.2⟩ : _ /\ _ /\ _ /\ _ /\ _); have hB2 := HBr.out.drew.trans (hb2.mono HBr.out.drew.size); have hB2' := (Below.refl wr.heap.size wr).drew.trans hb2; clear hb2))
      have HB2 := hid (HBW.out w2 hB2 hB2')
      by_cases hk : Gate.yU ms[m] t < 0
      · have hd : decide (Gate.yU ms[m] t < 0) = true := by simpa using hk
        have HA : Hid (∀ i (h : i < ms.length), i < m + 1 -> Gate.yU ms[i] t < 0) := by
          intro i hi him
          rcases Nat.eq_or_lt_of_le (Nat.le_of_lt_succ him) with e | hlt'
          · subst e; exact hk
          · exact Gate.za4 (Gate.zb3 (fun a b c => Gate.za4 (a := a) (b := b) (c := c)) HR.out m hml i hlt') hk
        rw [hd]
        clear hd hk hS
        go_wp2_with fail
        exact ⟨⟨m + 1, hi, by go_num, rfl, HM1.out.2, hhn, HA.out, HQ.out.2.1, HB2.out⟩, by have := HM1.out; show (hi : Int).toNat - ((m : Int) + 1).toNat < (hi : Int).toNat - (lo : Int).toNat; omega⟩
      · have hd : decide (Gate.yU ms[m] t < 0) = false := by simpa using hk
        have HA : Hid (∀ i (h : i < ms.length), m <= i -> 0 <= Gate.yU ms[i] t) := by
          intro i hi him
          rcases Nat.eq_or_lt_of_le him with e | hlt'
          · subst e; omega
          · rcases Int.lt_or_le (Gate.yU ms[i] t) 0 with h1 | h1
            · exact absurd (Gate.za4 (Gate.zb3 (fun a b c => Gate.za4 (a := a) (b := b) (c := c)) HR.out i hi m hlt') h1) hk
            · exact h1
        rw [hd]
        clear hd hk hS
        go_wp2_with fail
        exact ⟨⟨lo, m, rfl, rfl, HM1.out.1, Nat.le_of_lt hml, HQ.out.1, HA.out, HB2.out⟩, by have := HM1.out; show (m : Int).toNat - (lo : Int).toNat < (hi : Int).toNat - (lo : Int).toNat; omega⟩
    · have e : hi = lo := by omega
      subst e
      have HA : Hid (Gate.zdT ms t.tm t.rs hi) := ⟨hhn, HQ.out.1, HQ.out.2.1⟩
      clear HQ
      by_cases hn : hi < ms.length
      · obtain ⟨b, off, rfl, hb, d0, d1, d2, d3⟩ := HW.out.load HBr.out hi hn
        have hb' : b < wr.heap.size := Nat.lt_of_lt_of_le hb HBr.out.size
        have hnI : (hi : Int) < (ms.length : Int) := by omega
        have hS : (∀ j, wr.drew.cell? ⟨w.heap.size, j, none⟩ = (#[.string t.tm, .string t.rs, .int .i64 t.mo, .int .i64 t.fr] : Array Value)[j]?) /\ wr.drew.cell? ⟨b, off + hi * 4, none⟩ = some (.string ms[hi].tm) /\ wr.drew.cell? ⟨b, off + hi * 4 + 1, none⟩ = some (.string ms[hi].rs) /\ wr.drew.cell? ⟨b, off + hi * 4 + 2, none⟩ = some (.int .i64 ms[hi].mo) /\ wr.drew.cell? ⟨b, off + hi * 4 + 3, none⟩ = some (.int .i64 ms[hi].fr) := ⟨hT, d0, d1, d2, d3⟩
        have HFd : Hid (Gate.jK ms t.tm t.rs = (Gate.yU ms[hi] t == 0)) := by
          unfold Hid
          rw [Bool.eq_iff_iff, HA.out.found HR.out, beq_iff_eq]
          unfold Gate.yU
          rw [Gate.zex]
          exact ⟨fun h => h.2, fun h => ⟨hn, h⟩⟩
        clear d0 d1 d2 d3 hT hlt
        go_wp2_with fail
        go_region_held3 (fun w' => (∀ j, w'.cell? ⟨w.heap.size, j, none⟩ = (#[.string t.tm, .string t.rs, .int .i64 t.mo, .int .i64 t.fr] : Array Value)[j]?) /\ w'.cell? ⟨b, off + hi * 4, none⟩ = some (.string ms[hi].tm) /\ w'.cell? ⟨b, off + hi * 4 + 1, none⟩ = some (.string ms[hi].rs) /\ w'.cell? ⟨b, off + hi * 4 + 2, none⟩ = some (.int .i64 ms[hi].mo) /\ w'.cell? ⟨b, off + hi * 4 + 3, none⟩ = some (.int .i64 ms[hi].fr)) (exact hS) (first | (go_at_call 159; refine (zbS ms[hi] t _).mono ?_; rintro e w2 ⟨rfl, hb2⟩; have hS := (⟨za hS.1 hzT hb2, (hb2.cell (p := ⟨b, _, none⟩) hb').trans hS.2.1, (hb2.cell (p := ⟨b, _, none⟩) hb').trans hS.2.2.1, (hb2.cell (p := ⟨b, _, none⟩) hb').trans hS.2.2.2.1, (hb2.cell (p := ⟨b, _, none⟩) hb').trans hS.2.2.2.2⟩ : _ /\ _ /\ _ /\ _ /\ _); have hB2 := HBr.out.drew.trans (hb2.mono HBr.out.drew.size); have hB2' := (Below.refl wr.heap.size wr).drew.trans hb2; clear hb2))
        go_wp2_with fail
        go_ret2
        exact ⟨⟨hi, by rw [HFd.out]; rfl, HA.out⟩, hB2⟩
      · have hnI : ¬ (hi : Int) < (ms.length : Int) := by omega
        have HFd : Hid (Gate.jK ms t.tm t.rs = false) := by
          unfold Hid
          rw [Bool.eq_false_iff]
          intro h
          obtain ⟨hp, _⟩ := (HA.out.found HR.out).1 h
          exact hn hp
        clear hlt
        go_wp2_with fail
        go_quiet (fail)
        go_wp2_with fail
        go_ret2
        exact ⟨⟨hi, by rw [HFd.out]; rfl, HA.out⟩, below_drewN HBr.out _⟩
end Go.Proofs.YtfpeplbmfbepcaaGreat
