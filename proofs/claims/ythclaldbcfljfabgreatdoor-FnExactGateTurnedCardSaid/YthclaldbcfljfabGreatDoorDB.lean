import Derived.Test.YthclaldbcfljfabGreatDoorDA
import Derived.Test.YthclaldbcfljfabGreatDoorCB
namespace Go.Proofs.YthclaldbcfljfabGreatDoor
open Go.RowKit

set_option maxHeartbeats 4000000 in
theorem checkFixed_any (kd : ByteArray) (fa : Option Addr) (fs : List Fld) (fcap : Nat) (old o : Ob) (a a' b b' : Option Addr) (cap cap' dap dap' : Nat) (w : World) (hfl : FldsAt w fa fs) (ho : ObAt w old a a') (hn : ObAt w o b b') (hc : old.vs.length = fs.length) (hd : o.vs.length = fs.length) :
    Calls Tryz.prog 35 #[.agg #[.string kd, .slice fa fs.length fcap], .agg #[.string old.kd, .string old.nm, .string old.tm, .slice a old.vs.length cap, .bool old.en, .slice a' old.hs.length cap', .int .i64 old.vr], .agg #[.string o.kd, .string o.nm, .string o.tm, .slice b o.vs.length dap, .bool o.en, .slice b' o.hs.length dap', .int .i64 o.vr]] w
      fun e w' => e = .returned (errV (Gate.fixRes fs old.vs o.vs).1 (Gate.fixRes fs old.vs o.vs).2) ∧ Below w.heap.size w w' := by
  have HC : Hid (old.vs.length = fs.length) := hc
  have HD : Hid (o.vs.length = fs.length) := hd
  clear hc hd
  have hlen := hfl.len
  unfold maxLen at hlen
  go_enter Tryz.func35, Tryz.ntmps35
  go_wp2_with fail
  go_loopw [12] (fun i wr => ∃ k : Nat, k ≤ fs.length ∧ i = .int .i64 k ∧ Gate.up (Gate.fixOkAt fs old.vs o.vs) k = true ∧ Below (w.heap.size + 1 + 1 + 1) (((w.alloc (.cells #[.string kd, .slice fa fs.length fcap] 49)).alloc (.cells #[.string old.kd, .string old.nm, .string old.tm, .slice a old.vs.length cap, .bool old.en, .slice a' old.hs.length cap', .int .i64 old.vr] 32)).alloc (.cells #[.string o.kd, .string o.nm, .string o.tm, .slice b o.vs.length dap, .bool o.en, .slice b' o.hs.length dap', .int .i64 o.vr] 32)) wr) (fun i _ => fs.length - (intOf i).toNat)
  case atStart => exact ⟨0, Nat.zero_le _, rfl, rfl, Below.refl _ _⟩
  case round =>
    obtain ⟨k, hk, rfl, hup, hBr⟩ := hrel
    have hszr : w.heap.size + 1 + 1 < wr.heap.size := by have := hBr.size; simp at this; omega
    have hB : Below w.heap.size w wr := (below3' _ _ _ _).trans (hBr.mono (by omega))
    by_cases hlt : k < fs.length
    · have hXr : ∀ j, wr.cell? ⟨w.heap.size + 1, j, none⟩ = (#[.string old.kd, .string old.nm, .string old.tm, .slice a old.vs.length cap, .bool old.en, .slice a' old.hs.length cap', .int .i64 old.vr] : Array Value)[j]? := fun j => (hBr.cell (p := ⟨w.heap.size + 1, j, none⟩) (by simp)).trans (by
        rw [World.cell?_alloc_lt _ _ ⟨w.heap.size + 1, j, none⟩ (by simp)]
        simp)
      have hYr : ∀ j, wr.cell? ⟨w.heap.size + 1 + 1, j, none⟩ = (#[.string o.kd, .string o.nm, .string o.tm, .slice b o.vs.length dap, .bool o.en, .slice b' o.hs.length dap', .int .i64 o.vr] : Array Value)[j]? := fun j => (hBr.cell (p := ⟨w.heap.size + 1 + 1, j, none⟩) (by simp)).trans (by
        have h := box_new ((w.alloc (.cells #[.string kd, .slice fa fs.length fcap] 49)).alloc (.cells #[.string old.kd, .string old.nm, .string old.tm, .slice a old.vs.length cap, .bool old.en, .slice a' old.hs.length cap', .int .i64 old.vr] 32)) #[.string o.kd, .string o.nm, .string o.tm, .slice b o.vs.length dap, .bool o.en, .slice b' o.hs.length dap', .int .i64 o.vr] 32 j
        simpa using h)
      obtain ⟨c, off, rfl, hb, hr⟩ := hfl.rows (by rintro rfl; simp at hlt)
      obtain ⟨wa, wcap, hf0⟩ := hr k hlt
      have hf := hf0.mono hb hB
      obtain ⟨c0, c1, c2, c3, c4, c5, c6, c7, c8, c9, c10⟩ := hf.load
      have hltv : k < old.vs.length := by rw [HC.out]; exact hlt
      have hltu : k < o.vs.length := by rw [HD.out]; exact hlt
      obtain ⟨vb, voff, rfl, hvb, hvc⟩ := ho.vals.cells (by intro h; rw [h] at hltv; simp at hltv)
      obtain ⟨ub, uoff, rfl, hub, huc⟩ := hn.vals.cells (by intro h; rw [h] at hltu; simp at hltu)
      have hcv := (hB.cell (p := ⟨vb, voff + k, none⟩) hvb).trans (hvc k hltv)
      have hcu := (hB.cell (p := ⟨ub, uoff + k, none⟩) hub).trans (huc k hltu)
      have hltI : (k : Int) < (fs.length : Int) := by omega
      have hltV : (k : Int) < (old.vs.length : Int) := by omega
      have hltU : (k : Int) < (o.vs.length : Int) := by omega
      have hcr : c < wr.heap.size := by omega
      have hvr : vb < wr.heap.size := by omega
      have hur : ub < wr.heap.size := by omega
      have hwr1 : w.heap.size + 1 < wr.heap.size := by omega
      have HFX : Hid (Gate.fixOkAt fs old.vs o.vs k = Gate.fixOk fs[k] old.vs[k] o.vs[k]) := Gate.fixOkAt_eq hlt hltv hltu
      have HS : Hid (Gate.fixOk fs[k] old.vs[k] o.vs[k] = true → Gate.up (Gate.fixOkAt fs old.vs o.vs) (k + 1) = true) := fun h => by
        rw [Gate.up_succ, hup, HFX.out, h]; rfl
      have HN : Hid (Gate.fixOk fs[k] old.vs[k] o.vs[k] = false → errV (Gate.fixRes fs old.vs o.vs).1 (Gate.fixRes fs old.vs o.vs).2 = .iface 68 (.agg #[.int .i64 4, .int .i64 k])) := fun h => by
        rw [Gate.fixRes_at hlt hup (by rw [HFX.out, h])]; exact errV_of (c := 4) (by decide)
      clear hr hf0 hf hup
      have tv := Gate.beq_toList old.vs[k] o.vs[k]
      by_cases hfx : fs[k].fx = true
      rotate_left
      · have hfx' : fs[k].fx = false := by simpa using hfx
        have HU : Hid (Gate.fixOk fs[k] old.vs[k] o.vs[k] = true) := by unfold Hid Gate.fixOk; rw [hfx']; rfl
        clear hfx tv
        go_wp2_with fail
        go_quiet (fail)
        go_wp2_with fail
        exact ⟨⟨k + 1, by omega, by go_num, HS.out HU.out, below_drewN (hBr.alloc (by omega) _) _⟩, by simp [intOf]; omega⟩
      by_cases he : old.vs[k].size = 0
      · have hne : old.vs[k].toList.isEmpty = true := by rw [Gate.isEmpty_of_size]; simp [he]
        have HU : Hid (Gate.fixOk fs[k] old.vs[k] o.vs[k] = true) := by unfold Hid Gate.fixOk; rw [hfx, decide_eq_true he]; rfl
        clear he tv
        go_wp2_with fail
        go_quiet (fail)
        go_wp2_with fail
        exact ⟨⟨k + 1, by omega, by go_num, HS.out HU.out, below_drewN (hBr.alloc (by omega) _) _⟩, by simp [intOf]; omega⟩
      have hne : old.vs[k].toList.isEmpty = false := by rw [Gate.isEmpty_of_size]; simp [he]
      by_cases hq : old.vs[k] = o.vs[k]
      · have HU : Hid (Gate.fixOk fs[k] old.vs[k] o.vs[k] = true) := by unfold Hid Gate.fixOk; rw [hfx, decide_eq_true hq]; simp
        rw [decide_eq_true hq] at tv
        clear he hq
        go_wp2_with fail
        go_quiet (fail)
        go_wp2_with fail
        exact ⟨⟨k + 1, by omega, by go_num, HS.out HU.out, below_drewN (hBr.alloc (by omega) _) _⟩, by simp [intOf]; omega⟩
      · have HU : Hid (Gate.fixOk fs[k] old.vs[k] o.vs[k] = false) := by unfold Hid Gate.fixOk; rw [hfx, decide_eq_false hq, decide_eq_false he]; rfl
        rw [decide_eq_false hq] at tv
        clear he hq
        go_wp2_with fail
        go_quiet (fail)
        go_wp2_with fail
        go_ret
        exact ⟨by rw [HN.out HU.out]; rfl, below_drewN (hB.alloc (by omega) _) _⟩
    · have HF : Hid (Gate.fixRes fs old.vs o.vs = (0, 0)) := by
        have e : k = fs.length := by omega
        subst e; exact Gate.fixRes_none hup
      clear hup
      go_wp2_with fail
      go_ret
      exact ⟨by rw [HF.out]; rfl, hB⟩

end Go.Proofs.YthclaldbcfljfabGreatDoor
