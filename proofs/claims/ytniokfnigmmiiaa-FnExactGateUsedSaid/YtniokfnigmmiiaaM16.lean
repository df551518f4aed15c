import Derived.Test.YtniokfnigmmiiaaM15
import Derived.Deep.RegionHeld3
import Derived.Test.YtniokfnigmmiiaaM14
namespace Go.Proofs.Ytniokfnigmmiiaa
open Go.RowKit

set_option maxHeartbeats 4000000 in
theorem specUsed_any (l : Lw) (la lb lc : Option Addr) (lca lcb lcc : Nat) (b : Bk) (a0 a1 a2 a3 : Option Addr) (c0 c1 c2 c3 : Nat) (team res : ByteArray) (w : World) (hl : LwAt w l la lb lc) (hb : BkAt w b a0 a1 a2 a3) (hz : szObs b.os ≤ 1048576) :
    Calls Try.prog 14 #[.agg (l.cells la lb lc lca lcb lcc), .agg (b.cells a0 a1 a2 a3 c0 c1 c2 c3), .string team, .string res] w fun e w' => e = .returned (.int .i64 (Gate.used l b.os team res)) ∧ Below w.heap.size w w' := by
  have HL : Hid (LwAt w l la lb lc) := hl
  have HK : Hid (BkAt w b a0 a1 a2 a3) := hb
  have HZ : Hid (szObs b.os ≤ 1048576 ∧ b.os.length ≤ 1048576) := ⟨hz, by unfold szObs at hz; omega⟩
  clear hl hb hz
  unfold Lw.cells Bk.cells
  go_enter Try.func14, Try.ntmps14
  go_wp2_with fail
  obtain ⟨hX0, hY0⟩ := two_boxes w #[.slice la l.ss.length lca, .slice lb l.ms.length lcb, .slice lc l.ts.length lcc] #[.int .i64 b.now, .int .i64 b.tick, .int .i64 b.given, .slice a0 b.os.length c0, .slice a1 b.gs.length c1, .slice a2 b.ls.length c2, .slice a3 b.ps.length c3] 37 57
  have HB0 : Hid (Below w.heap.size w ((w.alloc (.cells #[.slice la l.ss.length lca, .slice lb l.ms.length lcb, .slice lc l.ts.length lcc] 37)).alloc (.cells #[.int .i64 b.now, .int .i64 b.tick, .int .i64 b.given, .slice a0 b.os.length c0, .slice a1 b.gs.length c1, .slice a2 b.ls.length c2, .slice a3 b.ps.length c3] 57))) := below2' w _ _
  obtain ⟨W0, hW0⟩ : ∃ W0, W0 = (w.alloc (.cells #[.slice la l.ss.length lca, .slice lb l.ms.length lcb, .slice lc l.ts.length lcc] 37)).alloc (.cells #[.int .i64 b.now, .int .i64 b.tick, .int .i64 b.given, .slice a0 b.os.length c0, .slice a1 b.gs.length c1, .slice a2 b.ls.length c2, .slice a3 b.ps.length c3] 57) := ⟨_, rfl⟩
  have hz0 : w.heap.size + 1 < W0.heap.size := by rw [hW0]; simp
  rw [← hW0] at HB0 hX0 hY0 ⊢
  clear hW0
  go_loopw [9, 10] (fun nv iv wr => ∃ (k : Nat) (s : Int), k ≤ b.os.length ∧ iv = .int .i64 k ∧ nv = .int .i64 s ∧ Hid (s = Gate.usedSum l b.os team res k ∧ Below W0.heap.size W0 wr)) (fun _ iv _ => b.os.length - (intOf iv).toNat)
  case atStart => exact ⟨0, 0, Nat.zero_le _, rfl, rfl, by simp [Gate.usedSum], Below.refl _ _⟩
  case round =>
    obtain ⟨k, s, hk, rfl, rfl, HQ⟩ := hrel
    have hsb : 0 ≤ s ∧ s ≤ 20000000000000 := by
      have h1 := HQ.out.1; have h2 := Gate.usedSum_bound l b.os team res k hk; have h3 := HZ.out
      have h4 : sumOb (b.os.take k) ≤ sumOb b.os := sum_le Ob.sz b.os k
      unfold szObs at h3
      omega
    have hX := box_later hX0 (Nat.lt_of_succ_lt hz0) HQ.out.2
    have hY := box_later hY0 hz0 HQ.out.2
    have hz : w.heap.size + 1 < wr.heap.size := Nat.lt_of_lt_of_le hz0 HQ.out.2.size
    have hzX : w.heap.size < wr.heap.size := Nat.lt_of_succ_lt hz
    have hkn : k ≤ 1048576 := by have := HZ.out.2; omega
    by_cases hlt : k < b.os.length
    · obtain ⟨ob, off, v0, v1, q0, q1, rfl, hob, hsm, hl0, hl1, d0, d1, d2, d3, d4, d5, d6⟩ := HK.out.os.load (HB0.out.trans (HQ.out.2.mono HB0.out.size)) k hlt
      have hob' : ob < wr.heap.size := Nat.lt_of_lt_of_le hob (HB0.out.trans (HQ.out.2.mono HB0.out.size)).size
      have hltI : (k : Int) < (b.os.length : Int) := by omega
      have HSt : Hid (Gate.usedSum l b.os team res (k + 1) = Gate.usedSum l b.os team res k + Gate.usedAt l team res b.os[k]) := Gate.usedSum_at l b.os team res k hlt
      have HOo : Hid (ObAt wr b.os[k] v0 v1) := ⟨hsm, hl0, hl1⟩
      have HOl : Hid (b.os[k].vs.length ≤ 1048576) := by
        have h3 := HZ.out.1
        have := (Obs_few (left := 1048576) (ms := b.os) (by omega) (by omega)).2 k hlt
        exact this.1
      have hwb := Gate.weighs_bound l.ss b.os[k] res HOl.out
      have HBr : Hid (Below w.heap.size w wr) := HB0.out.trans (HQ.out.2.mono HB0.out.size)
      clear hsm hl0 hl1
      go_wp2_with fail
      have HS : Hid ((∀ j, wr.cell? ⟨w.heap.size, j, none⟩ = (#[.slice la l.ss.length lca, .slice lb l.ms.length lcb, .slice lc l.ts.length lcc] : Array Value)[j]?) ∧ (∀ j, wr.cell? ⟨w.heap.size + 1, j, none⟩ = (#[.int .i64 b.now, .int .i64 b.tick, .int .i64 b.given, .slice (some ⟨ob, off, none⟩) b.os.length c0, .slice a1 b.gs.length c1, .slice a2 b.ls.length c2, .slice a3 b.ps.length c3] : Array Value)[j]?) ∧ wr.cell? ⟨ob, off + k * 7, none⟩ = some (.string b.os[k].kd) ∧ wr.cell? ⟨ob, off + k * 7 + 1, none⟩ = some (.string b.os[k].nm) ∧ wr.cell? ⟨ob, off + k * 7 + 2, none⟩ = some (.string b.os[k].tm) ∧ wr.cell? ⟨ob, off + k * 7 + 3, none⟩ = some (.slice v0 b.os[k].vs.length q0) ∧ wr.cell? ⟨ob, off + k * 7 + 4, none⟩ = some (.bool b.os[k].en) ∧ wr.cell? ⟨ob, off + k * 7 + 5, none⟩ = some (.slice v1 b.os[k].hs.length q1) ∧ wr.cell? ⟨ob, off + k * 7 + 6, none⟩ = some (.int .i64 b.os[k].vr)) := ⟨hX, hY, d0, d1, d2, d3, d4, d5, d6⟩
      have hS : (∀ j, wr.drew.cell? ⟨w.heap.size, j, none⟩ = (#[.slice la l.ss.length lca, .slice lb l.ms.length lcb, .slice lc l.ts.length lcc] : Array Value)[j]?) ∧ (∀ j, wr.drew.cell? ⟨w.heap.size + 1, j, none⟩ = (#[.int .i64 b.now, .int .i64 b.tick, .int .i64 b.given, .slice (some ⟨ob, off, none⟩) b.os.length c0, .slice a1 b.gs.length c1, .slice a2 b.ls.length c2, .slice a3 b.ps.length c3] : Array Value)[j]?) ∧ wr.drew.cell? ⟨ob, off + k * 7, none⟩ = some (.string b.os[k].kd) ∧ wr.drew.cell? ⟨ob, off + k * 7 + 1, none⟩ = some (.string b.os[k].nm) ∧ wr.drew.cell? ⟨ob, off + k * 7 + 2, none⟩ = some (.string b.os[k].tm) ∧ wr.drew.cell? ⟨ob, off + k * 7 + 3, none⟩ = some (.slice v0 b.os[k].vs.length q0) ∧ wr.drew.cell? ⟨ob, off + k * 7 + 4, none⟩ = some (.bool b.os[k].en) ∧ wr.drew.cell? ⟨ob, off + k * 7 + 5, none⟩ = some (.slice v1 b.os[k].hs.length q1) ∧ wr.drew.cell? ⟨ob, off + k * 7 + 6, none⟩ = some (.int .i64 b.os[k].vr) := HS.out
      clear hX hY d0 d1 d2 d3 d4 d5 d6
      go_region_held3 (fun w' => (∀ j, w'.cell? ⟨w.heap.size, j, none⟩ = (#[.slice la l.ss.length lca, .slice lb l.ms.length lcb, .slice lc l.ts.length lcc] : Array Value)[j]?) ∧ (∀ j, w'.cell? ⟨w.heap.size + 1, j, none⟩ = (#[.int .i64 b.now, .int .i64 b.tick, .int .i64 b.given, .slice (some ⟨ob, off, none⟩) b.os.length c0, .slice a1 b.gs.length c1, .slice a2 b.ls.length c2, .slice a3 b.ps.length c3] : Array Value)[j]?) ∧ w'.cell? ⟨ob, off + k * 7, none⟩ = some (.string b.os[k].kd) ∧ w'.cell? ⟨ob, off + k * 7 + 1, none⟩ = some (.string b.os[k].nm) ∧ w'.cell? ⟨ob, off + k * 7 + 2, none⟩ = some (.string b.os[k].tm) ∧ w'.cell? ⟨ob, off + k * 7 + 3, none⟩ = some (.slice v0 b.os[k].vs.length q0) ∧ w'.cell? ⟨ob, off + k * 7 + 4, none⟩ = some (.bool b.os[k].en) ∧ w'.cell? ⟨ob, off + k * 7 + 5, none⟩ = some (.slice v1 b.os[k].hs.length q1) ∧ w'.cell? ⟨ob, off + k * 7 + 6, none⟩ = some (.int .i64 b.os[k].vr)) (exact hS) (first | (go_at_call 38; refine (specUnder_any _ _ l.ts b.os[k].tm team _ (by exact HL.out.ts.mono HBr.out.drew)).mono ?_; rintro e w1 ⟨rfl, rfl⟩))
      obtain ⟨w2, hw2⟩ : ∃ w2, w2 = wr.drew := ⟨_, rfl⟩
      have hB2 : Below W0.heap.size W0 w2 := by rw [hw2]; exact HQ.out.2.drew
      have HBr2 : Hid (Below w.heap.size w w2) := by unfold Hid; rw [hw2]; exact HBr.out.drew
      have HO2 : Hid (ObAt w2 b.os[k] v0 v1) := by unfold Hid; rw [hw2]; exact HOo.out.mono (Below.refl _ _).drew
      have hS2 : (∀ j, w2.cell? ⟨w.heap.size, j, none⟩ = (#[.slice la l.ss.length lca, .slice lb l.ms.length lcb, .slice lc l.ts.length lcc] : Array Value)[j]?) ∧ (∀ j, w2.cell? ⟨w.heap.size + 1, j, none⟩ = (#[.int .i64 b.now, .int .i64 b.tick, .int .i64 b.given, .slice (some ⟨ob, off, none⟩) b.os.length c0, .slice a1 b.gs.length c1, .slice a2 b.ls.length c2, .slice a3 b.ps.length c3] : Array Value)[j]?) ∧ w2.cell? ⟨ob, off + k * 7, none⟩ = some (.string b.os[k].kd) ∧ w2.cell? ⟨ob, off + k * 7 + 1, none⟩ = some (.string b.os[k].nm) ∧ w2.cell? ⟨ob, off + k * 7 + 2, none⟩ = some (.string b.os[k].tm) ∧ w2.cell? ⟨ob, off + k * 7 + 3, none⟩ = some (.slice v0 b.os[k].vs.length q0) ∧ w2.cell? ⟨ob, off + k * 7 + 4, none⟩ = some (.bool b.os[k].en) ∧ w2.cell? ⟨ob, off + k * 7 + 5, none⟩ = some (.slice v1 b.os[k].hs.length q1) ∧ w2.cell? ⟨ob, off + k * 7 + 6, none⟩ = some (.int .i64 b.os[k].vr) := by rw [hw2]; exact hS
      have hz2 : w.heap.size + 1 < w2.heap.size := by rw [hw2]; exact hz
      have hzX2 : w.heap.size < w2.heap.size := Nat.lt_of_succ_lt hz2
      have hob2 : ob < w2.heap.size := by rw [hw2]; exact hob'
      have HB2 : Hid (Below W0.heap.size W0 w2) := hB2
      rw [← hw2]
      clear hw2 hS HS hB2 hz hzX hob'
      by_cases hu : Gate.under l.ts 4 b.os[k].tm team = true
      · have HU : Hid (Gate.usedAt l team res b.os[k] = Gate.weighs l.ss b.os[k] res) := by unfold Hid Gate.usedAt; rw [if_pos hu]
        rw [hu]
        clear hu
        have hS : (∀ j, w2.drew.cell? ⟨w.heap.size, j, none⟩ = (#[.slice la l.ss.length lca, .slice lb l.ms.length lcb, .slice lc l.ts.length lcc] : Array Value)[j]?) ∧ (∀ j, w2.drew.cell? ⟨w.heap.size + 1, j, none⟩ = (#[.int .i64 b.now, .int .i64 b.tick, .int .i64 b.given, .slice (some ⟨ob, off, none⟩) b.os.length c0, .slice a1 b.gs.length c1, .slice a2 b.ls.length c2, .slice a3 b.ps.length c3] : Array Value)[j]?) ∧ w2.drew.cell? ⟨ob, off + k * 7, none⟩ = some (.string b.os[k].kd) ∧ w2.drew.cell? ⟨ob, off + k * 7 + 1, none⟩ = some (.string b.os[k].nm) ∧ w2.drew.cell? ⟨ob, off + k * 7 + 2, none⟩ = some (.string b.os[k].tm) ∧ w2.drew.cell? ⟨ob, off + k * 7 + 3, none⟩ = some (.slice v0 b.os[k].vs.length q0) ∧ w2.drew.cell? ⟨ob, off + k * 7 + 4, none⟩ = some (.bool b.os[k].en) ∧ w2.drew.cell? ⟨ob, off + k * 7 + 5, none⟩ = some (.slice v1 b.os[k].hs.length q1) ∧ w2.drew.cell? ⟨ob, off + k * 7 + 6, none⟩ = some (.int .i64 b.os[k].vr) := hS2
        clear hS2
        go_wp2_with fail
        go_region_held3 (fun w' => (∀ j, w'.cell? ⟨w.heap.size, j, none⟩ = (#[.slice la l.ss.length lca, .slice lb l.ms.length lcb, .slice lc l.ts.length lcc] : Array Value)[j]?) ∧ (∀ j, w'.cell? ⟨w.heap.size + 1, j, none⟩ = (#[.int .i64 b.now, .int .i64 b.tick, .int .i64 b.given, .slice (some ⟨ob, off, none⟩) b.os.length c0, .slice a1 b.gs.length c1, .slice a2 b.ls.length c2, .slice a3 b.ps.length c3] : Array Value)[j]?) ∧ w'.cell? ⟨ob, off + k * 7, none⟩ = some (.string b.os[k].kd) ∧ w'.cell? ⟨ob, off + k * 7 + 1, none⟩ = some (.string b.os[k].nm) ∧ w'.cell? ⟨ob, off + k * 7 + 2, none⟩ = some (.string b.os[k].tm) ∧ w'.cell? ⟨ob, off + k * 7 + 3, none⟩ = some (.slice v0 b.os[k].vs.length q0) ∧ w'.cell? ⟨ob, off + k * 7 + 4, none⟩ = some (.bool b.os[k].en) ∧ w'.cell? ⟨ob, off + k * 7 + 5, none⟩ = some (.slice v1 b.os[k].hs.length q1) ∧ w'.cell? ⟨ob, off + k * 7 + 6, none⟩ = some (.int .i64 b.os[k].vr)) (exact hS) (first | (go_at_call 7; refine (specWeighs_any l _ _ _ _ _ _ b.os[k] _ _ _ _ res _ (by exact HL.out.mono HBr2.out.drew) (by exact HO2.out.mono (Below.refl _ _).drew) HOl.out).mono ?_; rintro e w3 ⟨rfl, hb3⟩; have hS := (⟨box_later hS.1 hzX2 hb3, box_later hS.2.1 hz2 hb3, (hb3.cell (p := ⟨ob, _, none⟩) hob2).trans hS.2.2.1, (hb3.cell (p := ⟨ob, _, none⟩) hob2).trans hS.2.2.2.1, (hb3.cell (p := ⟨ob, _, none⟩) hob2).trans hS.2.2.2.2.1, (hb3.cell (p := ⟨ob, _, none⟩) hob2).trans hS.2.2.2.2.2.1, (hb3.cell (p := ⟨ob, _, none⟩) hob2).trans hS.2.2.2.2.2.2.1, (hb3.cell (p := ⟨ob, _, none⟩) hob2).trans hS.2.2.2.2.2.2.2.1, (hb3.cell (p := ⟨ob, _, none⟩) hob2).trans hS.2.2.2.2.2.2.2.2⟩ : _ ∧ _ ∧ _ ∧ _ ∧ _ ∧ _ ∧ _ ∧ _ ∧ _); have hB3 := HB2.out.drew.trans (hb3.mono HB2.out.drew.size); clear hb3))
        go_wp2_with fail
        refine ⟨⟨k + 1, s + Gate.weighs l.ss b.os[k] res, by omega, by go_num, ?_, by rw [HSt.out, HU.out, HQ.out.1], hB3⟩, step_less' hlt⟩
        have hw : IntKind.i64.wrap (s + Gate.weighs l.ss b.os[k] res) = s + Gate.weighs l.ss b.os[k] res := by
          rw [IntKind.wrap_i64]
          omega
        rw [hw]
      · have hu' : Gate.under l.ts 4 b.os[k].tm team = false := by simpa using hu
        have HU : Hid (Gate.usedAt l team res b.os[k] = 0) := by unfold Hid Gate.usedAt; rw [if_neg hu]
        rw [hu']
        clear hu hu'
        go_wp2_with fail
        exact ⟨⟨k + 1, s, by omega, by go_num, rfl, by rw [HSt.out, HU.out, HQ.out.1]; omega, HB2.out⟩, step_less' hlt⟩
    · have e : k = b.os.length := by omega
      subst e
      have HE : Hid (Gate.used l b.os team res = s) := by unfold Hid Gate.used; rw [HQ.out.1]
      clear hlt hk
      go_wp2_with fail
      go_ret
      exact ⟨ret_int HE.out.symm, HB0.out.trans (HQ.out.2.mono HB0.out.size)⟩

end Go.Proofs.Ytniokfnigmmiiaa

namespace Go.Proofs.Ytniokfnigmmiiaa
open Go.RowKit

set_option maxHeartbeats 4000000 in
theorem toGateBook_own (b : Bk) (a0 a1 a2 a3 : Option Addr) (c0 c1 c2 c3 : Nat) (w : World) (hl : BkAt w b a0 a1 a2 a3) (hf : b.Few) :
    Calls Try.prog 15 #[.agg (b.cells a0 a1 a2 a3 c0 c1 c2 c3)] w fun e w' => ∃ lo g0 g1 g2 g3, e = .returned (.agg (b.cells (some ⟨g0, 0, none⟩) (some ⟨g1, 0, none⟩) (some ⟨g2, 0, none⟩) (some ⟨g3, 0, none⟩) b.os.length b.gs.length b.ls.length b.ps.length)) ∧ w.heap.size ≤ lo ∧ BkOwn lo w' b g0 g1 g2 g3 ∧ Below w.heap.size w w' := by
  have HL : Hid (BkAt w b a0 a1 a2 a3) := hl
  have HF : Hid b.Few := hf
  clear hl hf
  unfold Bk.cells
  go_enter Try.func15, Try.ntmps15
  go_wp2_with fail
  have k0 := blk3 w (.cells #[.int .i64 b.now, .int .i64 b.tick, .int .i64 b.given, .slice a0 b.os.length c0, .slice a1 b.gs.length c1, .slice a2 b.ls.length c2, .slice a3 b.ps.length c3] 49) (.cells #[.int .i64 0, .int .i64 0, .int .i64 0, .slice none 0 0, .slice none 0 0, .slice none 0 0, .slice none 0 0] 57) (.cells #[.int .i64 b.now, .int .i64 b.tick, .int .i64 b.given, .slice none 0 0, .slice none 0 0, .slice none 0 0, .slice none 0 0] 57)
  have hB0 := below3' w (.cells #[.int .i64 b.now, .int .i64 b.tick, .int .i64 b.given, .slice a0 b.os.length c0, .slice a1 b.gs.length c1, .slice a2 b.ls.length c2, .slice a3 b.ps.length c3] 49) (.cells #[.int .i64 0, .int .i64 0, .int .i64 0, .slice none 0 0, .slice none 0 0, .slice none 0 0, .slice none 0 0] 57) (.cells #[.int .i64 b.now, .int .i64 b.tick, .int .i64 b.given, .slice none 0 0, .slice none 0 0, .slice none 0 0, .slice none 0 0] 57)
  obtain ⟨W0, hW0⟩ : ∃ W0, W0 = ((w.alloc (.cells #[.int .i64 b.now, .int .i64 b.tick, .int .i64 b.given, .slice a0 b.os.length c0, .slice a1 b.gs.length c1, .slice a2 b.ls.length c2, .slice a3 b.ps.length c3] 49)).alloc (.cells #[.int .i64 0, .int .i64 0, .int .i64 0, .slice none 0 0, .slice none 0 0, .slice none 0 0, .slice none 0 0] 57)).alloc (.cells #[.int .i64 b.now, .int .i64 b.tick, .int .i64 b.given, .slice none 0 0, .slice none 0 0, .slice none 0 0, .slice none 0 0] 57) := ⟨_, rfl⟩
  have hz0 : w.heap.size + 1 + 1 < W0.heap.size := by rw [hW0]; simp
  rw [← hW0] at k0 hB0 ⊢
  clear hW0
  have HLO : Hid (w.heap.size + 1 + 1 < W0.heap.size) := hz0
  refine (toGateObjectS_any _ _ b.os _ (HL.out.os.mono hB0) HF.out.os.1 HF.out.os.2).mono ?_
  rintro e w1 ⟨rfl, hown, hb⟩
  obtain ⟨g0, hp'⟩ : ∃ g0, g0 = W0.heap.size := ⟨_, rfl⟩
  have HN1 : Hid (ObsOwn W0.heap.size w1 g0 b.os b.os.length) := by rw [hp']; exact hown
  have hX1 := (hb.block _ (by omega)).trans k0.1
  have hR1 := (hb.block _ (by omega)).trans k0.2.1
  have hO1 := (hb.block _ hz0).trans k0.2.2
  have HZ1 : Hid (W0.heap.size ≤ w1.heap.size) := hb.size
  have HB1 : Hid (Below w.heap.size w w1) := hB0.trans (hb.mono hB0.size)
  rw [← hp']
  clear hown hb k0 hB0 hz0 hp'
  have cO1 := fun j => cell_of_block (o := j) hO1
  have fO1 := fun j => frozen_of_block (o := j) hO1
  have HX1' : Hid ((w1.setCell ⟨w.heap.size + 1 + 1, 3, none⟩ (.slice (some ⟨g0, 0, none⟩) b.os.length b.os.length)).heap[w.heap.size]? = some (.cells #[.int .i64 b.now, .int .i64 b.tick, .int .i64 b.given, .slice a0 b.os.length c0, .slice a1 b.gs.length c1, .slice a2 b.ls.length c2, .slice a3 b.ps.length c3] 49)) := (setCell_other (by omega)).trans hX1
  have HR1' : Hid ((w1.setCell ⟨w.heap.size + 1 + 1, 3, none⟩ (.slice (some ⟨g0, 0, none⟩) b.os.length b.os.length)).heap[w.heap.size + 1]? = some (.cells #[.int .i64 0, .int .i64 0, .int .i64 0, .slice none 0 0, .slice none 0 0, .slice none 0 0, .slice none 0 0] 57)) := (setCell_other (by omega)).trans hR1
  have HO1' : Hid ((w1.setCell ⟨w.heap.size + 1 + 1, 3, none⟩ (.slice (some ⟨g0, 0, none⟩) b.os.length b.os.length)).heap[w.heap.size + 1 + 1]? = some (.cells #[.int .i64 b.now, .int .i64 b.tick, .int .i64 b.given, .slice (some ⟨g0, 0, none⟩) b.os.length b.os.length, .slice none 0 0, .slice none 0 0, .slice none 0 0] 57)) := heap_setCell_at hO1 _
  have HAB1 : Hid (Above W0.heap.size w1 (w1.setCell ⟨w.heap.size + 1 + 1, 3, none⟩ (.slice (some ⟨g0, 0, none⟩) b.os.length b.os.length))) := Above.setCell HLO.out _
  have HBB1 : Hid (Below w.heap.size w (w1.setCell ⟨w.heap.size + 1 + 1, 3, none⟩ (.slice (some ⟨g0, 0, none⟩) b.os.length b.os.length))) := HB1.out.setCell (by show w.heap.size ≤ w.heap.size + 1 + 1; omega) _
  have HZZ1 : Hid (W0.heap.size ≤ (w1.setCell ⟨w.heap.size + 1 + 1, 3, none⟩ (.slice (some ⟨g0, 0, none⟩) b.os.length b.os.length)).heap.size) := by unfold Hid; rw [World.size_setCell]; exact HZ1.out
  clear hX1 hR1 hO1
  have cX1 := fun j => cell_of_block (o := j) HX1'.out
  have cR1 := fun j => cell_of_block (o := j) HR1'.out
  have fR1 := fun j => frozen_of_block (o := j) HR1'.out
  have cOO1 := fun j => cell_of_block (o := j) HO1'.out
  go_wp2_with fail
  refine (toGateGrantS_any _ _ b.gs _ (HL.out.gs.mono HBB1.out) HF.out.gs.1 HF.out.gs.2).mono ?_
  rintro e w2 ⟨rfl, hown, hb⟩
  obtain ⟨g1, hp'⟩ : ∃ g1, g1 = (w1.setCell ⟨w.heap.size + 1 + 1, 3, none⟩ (.slice (some ⟨g0, 0, none⟩) b.os.length b.os.length)).heap.size := ⟨_, rfl⟩
  have HN2 : Hid (GrsOwn W0.heap.size w2 g1 b.gs b.gs.length) := by rw [hp']; exact hown.weaken HZZ1.out
  have HAA2 : Hid (Above W0.heap.size w1 w2) := HAB1.out.trans (Above.below hb)
  have hX2 := (hb.block _ (lt_of_some HX1'.out)).trans HX1'.out
  have hR2 := (hb.block _ (lt_of_some HR1'.out)).trans HR1'.out
  have hO2 := (hb.block _ (lt_of_some HO1'.out)).trans HO1'.out
  have HZ2 : Hid (W0.heap.size ≤ w2.heap.size) := Nat.le_trans HZZ1.out hb.size
  have HB2 : Hid (Below w.heap.size w w2) := HBB1.out.trans (hb.mono HBB1.out.size)
  rw [← hp']
  clear hown hb hp' cX1 cR1 fR1 cOO1
  have cO2 := fun j => cell_of_block (o := j) hO2
  have fO2 := fun j => frozen_of_block (o := j) hO2
  have HX2' : Hid ((w2.setCell ⟨w.heap.size + 1 + 1, 4, none⟩ (.slice (some ⟨g1, 0, none⟩) b.gs.length b.gs.length)).heap[w.heap.size]? = some (.cells #[.int .i64 b.now, .int .i64 b.tick, .int .i64 b.given, .slice a0 b.os.length c0, .slice a1 b.gs.length c1, .slice a2 b.ls.length c2, .slice a3 b.ps.length c3] 49)) := (setCell_other (by omega)).trans hX2
  have HR2' : Hid ((w2.setCell ⟨w.heap.size + 1 + 1, 4, none⟩ (.slice (some ⟨g1, 0, none⟩) b.gs.length b.gs.length)).heap[w.heap.size + 1]? = some (.cells #[.int .i64 0, .int .i64 0, .int .i64 0, .slice none 0 0, .slice none 0 0, .slice none 0 0, .slice none 0 0] 57)) := (setCell_other (by omega)).trans hR2
  have HO2' : Hid ((w2.setCell ⟨w.heap.size + 1 + 1, 4, none⟩ (.slice (some ⟨g1, 0, none⟩) b.gs.length b.gs.length)).heap[w.heap.size + 1 + 1]? = some (.cells #[.int .i64 b.now, .int .i64 b.tick, .int .i64 b.given, .slice (some ⟨g0, 0, none⟩) b.os.length b.os.length, .slice (some ⟨g1, 0, none⟩) b.gs.length b.gs.length, .slice none 0 0, .slice none 0 0] 57)) := heap_setCell_at hO2 _
  have HAB2 : Hid (Above W0.heap.size w2 (w2.setCell ⟨w.heap.size + 1 + 1, 4, none⟩ (.slice (some ⟨g1, 0, none⟩) b.gs.length b.gs.length))) := Above.setCell HLO.out _
  have HBB2 : Hid (Below w.heap.size w (w2.setCell ⟨w.heap.size + 1 + 1, 4, none⟩ (.slice (some ⟨g1, 0, none⟩) b.gs.length b.gs.length))) := HB2.out.setCell (by show w.heap.size ≤ w.heap.size + 1 + 1; omega) _
  have HZZ2 : Hid (W0.heap.size ≤ (w2.setCell ⟨w.heap.size + 1 + 1, 4, none⟩ (.slice (some ⟨g1, 0, none⟩) b.gs.length b.gs.length)).heap.size) := by unfold Hid; rw [World.size_setCell]; exact HZ2.out
  clear hX2 hR2 hO2
  have cX2 := fun j => cell_of_block (o := j) HX2'.out
  have cR2 := fun j => cell_of_block (o := j) HR2'.out
  have fR2 := fun j => frozen_of_block (o := j) HR2'.out
  have cOO2 := fun j => cell_of_block (o := j) HO2'.out
  go_wp2_with fail
  refine (toGateLedgerS_any _ _ b.ls _ (HL.out.ls.mono HBB2.out) HF.out.ls).mono ?_
  rintro e w3 ⟨rfl, hown, hb⟩
  obtain ⟨g2, hp'⟩ : ∃ g2, g2 = (w2.setCell ⟨w.heap.size + 1 + 1, 4, none⟩ (.slice (some ⟨g1, 0, none⟩) b.gs.length b.gs.length)).heap.size := ⟨_, rfl⟩
  have HN3 : Hid (LgsOwn W0.heap.size w3 g2 b.ls b.ls.length) := by rw [hp']; exact hown.weaken HZZ2.out
  have HAA3 : Hid (Above W0.heap.size w2 w3) := HAB2.out.trans (Above.below hb)
  have hX3 := (hb.block _ (lt_of_some HX2'.out)).trans HX2'.out
  have hR3 := (hb.block _ (lt_of_some HR2'.out)).trans HR2'.out
  have hO3 := (hb.block _ (lt_of_some HO2'.out)).trans HO2'.out
  have HZ3 : Hid (W0.heap.size ≤ w3.heap.size) := Nat.le_trans HZZ2.out hb.size
  have HB3 : Hid (Below w.heap.size w w3) := HBB2.out.trans (hb.mono HBB2.out.size)
  rw [← hp']
  clear hown hb hp' cX2 cR2 fR2 cOO2
  have cO3 := fun j => cell_of_block (o := j) hO3
  have fO3 := fun j => frozen_of_block (o := j) hO3
  have HX3' : Hid ((w3.setCell ⟨w.heap.size + 1 + 1, 5, none⟩ (.slice (some ⟨g2, 0, none⟩) b.ls.length b.ls.length)).heap[w.heap.size]? = some (.cells #[.int .i64 b.now, .int .i64 b.tick, .int .i64 b.given, .slice a0 b.os.length c0, .slice a1 b.gs.length c1, .slice a2 b.ls.length c2, .slice a3 b.ps.length c3] 49)) := (setCell_other (by omega)).trans hX3
  have HR3' : Hid ((w3.setCell ⟨w.heap.size + 1 + 1, 5, none⟩ (.slice (some ⟨g2, 0, none⟩) b.ls.length b.ls.length)).heap[w.heap.size + 1]? = some (.cells #[.int .i64 0, .int .i64 0, .int .i64 0, .slice none 0 0, .slice none 0 0, .slice none 0 0, .slice none 0 0] 57)) := (setCell_other (by omega)).trans hR3
  have HO3' : Hid ((w3.setCell ⟨w.heap.size + 1 + 1, 5, none⟩ (.slice (some ⟨g2, 0, none⟩) b.ls.length b.ls.length)).heap[w.heap.size + 1 + 1]? = some (.cells #[.int .i64 b.now, .int .i64 b.tick, .int .i64 b.given, .slice (some ⟨g0, 0, none⟩) b.os.length b.os.length, .slice (some ⟨g1, 0, none⟩) b.gs.length b.gs.length, .slice (some ⟨g2, 0, none⟩) b.ls.length b.ls.length, .slice none 0 0] 57)) := heap_setCell_at hO3 _
  have HAB3 : Hid (Above W0.heap.size w3 (w3.setCell ⟨w.heap.size + 1 + 1, 5, none⟩ (.slice (some ⟨g2, 0, none⟩) b.ls.length b.ls.length))) := Above.setCell HLO.out _
  have HBB3 : Hid (Below w.heap.size w (w3.setCell ⟨w.heap.size + 1 + 1, 5, none⟩ (.slice (some ⟨g2, 0, none⟩) b.ls.length b.ls.length))) := HB3.out.setCell (by show w.heap.size ≤ w.heap.size + 1 + 1; omega) _
  have HZZ3 : Hid (W0.heap.size ≤ (w3.setCell ⟨w.heap.size + 1 + 1, 5, none⟩ (.slice (some ⟨g2, 0, none⟩) b.ls.length b.ls.length)).heap.size) := by unfold Hid; rw [World.size_setCell]; exact HZ3.out
  clear hX3 hR3 hO3
  have cX3 := fun j => cell_of_block (o := j) HX3'.out
  have cR3 := fun j => cell_of_block (o := j) HR3'.out
  have fR3 := fun j => frozen_of_block (o := j) HR3'.out
  have cOO3 := fun j => cell_of_block (o := j) HO3'.out
  go_wp2_with fail
  refine (toGatePurseS_any _ _ b.ps _ (HL.out.ps.mono HBB3.out) HF.out.ps).mono ?_
  rintro e w4 ⟨rfl, hown, hb⟩
  obtain ⟨g3, hp'⟩ : ∃ g3, g3 = (w3.setCell ⟨w.heap.size + 1 + 1, 5, none⟩ (.slice (some ⟨g2, 0, none⟩) b.ls.length b.ls.length)).heap.size := ⟨_, rfl⟩
  have HN4 : Hid (PusOwn W0.heap.size w4 g3 b.ps b.ps.length) := by rw [hp']; exact hown.weaken HZZ3.out
  have HAA4 : Hid (Above W0.heap.size w3 w4) := HAB3.out.trans (Above.below hb)
  have hX4 := (hb.block _ (lt_of_some HX3'.out)).trans HX3'.out
  have hR4 := (hb.block _ (lt_of_some HR3'.out)).trans HR3'.out
  have hO4 := (hb.block _ (lt_of_some HO3'.out)).trans HO3'.out
  have HZ4 : Hid (W0.heap.size ≤ w4.heap.size) := Nat.le_trans HZZ3.out hb.size
  have HB4 : Hid (Below w.heap.size w w4) := HBB3.out.trans (hb.mono HBB3.out.size)
  rw [← hp']
  clear hown hb hp' cX3 cR3 fR3 cOO3
  have cO4 := fun j => cell_of_block (o := j) hO4
  have fO4 := fun j => frozen_of_block (o := j) hO4
  have HX4' : Hid ((w4.setCell ⟨w.heap.size + 1 + 1, 6, none⟩ (.slice (some ⟨g3, 0, none⟩) b.ps.length b.ps.length)).heap[w.heap.size]? = some (.cells #[.int .i64 b.now, .int .i64 b.tick, .int .i64 b.given, .slice a0 b.os.length c0, .slice a1 b.gs.length c1, .slice a2 b.ls.length c2, .slice a3 b.ps.length c3] 49)) := (setCell_other (by omega)).trans hX4
  have HR4' : Hid ((w4.setCell ⟨w.heap.size + 1 + 1, 6, none⟩ (.slice (some ⟨g3, 0, none⟩) b.ps.length b.ps.length)).heap[w.heap.size + 1]? = some (.cells #[.int .i64 0, .int .i64 0, .int .i64 0, .slice none 0 0, .slice none 0 0, .slice none 0 0, .slice none 0 0] 57)) := (setCell_other (by omega)).trans hR4
  have HO4' : Hid ((w4.setCell ⟨w.heap.size + 1 + 1, 6, none⟩ (.slice (some ⟨g3, 0, none⟩) b.ps.length b.ps.length)).heap[w.heap.size + 1 + 1]? = some (.cells #[.int .i64 b.now, .int .i64 b.tick, .int .i64 b.given, .slice (some ⟨g0, 0, none⟩) b.os.length b.os.length, .slice (some ⟨g1, 0, none⟩) b.gs.length b.gs.length, .slice (some ⟨g2, 0, none⟩) b.ls.length b.ls.length, .slice (some ⟨g3, 0, none⟩) b.ps.length b.ps.length] 57)) := heap_setCell_at hO4 _
  have HAB4 : Hid (Above W0.heap.size w4 (w4.setCell ⟨w.heap.size + 1 + 1, 6, none⟩ (.slice (some ⟨g3, 0, none⟩) b.ps.length b.ps.length))) := Above.setCell HLO.out _
  have HBB4 : Hid (Below w.heap.size w (w4.setCell ⟨w.heap.size + 1 + 1, 6, none⟩ (.slice (some ⟨g3, 0, none⟩) b.ps.length b.ps.length))) := HB4.out.setCell (by show w.heap.size ≤ w.heap.size + 1 + 1; omega) _
  have HZZ4 : Hid (W0.heap.size ≤ (w4.setCell ⟨w.heap.size + 1 + 1, 6, none⟩ (.slice (some ⟨g3, 0, none⟩) b.ps.length b.ps.length)).heap.size) := by unfold Hid; rw [World.size_setCell]; exact HZ4.out
  clear hX4 hR4 hO4
  have cX4 := fun j => cell_of_block (o := j) HX4'.out
  have cR4 := fun j => cell_of_block (o := j) HR4'.out
  have fR4 := fun j => frozen_of_block (o := j) HR4'.out
  have cOO4 := fun j => cell_of_block (o := j) HO4'.out
  go_wp2_with fail
  refine bodyPost_ret (v := .agg #[.int .i64 b.now, .int .i64 b.tick, .int .i64 b.given, .slice (some ⟨g0, 0, none⟩) b.os.length b.os.length, .slice (some ⟨g1, 0, none⟩) b.gs.length b.gs.length, .slice (some ⟨g2, 0, none⟩) b.ls.length b.ls.length, .slice (some ⟨g3, 0, none⟩) b.ps.length b.ps.length]) (by simp [results, Try.results15, go_sem, cR4]) rfl ⟨W0.heap.size, g0, g1, g2, g3, rfl, by have := HLO.out; omega, ?_, ?_⟩
  · have hlt1 : w.heap.size + 1 < W0.heap.size := by have := HLO.out; omega
    have hA4 : ∀ v0 v1 v2 v3 v4 v5 v6, Above W0.heap.size w4 ((((((((w4.setCell ⟨w.heap.size + 1 + 1, 6, none⟩ (.slice (some ⟨g3, 0, none⟩) b.ps.length b.ps.length)).setCell ⟨w.heap.size + 1, 0, none⟩ v0).setCell ⟨w.heap.size + 1, 1, none⟩ v1).setCell ⟨w.heap.size + 1, 2, none⟩ v2).setCell ⟨w.heap.size + 1, 3, none⟩ v3).setCell ⟨w.heap.size + 1, 4, none⟩ v4).setCell ⟨w.heap.size + 1, 5, none⟩ v5).setCell ⟨w.heap.size + 1, 6, none⟩ v6) := fun v0 v1 v2 v3 v4 v5 v6 => (((((((HAB4.out.trans (Above.setCell (p := ⟨w.heap.size + 1, 0, none⟩) hlt1 v0)).trans (Above.setCell (p := ⟨w.heap.size + 1, 1, none⟩) hlt1 v1)).trans (Above.setCell (p := ⟨w.heap.size + 1, 2, none⟩) hlt1 v2)).trans (Above.setCell (p := ⟨w.heap.size + 1, 3, none⟩) hlt1 v3)).trans (Above.setCell (p := ⟨w.heap.size + 1, 4, none⟩) hlt1 v4)).trans (Above.setCell (p := ⟨w.heap.size + 1, 5, none⟩) hlt1 v5)).trans (Above.setCell (p := ⟨w.heap.size + 1, 6, none⟩) hlt1 v6))
    exact ⟨HN1.out.above (((HAA2.out.trans HAA3.out).trans HAA4.out).trans (hA4 _ _ _ _ _ _ _)), HN2.out.above ((HAA3.out.trans HAA4.out).trans (hA4 _ _ _ _ _ _ _)), HN3.out.above (HAA4.out.trans (hA4 _ _ _ _ _ _ _)), HN4.out.above (hA4 _ _ _ _ _ _ _)⟩
  · exact ((((((HBB4.out.setCell (Nat.le_succ _) _).setCell (Nat.le_succ _) _).setCell (Nat.le_succ _) _).setCell (Nat.le_succ _) _).setCell (Nat.le_succ _) _).setCell (Nat.le_succ _) _).setCell (Nat.le_succ _) _

theorem toGateBook_any (b : Bk) (a0 a1 a2 a3 : Option Addr) (c0 c1 c2 c3 : Nat) (w : World) (hl : BkAt w b a0 a1 a2 a3) (hf : b.Few) :
    Calls Try.prog 15 #[.agg (b.cells a0 a1 a2 a3 c0 c1 c2 c3)] w fun e w' => ∃ a0' a1' a2' a3', e = .returned (.agg (b.cells a0' a1' a2' a3' b.os.length b.gs.length b.ls.length b.ps.length)) ∧ BkAt w' b a0' a1' a2' a3' ∧ Below w.heap.size w w' := by
  refine (toGateBook_own b a0 a1 a2 a3 c0 c1 c2 c3 w hl hf).mono ?_
  rintro e w' ⟨lo, g0, g1, g2, g3, he, _, ho, hb⟩
  exact ⟨_, _, _, _, he, ho.at hl.small, hb⟩

end Go.Proofs.Ytniokfnigmmiiaa

namespace Go.Proofs.Ytniokfnigmmiiaa
open Go.RowKit

set_option maxHeartbeats 4000000 in
theorem lawUsed_any (l : Lw) (la lb lc : Option Addr) (lca lcb lcc : Nat) (b : Bk) (a0 a1 a2 a3 : Option Addr) (c0 c1 c2 c3 : Nat) (team res : ByteArray) (w : World) (hl : LwAt w l la lb lc) (ho : BkAt w b a0 a1 a2 a3) (ht : team.size ≤ maxLen) (hr : res.size ≤ maxLen) :
    Calls Try.prog 4 #[.agg (l.cells la lb lc lca lcb lcc), .agg (b.cells a0 a1 a2 a3 c0 c1 c2 c3), .string team, .string res] w fun e w' => e = .returned (.bool true) ∧ Below w.heap.size w w' := by
  have HL : Hid (LwAt w l la lb lc) := hl
  have HO : Hid (BkAt w b a0 a1 a2 a3) := ho
  have hr' := hr
  have ht' := ht
  unfold maxLen at hr' ht'
  clear hl ho hr ht
  unfold Lw.cells Bk.cells
  by_cases hts : 1048576 < (team.size : Int)
  · go_enter Try.func4, Try.ntmps4
    go_wp2_with fail
    go_ret
    exact ⟨rfl, below2' _ _ _⟩
  by_cases hrs : 1048576 < (res.size : Int)
  · go_enter Try.func4, Try.ntmps4
    go_wp2_with fail
    go_ret
    exact ⟨rfl, below2' _ _ _⟩
  go_enter Try.func4, Try.ntmps4
  go_wp2_with fail
  obtain ⟨hX0, hO0⟩ := two_boxes w #[.slice la l.ss.length lca, .slice lb l.ms.length lcb, .slice lc l.ts.length lcc] #[.int .i64 b.now, .int .i64 b.tick, .int .i64 b.given, .slice a0 b.os.length c0, .slice a1 b.gs.length c1, .slice a2 b.ls.length c2, .slice a3 b.ps.length c3] 26 49
  have hB0 := below2' w (.cells #[.slice la l.ss.length lca, .slice lb l.ms.length lcb, .slice lc l.ts.length lcc] 26) (.cells #[.int .i64 b.now, .int .i64 b.tick, .int .i64 b.given, .slice a0 b.os.length c0, .slice a1 b.gs.length c1, .slice a2 b.ls.length c2, .slice a3 b.ps.length c3] 49)
  obtain ⟨W0, hW0⟩ : ∃ W0, W0 = (w.alloc (.cells #[.slice la l.ss.length lca, .slice lb l.ms.length lcb, .slice lc l.ts.length lcc] 26)).alloc (.cells #[.int .i64 b.now, .int .i64 b.tick, .int .i64 b.given, .slice a0 b.os.length c0, .slice a1 b.gs.length c1, .slice a2 b.ls.length c2, .slice a3 b.ps.length c3] 49) := ⟨_, rfl⟩
  have zX0 : w.heap.size < W0.heap.size := by rw [hW0]; simp; omega
  have zO0 : w.heap.size + 1 < W0.heap.size := by rw [hW0]; simp
  rw [← hW0] at hB0 hX0 hO0 ⊢
  clear hW0
  refine (szGateLaw_any l _ _ _ _ _ _ _ _ (HL.out.mono hB0) (by omega) (by omega)).mono ?_
  rintro e w1 ⟨rfl, hb⟩
  have hX1 := box_later hX0 zX0 hb
  have zX1 := Nat.lt_of_lt_of_le zX0 hb.size
  have hO1 := box_later hO0 zO0 hb
  have zO1 := Nat.lt_of_lt_of_le zO0 hb.size
  have hB1 := hB0.trans (hb.mono hB0.size)
  clear hb hX0 zX0 hO0 zO0 hB0
  by_cases hsz : (l.sz : Int) ≤ 1048576
  rotate_left
  · rw [szRes_no (by omega)]
    go_wp2_with fail
    go_ret
    exact ⟨rfl, hB1⟩
  have HF : Hid l.Few := Lw.few hsz
  have hneg : decide (1048576 - (l.sz : Int) < 0) = false := by simp; omega
  rw [szRes_yes hsz]
  go_wp2_with fail
  refine (szGateBook_any b _ _ _ _ _ _ _ _ _ _ (HO.out.mono hB1) (by omega) (by omega)).mono ?_
  rintro e w2 ⟨rfl, hb⟩
  have hX2 := box_later hX1 zX1 hb
  have zX2 := Nat.lt_of_lt_of_le zX1 hb.size
  have hO2 := box_later hO1 zO1 hb
  have zO2 := Nat.lt_of_lt_of_le zO1 hb.size
  have hB2 := hB1.trans (hb.mono hB1.size)
  clear hb hX1 zX1 hO1 zO1 hB1
  by_cases hoz : (b.sz : Int) ≤ 1048576 - (l.sz : Int)
  rotate_left
  · rw [szRes_no (by omega)]
    go_wp2_with fail
    go_ret
    exact ⟨rfl, hB2⟩
  have HG : Hid b.Few := Bk.few (by omega)
  have HZ : Hid (szObs b.os ≤ 1048576) := by unfold Bk.sz at hoz; show _ ≤ _; omega
  have hneg2 : decide (1048576 - (l.sz : Int) - (b.sz : Int) < 0) = false := by simp; omega
  rw [szRes_yes hoz]
  go_wp2_with fail
  have hX := box_later hX2 zX2 (Below.refl w2.heap.size w2).drew
  have zX : w.heap.size < w2.drew.heap.size := zX2
  have hO := box_later hO2 zO2 (Below.refl w2.heap.size w2).drew
  have zO : w.heap.size + 1 < w2.drew.heap.size := zO2
  have hB := hB2.drew
  clear hX2 zX2 hO2 zO2 hB2
  go_region_held3 (fun w' => (∀ j, w'.cell? ⟨w.heap.size, j, none⟩ = (#[.slice la l.ss.length lca, .slice lb l.ms.length lcb, .slice lc l.ts.length lcc] : Array Value)[j]?) ∧ (∀ j, w'.cell? ⟨w.heap.size + 1, j, none⟩ = (#[.int .i64 b.now, .int .i64 b.tick, .int .i64 b.given, .slice a0 b.os.length c0, .slice a1 b.gs.length c1, .slice a2 b.ls.length c2, .slice a3 b.ps.length c3] : Array Value)[j]?)) (exact ⟨hX, hO⟩) (first
    | (go_at_call 8; refine (toGateLaw_any l _ _ _ _ _ _ _ (by exact HL.out.mono hB) HF.out).mono ?_; rintro e w3 ⟨pa, pb, pc, rfl, hl30, hb⟩; unfold Lw.cells; have hl3 := hl30; have hX := box_later hX zX hb; have hO := box_later hO zO hb; have hB := hB.trans (hb.mono hB.size); have zX := Nat.lt_of_lt_of_le zX hb.size; have zO := Nat.lt_of_lt_of_le zO hb.size; clear hb)
    | (go_at_call 15; refine (toGateBook_any b _ _ _ _ _ _ _ _ _ (by exact HO.out.mono hB) HG.out).mono ?_; rintro e w3 ⟨pd, pe, pf, pg, rfl, ho30, hb⟩; unfold Bk.cells; have ho3 := ho30; have hX := box_later hX zX hb; have hO := box_later hO zO hb; have hl3 := hl3.mono hb; have hB := hB.trans (hb.mono hB.size); have zX := Nat.lt_of_lt_of_le zX hb.size; have zO := Nat.lt_of_lt_of_le zO hb.size; clear hb)
    | (go_at_call 14; refine (specUsed_any l _ _ _ _ _ _ b _ _ _ _ _ _ _ _ team res _ (by exact hl3) (by exact ho3) HZ.out).mono ?_; rintro e w3 ⟨rfl, hb⟩; clear hl3; clear ho3; have hX := box_later hX zX hb; have hO := box_later hO zO hb; have hB := hB.trans (hb.mono hB.size); have zX := Nat.lt_of_lt_of_le zX hb.size; have zO := Nat.lt_of_lt_of_le zO hb.size; clear hb))
  have hX3 := hX
  have zX3 := zX
  have hO3 := hO
  have zO3 := zO
  have hB3 := hB
  clear hX zX hO zO hB
  go_wp2_with fail
  refine (toGateLaw_any l _ _ _ _ _ _ _ (HL.out.mono hB3) HF.out).mono ?_
  rintro e w4 ⟨l4a, l4b, l4c, rfl, hl, hb⟩
  have kl4 := hl
  have hX4 := box_later hX3 zX3 hb
  have zX4 := Nat.lt_of_lt_of_le zX3 hb.size
  have hO4 := box_later hO3 zO3 hb
  have zO4 := Nat.lt_of_lt_of_le zO3 hb.size
  have hB4 := hB3.trans (hb.mono hB3.size)
  clear hb hX3 zX3 hO3 zO3 hB3 hl
  unfold Lw.cells
  go_wp2_with fail
  have hb : Below w4.heap.size w4 (w4.alloc (.cells #[.slice l4a l.ss.length l.ss.length, .slice l4b l.ms.length l.ms.length, .slice l4c l.ts.length l.ts.length] 37)) := (Below.refl _ _).alloc (Nat.le_refl _) _
  have hN := box_new w4 #[.slice l4a l.ss.length l.ss.length, .slice l4b l.ms.length l.ms.length, .slice l4c l.ts.length l.ts.length] 37
  obtain ⟨w5, hN0⟩ : ∃ w5, w5 = w4.alloc (.cells #[.slice l4a l.ss.length l.ss.length, .slice l4b l.ms.length l.ms.length, .slice l4c l.ts.length l.ts.length] 37) := ⟨_, rfl⟩
  have hNz : w4.heap.size < w5.heap.size := by rw [hN0]; simp
  rw [← hN0] at hb hN ⊢
  clear hN0
  have hX5 := box_later hX4 zX4 hb
  have zX5 := Nat.lt_of_lt_of_le zX4 hb.size
  have hO5 := box_later hO4 zO4 hb
  have zO5 := Nat.lt_of_lt_of_le zO4 hb.size
  have kl5 := kl4.mono hb
  have hB5 := hB4.trans (hb.mono hB4.size)
  clear hb hX4 zX4 hO4 zO4 kl4 hB4
  have hV5 := hN
  have zV5 := hNz
  clear hN hNz
  refine (toGateBook_any b _ _ _ _ _ _ _ _ _ (HO.out.mono hB5) HG.out).mono ?_
  rintro e w6 ⟨b0, b1, b2, b3, rfl, hl, hb⟩
  have ko6 := hl
  have hX6 := box_later hX5 zX5 hb
  have zX6 := Nat.lt_of_lt_of_le zX5 hb.size
  have hO6 := box_later hO5 zO5 hb
  have zO6 := Nat.lt_of_lt_of_le zO5 hb.size
  have hV6 := box_later hV5 zV5 hb
  have zV6 := Nat.lt_of_lt_of_le zV5 hb.size
  have kl6 := kl5.mono hb
  have hB6 := hB5.trans (hb.mono hB5.size)
  clear hb hX5 zX5 hO5 zO5 hV5 zV5 kl5 hB5 hl
  unfold Bk.cells
  go_wp2_with fail
  have hb : Below w6.heap.size w6 (w6.alloc (.cells #[.int .i64 b.now, .int .i64 b.tick, .int .i64 b.given, .slice b0 b.os.length b.os.length, .slice b1 b.gs.length b.gs.length, .slice b2 b.ls.length b.ls.length, .slice b3 b.ps.length b.ps.length] 57)) := (Below.refl _ _).alloc (Nat.le_refl _) _
  have hN := box_new w6 #[.int .i64 b.now, .int .i64 b.tick, .int .i64 b.given, .slice b0 b.os.length b.os.length, .slice b1 b.gs.length b.gs.length, .slice b2 b.ls.length b.ls.length, .slice b3 b.ps.length b.ps.length] 57
  obtain ⟨w7, hN0⟩ : ∃ w7, w7 = w6.alloc (.cells #[.int .i64 b.now, .int .i64 b.tick, .int .i64 b.given, .slice b0 b.os.length b.os.length, .slice b1 b.gs.length b.gs.length, .slice b2 b.ls.length b.ls.length, .slice b3 b.ps.length b.ps.length] 57) := ⟨_, rfl⟩
  have hNz : w6.heap.size < w7.heap.size := by rw [hN0]; simp
  rw [← hN0] at hb hN ⊢
  clear hN0
  have hX7 := box_later hX6 zX6 hb
  have zX7 := Nat.lt_of_lt_of_le zX6 hb.size
  have hO7 := box_later hO6 zO6 hb
  have zO7 := Nat.lt_of_lt_of_le zO6 hb.size
  have hV7 := box_later hV6 zV6 hb
  have zV7 := Nat.lt_of_lt_of_le zV6 hb.size
  have kl7 := kl6.mono hb
  have ko7 := ko6.mono hb
  have hB7 := hB6.trans (hb.mono hB6.size)
  clear hb hX6 zX6 hO6 zO6 hV6 zV6 kl6 ko6 hB6
  have hU7 := hN
  have zU7 := hNz
  clear hN hNz
  refine (implUsed_any l _ _ _ _ _ _ b _ _ _ _ _ _ _ _ team res _ kl7 ko7 HZ.out).mono ?_
  rintro e w8 ⟨rfl, hb⟩
  have hX8 := box_later hX7 zX7 hb
  have zX8 := Nat.lt_of_lt_of_le zX7 hb.size
  have hO8 := box_later hO7 zO7 hb
  have zO8 := Nat.lt_of_lt_of_le zO7 hb.size
  have hV8 := box_later hV7 zV7 hb
  have zV8 := Nat.lt_of_lt_of_le zV7 hb.size
  have hU8 := box_later hU7 zU7 hb
  have zU8 := Nat.lt_of_lt_of_le zU7 hb.size
  have kl8 := kl7.mono hb
  have ko8 := ko7.mono hb
  have hB8 := hB7.trans (hb.mono hB7.size)
  clear hb hX7 zX7 hO7 zO7 hV7 zV7 hU7 zU7 kl7 ko7 hB7
  have hnn : (Gate.used l b.os team res != Gate.used l b.os team res) = false := by simp
  go_wp2_with fail
  have hX := box_later hX8 zX8 (Below.refl w8.heap.size w8).drew
  have zX : w.heap.size < w8.drew.heap.size := zX8
  have hO := box_later hO8 zO8 (Below.refl w8.heap.size w8).drew
  have zO : w.heap.size + 1 < w8.drew.heap.size := zO8
  have hV := box_later hV8 zV8 (Below.refl w8.heap.size w8).drew
  have zV : w4.heap.size < w8.drew.heap.size := zV8
  have hU := box_later hU8 zU8 (Below.refl w8.heap.size w8).drew
  have zU : w6.heap.size < w8.drew.heap.size := zU8
  have kl := kl8.mono (Below.refl w8.heap.size w8).drew
  have ko := ko8.mono (Below.refl w8.heap.size w8).drew
  have hB := hB8.drew
  clear hX8 zX8 hO8 zO8 hV8 zV8 hU8 zU8 kl8 ko8 hB8
  go_region_held3 (fun w' => (∀ j, w'.cell? ⟨w.heap.size, j, none⟩ = (#[.slice la l.ss.length lca, .slice lb l.ms.length lcb, .slice lc l.ts.length lcc] : Array Value)[j]?) ∧ (∀ j, w'.cell? ⟨w.heap.size + 1, j, none⟩ = (#[.int .i64 b.now, .int .i64 b.tick, .int .i64 b.given, .slice a0 b.os.length c0, .slice a1 b.gs.length c1, .slice a2 b.ls.length c2, .slice a3 b.ps.length c3] : Array Value)[j]?) ∧ (∀ j, w'.cell? ⟨w4.heap.size, j, none⟩ = (#[.slice l4a l.ss.length l.ss.length, .slice l4b l.ms.length l.ms.length, .slice l4c l.ts.length l.ts.length] : Array Value)[j]?) ∧ (∀ j, w'.cell? ⟨w6.heap.size, j, none⟩ = (#[.int .i64 b.now, .int .i64 b.tick, .int .i64 b.given, .slice b0 b.os.length b.os.length, .slice b1 b.gs.length b.gs.length, .slice b2 b.ls.length b.ls.length, .slice b3 b.ps.length b.ps.length] : Array Value)[j]?)) (exact ⟨hX, hO, hV, hU⟩) (first
    | (go_at_call 8; refine (toGateLaw_any l _ _ _ _ _ _ _ (by exact HL.out.mono hB) HF.out).mono ?_; rintro e w9 ⟨qa, qb, qc, rfl, hl90, hb⟩; unfold Lw.cells; have hl9 := hl90; have hX := box_later hX zX hb; have hO := box_later hO zO hb; have hV := box_later hV zV hb; have hU := box_later hU zU hb; have kl := kl.mono hb; have ko := ko.mono hb; have hB := hB.trans (hb.mono hB.size); have zX := Nat.lt_of_lt_of_le zX hb.size; have zO := Nat.lt_of_lt_of_le zO hb.size; have zV := Nat.lt_of_lt_of_le zV hb.size; have zU := Nat.lt_of_lt_of_le zU hb.size; clear hb)
    | (go_at_call 11; refine (eqGateLaw_yes l _ _ _ _ _ _ _ _ _ _ _ _ _ (by exact kl) (by exact hl9)).mono ?_; rintro e w9 ⟨rfl, hb⟩; clear hl9; have hX := box_later hX zX hb; have hO := box_later hO zO hb; have hV := box_later hV zV hb; have hU := box_later hU zU hb; have kl := kl.mono hb; have ko := ko.mono hb; have hB := hB.trans (hb.mono hB.size); have zX := Nat.lt_of_lt_of_le zX hb.size; have zO := Nat.lt_of_lt_of_le zO hb.size; have zV := Nat.lt_of_lt_of_le zV hb.size; have zU := Nat.lt_of_lt_of_le zU hb.size; clear hb))
  have hX9 := hX
  have zX9 := zX
  have hO9 := hO
  have zO9 := zO
  have hV9 := hV
  have zV9 := zV
  have hU9 := hU
  have zU9 := zU
  have kl9 := kl
  have ko9 := ko
  have hB9 := hB
  clear hX zX hO zO hV zV hU zU kl ko hB
  go_wp2_with fail
  have hX := box_later hX9 zX9 (Below.refl w9.heap.size w9).drew
  have zX : w.heap.size < w9.drew.heap.size := zX9
  have hO := box_later hO9 zO9 (Below.refl w9.heap.size w9).drew
  have zO : w.heap.size + 1 < w9.drew.heap.size := zO9
  have hV := box_later hV9 zV9 (Below.refl w9.heap.size w9).drew
  have zV : w4.heap.size < w9.drew.heap.size := zV9
  have hU := box_later hU9 zU9 (Below.refl w9.heap.size w9).drew
  have zU : w6.heap.size < w9.drew.heap.size := zU9
  have kl := kl9.mono (Below.refl w9.heap.size w9).drew
  have ko := ko9.mono (Below.refl w9.heap.size w9).drew
  have hB := hB9.drew
  clear hX9 zX9 hO9 zO9 hV9 zV9 hU9 zU9 kl9 ko9 hB9
  go_region_held3 (fun w' => (∀ j, w'.cell? ⟨w.heap.size, j, none⟩ = (#[.slice la l.ss.length lca, .slice lb l.ms.length lcb, .slice lc l.ts.length lcc] : Array Value)[j]?) ∧ (∀ j, w'.cell? ⟨w.heap.size + 1, j, none⟩ = (#[.int .i64 b.now, .int .i64 b.tick, .int .i64 b.given, .slice a0 b.os.length c0, .slice a1 b.gs.length c1, .slice a2 b.ls.length c2, .slice a3 b.ps.length c3] : Array Value)[j]?) ∧ (∀ j, w'.cell? ⟨w4.heap.size, j, none⟩ = (#[.slice l4a l.ss.length l.ss.length, .slice l4b l.ms.length l.ms.length, .slice l4c l.ts.length l.ts.length] : Array Value)[j]?) ∧ (∀ j, w'.cell? ⟨w6.heap.size, j, none⟩ = (#[.int .i64 b.now, .int .i64 b.tick, .int .i64 b.given, .slice b0 b.os.length b.os.length, .slice b1 b.gs.length b.gs.length, .slice b2 b.ls.length b.ls.length, .slice b3 b.ps.length b.ps.length] : Array Value)[j]?)) (exact ⟨hX, hO, hV, hU⟩) (first
    | (go_at_call 15; refine (toGateBook_any b _ _ _ _ _ _ _ _ _ (by exact HO.out.mono hB) HG.out).mono ?_; rintro e wA ⟨qd, qe, qf, qg, rfl, hoA0, hb⟩; unfold Bk.cells; have hoA := hoA0; have hX := box_later hX zX hb; have hO := box_later hO zO hb; have hV := box_later hV zV hb; have hU := box_later hU zU hb; have kl := kl.mono hb; have ko := ko.mono hb; have hB := hB.trans (hb.mono hB.size); have zX := Nat.lt_of_lt_of_le zX hb.size; have zO := Nat.lt_of_lt_of_le zO hb.size; have zV := Nat.lt_of_lt_of_le zV hb.size; have zU := Nat.lt_of_lt_of_le zU hb.size; clear hb)
    | (go_at_call 17; refine (eqGateBook_yes b _ _ _ _ _ _ _ _ _ _ _ _ _ _ _ _ _ (by exact ko) (by exact hoA)).mono ?_; rintro e wA ⟨rfl, hb⟩; clear hoA; have hX := box_later hX zX hb; have hO := box_later hO zO hb; have hV := box_later hV zV hb; have hU := box_later hU zU hb; have kl := kl.mono hb; have ko := ko.mono hb; have hB := hB.trans (hb.mono hB.size); have zX := Nat.lt_of_lt_of_le zX hb.size; have zO := Nat.lt_of_lt_of_le zO hb.size; have zV := Nat.lt_of_lt_of_le zV hb.size; have zU := Nat.lt_of_lt_of_le zU hb.size; clear hb))
  have hX10 := hX
  have zX10 := zX
  have hO10 := hO
  have zO10 := zO
  have hV10 := hV
  have zV10 := zV
  have hU10 := hU
  have zU10 := zU
  have kl10 := kl
  have ko10 := ko
  have hB10 := hB
  clear hX zX hO zO hV zV hU zU kl ko hB
  go_wp2_with fail
  go_ret
  exact ⟨rfl, hB10⟩

end Go.Proofs.Ytniokfnigmmiiaa
