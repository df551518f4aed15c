import Derived.Test.YtfapkhgallmkdaaGreatM34
import Derived.Test.YtfapkhgallmkdaaGreatM04
import Derived.Test.YtfapkhgallmkdaaGreatM14
import Derived.Test.YtfapkhgallmkdaaGreatM32
import Derived.Deep.RegionHeld3
import Derived.Test.YtfapkhgallmkdaaGreatM27
import Derived.Test.YtfapkhgallmkdaaGreatM13
namespace Go.Proofs.YtfapkhgallmkdaaGreat
open Go.RowKit
set_option maxRecDepth 20000 in
set_option maxHeartbeats 4000000 in
theorem zkA (b : Bk) (a0 a1 a2 a3 : Option Addr) (c0 c1 c2 c3 : Nat) (who : ByteArray) (w : World) (hb : zaY w a1 b.gs) (hl : b.gs.length <= 1048576) :
    Calls Tryz.prog 63 #[.agg (b.cells a0 a1 a2 a3 c0 c1 c2 c3), .string who] w fun e w' => ∃ a cap, e = .returned (.slice a (Gate.zK who b.gs).length cap) /\ zbC w' a (Gate.zK who b.gs) /\ Below w.heap.size w w' := by
  obtain ⟨i0, hi, hzi, hz1', hz2'⟩ := info_parts Tryz.zkD
  have HI : Hid (Tryz.prog.info? 112 = some i0 /\ i0.zero = some (.agg #[.slice none 0 0, .string ByteArray.empty, .string ByteArray.empty, .string ByteArray.empty]) /\ i0.size = 4 /\ i0.bytes = 72) := ⟨hi, hzi, hz1', hz2'⟩
  have HK : Hid (zaY w a1 b.gs) := hb
  have HN : Hid (∀ k, (Gate.zK who (b.gs.take k)).length <= 1048576) := fun k => by have := Gate.zbN who (b.gs.take k); have := List.length_take_le k b.gs; have := List.length_take_le' k b.gs; omega
  clear hb hi hzi hz1' hz2'
  unfold Bk.cells
  go_enter Tryz.func63, Tryz.ntmps63
  go_wp2_with fail
  have hX0 := zG w #[.int .i64 b.now, .int .i64 b.tick, .int .i64 b.given, .slice a0 b.os.length c0, .slice a1 b.gs.length c1, .slice a2 b.ls.length c2, .slice a3 b.ps.length c3] 50
  have HB0 : Hid (Below w.heap.size w (w.alloc (.cells #[.int .i64 b.now, .int .i64 b.tick, .int .i64 b.given, .slice a0 b.os.length c0, .slice a1 b.gs.length c1, .slice a2 b.ls.length c2, .slice a3 b.ps.length c3] 50))) := (Below.refl _ _).alloc (Nat.le_refl _) _
  obtain ⟨W0, hW0⟩ : ∃ W0, W0 = w.alloc (.cells #[.int .i64 b.now, .int .i64 b.tick, .int .i64 b.given, .slice a0 b.os.length c0, .slice a1 b.gs.length c1, .slice a2 b.ls.length c2, .slice a3 b.ps.length c3] 50) := ⟨_, rfl⟩
  have hz0 : w.heap.size < W0.heap.size := by rw [hW0]; simp
  rw [<- hW0] at HB0 hX0 ⊢
  clear hW0
  have HR0 : Hid (jC w W0.heap.size W0 (.slice none 0 0) []) := jC.nil _ _ _
  go_loopw [5, 11] (fun v0 iv wr => ∃ (k : Nat) (v : Value), v = v0 /\ k <= b.gs.length /\ iv = .int .i64 k /\ Hid (jC w W0.heap.size wr v (Gate.zK who (b.gs.take k)) /\ Below W0.heap.size W0 wr)) (fun _ iv _ => b.gs.length - (intOf iv).toNat)
  case atStart => exact ⟨0, _, rfl, Nat.zero_le _, rfl, by rw [List.take_zero]; exact HR0.out, Below.refl _ _⟩
  case round =>
    obtain ⟨k, v, hv, hk, rfl, HQ⟩ := hrel
    subst hv
    have hkn : k <= 1048576 := by omega
    have HBr : Hid (Below w.heap.size w wr) := HB0.out.trans (HQ.out.2.mono (by have := HB0.out.size; omega))
    have hX1 : ∀ j, wr.cell? ⟨w.heap.size, j, none⟩ = (#[.int .i64 b.now, .int .i64 b.tick, .int .i64 b.given, .slice a0 b.os.length c0, .slice a1 b.gs.length c1, .slice a2 b.ls.length c2, .slice a3 b.ps.length c3] : Array Value)[j]? := fun j => (HQ.out.2.cell (p := ⟨w.heap.size, j, none⟩) (by show w.heap.size < _; omega)).trans (hX0 j)
    have hz1 : w.heap.size < wr.heap.size := by have := HQ.out.2.size; omega
    by_cases hlt : k < b.gs.length
    · obtain ⟨ob, off, va, vcap, rfl, hob, hsm, hi0, d0, d1, d2, d3, d4, d5, d6⟩ := HK.out.load HBr.out k hlt
      have hob' : ob < wr.heap.size := Nat.lt_of_lt_of_le hob HBr.out.size
      have hltI : (k : Int) < (b.gs.length : Int) := by omega
      have HSm : Hid (b.gs[k].r.Small /\ b.gs[k].Small) := ⟨hsm.r, hsm⟩
      have HVA : Hid (yw w va b.gs[k].r.vs) := by
        obtain ⟨ob', off', va', vcap', e', hob'', hsm', hiw, dd0, dd1, dd2, dd3, _⟩ := HK.out.load (Below.refl w.heap.size w) k hlt
        cases e'
        have e3 := (HBr.out.cell (p := ⟨ob, off + k * 7 + 3, none⟩) hob).trans dd3
        rw [d3] at e3
        cases e3
        exact hiw
      have HBa : Hid (∀ o, Below wr.heap.size wr (wr.alloc o)) := fun o => (Below.refl _ _).alloc (Nat.le_refl _) _
      clear hsm hi0
      by_cases hto : b.gs[k].to = who
      rotate_left
      · have hne : (b.gs[k].to.toList == who.toList) = false := by rw [Gate.beq_toList]; exact decide_eq_false hto
        have HS : Hid (Gate.zK who (b.gs.take (k + 1)) = Gate.zK who (b.gs.take k)) := Gate.zic hlt hto
        clear hto
        go_wp2_with fail
        exact ⟨⟨k + 1, _, rfl, by omega, by go_num, by rw [HS.out]; exact HQ.out.1.later (HBa.out _), HQ.out.2.trans ((HBa.out _).mono HQ.out.2.size)⟩, zm hlt⟩
      · have hyes : (b.gs[k].to.toList == who.toList) = true := by rw [Gate.beq_toList]; exact decide_eq_true hto
        have HS : Hid (Gate.zK who (b.gs.take (k + 1)) = Gate.zK who (b.gs.take k) ++ [b.gs[k].r]) := Gate.zf7 hlt hto
        obtain ⟨ps, hps, hpp, hown⟩ := HQ.out.1
        have HLL : Hid (ps.length <= 1048576) := by have := HN.out k; rw [<- hps, List.length_map] at this; exact this
        have HPP : Hid (ps.map (·.1) = Gate.zK who (b.gs.take k) /\ ∀ p ∈ ps, p.1.Small /\ yw w p.2.1 p.1.vs) := ⟨hps, hpp⟩
        have HLO : Hid (W0.heap.size <= wr.heap.size) := by have := HQ.out.2.size; have := HB0.out.size; show _ <= _; omega
        clear hto hps hpp
        go_wp2_with (at_builtin; refine wpList_append_own _ rfl (.tmp 19) (.tmp 22) 109 rfl W0.heap.size 112 i0 (.agg #[.slice none 0 0, .string ByteArray.empty, .string ByteArray.empty, .string ByteArray.empty]) 4 72 Tryz.underlying109 HI.out.1 HI.out.2.1 HI.out.2.2.1 HI.out.2.2.2 rfl (by decide) _ _ _ rfl ((hown.alloc _).alloc _) ⟨wr.heap.size + 1, 0, none⟩ 1 1 [.slice va b.gs[k].r.vs.length vcap, .string b.gs[k].r.kd, .string b.gs[k].r.tm, .string b.gs[k].r.px] rfl rfl (by have h := zjz (wr.alloc (.cells #[.int .i64 b.gs[k].no, .string b.gs[k].to, .string b.gs[k].gb, .slice va b.gs[k].r.vs.length vcap, .string b.gs[k].r.kd, .string b.gs[k].r.tm, .string b.gs[k].r.px] 124)) (.slice va b.gs[k].r.vs.length vcap) (.string b.gs[k].r.kd) (.string b.gs[k].r.tm) (.string b.gs[k].r.px) 112; simpa using h) (by intro u hu; simp at hu; rcases hu with rfl | rfl | rfl | rfl <;> rfl) (by have := HLL.out; unfold maxLen; omega) (by have := HLL.out; omega) (by have := HLO.out; simp; omega) ?_; intro v' w4 hown' hgr _)
        have hgb : ∀ g', v.ownBlock = some g' -> W0.heap.size <= g' := fun g' hg' => (hown.lt g' hg').1
        exact ⟨⟨k + 1, _, rfl, by omega, by go_num, by rw [HS.out]; exact jC.snoc HPP.out.1 HPP.out.2 HSm.out.1 HVA.out hown', zfb (HQ.out.2.alloc HLO.out _) (by have := HLO.out; simp; omega) hgr hgb⟩, zm hlt⟩
    · have e : k = b.gs.length := by omega
      subst e
      have hrow := HQ.out.1
      rw [List.take_of_length_le (Nat.le_refl _)] at hrow
      have hml : (Gate.zK who b.gs).length <= maxLen := by have := Gate.zbN who b.gs; unfold maxLen; omega
      obtain ⟨ra, rcap, rfl, hat⟩ := hrow.at HBr.out hml
      have HE : Hid (zbC wr ra (Gate.zK who b.gs)) := hat
      clear HQ hlt hk hX1 hrow hat
      go_wp2_with fail
      go_ret
      exact ⟨ra, rcap, rfl, HE.out, HBr.out⟩
set_option maxRecDepth 20000 in
set_option maxHeartbeats 4000000 in
theorem zky (b : Bk) (a0 a1 a2 a3 : Option Addr) (c0 c1 c2 c3 : Nat) (who : ByteArray) (w : World) (hb : zaY w a1 b.gs) (hl : b.gs.length <= 1048576) :
    Calls Tryz.prog 51 #[.agg (b.cells a0 a1 a2 a3 c0 c1 c2 c3), .string who] w fun e w' => ∃ a cap, e = .returned (.slice a (Gate.zK who b.gs).length cap) /\ zbC w' a (Gate.zK who b.gs) /\ Below w.heap.size w w' := by
  obtain ⟨i0, hi, hzi, hz1', hz2'⟩ := info_parts Tryz.zkD
  have HI : Hid (Tryz.prog.info? 112 = some i0 /\ i0.zero = some (.agg #[.slice none 0 0, .string ByteArray.empty, .string ByteArray.empty, .string ByteArray.empty]) /\ i0.size = 4 /\ i0.bytes = 72) := ⟨hi, hzi, hz1', hz2'⟩
  have HK : Hid (zaY w a1 b.gs) := hb
  have HN : Hid (∀ k, (Gate.zK who (b.gs.take k)).length <= 1048576) := fun k => by have := Gate.zbN who (b.gs.take k); have := List.length_take_le k b.gs; have := List.length_take_le' k b.gs; omega
  clear hb hi hzi hz1' hz2'
  unfold Bk.cells
  go_enter Tryz.func51, Tryz.ntmps51
  go_wp2_with fail
  obtain ⟨hA, hC⟩ := zP w (.cells #[.int .i64 b.now, .int .i64 b.tick, .int .i64 b.given, .slice a0 b.os.length c0, .slice a1 b.gs.length c1, .slice a2 b.ls.length c2, .slice a3 b.ps.length c3] 50) (.cells #[] 112)
  have HB0 : Hid (Below w.heap.size w ((w.alloc (.cells #[.int .i64 b.now, .int .i64 b.tick, .int .i64 b.given, .slice a0 b.os.length c0, .slice a1 b.gs.length c1, .slice a2 b.ls.length c2, .slice a3 b.ps.length c3] 50)).alloc (.cells #[] 112))) := zu w _ _
  obtain ⟨W0, hW0⟩ : ∃ W0, W0 = (w.alloc (.cells #[.int .i64 b.now, .int .i64 b.tick, .int .i64 b.given, .slice a0 b.os.length c0, .slice a1 b.gs.length c1, .slice a2 b.ls.length c2, .slice a3 b.ps.length c3] 50)).alloc (.cells #[] 112) := ⟨_, rfl⟩
  have hz0' : w.heap.size + 1 < W0.heap.size := by rw [hW0]; simp
  rw [<- hW0] at HB0 hA hC ⊢
  clear hW0
  have hX0 := zfv hA
  have HR0 : Hid (jC w (w.heap.size + 1) W0 (.slice (some ⟨w.heap.size + 1, 0, none⟩) 0 0) []) := ⟨[], rfl, (fun _ h => by cases h), rfl, .inr ⟨w.heap.size + 1, 0, #[], rfl, Nat.le_refl _, hC, Nat.le_refl _, by simp [maxLen], rfl, rfl⟩⟩
  clear hA hC
  go_loopw [5, 6] (fun v0 iv wr => ∃ (k : Nat) (v : Value), v = v0 /\ k <= b.gs.length /\ iv = .int .i64 k /\ Hid (jC w (w.heap.size + 1) wr v (Gate.zK who (b.gs.take k)) /\ Below (w.heap.size + 1) W0 wr)) (fun _ iv _ => b.gs.length - (intOf iv).toNat)
  case atStart => exact ⟨0, _, rfl, Nat.zero_le _, rfl, by rw [List.take_zero]; exact HR0.out, Below.refl _ _⟩
  case round =>
    obtain ⟨k, v, hv, hk, rfl, HQ⟩ := hrel
    subst hv
    have hkn : k <= 1048576 := by omega
    have HBr : Hid (Below w.heap.size w wr) := HB0.out.trans (HQ.out.2.mono (by have := HB0.out.size; omega))
    have hX1 : ∀ j, wr.cell? ⟨w.heap.size, j, none⟩ = (#[.int .i64 b.now, .int .i64 b.tick, .int .i64 b.given, .slice a0 b.os.length c0, .slice a1 b.gs.length c1, .slice a2 b.ls.length c2, .slice a3 b.ps.length c3] : Array Value)[j]? := fun j => (HQ.out.2.cell (p := ⟨w.heap.size, j, none⟩) (by show w.heap.size < _; omega)).trans (hX0 j)
    have hz1 : w.heap.size < wr.heap.size := by have := HQ.out.2.size; omega
    by_cases hlt : k < b.gs.length
    · obtain ⟨ob, off, va, vcap, rfl, hob, hsm, hi0, d0, d1, d2, d3, d4, d5, d6⟩ := HK.out.load HBr.out k hlt
      have hob' : ob < wr.heap.size := Nat.lt_of_lt_of_le hob HBr.out.size
      have hltI : (k : Int) < (b.gs.length : Int) := by omega
      have HSm : Hid (b.gs[k].r.Small /\ b.gs[k].Small) := ⟨hsm.r, hsm⟩
      have HVA : Hid (yw w va b.gs[k].r.vs) := by
        obtain ⟨ob', off', va', vcap', e', hob'', hsm', hiw, dd0, dd1, dd2, dd3, _⟩ := HK.out.load (Below.refl w.heap.size w) k hlt
        cases e'
        have e3 := (HBr.out.cell (p := ⟨ob, off + k * 7 + 3, none⟩) hob).trans dd3
        rw [d3] at e3
        cases e3
        exact hiw
      have HBa : Hid (∀ o, Below wr.heap.size wr (wr.alloc o)) := fun o => (Below.refl _ _).alloc (Nat.le_refl _) _
      clear hsm hi0
      by_cases hto : b.gs[k].to = who
      rotate_left
      · have hne : (b.gs[k].to.toList == who.toList) = false := by rw [Gate.beq_toList]; exact decide_eq_false hto
        have HS : Hid (Gate.zK who (b.gs.take (k + 1)) = Gate.zK who (b.gs.take k)) := Gate.zic hlt hto
        clear hto
        go_wp2_with fail
        exact ⟨⟨k + 1, _, rfl, by omega, by go_num, by rw [HS.out]; exact HQ.out.1, HQ.out.2⟩, zm hlt⟩
      · have hyes : (b.gs[k].to.toList == who.toList) = true := by rw [Gate.beq_toList]; exact decide_eq_true hto
        have HS : Hid (Gate.zK who (b.gs.take (k + 1)) = Gate.zK who (b.gs.take k) ++ [b.gs[k].r]) := Gate.zf7 hlt hto
        obtain ⟨ps, hps, hpp, hown⟩ := HQ.out.1
        have HLL : Hid (ps.length <= 1048576) := by have := HN.out k; rw [<- hps, List.length_map] at this; exact this
        have HPP : Hid (ps.map (·.1) = Gate.zK who (b.gs.take k) /\ ∀ p ∈ ps, p.1.Small /\ yw w p.2.1 p.1.vs) := ⟨hps, hpp⟩
        have HLO : Hid ((w.heap.size + 1) <= wr.heap.size) := by have := HQ.out.2.size; have := HB0.out.size; show _ <= _; omega
        clear hto hps hpp
        go_wp2_with (at_builtin; refine wpList_append_own _ rfl (.tmp 23) (.tmp 30) 109 rfl (w.heap.size + 1) 112 i0 (.agg #[.slice none 0 0, .string ByteArray.empty, .string ByteArray.empty, .string ByteArray.empty]) 4 72 Tryz.underlying109 HI.out.1 HI.out.2.1 HI.out.2.2.1 HI.out.2.2.2 rfl (by decide) _ _ _ rfl (hown.alloc _) ⟨wr.heap.size, 0, none⟩ 1 1 [.slice va b.gs[k].r.vs.length vcap, .string b.gs[k].r.kd, .string b.gs[k].r.tm, .string b.gs[k].r.px] rfl rfl (zjz _ _ _ _ _ _) (by intro u hu; simp at hu; rcases hu with rfl | rfl | rfl | rfl <;> rfl) (by have := HLL.out; unfold maxLen; omega) (by have := HLL.out; omega) (by have := HLO.out; simp; omega) ?_; intro v' w4 hown' hgr _)
        have hgb : ∀ g', v.ownBlock = some g' -> (w.heap.size + 1) <= g' := fun g' hg' => (hown.lt g' hg').1
        exact ⟨⟨k + 1, _, rfl, by omega, by go_num, by rw [HS.out]; exact jC.snoc HPP.out.1 HPP.out.2 HSm.out.1 HVA.out hown', zfb HQ.out.2 HLO.out hgr hgb⟩, zm hlt⟩
    · have e : k = b.gs.length := by omega
      subst e
      have hrow := HQ.out.1
      rw [List.take_of_length_le (Nat.le_refl _)] at hrow
      have hml : (Gate.zK who b.gs).length <= maxLen := by have := Gate.zbN who b.gs; unfold maxLen; omega
      obtain ⟨ra, rcap, rfl, hat⟩ := hrow.at HBr.out hml
      have HE : Hid (zbC wr ra (Gate.zK who b.gs)) := hat
      clear HQ hlt hk hrow hat
      go_wp2_with fail
      go_ret
      exact ⟨ra, rcap, rfl, HE.out, HBr.out⟩
end Go.Proofs.YtfapkhgallmkdaaGreat

namespace Go.Proofs.YtfapkhgallmkdaaGreat
open Go.RowKit
theorem zaG (w : World) (X Y Z : Array Value) (r s t : TypeId) : ∃ W0, W0 = ((w.alloc (.cells X r)).alloc (.cells Y s)).alloc (.cells Z t) /\ (∀ j, W0.cell? ⟨w.heap.size, j, none⟩ = X[j]?) /\ (∀ j, W0.cell? ⟨w.heap.size + 1, j, none⟩ = Y[j]?) /\ (∀ j, W0.cell? ⟨w.heap.size + 1 + 1, j, none⟩ = Z[j]?) /\ w.heap.size + 1 + 1 < W0.heap.size /\ Below w.heap.size w W0 := by
  obtain ⟨hA, hB, hC⟩ := zoQ w (.cells X r) (.cells Y s) (.cells Z t)
  exact ⟨_, rfl, fun _ => cell_of_block hA, fun _ => cell_of_block hB, fun _ => cell_of_block hC, by simp, below3' _ _ _ _⟩
set_option maxHeartbeats 4000000 in
theorem znA (r : Rl) (a : Option Addr) (cap : Nat) (l : Lw) (la lb lc : Option Addr) (lca lcb lcc : Nat) (x : Ac) (bl ba : Nat) (w : World) (hm : r.Small) (hi : yw w a r.vs) (ht : qF w lc l.ts) (hv : Gate.qD r.vs = true) (hxs : x.Small) (hbl : bl < w.heap.size) (hba : ba < w.heap.size) (hcl : ∀ j, w.cell? ⟨bl, j, none⟩ = (#[.slice la l.ss.length lca, .slice lb l.ms.length lcb, .slice lc l.ts.length lcc] : Array Value)[j]?) (hca : ∀ j, w.cell? ⟨ba, j, none⟩ = (#[.int .i64 x.vb, .string x.kd, .string x.tm, .string x.nm] : Array Value)[j]?) :
    Calls Tryz.prog 64 #[.agg (r.cells a cap), .pointer (some ⟨bl, 0, none⟩), .pointer (some ⟨ba, 0, none⟩)] w fun e w' => e = .returned (.bool (Gate.yP l.ts r x)) /\ Below w.heap.size w w' := by
  have HT : Hid (qF w lc l.ts) := ht
  have HI : Hid (yw w a r.vs) := hi
  have HM : Hid (r.Small /\ x.Small) := ⟨hm, hxs⟩
  have HV : Hid (Gate.qD r.vs = true) := hv
  clear ht hi hm hxs hv
  unfold Rl.cells
  go_enter Tryz.func64, Tryz.ntmps64
  go_wp2_with fail
  have hB0 : Below w.heap.size w (w.alloc (.cells #[.slice a r.vs.length cap, .string r.kd, .string r.tm, .string r.px] 112)) := (Below.refl _ _).alloc (Nat.le_refl _) _
  have hX0 := zG w #[.slice a r.vs.length cap, .string r.kd, .string r.tm, .string r.px] 112
  obtain ⟨W0, hW0⟩ : ∃ W0, W0 = w.alloc (.cells #[.slice a r.vs.length cap, .string r.kd, .string r.tm, .string r.px] 112) := ⟨_, rfl⟩
  have hz0 : w.heap.size < W0.heap.size := by rw [hW0]; simp
  rw [<- hW0] at hB0 hX0 ⊢
  clear hW0
  have hB := hB0.drew
  have hX := za hX0 hz0 (Below.refl W0.heap.size W0).drew
  have hY := za (za hcl hbl hB0) (Nat.lt_of_lt_of_le hbl hB0.size) (Below.refl W0.heap.size W0).drew
  have hZ := za (za hca hba hB0) (Nat.lt_of_lt_of_le hba hB0.size) (Below.refl W0.heap.size W0).drew
  have zX : w.heap.size < W0.drew.heap.size := hz0
  have zY : bl < W0.drew.heap.size := Nat.lt_of_lt_of_le hbl hB0.size
  have zZ : ba < W0.drew.heap.size := Nat.lt_of_lt_of_le hba hB0.size
  clear hX0 hz0 hB0 hcl hca hbl hba
  go_region_held3 (fun w' => (∀ j, w'.cell? ⟨w.heap.size, j, none⟩ = (#[.slice a r.vs.length cap, .string r.kd, .string r.tm, .string r.px] : Array Value)[j]?) /\ (∀ j, w'.cell? ⟨bl, j, none⟩ = (#[.slice la l.ss.length lca, .slice lb l.ms.length lcb, .slice lc l.ts.length lcc] : Array Value)[j]?) /\ ∀ j, w'.cell? ⟨ba, j, none⟩ = (#[.int .i64 x.vb, .string x.kd, .string x.tm, .string x.nm] : Array Value)[j]?) (exact ⟨hX, hY, hZ⟩) (first
    | (go_at_call 65; refine (zlm _ _ l.ts r _ _ _ (by exact HI.out.mono hB) HV.out).mono ?_; rintro e w3 ⟨rfl, hb⟩; have hX := za hX zX hb; have hY := za hY zY hb; have hZ := za hZ zZ hb; have hB := hB.trans (hb.mono hB.size); have zX := Nat.lt_of_lt_of_le zX hb.size; have zY := Nat.lt_of_lt_of_le zY hb.size; have zZ := Nat.lt_of_lt_of_le zZ hb.size; clear hb)
    | (go_at_call 108; refine (zkm _ _ l.ts r _ _ x.kd x.tm x.nm _ (by exact HT.out.mono hB) HM.out.1 HM.out.2.nm).mono ?_; rintro e w4 ⟨rfl, hb⟩; have hX := za hX zX hb; have hY := za hY zY hb; have hZ := za hZ zZ hb; have hB := hB.trans (hb.mono hB.size); have zX := Nat.lt_of_lt_of_le zX hb.size; have zY := Nat.lt_of_lt_of_le zY hb.size; have zZ := Nat.lt_of_lt_of_le zZ hb.size; clear hb)
    | (go_at_call 66; refine (zoP _ _ _).mono ?_; rintro e w5 ⟨rfl, rfl⟩))
  go_wp2_with fail
  go_ret
  exact ⟨ze (Gate.zkO HV.out), hB⟩
def zn1 (P : Program) (q q' : Value) (rs : List Rl) (w : World) (p : Rl -> Bool) : Prop :=
  ∀ w1, Below w.heap.size w w1 -> ∀ i (h : i < rs.length) va vcap, rs[i].Small -> yw w1 va rs[i].vs -> Calls P 64 #[.agg (rs[i].cells va vcap), q, q'] w1 fun e w' => e = .returned (.bool (p rs[i])) /\ Below w1.heap.size w1 w'
set_option maxHeartbeats 1000000 in
theorem zh2 (a : Option Addr) (cap : Nat) (rs : List Rl) (q q' : Value) (p : Rl -> Bool) (w : World) (hw : zbC w a rs) (hf : zn1 Tryz.prog q q' rs w p) :
    Calls Tryz.prog 106 #[.slice a rs.length cap, .func (.func 64) #[] #[q, q']] w fun e w' => ∃ r : Int, e = .returned (.int .i64 r) /\ decide (0 <= r) = rs.any p /\ Below w.heap.size w w' := by
  have hl := hw.len
  unfold maxLen at hl
  go_enter Tryz.func106, Tryz.ntmps106
  go_wp2_with fail
  go_loopw [8] (fun i wr => ∃ k : Nat, k <= rs.length /\ i = .int .i64 k /\ (rs.take k).any p = false /\ Below w.heap.size w wr) (fun i _ => rs.length - (intOf i).toNat)
  case atStart => exact ⟨0, Nat.zero_le _, rfl, rfl, Below.refl _ _⟩
  case round =>
    obtain ⟨k, hk, rfl, hno, hB⟩ := hrel
    by_cases hlt : k < rs.length
    · obtain ⟨b, off, va, vcap, rfl, hb, hsm, hI, c0, c1, c2, c3⟩ := hw.load hB k hlt
      have hltI : (k : Int) < (rs.length : Int) := by omega
      have hbr : b < wr.heap.size := Nat.lt_of_lt_of_le hb hB.size
      have hc := hf wr hB k hlt va vcap hsm hI
      clear hw hf hsm hI
      by_cases he : p rs[k] = true
      · have HA : Hid (rs.any p = true) := zjJ _ rs k hlt he
        have HE : Hid (p rs[k] = true) := he
        clear he hno
        go_wp2_with fail
        refine (zk HE.out hc).mono ?_
        rintro e w2 ⟨rfl, hb2⟩
        go_wp2_with fail
        go_ret
        exact ⟨_, rfl, by rw [HA.out]; simp, hB.trans (hb2.mono hB.size)⟩
      · have he' : p rs[k] = false := by simpa using he
        have HS : Hid ((rs.take (k + 1)).any p = false) := by unfold Hid; rw [zbh _ rs k hlt, hno, he']; rfl
        have HE : Hid (p rs[k] = false) := he'
        clear he he' hno
        go_wp2_with fail
        refine (zk HE.out hc).mono ?_
        rintro e w2 ⟨rfl, hb2⟩
        go_wp2_with fail
        exact ⟨⟨k + 1, by omega, by go_num, HS.out, hB.trans (hb2.mono hB.size)⟩, by simp [intOf]; omega⟩
    · have HA : Hid (rs.any p = false) := by unfold Hid; rw [<- hno, List.take_of_length_le (by omega)]
      clear hno hw hf
      go_wp2_with fail
      go_ret
      exact ⟨_, rfl, by rw [HA.out]; rfl, hB⟩
set_option maxHeartbeats 400000 in
theorem zeD (a : Option Addr) (cap : Nat) (rs : List Rl) (q q' : Value) (p : Rl -> Bool) (w : World) (hw : zbC w a rs) (hf : zn1 Tryz.prog q q' rs w p) :
    Calls Tryz.prog 62 #[.slice a rs.length cap, .func (.func 64) #[] #[q, q']] w fun e w' => e = .returned (.bool (rs.any p)) /\ Below w.heap.size w w' := by
  go_enter Tryz.func62, Tryz.ntmps62
  go_wp2_with fail
  refine (zh2 _ _ _ _ _ _ _ hw hf).mono ?_
  rintro e w2 ⟨r, rfl, hr, hb2⟩
  go_wp2_with fail
  go_ret
  exact ⟨rfl, hb2⟩
theorem Gate.zjI {b : Bk} (h : Gate.yt b = true) : b.gs.length <= 24 /\ ∀ who, ∀ r ∈ Gate.zK who b.gs, Gate.qD r.vs = true := by
  unfold Gate.yt at h
  simp only [Bool.and_eq_true, decide_eq_true_eq] at h
  refine ⟨h.1, fun who => Gate.zgi (fun r => Gate.qD r.vs = true) fun g hg => ?_⟩
  have h2 := List.all_eq_true.1 h.2.2 g hg
  unfold Gate.yN at h2
  simp only [Bool.and_eq_true] at h2
  exact Gate.zjV h2.2.2.2
set_option maxHeartbeats 4000000 in
theorem zoW (l : Lw) (la lb lc : Option Addr) (lca lcb lcc : Nat) (b : Bk) (a0 a1 a2 a3 : Option Addr) (c0 c1 c2 c3 : Nat) (who : ByteArray) (x : Ac) (w : World) (hl : qH w l la lb lc) (hb : qL w b a0 a1 a2 a3) (hx : x.Small) (hg : Gate.yt b = true) :
    Calls Tryz.prog 31 #[.agg (l.cells la lb lc lca lcb lcc), .agg (b.cells a0 a1 a2 a3 c0 c1 c2 c3), .string who, .agg x.cells] w fun e w' => e = .returned (.bool (Gate.zjh l b who x)) /\ Below w.heap.size w w' := by
  have HL : Hid (qH w l la lb lc) := hl
  have HK : Hid (qL w b a0 a1 a2 a3) := hb
  have HX : Hid x.Small := hx
  have HG : Hid (b.gs.length <= 24 /\ ∀ who, ∀ r ∈ Gate.zK who b.gs, Gate.qD r.vs = true) := Gate.zjI hg
  clear hl hb hx hg
  unfold Lw.cells Bk.cells Ac.cells
  go_enter Tryz.func31, Tryz.ntmps31
  go_wp2_with fail
  obtain ⟨W0, hW0, hX0, hY0, hZ0, hz0, hB0⟩ := zaG w #[.slice la l.ss.length lca, .slice lb l.ms.length lcb, .slice lc l.ts.length lcc] #[.int .i64 b.now, .int .i64 b.tick, .int .i64 b.given, .slice a0 b.os.length c0, .slice a1 b.gs.length c1, .slice a2 b.ls.length c2, .slice a3 b.ps.length c3] #[.int .i64 x.vb, .string x.kd, .string x.tm, .string x.nm] 43 50 52
  rw [<- hW0]
  clear hW0
  refine (zkA b _ _ _ _ _ _ _ _ who _ (HK.out.gs.mono hB0) (by have := HG.out.1; omega)).mono ?_
  rintro e w1 ⟨ra, rcap, rfl, hr, hb⟩
  have hX1 := za hX0 (by omega) hb
  have hZ1 := za hZ0 hz0 hb
  have hz1 := Nat.lt_of_lt_of_le hz0 hb.size
  have hB1 := hB0.trans (hb.mono hB0.size)
  clear hb hX0 hY0 hZ0 hz0 hB0
  go_wp2_with fail
  refine (zeD ra rcap (Gate.zK who b.gs) _ _ (fun r => Gate.yP l.ts r x) _ hr ?_).mono ?_
  · intro w2 hB2 i hi va vcap hsm hI
    exact znA _ va vcap l la lb lc lca lcb lcc x _ _ w2 hsm hI ((HL.out.ts.mono hB1).mono hB2) (HG.out.2 who _ (List.getElem_mem hi)) HX.out (Nat.lt_of_lt_of_le (by omega) hB2.size) (Nat.lt_of_lt_of_le hz1 hB2.size) (za hX1 (by omega) hB2) (za hZ1 hz1 hB2)
  rintro e w2 ⟨rfl, hb⟩
  have hB2 := hB1.trans (hb.mono hB1.size)
  clear hb hX1 hZ1 hz1 hB1 hr
  go_wp2_with fail
  go_ret
  exact ⟨rfl, hB2⟩
end Go.Proofs.YtfapkhgallmkdaaGreat

namespace Go.Proofs.YtfapkhgallmkdaaGreat
open Go.RowKit
set_option maxHeartbeats 2000000 in
theorem zeT (ta : Option Addr) (tcap : Nat) (ts : List Tm) (r : Rl) (a : Option Addr) (cap : Nat) (x : Ac) (w : World) (hw : qF w ta ts) (hm : r.Small) (hi : yw w a r.vs) (hx : x.Small) :
    Calls Tryz.prog 52 #[.slice ta ts.length tcap, .agg (r.cells a cap), .agg x.cells] w fun e w' => e = .returned (.bool (Gate.yP ts r x)) /\ Below w.heap.size w w' := by
  have hpx := hm.px
  have hnm := hx.nm
  have HB : Hid (∀ o1 o2, Below w.heap.size w ((w.alloc o1).alloc o2)) := fun _ _ => zu _ _ _
  have HT : Hid (qF w ta ts) := hw
  have HI : Hid (yw w a r.vs) := hi
  clear hw hi hm hx
  have hkc : (r.kd.toList.isEmpty = true) \/ (r.kd.toList.isEmpty = false /\ (r.kd.toList == x.kd.toList) = true) \/ (r.kd.toList.isEmpty = false /\ (r.kd.toList == x.kd.toList) = false) := by
    cases r.kd.toList.isEmpty <;> cases (r.kd.toList == x.kd.toList) <;> simp
  have htc : (r.tm.toList.isEmpty = true) \/ (r.tm.toList.isEmpty = false /\ Hid (Gate.under ts 4 x.tm r.tm = true)) \/ (r.tm.toList.isEmpty = false /\ Hid (Gate.under ts 4 x.tm r.tm = false)) := by
    unfold Hid
    cases r.tm.toList.isEmpty <;> cases Gate.under ts 4 x.tm r.tm <;> simp
  have HM : Hid (Gate.yP ts r x = (Gate.yD r.vs x.vb && ((r.kd.toList.isEmpty || (r.kd.toList == x.kd.toList)) && ((r.tm.toList.isEmpty || Gate.under ts 4 x.tm r.tm) && Gate.begins x.nm r.px)))) := by
    unfold Hid Gate.yP Gate.meets; rw [Gate.beq_toList]
  by_cases hv : Gate.yD r.vs x.vb = true
  rotate_left
  · have HV : Hid (Gate.yD r.vs x.vb = false) := by simpa [Hid] using hv
    have HF : Hid (Gate.yP ts r x = false) := by rw [Hid, HM.out, HV.out]; rfl
    clear hv
    unfold Rl.cells Ac.cells
    go_enter Tryz.func52, Tryz.ntmps52
    go_wp2_with fail
    refine (zk HV.out (zae r _ _ _ _ (HI.out.mono (HB.out _ _)))).mono ?_
    rintro e w1 ⟨rfl, hb1⟩
    have HB1 : Hid (Below w.heap.size w w1) := (HB.out _ _).trans (hb1.mono (by simp; omega))
    clear hb1
    go_wp2_with fail
    go_ret
    exact ⟨ze HF.out.symm, HB1.out⟩
  have HV : Hid (Gate.yD r.vs x.vb = true) := hv
  clear hv
  rcases hkc with hk | ⟨hk, hke⟩ | ⟨hk, hke⟩
  · rcases htc with ht | ⟨ht, HU⟩ | ⟨ht, HU⟩
    · have HF : Hid (Gate.yP ts r x = Gate.begins x.nm r.px) := by rw [Hid, HM.out, HV.out, hk, ht]; simp
      unfold Rl.cells Ac.cells
      go_enter Tryz.func52, Tryz.ntmps52
      go_wp2_with fail
      refine (zk HV.out (zae r _ _ _ _ (HI.out.mono (HB.out _ _)))).mono ?_
      rintro e w1 ⟨rfl, hb1⟩
      have HB1 : Hid (Below w.heap.size w w1) := (HB.out _ _).trans (hb1.mono (by simp; omega))
      have hX1 := za (za (zG w _ _) (by simp) ((Below.refl _ _).alloc (Nat.le_refl _) _)) (by simp; omega) hb1
      have hY1 := za (zbq w _ _ _) (by simp) hb1
      have hz : w.heap.size + 1 < w1.heap.size := by have := hb1.size; simp at this; omega
      clear hb1
      go_wp2_with (go_at_call 94; refine (zbE x.nm r.px _ hnm hpx).mono ?_; rintro e w' ⟨rfl, rfl⟩)
      go_ret
      exact ⟨ze HF.out.symm, HB1.out⟩
    · have HF : Hid (Gate.yP ts r x = Gate.begins x.nm r.px) := by rw [Hid, HM.out, HV.out, hk, ht, HU.out]; simp
      unfold Rl.cells Ac.cells
      go_enter Tryz.func52, Tryz.ntmps52
      go_wp2_with fail
      refine (zk HV.out (zae r _ _ _ _ (HI.out.mono (HB.out _ _)))).mono ?_
      rintro e w1 ⟨rfl, hb1⟩
      have HB1 : Hid (Below w.heap.size w w1) := (HB.out _ _).trans (hb1.mono (by simp; omega))
      have hX1 := za (za (zG w _ _) (by simp) ((Below.refl _ _).alloc (Nat.le_refl _) _)) (by simp; omega) hb1
      have hY1 := za (zbq w _ _ _) (by simp) hb1
      have hz : w.heap.size + 1 < w1.heap.size := by have := hb1.size; simp at this; omega
      clear hb1
      go_wp2_with (first | (go_at_call 93; refine (zk HU.out (zas _ _ ts x.tm r.tm _ (by exact HT.out.mono HB1.out))).mono ?_; rintro e w' ⟨rfl, rfl⟩) | (go_at_call 94; refine (zbE x.nm r.px _ hnm hpx).mono ?_; rintro e w' ⟨rfl, rfl⟩))
      go_ret
      exact ⟨ze HF.out.symm, HB1.out⟩
    · have HF : Hid (Gate.yP ts r x = false) := by rw [Hid, HM.out, HV.out, hk, ht, HU.out]; simp
      unfold Rl.cells Ac.cells
      go_enter Tryz.func52, Tryz.ntmps52
      go_wp2_with fail
      refine (zk HV.out (zae r _ _ _ _ (HI.out.mono (HB.out _ _)))).mono ?_
      rintro e w1 ⟨rfl, hb1⟩
      have HB1 : Hid (Below w.heap.size w w1) := (HB.out _ _).trans (hb1.mono (by simp; omega))
      have hX1 := za (za (zG w _ _) (by simp) ((Below.refl _ _).alloc (Nat.le_refl _) _)) (by simp; omega) hb1
      have hY1 := za (zbq w _ _ _) (by simp) hb1
      have hz : w.heap.size + 1 < w1.heap.size := by have := hb1.size; simp at this; omega
      clear hb1
      go_wp2_with (go_at_call 93; refine (zk HU.out (zas _ _ ts x.tm r.tm _ (by exact HT.out.mono HB1.out))).mono ?_; rintro e w' ⟨rfl, rfl⟩)
      go_ret
      exact ⟨ze HF.out.symm, HB1.out⟩
  · rcases htc with ht | ⟨ht, HU⟩ | ⟨ht, HU⟩
    · have HF : Hid (Gate.yP ts r x = Gate.begins x.nm r.px) := by rw [Hid, HM.out, HV.out, hk, hke, ht]; simp
      unfold Rl.cells Ac.cells
      go_enter Tryz.func52, Tryz.ntmps52
      go_wp2_with fail
      refine (zk HV.out (zae r _ _ _ _ (HI.out.mono (HB.out _ _)))).mono ?_
      rintro e w1 ⟨rfl, hb1⟩
      have HB1 : Hid (Below w.heap.size w w1) := (HB.out _ _).trans (hb1.mono (by simp; omega))
      have hX1 := za (za (zG w _ _) (by simp) ((Below.refl _ _).alloc (Nat.le_refl _) _)) (by simp; omega) hb1
      have hY1 := za (zbq w _ _ _) (by simp) hb1
      have hz : w.heap.size + 1 < w1.heap.size := by have := hb1.size; simp at this; omega
      clear hb1
      go_wp2_with (go_at_call 94; refine (zbE x.nm r.px _ hnm hpx).mono ?_; rintro e w' ⟨rfl, rfl⟩)
      go_ret
      exact ⟨ze HF.out.symm, HB1.out⟩
    · have HF : Hid (Gate.yP ts r x = Gate.begins x.nm r.px) := by rw [Hid, HM.out, HV.out, hk, hke, ht, HU.out]; simp
      unfold Rl.cells Ac.cells
      go_enter Tryz.func52, Tryz.ntmps52
      go_wp2_with fail
      refine (zk HV.out (zae r _ _ _ _ (HI.out.mono (HB.out _ _)))).mono ?_
      rintro e w1 ⟨rfl, hb1⟩
      have HB1 : Hid (Below w.heap.size w w1) := (HB.out _ _).trans (hb1.mono (by simp; omega))
      have hX1 := za (za (zG w _ _) (by simp) ((Below.refl _ _).alloc (Nat.le_refl _) _)) (by simp; omega) hb1
      have hY1 := za (zbq w _ _ _) (by simp) hb1
      have hz : w.heap.size + 1 < w1.heap.size := by have := hb1.size; simp at this; omega
      clear hb1
      go_wp2_with (first | (go_at_call 93; refine (zk HU.out (zas _ _ ts x.tm r.tm _ (by exact HT.out.mono HB1.out))).mono ?_; rintro e w' ⟨rfl, rfl⟩) | (go_at_call 94; refine (zbE x.nm r.px _ hnm hpx).mono ?_; rintro e w' ⟨rfl, rfl⟩))
      go_ret
      exact ⟨ze HF.out.symm, HB1.out⟩
    · have HF : Hid (Gate.yP ts r x = false) := by rw [Hid, HM.out, HV.out, hk, hke, ht, HU.out]; simp
      unfold Rl.cells Ac.cells
      go_enter Tryz.func52, Tryz.ntmps52
      go_wp2_with fail
      refine (zk HV.out (zae r _ _ _ _ (HI.out.mono (HB.out _ _)))).mono ?_
      rintro e w1 ⟨rfl, hb1⟩
      have HB1 : Hid (Below w.heap.size w w1) := (HB.out _ _).trans (hb1.mono (by simp; omega))
      have hX1 := za (za (zG w _ _) (by simp) ((Below.refl _ _).alloc (Nat.le_refl _) _)) (by simp; omega) hb1
      have hY1 := za (zbq w _ _ _) (by simp) hb1
      have hz : w.heap.size + 1 < w1.heap.size := by have := hb1.size; simp at this; omega
      clear hb1
      go_wp2_with (go_at_call 93; refine (zk HU.out (zas _ _ ts x.tm r.tm _ (by exact HT.out.mono HB1.out))).mono ?_; rintro e w' ⟨rfl, rfl⟩)
      go_ret
      exact ⟨ze HF.out.symm, HB1.out⟩
  · have HF : Hid (Gate.yP ts r x = false) := by rw [Hid, HM.out, hk, hke]; simp
    unfold Rl.cells Ac.cells
    go_enter Tryz.func52, Tryz.ntmps52
    go_wp2_with fail
    refine (zk HV.out (zae r _ _ _ _ (HI.out.mono (HB.out _ _)))).mono ?_
    rintro e w1 ⟨rfl, hb1⟩
    have HB1 : Hid (Below w.heap.size w w1) := (HB.out _ _).trans (hb1.mono (by simp; omega))
    have hX1 := za (za (zG w _ _) (by simp) ((Below.refl _ _).alloc (Nat.le_refl _) _)) (by simp; omega) hb1
    have hY1 := za (zbq w _ _ _) (by simp) hb1
    have hz : w.heap.size + 1 < w1.heap.size := by have := hb1.size; simp at this; omega
    clear hb1
    go_wp2_with fail
    go_ret
    exact ⟨ze HF.out.symm, HB1.out⟩
end Go.Proofs.YtfapkhgallmkdaaGreat
