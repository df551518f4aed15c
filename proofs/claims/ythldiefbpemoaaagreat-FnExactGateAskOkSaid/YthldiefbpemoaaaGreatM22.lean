import Derived.Test.YthldiefbpemoaaaGreatM21
import Derived.Laws.EntriesVeiled
import Derived.Test.YthldiefbpemoaaaGreatM01
import Derived.Test.YthldiefbpemoaaaGreatM02
namespace Go.Proofs.YthldiefbpemoaaaGreat
open Go.RowKit

/-- A slice of the places below n. -/
def PlacesAt (w : World) (a : Option Addr) (n : Nat) : Prop := 0 < n → ∃ g, a = some ⟨g, 0, none⟩ ∧ g < w.heap.size ∧ ∀ q, q < n → w.cell? ⟨g, q, none⟩ = some (.int .i64 (q : Int))

set_option maxRecDepth 20000 in
set_option maxHeartbeats 4000000 in
theorem inRow_any (s : Shp) (ms : List Mnd) (w0 : World) (ma fa ia : Option Addr) (mcap fcap icap bm bs : Nat) (w : World) (hm : MndsAt w0 ma ms) (hf : FldsAt w0 fa s.fs) (hl : ms.length ≤ 1048576) (hn : s.fs.length ≤ 6)
    (hrd : ∀ q, q < s.fs.length → ∀ x ∈ Gate.readsI s ms q, 0 ≤ x ∧ x < s.fs.length) (hB : Below w0.heap.size w0 w) (hbm : bm < w.heap.size) (hbs : bs < w.heap.size) (hcm : w.cell? ⟨bm, 0, none⟩ = some (.slice ma ms.length mcap)) (hcs : ∀ j, w.cell? ⟨bs, j, none⟩ = (#[.string s.kd, .slice fa s.fs.length fcap] : Array Value)[j]?)
    (hit : PlacesAt w ia s.fs.length) :
    Calls Tryz.prog 94 #[.slice ia s.fs.length icap, .func (.func 95) #[] #[.pointer (some ⟨bm, 0, none⟩), .pointer (some ⟨bs, 0, none⟩)]] w
      fun e w' => ∃ v, e = .returned (.tuple #[v, .bool (Gate.walkAll (Gate.readsN s ms) s.fs.length).1]) ∧ Below w0.heap.size w0 w' ∧ ((Gate.walkAll (Gate.readsN s ms) s.fs.length).1 = true → w'.ownsRow w.heap.size 3 1 v (Gate.walkAll (Gate.readsN s ms) s.fs.length).2.row.length (nats (Gate.walkAll (Gate.readsN s ms) s.fs.length).2.row)) := by
  have hmk : ∀ w : World, (Instr.makeMap 158 none).run Tryz.prog w = .ok (.map (some w.heap.size)) (w.alloc (.map #[] 0)) := fun w => by kernel_rfl
  go_enter Tryz.func94, Tryz.ntmps94
  go_wp2_with fail
  have hb2 : Below w.heap.size w ((w.alloc (.map #[] 0)).alloc (.cells #[(.func (.func 95) #[] #[.pointer (some ⟨bm, 0, none⟩), .pointer (some ⟨bs, 0, none⟩)]), .map (some w.heap.size), .slice none 0 0] 160)) := below2' _ _ _
  have hs0 := hB.size
  obtain ⟨c, hceq⟩ : ∃ c, c = (⟨s, ms, w0, ma, fa, mcap, fcap, bm, bs, w.heap.size + 1, w.heap.size, w.heap.size + 2⟩ : WalkC) := ⟨_, rfl⟩
  have hc : c.Ok := by
    subst hceq
    exact ⟨hm, hf, hl, hn, hrd, by show w0.heap.size ≤ w.heap.size + 1; omega, hs0, by show w.heap.size + 1 < w.heap.size + 2; omega, by show w.heap.size < w.heap.size + 2; omega, by show bm < w.heap.size + 2; omega, by show bs < w.heap.size + 2; omega, by show w.heap.size + 1 ≠ w.heap.size; omega, by show bm ≠ w.heap.size + 1; omega, by show bm ≠ w.heap.size; omega, by show bs ≠ w.heap.size + 1; omega, by show bs ≠ w.heap.size; omega⟩
  have hW : WalkAt c ((w.alloc (.map #[] 0)).alloc (.cells #[(.func (.func 95) #[] #[.pointer (some ⟨bm, 0, none⟩), .pointer (some ⟨bs, 0, none⟩)]), .map (some w.heap.size), .slice none 0 0] 160)) Gate.noFar (.slice none 0 0) := by
    subst hceq
    refine ⟨hB.trans (hb2.mono hs0), (hb2.cell (p := ⟨bm, 0, none⟩) hbm).trans hcm, box_later hcs hbs hb2, by show w.heap.size + 2 ≤ _; simp, (two_blocks _ _ _).2, World.ownsRow_nil _ _ _ _, ⟨#[], 0, (two_blocks _ _ _).1, fun x hx => by simp at hx, fun k v hk => ?_, fun i j x y hx => by simp at hx⟩⟩
    unfold Gate.farI Gate.noFar at hk
    simp at hk
  have HC : Hid (c.Ok ∧ c.s = s ∧ c.ms = ms ∧ c.w0 = w0 ∧ c.p = w.heap.size + 1 ∧ c.mr = w.heap.size ∧ c.lo = w.heap.size + 2) := ⟨hc, by rw [hceq], by rw [hceq], by rw [hceq], by rw [hceq], by rw [hceq], by rw [hceq]⟩
  have HW : Hid (WalkAt c ((w.alloc (.map #[] 0)).alloc (.cells #[(.func (.func 95) #[] #[.pointer (some ⟨bm, 0, none⟩), .pointer (some ⟨bs, 0, none⟩)]), .map (some w.heap.size), .slice none 0 0] 160)) Gate.noFar (.slice none 0 0)) := hW
  have HRD : Hid (∀ p, p < s.fs.length → ∀ q ∈ Gate.readsN s ms p, q < s.fs.length) := by have h := hc.rd; rw [hceq] at h; exact h
  have HIT : Hid (PlacesAt w ia s.fs.length) := hit
  have HN : Hid (s.fs.length ≤ 6) := hn
  have HOP : Hid (∀ T, Gate.open' s.fs.length T ≤ s.fs.length) := by
    intro T
    unfold Gate.open'
    exact Nat.le_trans (List.length_filter_le _ _) (by simp)
  have HW2 : Hid (∃ W, W = ((w.alloc (.map #[] 0)).alloc (.cells #[(.func (.func 95) #[] #[.pointer (some ⟨bm, 0, none⟩), .pointer (some ⟨bs, 0, none⟩)]), .map (some w.heap.size), .slice none 0 0] 160))) := ⟨_, rfl⟩
  clear hW hc hceq hmk hB hcm hcs hrd hit hs0
  go_loopw [14] (fun iv wr => ∃ (j : Nat) (v : Value), j ≤ s.fs.length ∧ iv = .int .i64 j ∧ (Gate.downList (Gate.down (Gate.readsN s ms) (s.fs.length + 1)) ((List.range s.fs.length).take j) Gate.noFar).1 = true ∧ WalkAt c wr (Gate.downList (Gate.down (Gate.readsN s ms) (s.fs.length + 1)) ((List.range s.fs.length).take j) Gate.noFar).2 v ∧ Moves c (.slice none 0 0) ((w.alloc (.map #[] 0)).alloc (.cells #[(.func (.func 95) #[] #[.pointer (some ⟨bm, 0, none⟩), .pointer (some ⟨bs, 0, none⟩)]), .map (some w.heap.size), .slice none 0 0] 160)) v wr) (fun iv _ => s.fs.length - (intOf iv).toNat)
  case atStart => exact ⟨0, _, Nat.zero_le _, rfl, rfl, HW.out, Moves.refl _ _ _⟩
  case round =>
    obtain ⟨j, v, hj, rfl, hD, hWr, hMr⟩ := hrel
    have HWr : Hid (WalkAt c wr (Gate.downList (Gate.down (Gate.readsN s ms) (s.fs.length + 1)) ((List.range s.fs.length).take j) Gate.noFar).2 v ∧ Moves c (.slice none 0 0) ((w.alloc (.map #[] 0)).alloc (.cells #[(.func (.func 95) #[] #[.pointer (some ⟨bm, 0, none⟩), .pointer (some ⟨bs, 0, none⟩)]), .map (some w.heap.size), .slice none 0 0] 160)) v wr) := ⟨hWr, hMr⟩
    have HD : Hid ((Gate.downList (Gate.down (Gate.readsN s ms) (s.fs.length + 1)) ((List.range s.fs.length).take j) Gate.noFar).1 = true) := hD
    clear hWr hMr hD
    by_cases hjl : j < s.fs.length
    · have HTK : Hid ((List.range s.fs.length).take (j + 1) = (List.range s.fs.length).take j ++ [j]) := by
        unfold Hid
        rw [List.take_succ_eq_append_getElem (by simpa using hjl)]
        simp
      obtain ⟨g, rfl, hgl, hgc⟩ := HIT.out (by omega)
      have hcell : wr.cell? ⟨g, j, none⟩ = some (.int .i64 (j : Int)) := by
        rw [cell_same (HWr.out.2.out g (by have := hb2.size; omega) (by rw [HC.out.2.2.2.2.1]; omega) (by rw [HC.out.2.2.2.2.2.1]; omega) (by simp [Value.ownBlock]))]
        exact (hb2.cell (p := ⟨g, j, none⟩) hgl).trans (hgc j hjl)
      have hjI : (j : Int) < (s.fs.length : Int) := by omega
      have HSX : Hid ((Gate.downList (Gate.down (Gate.readsN s ms) (s.fs.length + 1)) ((List.range s.fs.length).take j) Gate.noFar).2.row.length + Gate.open' s.fs.length (Gate.downList (Gate.down (Gate.readsN s ms) (s.fs.length + 1)) ((List.range s.fs.length).take j) Gate.noFar).2 ≤ 6) := by
        have h1 := Gate.downList_size HRD.out (s.fs.length + 1) _ Gate.noFar (fun a ha => List.mem_range.1 (List.mem_of_mem_take ha)) HD.out
        have h2 := HOP.out Gate.noFar
        have h3 : Gate.noFar.row.length = 0 := rfl
        have h4 := HN.out
        show _ ≤ _
        omega
      have HDA : Hid (Calls Tryz.prog 107 #[.pointer (some ⟨w.heap.size + 1, 0, none⟩), .int .i64 (j : Int)] wr fun e w' => ∃ v', e = .returned (.bool (Gate.down (Gate.readsN s ms) (s.fs.length + 1) j (Gate.downList (Gate.down (Gate.readsN s ms) (s.fs.length + 1)) ((List.range s.fs.length).take j) Gate.noFar).2).1) ∧ Below w0.heap.size w0 w' ∧ ((Gate.down (Gate.readsN s ms) (s.fs.length + 1) j (Gate.downList (Gate.down (Gate.readsN s ms) (s.fs.length + 1)) ((List.range s.fs.length).take j) Gate.noFar).2).1 = true → WalkAt c w' (Gate.down (Gate.readsN s ms) (s.fs.length + 1) j (Gate.downList (Gate.down (Gate.readsN s ms) (s.fs.length + 1)) ((List.range s.fs.length).take j) Gate.noFar).2).2 v' ∧ Moves c v wr v' w')) := by
        have h := down_any c HC.out.1 (s.fs.length + 1) j (Gate.downList (Gate.down (Gate.readsN s ms) (s.fs.length + 1)) ((List.range s.fs.length).take j) Gate.noFar).2 v wr (by rw [HC.out.2.1]; exact hjl) (by rw [HC.out.2.1]; have := HOP.out (Gate.downList (Gate.down (Gate.readsN s ms) (s.fs.length + 1)) ((List.range s.fs.length).take j) Gate.noFar).2; omega) (by rw [HC.out.2.1]; exact HSX.out) HWr.out.1
        rw [HC.out.2.1, HC.out.2.2.1, HC.out.2.2.2.1, HC.out.2.2.2.2.1] at h
        exact h
      go_wp2_with fail
      refine HDA.out.mono ?_
      rintro e w3 ⟨v3, rfl, hb3, hyes⟩
      by_cases hd : (Gate.down (Gate.readsN s ms) (s.fs.length + 1) j (Gate.downList (Gate.down (Gate.readsN s ms) (s.fs.length + 1)) ((List.range s.fs.length).take j) Gate.noFar).2).1 = true
      · have HS : Hid ((Gate.downList (Gate.down (Gate.readsN s ms) (s.fs.length + 1)) ((List.range s.fs.length).take (j + 1)) Gate.noFar) = Gate.down (Gate.readsN s ms) (s.fs.length + 1) j (Gate.downList (Gate.down (Gate.readsN s ms) (s.fs.length + 1)) ((List.range s.fs.length).take j) Gate.noFar).2) := by unfold Hid; rw [HTK.out, Gate.downList_snoc, if_pos HD.out]
        have HY : Hid (WalkAt c w3 (Gate.down (Gate.readsN s ms) (s.fs.length + 1) j (Gate.downList (Gate.down (Gate.readsN s ms) (s.fs.length + 1)) ((List.range s.fs.length).take j) Gate.noFar).2).2 v3 ∧ Moves c v wr v3 w3) := hyes hd
        have HDD : Hid ((Gate.down (Gate.readsN s ms) (s.fs.length + 1) j (Gate.downList (Gate.down (Gate.readsN s ms) (s.fs.length + 1)) ((List.range s.fs.length).take j) Gate.noFar).2).1 = true) := hd
        rw [hd]
        clear hyes hb3 hd hcell hgc HDA
        go_wp2_with fail
        exact ⟨⟨j + 1, v3, by omega, by go_num, by rw [HS.out]; exact HDD.out, by rw [HS.out]; exact HY.out.1, HWr.out.2.trans HY.out.2⟩, step_less' hjl⟩
      · have hdf : (Gate.down (Gate.readsN s ms) (s.fs.length + 1) j (Gate.downList (Gate.down (Gate.readsN s ms) (s.fs.length + 1)) ((List.range s.fs.length).take j) Gate.noFar).2).1 = false := by simpa using hd
        have HF : Hid ((Gate.walkAll (Gate.readsN s ms) s.fs.length).1 = false) := by
          have h1 : (Gate.downList (Gate.down (Gate.readsN s ms) (s.fs.length + 1)) ((List.range s.fs.length).take (j + 1)) Gate.noFar).1 = false := by rw [HTK.out, Gate.downList_snoc, if_pos HD.out]; exact hdf
          have h2 := Gate.downList_false (Gate.down (Gate.readsN s ms) (s.fs.length + 1)) ((List.range s.fs.length).take (j + 1)) ((List.range s.fs.length).drop (j + 1)) Gate.noFar h1
          rw [List.take_append_drop] at h2
          exact h2
        have HB3 : Hid (Below w0.heap.size w0 w3) := hb3
        rw [hdf]
        clear hyes hb3 hd hdf hcell hgc HDA
        go_wp2_with fail
        go_ret2
        exact ⟨_, by rw [HF.out]; rfl, HB3.out, fun h => by rw [HF.out] at h; cases h⟩
    · have e : j = s.fs.length := by omega
      have hall : (List.range s.fs.length).take j = List.range s.fs.length := List.take_of_length_le (by simp; omega)
      rw [hall] at HWr HD
      have HY : Hid ((Gate.walkAll (Gate.readsN s ms) s.fs.length).1 = true) := HD.out
      have HWW : Hid (WalkAt c wr (Gate.walkAll (Gate.readsN s ms) s.fs.length).2 v) := HWr.out.1
      have hpc : ∀ k, wr.cell? ⟨w.heap.size + 1, k, none⟩ = (#[c.fn, .map (some c.mr), v] : Array Value)[k]? := by have h := block_cells HWW.out.cells; rw [HC.out.2.2.2.2.1] at h; exact h
      obtain ⟨va, vcap, hve⟩ := ownsRow_slice HWW.out.row
      subst hve
      subst e
      clear HWr HD hall
      go_wp2_with fail
      go_ret2
      refine ⟨_, by rw [HY.out]; rfl, by have h := HWW.out.base; rw [HC.out.2.2.2.1] at h; exact h, fun _ => ?_⟩
      have h := HWW.out.row
      rw [HC.out.2.2.2.2.2.2] at h
      exact ownsRow_low h (by omega)

end Go.Proofs.YthldiefbpemoaaaGreat

namespace Go.Proofs.YthldiefbpemoaaaGreat
open Go.RowKit

theorem nats_snoc (k : Nat) : nats (List.range (k + 1)) = nats (List.range k) ++ [.int .i64 (k : Int)] := by simp [nats, List.range_succ]

set_option maxRecDepth 20000 in
set_option maxHeartbeats 4000000 in
theorem mendRow_any (s : Shp) (ms : List Mnd) (ma fa : Option Addr) (mcap fcap : Nat) (w : World) (hm : MndsAt w ma ms) (hf : FldsAt w fa s.fs) (hl : ms.length ≤ 1048576) (hn : s.fs.length ≤ 6)
    (hrd : ∀ q, q < s.fs.length → ∀ x ∈ Gate.readsI s ms q, 0 ≤ x ∧ x < s.fs.length) :
    Calls Tryz.prog 70 #[.agg #[.string s.kd, .slice fa s.fs.length fcap], .slice ma ms.length mcap] w
      fun e w' => ∃ v, e = .returned (.tuple #[v, .bool (Gate.walkAll (Gate.readsN s ms) s.fs.length).1]) ∧ Below w.heap.size w w' ∧ ((Gate.walkAll (Gate.readsN s ms) s.fs.length).1 = true → w'.ownsRow w.heap.size 3 1 v (Gate.walkAll (Gate.readsN s ms) s.fs.length).2.row.length (nats (Gate.walkAll (Gate.readsN s ms) s.fs.length).2.row)) := by
  obtain ⟨i0, hi0, hz0, hz1', hz2⟩ := info_parts Tryz.infoInt
  have HH : Hid (MndsAt w ma ms ∧ FldsAt w fa s.fs ∧ ms.length ≤ 1048576 ∧ s.fs.length ≤ 6 ∧ ∀ q, q < s.fs.length → ∀ x ∈ Gate.readsI s ms q, 0 ≤ x ∧ x < s.fs.length) := ⟨hm, hf, hl, hn, hrd⟩
  clear hm hf hl hrd
  go_enter Tryz.func70, Tryz.ntmps70
  go_wp2_with fail
  go_loopw [6, 11] (fun v0 iv wr => ∃ (k : Nat) (v : Value), v = v0 ∧ k ≤ s.fs.length ∧ iv = .int .i64 k ∧ wr.ownsRow (w.heap.size + 2) 3 1 v k (nats (List.range k)) ∧ wr.heap[w.heap.size]? = some (.cells #[.string s.kd, .slice fa s.fs.length fcap] 85) ∧ wr.heap[w.heap.size + 1]? = some (.cells #[.slice ma ms.length mcap] 37) ∧ Below w.heap.size w wr) (fun _ iv _ => s.fs.length - (intOf iv).toNat)
  case atStart => exact ⟨0, _, rfl, Nat.zero_le _, rfl, World.ownsRow_nil _ _ _ _, (two_blocks _ _ _).1, (two_blocks _ _ _).2, below2' _ _ _⟩
  case round =>
    obtain ⟨k, v, hv, hk, rfl, hown, hs, hmm, hB⟩ := hrel
    subst hv
    have HX : Hid (wr.ownsRow (w.heap.size + 2) 3 1 v k (nats (List.range k)) ∧ wr.heap[w.heap.size]? = some (.cells #[.string s.kd, .slice fa s.fs.length fcap] 85) ∧ wr.heap[w.heap.size + 1]? = some (.cells #[.slice ma ms.length mcap] 37) ∧ Below w.heap.size w wr) := ⟨hown, hs, hmm, hB⟩
    have hzz : w.heap.size + 1 < wr.heap.size := (Array.getElem?_eq_some_iff.1 hmm).1
    clear hown hs hmm hB
    by_cases hlt : k < s.fs.length
    · have hltI : (k : Int) < (s.fs.length : Int) := by omega
      have hgb : ∀ g, v.ownBlock = some g → w.heap.size + 2 ≤ g := fun g hg => (HX.out.1.lt g hg).1
      have HGB : Hid (∀ g, v.ownBlock = some g → w.heap.size + 2 ≤ g) := hgb
      clear hgb
      go_wp2_with (at_builtin; refine hold_here ?_)
      show wpList _ _ _ _ _ _
      refine wpList_append_own _ rfl (.tmp 14) (.tmp 16) 28 rfl (w.heap.size + 2) 3 i0 (.int .i64 0) 1 8 Tryz.underlying28 hi0 hz0 hz1' hz2 rfl (by decide) v _ _ rfl (HX.out.1.alloc _) ⟨wr.heap.size, 0, none⟩ 1 1 [.int .i64 (k : Int)] rfl rfl (one_news _ _ _) (by intro u hu; simp at hu; subst hu; rfl) (by unfold maxLen; omega) (by omega) (by simp; omega) ?_
      intro v' w1 hown' hgr _
      obtain ⟨va, vcap, rfl⟩ := ownsRow_slice hown'
      go_wp2_with fail
      refine ⟨⟨k + 1, _, rfl, by omega, by go_num, by rw [nats_snoc]; exact hown', ?_, ?_, grown_below HX.out.2.2.2 HX.out.2.2.2.size hgr (fun g hg => by have := HGB.out g hg; omega)⟩, step_less' hlt⟩
      · exact (grown_block hgr (by simp; omega) (fun g hg => by have := HGB.out g hg; omega)).trans ((Below.heap_alloc _ _ _ (by omega)).trans HX.out.2.1)
      · exact (grown_block hgr (by simp; omega) (fun g hg => by have := HGB.out g hg; omega)).trans ((Below.heap_alloc _ _ _ hzz).trans HX.out.2.2.1)
    · have e : k = s.fs.length := by omega
      subst e
      obtain ⟨va, vcap, rfl⟩ := ownsRow_slice HX.out.1
      have HPL : Hid (PlacesAt wr va s.fs.length) := by
        intro hpos
        obtain ⟨_, ⟨h0, h1⟩ | ⟨g, cap, cur, h0, h1⟩⟩ := id HX.out.1
        · omega
        · cases h0
          refine ⟨g, rfl, (HX.out.1.lt g rfl).2, fun q hq => ?_⟩
          rw [HX.out.1.cellAt q (by omega)]
          simp [nats, hq]
      go_wp2_with fail
      refine (inRow_any s ms w ma fa va mcap fcap vcap (w.heap.size + 1) w.heap.size wr HH.out.1 HH.out.2.1 HH.out.2.2.1 HH.out.2.2.2.1 HH.out.2.2.2.2 HX.out.2.2.2 hzz (by omega) (by rw [cell_of_block HX.out.2.2.1]; rfl) (fun j => cell_of_block HX.out.2.1) HPL.out).mono ?_
      rintro e w2 ⟨v2, rfl, hb2, hyes⟩
      have HY : Hid (Below w.heap.size w w2 ∧ ((Gate.walkAll (Gate.readsN s ms) s.fs.length).1 = true → w2.ownsRow w.heap.size 3 1 v2 (Gate.walkAll (Gate.readsN s ms) s.fs.length).2.row.length (nats (Gate.walkAll (Gate.readsN s ms) s.fs.length).2.row))) := ⟨hb2, fun h => ownsRow_low (hyes h) (by omega)⟩
      clear hb2 hyes
      go_wp2_with fail
      go_ret2
      exact ⟨v2, rfl, HY.out⟩

end Go.Proofs.YthldiefbpemoaaaGreat

namespace Go.Proofs.YthldiefbpemoaaaGreat
open Go.RowKit

def numRes (s : ByteArray) : Int := if Gate.decOk s = true then Gate.decS s else -1

theorem pow_small (k : Nat) (h : k ≤ 7) : (10 : Int) ^ k ≤ 10000000 := by
  have : k = 0 ∨ k = 1 ∨ k = 2 ∨ k = 3 ∨ k = 4 ∨ k = 5 ∨ k = 6 ∨ k = 7 := by omega
  rcases this with h | h | h | h | h | h | h | h <;> subst h <;> decide

set_option maxHeartbeats 800000 in
theorem l1Number_loop (s : ByteArray) (w : World) (h1 : 1 ≤ s.size) (h7 : s.size ≤ 7) (hz : s.size ≤ 1 ∨ ¬ (s[0].toNat : Int) = 48) :
    Calls Tryz.prog 103 #[.string s] w fun e w' => e = .returned (.int .i64 (numRes s)) ∧ w' = w := by
  have HF : Hid (Gate.decOk s = Gate.allDigit s) := Gate.decOk_all s h1 h7 hz
  rcases (show (s.size ≤ 1) ∨ (1 < s.size ∧ ¬ (s[0].toNat : Int) = 48) by rcases hz with h | h <;> omega) with hone | ⟨hmore, hz0⟩
  all_goals
    clear hz
    try have hz1 : ((s[0].toNat : Int) == 48) = false := by simpa using hz0
    try clear hz0
    go_enter Tryz.func103, Tryz.ntmps103
    go_wp2_with (go_at_call 38; refine (l1In_yes _ _ _ _ (by omega) (by omega)).mono ?_; rintro e w' ⟨rfl, rfl⟩)
    go_loop [3, 4] (fun n i => ∃ k : Nat, k ≤ s.size ∧ i = .int .i64 k ∧ (s.data.toList.take k).all Gate.digit = true ∧ n = .int .i64 (Gate.dec (s.data.toList.take k))) (fun _ i => s.size - (intOf i).toNat)
    case atStart => exact ⟨0, Nat.zero_le _, rfl, rfl, rfl⟩
    case round =>
      obtain ⟨k, hk, rfl, hall, rfl⟩ := hrel
      have hlen : (s.data.toList.take k).length ≤ k := List.length_take_le _ _
      obtain ⟨hd0, hd1⟩ := Gate.dec_bound _ hall k hlen
      by_cases hlt : k < s.size
      · have hp := pow_small k (by omega)
        have hd2 : Gate.dec (s.data.toList.take k) < 10000000 := by omega
        clear hp hd1 hlen
        have HS : Hid ((s.data.toList.take (k + 1)).all Gate.digit = (true && Gate.digit s[k])) := by rw [Gate.all_snoc _ s k hlt, hall]; rfl
        have HD : Hid (Gate.dec (s.data.toList.take (k + 1)) = Gate.dec (s.data.toList.take k) * 10 + ((s[k].toNat : Int) - 48)) := by rw [Gate.take_snoc s k hlt]; exact Gate.dec_snoc _ _
        have HN : Hid (Gate.digit s[k] = false → Gate.allDigit s = false) := fun h => Gate.all_not Gate.digit s k hlt h
        clear hall
        by_cases h48 : (s[k].toNat : Int) < 48
        · have HC : Hid (Gate.digit s[k] = false) := by simp [Gate.digit, Hid]; omega
          go_wp2
          go_ret
          exact ⟨ret_int (by unfold numRes; rw [HF.out, HN.out HC.out]; rfl), rfl⟩
        · by_cases h57 : 57 < (s[k].toNat : Int)
          · have HC : Hid (Gate.digit s[k] = false) := by simp [Gate.digit, Hid]; omega
            go_wp2
            go_ret
            exact ⟨ret_int (by unfold numRes; rw [HF.out, HN.out HC.out]; rfl), rfl⟩
          · have HC : Hid (Gate.digit s[k] = true) := by simp [Gate.digit, Hid]; omega
            go_wp2
            go_round
            case rel => exact ⟨k + 1, by omega, by go_num, by rw [HS.out, HC.out]; rfl, by rw [HD.out]; go_num⟩
            case measure => simp [intOf]; omega
      · have HA : Hid (Gate.allDigit s = true) := by unfold Gate.allDigit Hid; rw [← Gate.take_all s k (by omega)]; exact hall
        have HB : Hid (Gate.dec (s.data.toList.take k) = Gate.decS s) := by rw [Gate.take_all s k (by omega)]; rfl
        clear hall hd0 hd1 hlen
        go_wp2
        go_ret
        exact ⟨ret_int (by unfold numRes; rw [HF.out, HA.out, HB.out]; rfl), rfl⟩

set_option maxHeartbeats 400000 in
theorem l1Number_any (s : ByteArray) (w : World) (hs : s.size ≤ maxLen) :
    Calls Tryz.prog 103 #[.string s] w fun e w' => e = .returned (.int .i64 (numRes s)) ∧ w' = w := by
  unfold maxLen at hs
  by_cases h17 : 1 ≤ s.size ∧ s.size ≤ 7
  · obtain ⟨h1, h7⟩ := h17
    by_cases hz : 1 < s.size ∧ (s[0].toNat : Int) = 48
    · obtain ⟨hm, hz0⟩ := hz
      have HF : Hid (numRes s = -1) := by unfold numRes Hid; rw [Gate.decOk_no_zero s hm hz0]; rfl
      have hz1 : ((s[0].toNat : Int) == 48) = true := by simpa using hz0
      clear hz0
      go_enter Tryz.func103, Tryz.ntmps103
      go_wp2_with (go_at_call 38; refine (l1In_yes _ _ _ _ (by omega) (by omega)).mono ?_; rintro e w' ⟨rfl, rfl⟩)
      go_ret
      exact ⟨ret_int HF.out.symm, rfl⟩
    · exact l1Number_loop s w h1 h7 (by omega)
  · have HF : Hid (numRes s = -1) := by unfold numRes Hid; rw [Gate.decOk_no_len s h17]; rfl
    go_enter Tryz.func103, Tryz.ntmps103
    go_wp2_with (go_at_call 38; refine (l1In_no _ _ _ _ (by omega)).mono ?_; rintro e w' ⟨rfl, rfl⟩)
    go_ret
    exact ⟨ret_int HF.out.symm, rfl⟩

end Go.Proofs.YthldiefbpemoaaaGreat
