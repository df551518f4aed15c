import Derived.Test.YtpmlngcljbkchaaGreatM30
import Derived.Laws.EntriesVeiled
namespace Go.Proofs.YtpmlngcljbkchaaGreat
open Go.RowKit

/-- A slice of the places below n. -/
def PlacesAt (w : World) (a : Option Addr) (n : Nat) : Prop := 0 < n → ∃ g, a = some ⟨g, 0, none⟩ ∧ g < w.heap.size ∧ ∀ q, q < n → w.cell? ⟨g, q, none⟩ = some (.int .i64 (q : Int))

set_option maxRecDepth 20000 in
set_option maxHeartbeats 4000000 in
theorem inRow_any (s : Shp) (ms : List Mnd) (w0 : World) (ma fa ia : Option Addr) (mcap fcap icap bm bs : Nat) (w : World) (hm : MndsAt w0 ma ms) (hf : FldsAt w0 fa s.fs) (hl : ms.length ≤ 1048576) (hn : s.fs.length ≤ 6)
    (hrd : ∀ q, q < s.fs.length → ∀ x ∈ Gate.readsI s ms q, 0 ≤ x ∧ x < s.fs.length) (hB : Below w0.heap.size w0 w) (hbm : bm < w.heap.size) (hbs : bs < w.heap.size) (hcm : w.cell? ⟨bm, 0, none⟩ = some (.slice ma ms.length mcap)) (hcs : ∀ j, w.cell? ⟨bs, j, none⟩ = (#[.string s.kd, .slice fa s.fs.length fcap] : Array Value)[j]?)
    (hit : PlacesAt w ia s.fs.length) :
    Calls Tryz.prog 94 #[.slice ia s.fs.length icap, .func (.func 95) #[] #[.pointer (some ⟨bm, 0, none⟩), .pointer (some ⟨bs, 0, none⟩)]] w
      fun e w' => ∃ v, e = .returned (.tuple #[v, .bool (Gate.walkAll (Gate.readsN s ms) s.fs.length).1]) ∧ Below w0.heap.size w0 w' ∧ ((Gate.walkAll (Gate.readsN s ms) s.fs.length).1 = true → w'.ownsRow w.heap.size 3 1 v (Gate.walkAll (Gate.readsN s ms) s.fs.length).2.row.length (nats (Gate.walkAll (Gate.readsN s ms) s.fs.length).2.row)) := by
  have hmk : ∀ w : World, (Instr.makeMap 158 none).run Tryz.prog w = .ok (.map (some w.heap.size)) (w.alloc (.map #[] 0)) := fun w => by kernel_rfl
  go_enter Tryz.func94, Tryz.ntmps94
  go_wp2_with fail
  have hb2 : Below w.heap.size w ((w.alloc (.map #[] 0)).alloc (.cells #[(.func (.func 95) #[] #[.pointer (some ⟨bm, 0, none⟩), .pointer (some ⟨bs, 0, none⟩)]), .map (some w.heap.size), .slice none 0 0] 160)) := below2' _ _ _
  have hs0 := hB.size
  obtain ⟨c, hceq⟩ : ∃ c, c = (⟨s, ms, w0, ma, fa, mcap, fcap, bm, bs, w.heap.size + 1, w.heap.size, w.heap.size + 2⟩ : WalkC) := ⟨_, rfl⟩
  have hc : c.Ok := by
    subst hceq
    exact ⟨hm, hf, hl, hn, hrd, by show w0.heap.size ≤ w.heap.size + 1; omega, hs0, by show w.heap.size + 1 < w.heap.size + 2; omega, by show w.heap.size < w.heap.size + 2; omega, by show bm < w.heap.size + 2; omega, by show bs < w.heap.size + 2; omega, by show w.heap.size + 1 ≠ w.heap.size; omega, by show bm ≠ w.heap.size + 1; omega, by show bm ≠ w.heap.size; omega, by show bs ≠ w.heap.size + 1; omega, by show bs ≠ w.heap.size; omega⟩
  have hW : WalkAt c ((w.alloc (.map #[] 0)).alloc (.cells #[(.func (.func 95) #[] #[.pointer (some ⟨bm, 0, none⟩), .pointer (some ⟨bs, 0, none⟩)]), .map (some w.heap.size), .slice none 0 0] 160)) Gate.noFar (.slice none 0 0) := by
    subst hceq
    refine ⟨hB.trans (hb2.mono hs0), (hb2.cell (p := ⟨bm, 0, none⟩) hbm).trans hcm, box_later hcs hbs hb2, by show w.heap.size + 2 ≤ _; simp, (two_blocks _ _ _).2, World.ownsRow_nil _ _ _ _, ⟨#[], 0, (two_blocks _ _ _).1, fun x hx => by simp at hx, fun k v hk => ?_, fun i j x y hx => by simp at hx⟩⟩
    unfold Gate.farI Gate.noFar at hk
    simp at hk
  have HC : Hid (c.Ok ∧ c.s = s ∧ c.ms = ms ∧ c.w0 = w0 ∧ c.p = w.heap.size + 1 ∧ c.mr = w.heap.size ∧ c.lo = w.heap.size + 2) := ⟨hc, by rw [hceq], by rw [hceq], by rw [hceq], by rw [hceq], by rw [hceq], by rw [hceq]⟩
  have HW : Hid (WalkAt c ((w.alloc (.map #[] 0)).alloc (.cells #[(.func (.func 95) #[] #[.pointer (some ⟨bm, 0, none⟩), .pointer (some ⟨bs, 0, none⟩)]), .map (some w.heap.size), .slice none 0 0] 160)) Gate.noFar (.slice none 0 0)) := hW
  have HRD : Hid (∀ p, p < s.fs.length → ∀ q ∈ Gate.readsN s ms p, q < s.fs.length) := by have h := hc.rd; rw [hceq] at h; exact h
  have HIT : Hid (PlacesAt w ia s.fs.length) := hit
  have HN : Hid (s.fs.length ≤ 6) := hn
  have HOP : Hid (∀ T, Gate.open' s.fs.length T ≤ s.fs.length) := by
    intro T
    unfold Gate.open'
    exact Nat.le_trans (List.length_filter_le _ _) (by simp)
  have HW2 : Hid (∃ W, W = ((w.alloc (.map #[] 0)).alloc (.cells #[(.func (.func 95) #[] #[.pointer (some ⟨bm, 0, none⟩), .pointer (some ⟨bs, 0, none⟩)]), .map (some w.heap.size), .slice none 0 0] 160))) := ⟨_, rfl⟩
  clear hW hc hceq hmk hB hcm hcs hrd hit hs0
  go_loopw [14] (fun iv wr => ∃ (j : Nat) (v : Value), j ≤ s.fs.length ∧ iv = .int .i64 j ∧ (Gate.downList (Gate.down (Gate.readsN s ms) (s.fs.length + 1)) ((List.range s.fs.length).take j) Gate.noFar).1 = true ∧ WalkAt c wr (Gate.downList (Gate.down (Gate.readsN s ms) (s.fs.length + 1)) ((List.range s.fs.length).take j) Gate.noFar).2 v ∧ Moves c (.slice none 0 0) ((w.alloc (.map #[] 0)).alloc (.cells #[(.func (.func 95) #[] #[.pointer (some ⟨bm, 0, none⟩), .pointer (some ⟨bs, 0, none⟩)]), .map (some w.heap.size), .slice none 0 0] 160)) v wr) (fun iv _ => s.fs.length - (intOf iv).toNat)
  case atStart => exact ⟨0, _, Nat.zero_le _, rfl, rfl, HW.out, Moves.refl _ _ _⟩
  case round =>
    obtain ⟨j, v, hj, rfl, hD, hWr, hMr⟩ := hrel
    have HWr : Hid (WalkAt c wr (Gate.downList (Gate.down (Gate.readsN s ms) (s.fs.length + 1)) ((List.range s.fs.length).take j) Gate.noFar).2 v ∧ Moves c (.slice none 0 0) ((w.alloc (.map #[] 0)).alloc (.cells #[(.func (.func 95) #[] #[.pointer (some ⟨bm, 0, none⟩), .pointer (some ⟨bs, 0, none⟩)]), .map (some w.heap.size), .slice none 0 0] 160)) v wr) := ⟨hWr, hMr⟩
    have HD : Hid ((Gate.downList (Gate.down (Gate.readsN s ms) (s.fs.length + 1)) ((List.range s.fs.length).take j) Gate.noFar).1 = true) := hD
    clear hWr hMr hD
    by_cases hjl : j < s.fs.length
    · have HTK : Hid ((List.range s.fs.length).take (j + 1) = (List.range s.fs.length).take j ++ [j]) := by
        unfold Hid
        rw [List.take_succ_eq_append_getElem (by simpa using hjl)]
        simp
      obtain ⟨g, rfl, hgl, hgc⟩ := HIT.out (by omega)
      have hcell : wr.cell? ⟨g, j, none⟩ = some (.int .i64 (j : Int)) := by
        rw [cell_same (HWr.out.2.out g (by have := hb2.size; omega) (by rw [HC.out.2.2.2.2.1]; omega) (by rw [HC.out.2.2.2.2.2.1]; omega) (by simp [Value.ownBlock]))]
        exact (hb2.cell (p := ⟨g, j, none⟩) hgl).trans (hgc j hjl)
      have hjI : (j : Int) < (s.fs.length : Int) := by omega
      have HSX : Hid ((Gate.downList (Gate.down (Gate.readsN s ms) (s.fs.length + 1)) ((List.range s.fs.length).take j) Gate.noFar).2.row.length + Gate.open' s.fs.length (Gate.downList (Gate.down (Gate.readsN s ms) (s.fs.length + 1)) ((List.range s.fs.length).take j) Gate.noFar).2 ≤ 6) := by
        have h1 := Gate.downList_size HRD.out (s.fs.length + 1) _ Gate.noFar (fun a ha => List.mem_range.1 (List.mem_of_mem_take ha)) HD.out
        have h2 := HOP.out Gate.noFar
        have h3 : Gate.noFar.row.length = 0 := rfl
        have h4 := HN.out
        show _ ≤ _
        omega
      have HDA : Hid (Calls Tryz.prog 107 #[.pointer (some ⟨w.heap.size + 1, 0, none⟩), .int .i64 (j : Int)] wr fun e w' => ∃ v', e = .returned (.bool (Gate.down (Gate.readsN s ms) (s.fs.length + 1) j (Gate.downList (Gate.down (Gate.readsN s ms) (s.fs.length + 1)) ((List.range s.fs.length).take j) Gate.noFar).2).1) ∧ Below w0.heap.size w0 w' ∧ ((Gate.down (Gate.readsN s ms) (s.fs.length + 1) j (Gate.downList (Gate.down (Gate.readsN s ms) (s.fs.length + 1)) ((List.range s.fs.length).take j) Gate.noFar).2).1 = true → WalkAt c w' (Gate.down (Gate.readsN s ms) (s.fs.length + 1) j (Gate.downList (Gate.down (Gate.readsN s ms) (s.fs.length + 1)) ((List.range s.fs.length).take j) Gate.noFar).2).2 v' ∧ Moves c v wr v' w')) := by
        have h := down_any c HC.out.1 (s.fs.length + 1) j (Gate.downList (Gate.down (Gate.readsN s ms) (s.fs.length + 1)) ((List.range s.fs.length).take j) Gate.noFar).2 v wr (by rw [HC.out.2.1]; exact hjl) (by rw [HC.out.2.1]; have := HOP.out (Gate.downList (Gate.down (Gate.readsN s ms) (s.fs.length + 1)) ((List.range s.fs.length).take j) Gate.noFar).2; omega) (by rw [HC.out.2.1]; exact HSX.out) HWr.out.1
        rw [HC.out.2.1, HC.out.2.2.1, HC.out.2.2.2.1, HC.out.2.2.2.2.1] at h
        exact h
      go_wp2_with fail
      refine HDA.out.mono ?_
      rintro e w3 ⟨v3, rfl, hb3, hyes⟩
      by_cases hd : (Gate.down (Gate.readsN s ms) (s.fs.length + 1) j (Gate.downList (Gate.down (Gate.readsN s ms) (s.fs.length + 1)) ((List.range s.fs.length).take j) Gate.noFar).2).1 = true
      · have HS : Hid ((Gate.downList (Gate.down (Gate.readsN s ms) (s.fs.length + 1)) ((List.range s.fs.length).take (j + 1)) Gate.noFar) = Gate.down (Gate.readsN s ms) (s.fs.length + 1) j (Gate.downList (Gate.down (Gate.readsN s ms) (s.fs.length + 1)) ((List.range s.fs.length).take j) Gate.noFar).2) := by unfold Hid; rw [HTK.out, Gate.downList_snoc, if_pos HD.out]
        have HY : Hid (WalkAt c w3 (Gate.down (Gate.readsN s ms) (s.fs.length + 1) j (Gate.downList (Gate.down (Gate.readsN s ms) (s.fs.length + 1)) ((List.range s.fs.length).take j) Gate.noFar).2).2 v3 ∧ Moves c v wr v3 w3) := hyes hd
        have HDD : Hid ((Gate.down (Gate.readsN s ms) (s.fs.length + 1) j (Gate.downList (Gate.down (Gate.readsN s ms) (s.fs.length + 1)) ((List.range s.fs.length).take j) Gate.noFar).2).1 = true) := hd
        rw [hd]
        clear hyes hb3 hd hcell hgc HDA
        go_wp2_with fail
        exact ⟨⟨j + 1, v3, by omega, by go_num, by rw [HS.out]; exact HDD.out, by rw [HS.out]; exact HY.out.1, HWr.out.2.trans HY.out.2⟩, step_less' hjl⟩
      · have hdf : (Gate.down (Gate.readsN s ms) (s.fs.length + 1) j (Gate.downList (Gate.down (Gate.readsN s ms) (s.fs.length + 1)) ((List.range s.fs.length).take j) Gate.noFar).2).1 = false := by simpa using hd
        have HF : Hid ((Gate.walkAll (Gate.readsN s ms) s.fs.length).1 = false) := by
          have h1 : (Gate.downList (Gate.down (Gate.readsN s ms) (s.fs.length + 1)) ((List.range s.fs.length).take (j + 1)) Gate.noFar).1 = false := by rw [HTK.out, Gate.downList_snoc, if_pos HD.out]; exact hdf
          have h2 := Gate.downList_false (Gate.down (Gate.readsN s ms) (s.fs.length + 1)) ((List.range s.fs.length).take (j + 1)) ((List.range s.fs.length).drop (j + 1)) Gate.noFar h1
          rw [List.take_append_drop] at h2
          exact h2
        have HB3 : Hid (Below w0.heap.size w0 w3) := hb3
        rw [hdf]
        clear hyes hb3 hd hdf hcell hgc HDA
        go_wp2_with fail
        go_ret2
        exact ⟨_, by rw [HF.out]; rfl, HB3.out, fun h => by rw [HF.out] at h; cases h⟩
    · have e : j = s.fs.length := by omega
      have hall : (List.range s.fs.length).take j = List.range s.fs.length := List.take_of_length_le (by simp; omega)
      rw [hall] at HWr HD
      have HY : Hid ((Gate.walkAll (Gate.readsN s ms) s.fs.length).1 = true) := HD.out
      have HWW : Hid (WalkAt c wr (Gate.walkAll (Gate.readsN s ms) s.fs.length).2 v) := HWr.out.1
      have hpc : ∀ k, wr.cell? ⟨w.heap.size + 1, k, none⟩ = (#[c.fn, .map (some c.mr), v] : Array Value)[k]? := by have h := block_cells HWW.out.cells; rw [HC.out.2.2.2.2.1] at h; exact h
      obtain ⟨va, vcap, hve⟩ := ownsRow_slice HWW.out.row
      subst hve
      subst e
      clear HWr HD hall
      go_wp2_with fail
      go_ret2
      refine ⟨_, by rw [HY.out]; rfl, by have h := HWW.out.base; rw [HC.out.2.2.2.1] at h; exact h, fun _ => ?_⟩
      have h := HWW.out.row
      rw [HC.out.2.2.2.2.2.2] at h
      exact ownsRow_low h (by omega)

end Go.Proofs.YtpmlngcljbkchaaGreat
