import Derived.Test.YtpmlngcljbkchaaGreatM31
namespace Go.Proofs.YtpmlngcljbkchaaGreat
open Go.RowKit

theorem nats_snoc (k : Nat) : nats (List.range (k + 1)) = nats (List.range k) ++ [.int .i64 (k : Int)] := by simp [nats, List.range_succ]

set_option maxRecDepth 20000 in
set_option maxHeartbeats 4000000 in
theorem mendRow_any (s : Shp) (ms : List Mnd) (ma fa : Option Addr) (mcap fcap : Nat) (w : World) (hm : MndsAt w ma ms) (hf : FldsAt w fa s.fs) (hl : ms.length ≤ 1048576) (hn : s.fs.length ≤ 6)
    (hrd : ∀ q, q < s.fs.length → ∀ x ∈ Gate.readsI s ms q, 0 ≤ x ∧ x < s.fs.length) :
    Calls Tryz.prog 70 #[.agg #[.string s.kd, .slice fa s.fs.length fcap], .slice ma ms.length mcap] w
      fun e w' => ∃ v, e = .returned (.tuple #[v, .bool (Gate.walkAll (Gate.readsN s ms) s.fs.length).1]) ∧ Below w.heap.size w w' ∧ ((Gate.walkAll (Gate.readsN s ms) s.fs.length).1 = true → w'.ownsRow w.heap.size 3 1 v (Gate.walkAll (Gate.readsN s ms) s.fs.length).2.row.length (nats (Gate.walkAll (Gate.readsN s ms) s.fs.length).2.row)) := by
  obtain ⟨i0, hi0, hz0, hz1', hz2⟩ := info_parts Tryz.infoInt
  have HH : Hid (MndsAt w ma ms ∧ FldsAt w fa s.fs ∧ ms.length ≤ 1048576 ∧ s.fs.length ≤ 6 ∧ ∀ q, q < s.fs.length → ∀ x ∈ Gate.readsI s ms q, 0 ≤ x ∧ x < s.fs.length) := ⟨hm, hf, hl, hn, hrd⟩
  clear hm hf hl hrd
  go_enter Tryz.func70, Tryz.ntmps70
  go_wp2_with fail
  go_loopw [6, 11] (fun v0 iv wr => ∃ (k : Nat) (v : Value), v = v0 ∧ k ≤ s.fs.length ∧ iv = .int .i64 k ∧ wr.ownsRow (w.heap.size + 2) 3 1 v k (nats (List.range k)) ∧ wr.heap[w.heap.size]? = some (.cells #[.string s.kd, .slice fa s.fs.length fcap] 85) ∧ wr.heap[w.heap.size + 1]? = some (.cells #[.slice ma ms.length mcap] 37) ∧ Below w.heap.size w wr) (fun _ iv _ => s.fs.length - (intOf iv).toNat)
  case atStart => exact ⟨0, _, rfl, Nat.zero_le _, rfl, World.ownsRow_nil _ _ _ _, (two_blocks _ _ _).1, (two_blocks _ _ _).2, below2' _ _ _⟩
  case round =>
    obtain ⟨k, v, hv, hk, rfl, hown, hs, hmm, hB⟩ := hrel
    subst hv
    have HX : Hid (wr.ownsRow (w.heap.size + 2) 3 1 v k (nats (List.range k)) ∧ wr.heap[w.heap.size]? = some (.cells #[.string s.kd, .slice fa s.fs.length fcap] 85) ∧ wr.heap[w.heap.size + 1]? = some (.cells #[.slice ma ms.length mcap] 37) ∧ Below w.heap.size w wr) := ⟨hown, hs, hmm, hB⟩
    have hzz : w.heap.size + 1 < wr.heap.size := (Array.getElem?_eq_some_iff.1 hmm).1
    clear hown hs hmm hB
    by_cases hlt : k < s.fs.length
    · have hltI : (k : Int) < (s.fs.length : Int) := by omega
      have hgb : ∀ g, v.ownBlock = some g → w.heap.size + 2 ≤ g := fun g hg => (HX.out.1.lt g hg).1
      have HGB : Hid (∀ g, v.ownBlock = some g → w.heap.size + 2 ≤ g) := hgb
      clear hgb
      go_wp2_with (at_builtin; refine hold_here ?_)
      show wpList _ _ _ _ _ _
      refine wpList_append_own _ rfl (.tmp 14) (.tmp 16) 28 rfl (w.heap.size + 2) 3 i0 (.int .i64 0) 1 8 Tryz.underlying28 hi0 hz0 hz1' hz2 rfl (by decide) v _ _ rfl (HX.out.1.alloc _) ⟨wr.heap.size, 0, none⟩ 1 1 [.int .i64 (k : Int)] rfl rfl (one_news _ _ _) (by intro u hu; simp at hu; subst hu; rfl) (by unfold maxLen; omega) (by omega) (by simp; omega) ?_
      intro v' w1 hown' hgr _
      obtain ⟨va, vcap, rfl⟩ := ownsRow_slice hown'
      go_wp2_with fail
      refine ⟨⟨k + 1, _, rfl, by omega, by go_num, by rw [nats_snoc]; exact hown', ?_, ?_, grown_below HX.out.2.2.2 HX.out.2.2.2.size hgr (fun g hg => by have := HGB.out g hg; omega)⟩, step_less' hlt⟩
      · exact (grown_block hgr (by simp; omega) (fun g hg => by have := HGB.out g hg; omega)).trans ((Below.heap_alloc _ _ _ (by omega)).trans HX.out.2.1)
      · exact (grown_block hgr (by simp; omega) (fun g hg => by have := HGB.out g hg; omega)).trans ((Below.heap_alloc _ _ _ hzz).trans HX.out.2.2.1)
    · have e : k = s.fs.length := by omega
      subst e
      obtain ⟨va, vcap, rfl⟩ := ownsRow_slice HX.out.1
      have HPL : Hid (PlacesAt wr va s.fs.length) := by
        intro hpos
        obtain ⟨_, ⟨h0, h1⟩ | ⟨g, cap, cur, h0, h1⟩⟩ := id HX.out.1
        · omega
        · cases h0
          refine ⟨g, rfl, (HX.out.1.lt g rfl).2, fun q hq => ?_⟩
          rw [HX.out.1.cellAt q (by omega)]
          simp [nats, hq]
      go_wp2_with fail
      refine (inRow_any s ms w ma fa va mcap fcap vcap (w.heap.size + 1) w.heap.size wr HH.out.1 HH.out.2.1 HH.out.2.2.1 HH.out.2.2.2.1 HH.out.2.2.2.2 HX.out.2.2.2 hzz (by omega) (by rw [cell_of_block HX.out.2.2.1]; rfl) (fun j => cell_of_block HX.out.2.1) HPL.out).mono ?_
      rintro e w2 ⟨v2, rfl, hb2, hyes⟩
      have HY : Hid (Below w.heap.size w w2 ∧ ((Gate.walkAll (Gate.readsN s ms) s.fs.length).1 = true → w2.ownsRow w.heap.size 3 1 v2 (Gate.walkAll (Gate.readsN s ms) s.fs.length).2.row.length (nats (Gate.walkAll (Gate.readsN s ms) s.fs.length).2.row))) := ⟨hb2, fun h => ownsRow_low (hyes h) (by omega)⟩
      clear hb2 hyes
      go_wp2_with fail
      go_ret2
      exact ⟨v2, rfl, HY.out⟩

end Go.Proofs.YtpmlngcljbkchaaGreat
