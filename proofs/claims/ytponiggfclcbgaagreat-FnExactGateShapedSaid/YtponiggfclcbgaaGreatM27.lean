import Derived.Test.YtponiggfclcbgaaGreatM26
import Derived.Test.YtponiggfclcbgaaGreatM12
import Derived.Test.YtponiggfclcbgaaGreatM17
import Derived.Test.YtponiggfclcbgaaGreatM23
namespace Go.Proofs.YtponiggfclcbgaaGreat.Gate
open Go

theorem valAt_small {fs : List Fld} {vs : List ByteArray} (v : ByteArray) (hv : ∀ x ∈ vs, x.size ≤ maxLen) : (valAt fs vs v).size ≤ maxLen := by
  have he : ByteArray.empty.size ≤ maxLen := by show 0 ≤ _; exact Nat.zero_le _
  unfold valAt
  split
  · rename_i j _
    rw [List.getD_eq_getElem?_getD]
    cases h : vs[j]? with
    | none => exact he
    | some x => exact hv x (List.mem_of_getElem? h)
  · exact he

theorem decided_small {s : Shp} {ms : List Mnd} {vs : List ByteArray} (p : Nat) (hm : ∀ i (h : i < ms.length), ms[i].Small) (hv : ∀ x ∈ vs, x.size ≤ maxLen) : (decided s ms p vs).size ≤ maxLen := by
  unfold decided
  cases hf : ms.findSome? (gives s vs p) with
  | none =>
    show (vs.getD p ByteArray.empty).size ≤ maxLen
    rw [List.getD_eq_getElem?_getD]
    cases h : vs[p]? with
    | none => show 0 ≤ _; exact Nat.zero_le _
    | some x => exact hv x (List.mem_of_getElem? h)
  | some x =>
    show x.size ≤ maxLen
    obtain ⟨m, hmm, hg⟩ := List.exists_of_findSome?_eq_some hf
    obtain ⟨i, hi, rfl⟩ := List.mem_iff_getElem.1 hmm
    unfold gives at hg
    split at hg
    · split at hg
      · split at hg
        · rw [← Option.some.inj hg]; exact valAt_small _ hv
        · cases hg
      · rw [← Option.some.inj hg]; exact (hm i hi).pt
    · cases hg

theorem turnRow_small {s : Shp} {ms : List Mnd} (hm : ∀ i (h : i < ms.length), ms[i].Small) : ∀ (row : List Nat) (vs : List ByteArray), (∀ x ∈ vs, x.size ≤ maxLen) → ∀ x ∈ turnRow (decided s ms) row vs, x.size ≤ maxLen
  | [], _, hv => hv
  | p :: row, vs, hv => by
    refine turnRow_small hm row (vs.set p (decided s ms p vs)) (fun x hx => ?_)
    rcases List.mem_or_eq_of_mem_set hx with h | h
    · exact hv x h
    · rw [h]; exact decided_small p hm hv

end Go.Proofs.YtponiggfclcbgaaGreat.Gate

namespace Go.Proofs.YtponiggfclcbgaaGreat
open Go.RowKit

theorem block_cells2 {w : World} {b : Nat} {X : Array Value} {t : TypeId} (h : w.heap[b]? = some (.cells X t)) : ∀ j, w.cell? ⟨b, j, none⟩ = X[j]? := fun _ => cell_of_block h
set_option maxRecDepth 20000 in
set_option maxHeartbeats 4000000 in
theorem mended_any (o : Ob) (s : Shp) (ms : List Mnd) (fa ma : Option Addr) (fcap mcap b off b' off' cap cap' : Nat) (w : World) (hf : FldsAt w fa s.fs) (hm : MndsAt w ma ms) (ho : ObAt w o (some ⟨b, off, none⟩) (some ⟨b', off', none⟩)) (hl : o.vs.length ≤ 1048576) (hl' : o.hs.length ≤ 1048576) (hc : o.vs.length = s.fs.length)
    (hml : ms.length ≤ 1048576) (hn : s.fs.length ≤ 6) (hrd : ∀ q, q < s.fs.length → ∀ x ∈ Gate.readsI s ms q, 0 ≤ x ∧ x < s.fs.length) (hwk : (Gate.walkAll (Gate.readsN s ms) s.fs.length).1 = true) :
    Calls Tryz.prog 43 #[.agg #[.string s.kd, .slice fa s.fs.length fcap], .slice ma ms.length mcap, .agg #[.string o.kd, .string o.nm, .string o.tm, .slice (some ⟨b, off, none⟩) o.vs.length cap, .bool o.en, .slice (some ⟨b', off', none⟩) o.hs.length cap', .int .i64 o.vr]] w
      fun e w' => ∃ a dap a' dap' m, e = .returned (.agg #[.string o.kd, .string o.nm, .string o.tm, .slice a o.vs.length dap, .bool o.en, .slice a' o.hs.length dap', .int .i64 o.vr]) ∧ TxtsOwn w.heap.size w' a (Gate.turnRow (Gate.decided s ms) (Gate.walkAll (Gate.readsN s ms) s.fs.length).2.row o.vs) ∧ (∀ g, a = some g → g.block < m) ∧ w.heap.size ≤ m ∧ TxtsOwn m w' a' o.hs ∧ Below w.heap.size w w' := by
  have HH : Hid (FldsAt w fa s.fs ∧ MndsAt w ma ms ∧ o.vs.length = s.fs.length ∧ ms.length ≤ 1048576 ∧ s.fs.length ≤ 6 ∧ (∀ q, q < s.fs.length → ∀ x ∈ Gate.readsI s ms q, 0 ≤ x ∧ x < s.fs.length) ∧ (∀ x ∈ o.vs, x.size ≤ maxLen)) := ⟨hf, hm, hc, hml, hn, hrd, ho.vals.small⟩
  have HWK : Hid ((Gate.walkAll (Gate.readsN s ms) s.fs.length).1 = true) := hwk
  clear hf hm hc hml hrd hwk
  go_enter Tryz.func43, Tryz.ntmps43
  go_wp2_with fail
  refine (copyObject_any o b off b' off' cap cap' _ (ho.mono (below_three _ _ _ _)) hl hl').mono ?_
  rintro e w1 ⟨a, dap, a', dap', m, rfl, ht, hmm, hsm, ht', hb1⟩
  have hX1 : ∀ j, w1.cell? ⟨w.heap.size, j, none⟩ = (#[.string s.kd, .slice fa s.fs.length fcap] : Array Value)[j]? := fun j => cell_of_block ((hb1.block w.heap.size (by simp; omega)).trans (three_first _ _ _ _))
  have HS1 : Hid (w1.heap[w.heap.size]? = some (.cells #[.string s.kd, .slice fa s.fs.length fcap] 69)) := (hb1.block w.heap.size (by simp; omega)).trans (three_first _ _ _ _)
  have HR1 : Hid (w1.heap[w.heap.size + 1 + 1]? = some (.cells #[.string ByteArray.empty, .string ByteArray.empty, .string ByteArray.empty, .slice none 0 0, .bool false, .slice none 0 0, .int .i64 0] 30)) := (hb1.block (w.heap.size + 1 + 1) (by simp)).trans (three_third _ _ _ _)
  have HB1 : Hid (Below w.heap.size w w1) := (below_three _ _ _ _).trans (hb1.mono (by simp; omega))
  have hz1 : w.heap.size + 1 + 1 < w1.heap.size := by have := hb1.size; simp at this; omega
  have HT : Hid (TxtsOwn (w.heap.size + 1 + 1 + 1) w1 a o.vs ∧ (∀ g, a = some g → g.block < m) ∧ w.heap.size + 1 + 1 + 1 ≤ m ∧ TxtsOwn m w1 a' o.hs) := by
    simp only [World.size_alloc] at ht hsm
    exact ⟨ht, hmm, hsm, ht'⟩
  have hz0 : w.heap.size < w1.heap.size := by omega
  clear ht hmm hsm ht' hb1 ho
  have hba := (Below.refl w1.heap.size w1).alloc (Nat.le_refl _) (.cells #[.string o.kd, .string o.nm, .string o.tm, .slice a o.vs.length dap, .bool o.en, .slice a' o.hs.length dap', .int .i64 o.vr] 30)
  have HBA : Hid (Below w.heap.size w (w1.alloc (.cells #[.string o.kd, .string o.nm, .string o.tm, .slice a o.vs.length dap, .bool o.en, .slice a' o.hs.length dap', .int .i64 o.vr] 30))) := HB1.out.trans (hba.mono HB1.out.size)
  have HBB : Hid (Below w1.heap.size w1 (w1.alloc (.cells #[.string o.kd, .string o.nm, .string o.tm, .slice a o.vs.length dap, .bool o.en, .slice a' o.hs.length dap', .int .i64 o.vr] 30))) := hba
  clear hba
  go_wp2_with fail
  have h := mendRow_any s ms ma fa mcap fcap _ (HH.out.2.1.mono HBA.out) (HH.out.1.mono HBA.out) HH.out.2.2.2.1 HH.out.2.2.2.2.1 HH.out.2.2.2.2.2.1
  rw [HWK.out] at h
  refine h.mono ?_
  rintro e w2 ⟨rv, rfl, hb2, hrow⟩
  have hrow := hrow rfl
  obtain ⟨ra, rcap, rfl⟩ := ownsRow_slice hrow
  have HBC : Hid (Below w1.heap.size w1 w2) := HBB.out.trans (hb2.mono HBB.out.size)
  have HR2 : Hid (w2.ownsRow (w1.heap.size + 1) 3 1 (.slice ra (Gate.walkAll (Gate.readsN s ms) s.fs.length).2.row.length rcap) (Gate.walkAll (Gate.readsN s ms) s.fs.length).2.row.length (nats (Gate.walkAll (Gate.readsN s ms) s.fs.length).2.row)) := by
    have := hrow; rw [World.size_alloc] at this; exact this
  have HU2 : Hid (w2.heap[w1.heap.size]? = some (.cells #[.string o.kd, .string o.nm, .string o.tm, .slice a o.vs.length dap, .bool o.en, .slice a' o.hs.length dap', .int .i64 o.vr] 30)) := (hb2.block _ (by simp)).trans (alloc_at _ _)
  have HTP : Hid (Gate.Topo (Gate.readsN s ms) s.fs.length (Gate.walkAll (Gate.readsN s ms) s.fs.length).2.row) := Gate.walkAll_topo (fun p hp q hq => by
    unfold Gate.readsN at hq
    obtain ⟨x, hx, rfl⟩ := List.mem_map.1 hq
    have := HH.out.2.2.2.2.2.1 p hp x hx
    omega) HWK.out
  have hz2 : w1.heap.size < w2.heap.size := (Array.getElem?_eq_some_iff.1 HU2.out).1
  have HRL : Hid ((Gate.walkAll (Gate.readsN s ms) s.fs.length).2.row.length ≤ 6) := by
    have h1 := Gate.length_le_of (Gate.walkAll (Gate.readsN s ms) s.fs.length).2.row (List.range s.fs.length) HTP.out.nodup (fun x hx => List.mem_range.2 ((HTP.out.mem x).1 hx))
    have h2 := HH.out.2.2.2.2.1
    rw [List.length_range] at h1
    show _ ≤ _; omega
  clear h hrow hb2 hX1
  go_wp2_with fail
  go_loopw [22] (fun iv wr => ∃ j : Nat, j ≤ (Gate.walkAll (Gate.readsN s ms) s.fs.length).2.row.length ∧ iv = .int .i64 j ∧ TxtsOwn (w.heap.size + 1 + 1 + 1) wr a (Gate.turnRow (Gate.decided s ms) ((Gate.walkAll (Gate.readsN s ms) s.fs.length).2.row.take j) o.vs) ∧ TxtsOwn m wr a' o.hs ∧ wr.heap[w.heap.size + 1 + 1]? = some (.cells #[.string ByteArray.empty, .string ByteArray.empty, .string ByteArray.empty, .slice none 0 0, .bool false, .slice none 0 0, .int .i64 0] 30) ∧ wr.heap[w1.heap.size]? = some (.cells #[.string o.kd, .string o.nm, .string o.tm, .slice a o.vs.length dap, .bool o.en, .slice a' o.hs.length dap', .int .i64 o.vr] 30) ∧ wr.heap[w.heap.size]? = some (.cells #[.string s.kd, .slice fa s.fs.length fcap] 69) ∧ wr.ownsRow (w1.heap.size + 1) 3 1 (.slice ra (Gate.walkAll (Gate.readsN s ms) s.fs.length).2.row.length rcap) (Gate.walkAll (Gate.readsN s ms) s.fs.length).2.row.length (nats (Gate.walkAll (Gate.readsN s ms) s.fs.length).2.row) ∧ Below w.heap.size w wr) (fun iv _ => (Gate.walkAll (Gate.readsN s ms) s.fs.length).2.row.length - (intOf iv).toNat)
  case atStart => exact ⟨0, Nat.zero_le _, rfl, HT.out.1.mono HBC.out, HT.out.2.2.2.mono HBC.out, (HBC.out.block _ hz1).trans HR1.out, HU2.out, (HBC.out.block _ hz0).trans HS1.out, HR2.out, HB1.out.trans (HBC.out.mono HB1.out.size)⟩
  case round =>
    obtain ⟨j, hj, rfl, hinv⟩ := hrel
    have HI : Hid (TxtsOwn (w.heap.size + 1 + 1 + 1) wr a (Gate.turnRow (Gate.decided s ms) ((Gate.walkAll (Gate.readsN s ms) s.fs.length).2.row.take j) o.vs) ∧ TxtsOwn m wr a' o.hs ∧ wr.heap[w.heap.size + 1 + 1]? = some (.cells #[.string ByteArray.empty, .string ByteArray.empty, .string ByteArray.empty, .slice none 0 0, .bool false, .slice none 0 0, .int .i64 0] 30) ∧ wr.heap[w1.heap.size]? = some (.cells #[.string o.kd, .string o.nm, .string o.tm, .slice a o.vs.length dap, .bool o.en, .slice a' o.hs.length dap', .int .i64 o.vr] 30) ∧ wr.heap[w.heap.size]? = some (.cells #[.string s.kd, .slice fa s.fs.length fcap] 69) ∧ wr.ownsRow (w1.heap.size + 1) 3 1 (.slice ra (Gate.walkAll (Gate.readsN s ms) s.fs.length).2.row.length rcap) (Gate.walkAll (Gate.readsN s ms) s.fs.length).2.row.length (nats (Gate.walkAll (Gate.readsN s ms) s.fs.length).2.row) ∧ Below w.heap.size w wr) := hinv
    clear hinv
    by_cases hlt : j < (Gate.walkAll (Gate.readsN s ms) s.fs.length).2.row.length
    · have hltI : (j : Int) < ((Gate.walkAll (Gate.readsN s ms) s.fs.length).2.row.length : Int) := by omega
      have hqn : (Gate.walkAll (Gate.readsN s ms) s.fs.length).2.row[j] < s.fs.length := (HTP.out.mem _).1 (List.getElem_mem hlt)
      obtain ⟨rg, rfl, hrc⟩ : ∃ rg, ra = some ⟨rg, 0, none⟩ ∧ wr.cell? ⟨rg, j, none⟩ = some (.int .i64 (((Gate.walkAll (Gate.readsN s ms) s.fs.length).2.row[j] : Nat) : Int)) := by
        have hrow := HI.out.2.2.2.2.2.1
        obtain ⟨_, ⟨h0, h1⟩ | ⟨g, cp, cur, h0, h1⟩⟩ := id hrow
        · rw [h1] at hlt; exact absurd hlt (by omega)
        · cases h0
          refine ⟨g, rfl, ?_⟩
          rw [hrow.cellAt j (by omega)]
          simp [nats, hlt]
      have HTS : Hid ((Gate.turnRow (Gate.decided s ms) ((Gate.walkAll (Gate.readsN s ms) s.fs.length).2.row.take (j + 1)) o.vs) = (Gate.turnRow (Gate.decided s ms) ((Gate.walkAll (Gate.readsN s ms) s.fs.length).2.row.take j) o.vs).set (Gate.walkAll (Gate.readsN s ms) s.fs.length).2.row[j] (Gate.decided s ms (Gate.walkAll (Gate.readsN s ms) s.fs.length).2.row[j] (Gate.turnRow (Gate.decided s ms) ((Gate.walkAll (Gate.readsN s ms) s.fs.length).2.row.take j) o.vs))) := by
        unfold Hid
        rw [List.take_succ_eq_append_getElem hlt, Gate.turnRow_append]
        rfl
      have HTL : Hid ((Gate.turnRow (Gate.decided s ms) ((Gate.walkAll (Gate.readsN s ms) s.fs.length).2.row.take j) o.vs).length = o.vs.length) := Gate.turnRow_length _ _ _
      have HSML : Hid (∀ x ∈ (Gate.turnRow (Gate.decided s ms) ((Gate.walkAll (Gate.readsN s ms) s.fs.length).2.row.take j) o.vs), x.size ≤ maxLen) := Gate.turnRow_small HH.out.2.1.small _ _ HH.out.2.2.2.2.2.2
      have hvl : 0 < o.vs.length := by rw [HH.out.2.2.1]; omega
      obtain ⟨g, C, hga, hgl, hgh, hgc⟩ : ∃ g C, a = some ⟨g, 0, none⟩ ∧ w.heap.size + 1 + 1 + 1 ≤ g ∧ wr.heap[g]? = some (.cells C 9) ∧ ∀ i (h : i < (Gate.turnRow (Gate.decided s ms) ((Gate.walkAll (Gate.readsN s ms) s.fs.length).2.row.take j) o.vs).length), C[i]? = some (.string (Gate.turnRow (Gate.decided s ms) ((Gate.walkAll (Gate.readsN s ms) s.fs.length).2.row.take j) o.vs)[i]) := by
        rcases HI.out.1 with ⟨_, h0⟩ | h0
        · have := HTL.out; rw [h0] at this; simp at this; omega
        · exact h0
      have hgm : g < m := HT.out.2.1 _ hga
      have hgw1 : g < w1.heap.size := HT.out.1.lt _ hga
      subst hga
      revert hqn hrc HTS
      generalize (Gate.walkAll (Gate.readsN s ms) s.fs.length).2.row[j] = q
      intro hqn hrc HTS
      have hqv : q < o.vs.length := by rw [HH.out.2.2.1]; exact hqn
      have hqI : (q : Int) < (o.vs.length : Int) := by omega
      have HCS : Hid (C.size = C.size ∧ q < C.size) := by
        refine ⟨rfl, ?_⟩
        rcases Nat.lt_or_ge q C.size with h1 | h1
        · exact h1
        · have h2 := hgc q (by rw [HTL.out]; exact hqv)
          rw [Array.getElem?_eq_none h1] at h2; cases h2
      have hOc := block_cells HI.out.2.2.2.1
      have hSc := block_cells HI.out.2.2.2.2.1
      have hzw : w1.heap.size < wr.heap.size := (Array.getElem?_eq_some_iff.1 HI.out.2.2.2.1).1
      have HST : Hid (StrsAt wr (some ⟨g, 0, none⟩) (Gate.turnRow (Gate.decided s ms) ((Gate.walkAll (Gate.readsN s ms) s.fs.length).2.row.take j) o.vs)) := HI.out.1.at (by rw [HTL.out]; unfold maxLen; omega) HSML.out
      have HBD : Hid (Below w.heap.size w wr.drew ∧ Below wr.heap.size wr wr.drew) := ⟨HI.out.2.2.2.2.2.2.drew, (Below.refl _ _).drew⟩
      have HGH : Hid (wr.heap[g]? = some (.cells C 9)) := hgh
      clear hgh hgc
      go_wp2_with fail
      clear hrc
      have hbd := HBD.out.2
      have hOd := box_later hOc hzw hbd
      have hSd := box_later hSc (by omega) hbd
      have HDV : Hid (∀ W, Below wr.heap.size wr W → Calls Tryz.prog 70 #[.agg #[.string s.kd, .slice fa s.fs.length fcap], .slice ma ms.length mcap, .slice (some ⟨g, 0, none⟩) o.vs.length dap, .int .i64 (q : Int)] W fun e w' => e = .returned (.string (Gate.decided s ms q (Gate.turnRow (Gate.decided s ms) ((Gate.walkAll (Gate.readsN s ms) s.fs.length).2.row.take j) o.vs))) ∧ Below W.heap.size W w') := by
        intro W hb
        have hbw := HI.out.2.2.2.2.2.2.trans (hb.mono HI.out.2.2.2.2.2.2.size)
        have h := decidedValue_any s ms (Gate.turnRow (Gate.decided s ms) ((Gate.walkAll (Gate.readsN s ms) s.fs.length).2.row.take j) o.vs) q fa ma (some ⟨g, 0, none⟩) fcap mcap dap W (HH.out.1.mono hbw) (HH.out.2.1.mono hbw) (HST.out.mono hb) (by rw [HTL.out]; exact HH.out.2.2.1) hqn
        rw [HTL.out] at h
        exact h
      go_region_held3 (fun w' => (∀ k, w'.cell? ⟨w1.heap.size, k, none⟩ = (#[.string o.kd, .string o.nm, .string o.tm, .slice (some ⟨g, 0, none⟩) o.vs.length dap, .bool o.en, .slice a' o.hs.length dap', .int .i64 o.vr] : Array Value)[k]?) ∧ ∀ k, w'.cell? ⟨w.heap.size, k, none⟩ = (#[.string s.kd, .slice fa s.fs.length fcap] : Array Value)[k]?) (first | (refine ⟨fun k => ?_, fun k => ?_⟩; rw [hOd]; rw [hSd]) | (refine ⟨fun k => ?_, fun k => ?_⟩; rw [hqo]; rw [hqs])) (first
        | (go_at_call 70; refine (HDV.out _ hbd).mono ?_; rintro e w5 ⟨rfl, hb5⟩; have hbd := hbd.trans (hb5.mono hbd.size); have hOd := box_later hOc hzw hbd; have hSd := box_later hSc (by omega) hbd; have hg5 := (hbd.block g (by omega)).trans HGH.out; have hcg : w5.cell? ⟨g, q, none⟩ = some (C[q]'HCS.out.2) := (by rw [cell_of_block hg5]; exact Array.getElem?_eq_getElem HCS.out.2); have hfg : w5.frozen? ⟨g, q, none⟩ = false := frozen_of_block hg5; have hqo : ∀ k, (w5.setCell ⟨g, q, none⟩ (.string (Gate.decided s ms q (Gate.turnRow (Gate.decided s ms) ((Gate.walkAll (Gate.readsN s ms) s.fs.length).2.row.take j) o.vs)))).cell? ⟨w1.heap.size, k, none⟩ = (#[.string o.kd, .string o.nm, .string o.tm, .slice (some ⟨g, 0, none⟩) o.vs.length dap, .bool o.en, .slice a' o.hs.length dap', .int .i64 o.vr] : Array Value)[k]? := (fun k => (cell_setCell_other (by show w1.heap.size ≠ g; omega)).trans (hOd k)); have hqs : ∀ k, (w5.setCell ⟨g, q, none⟩ (.string (Gate.decided s ms q (Gate.turnRow (Gate.decided s ms) ((Gate.walkAll (Gate.readsN s ms) s.fs.length).2.row.take j) o.vs)))).cell? ⟨w.heap.size, k, none⟩ = (#[.string s.kd, .slice fa s.fs.length fcap] : Array Value)[k]? := (fun k => (cell_setCell_other (by show w.heap.size ≠ g; omega)).trans (hSd k)); have HBE : Hid (Below wr.heap.size wr w5) := hbd; clear hb5 hg5))
      go_wp2_with fail
      obtain ⟨i1, i2, i3, i4, i5, i6, i7⟩ := HI.out
      have hE := HBE.out
      refine ⟨⟨j + 1, by omega, by rw [wrap_one (by have := HRL.out; omega)], ?_, (i2.mono hE).setCell _ hgm _, (Below.heap_setCell _ _ _ _ (by show w.heap.size + 1 + 1 ≠ g; omega)).trans ((hE.block _ (by omega)).trans i3), (Below.heap_setCell _ _ _ _ (by show w1.heap.size ≠ g; omega)).trans ((hE.block _ hzw).trans i4), (Below.heap_setCell _ _ _ _ (by show w.heap.size ≠ g; omega)).trans ((hE.block _ (by omega)).trans i5), ?_, (i7.trans (hE.mono i7.size)).setCell (p := ⟨g, q, none⟩) (by show w.heap.size ≤ g; omega) _⟩, step_less hlt (by have := HRL.out; omega)⟩
      · rw [HTS.out]; exact (i1.mono hE).set q _
      · refine ownsRow_same (ownsRow_later i6 hE) (fun g' hg' => Below.heap_setCell _ _ _ _ ?_)
        have := (i6.lt g' hg').1
        show g' ≠ g
        omega
    · have e : j = (Gate.walkAll (Gate.readsN s ms) s.fs.length).2.row.length := by omega
      obtain ⟨i1, i2, i3, i4, i5, i6, i7⟩ := HI.out
      rw [e, List.take_of_length_le (Nat.le_refl _)] at i1
      have hRc : ∀ k, wr.cell? ⟨w.heap.size + 1 + 1, k, none⟩ = (#[.string ByteArray.empty, .string ByteArray.empty, .string ByteArray.empty, .slice none 0 0, .bool false, .slice none 0 0, .int .i64 0] : Array Value)[k]? := fun k => cell_of_block i3
      have hRf : ∀ k, wr.frozen? ⟨w.heap.size + 1 + 1, k, none⟩ = false := fun k => frozen_of_block i3
      have hOc := block_cells i4
      have HX : Hid (TxtsOwn (w.heap.size + 1 + 1 + 1) wr a (Gate.turnRow (Gate.decided s ms) (Gate.walkAll (Gate.readsN s ms) s.fs.length).2.row o.vs) ∧ TxtsOwn m wr a' o.hs ∧ Below w.heap.size w wr) := ⟨i1, i2, i7⟩
      clear i1 i2 i3 i4 i5 i6 i7 HI
      subst e
      go_wp2_with fail
      refine bodyPost_ret (v := (.agg #[.string o.kd, .string o.nm, .string o.tm, .slice a o.vs.length dap, .bool o.en, .slice a' o.hs.length dap', .int .i64 o.vr])) (by simp [results, Tryz.results43, go_sem, hRc]) rfl ?_
      obtain ⟨ht, ht', hB⟩ := HX.out
      exact ⟨a, dap, a', dap', m, rfl, (put7_own ht _ (by omega) _ _ _ _ _ _ _).low (by omega), HT.out.2.1, by have := HT.out.2.2.1; omega, put7_own ht' _ (by have := HT.out.2.2.1; omega) _ _ _ _ _ _ _, put7_below hB _ (by omega) _ _ _ _ _ _ _⟩

end Go.Proofs.YtponiggfclcbgaaGreat

namespace Go.Proofs.YtponiggfclcbgaaGreat
open Go.RowKit

set_option maxRecDepth 20000 in
set_option maxHeartbeats 4000000 in
theorem implMendsOk_any (a a' : Option Addr) (cap cap' : Nat) (ss : List Shp) (ms : List Mnd) (w : World) (hw : ShpsAt w a ss) (hm : MndsAt w a' ms) (hml : ms.length ≤ 1048576) :
    Calls Tryz.prog 25 #[.slice a ss.length cap, .slice a' ms.length cap'] w fun e w' => e = .returned (.bool (Gate.mendsOk ss ms)) ∧ Below w.heap.size w w' := by
  have HW : Hid (ShpsAt w a ss ∧ MndsAt w a' ms) := ⟨hw, hm⟩
  have hl := hw.len
  unfold maxLen at hl
  clear hw hm
  by_cases h12 : ms.length ≤ 12
  rotate_left
  · have HF : Hid (Gate.mendsOk ss ms = false) := by unfold Hid Gate.mendsOk; rw [decide_eq_false h12]; simp
    go_enter Tryz.func25, Tryz.ntmps25
    go_wp2_with fail
    go_ret
    exact ⟨by rw [HF.out]; rfl, Below.refl _ _⟩
  have h12I : (ms.length : Int) ≤ 12 := by omega
  by_cases hok : Gate.shapesOk ss = true
  rotate_left
  · have hokf : Gate.shapesOk ss = false := by simpa using hok
    have HF : Hid (Gate.mendsOk ss ms = false) := by unfold Hid Gate.mendsOk; rw [hokf]; simp
    go_enter Tryz.func25, Tryz.ntmps25
    go_wp2_with fail
    have h := implShapesOk_any a cap ss w HW.out.1
    rw [hokf] at h
    refine h.mono ?_
    rintro e w1 ⟨rfl, hb1⟩
    clear h
    go_wp2_with fail
    go_ret
    exact ⟨by rw [HF.out]; rfl, hb1⟩
  have HOK : Hid (Gate.shapesOk ss = true) := hok
  go_enter Tryz.func25, Tryz.ntmps25
  go_wp2_with fail
  have h := implShapesOk_any a cap ss w HW.out.1
  rw [hok] at h
  refine h.mono ?_
  rintro e w1 ⟨rfl, hb1⟩
  have HB1 : Hid (Below w.heap.size w w1) := hb1
  clear h hb1 hok
  go_wp2_with fail
  refine (fieldKinds_any _).mono ?_
  rintro e w2 ⟨rfl, hw2⟩
  have HB2 : Hid (Below w.heap.size w w2 ∧ w2.heap[w1.heap.size]? = some (.map kindEs 4) ∧ w1.heap.size < w2.heap.size) := by
    rw [hw2]; exact ⟨HB1.out.trans (((Below.refl _ _).alloc (Nat.le_refl _) _).mono HB1.out.size), alloc_at _ _, by simp⟩
  clear hw2
  go_wp2_with fail
  go_loopw [25] (fun iv wr => ∃ k : Nat, k ≤ ms.length ∧ iv = .int .i64 k ∧ (ms.take k).all (Gate.mendAt ss) = true ∧ Below w2.heap.size w2 wr) (fun iv _ => ms.length - (intOf iv).toNat)
  case atStart => exact ⟨0, Nat.zero_le _, rfl, rfl, Below.refl _ _⟩
  case round =>
    obtain ⟨k, hk, rfl, hall, hB⟩ := hrel
    have HB : Hid (Below w2.heap.size w2 wr ∧ Below w.heap.size w wr) := ⟨hB, HB2.out.1.trans (hB.mono HB2.out.1.size)⟩
    have HA : Hid ((ms.take k).all (Gate.mendAt ss) = true) := hall
    clear hall hB
    by_cases hlt : k < ms.length
    · obtain ⟨b, off, rfl, hb, c0, c1, c2, c3, c4, c5⟩ := HW.out.2.load HB.out.2 k hlt
      have hltI : (k : Int) < (ms.length : Int) := by omega
      have hsm := HW.out.2.small k hlt
      have HTK : Hid ((ms.take (k + 1)).all (Gate.mendAt ss) = Gate.mendAt ss ms[k]) := by
        unfold Hid; rw [List.take_succ_eq_append_getElem hlt, List.all_append, HA.out]; simp
      have HNO : Hid (Gate.mendAt ss ms[k] = false → Gate.mendsOk ss ms = false) := by
        intro h
        have : ms.all (Gate.mendAt ss) = false := by rw [List.all_eq_false]; exact ⟨_, List.getElem_mem hlt, by rw [h]; simp⟩
        unfold Gate.mendsOk; rw [this]; simp
      have hba := (Below.refl wr.heap.size wr).alloc (Nat.le_refl _) (.cells #[.string ms[k].kd, .string ms[k].fd, .string ms[k].wh, .string ms[k].wi, .string ms[k].pt, .string ms[k].fr] 71)
      have HSM : Hid (ms[k].Small) := hsm
      clear hsm
      go_wp2_with fail
      have h := shapeOf_any a cap ss ms[k].kd _ (HW.out.1.mono (HB.out.2.trans (hba.mono HB.out.2.size)))
      by_cases hkk : Gate.hasKind ss ms[k].kd = true
      rotate_left
      · have hkf : Gate.hasKind ss ms[k].kd = false := by simpa using hkk
        rw [hkf] at h
        refine h.mono ?_
        rintro e w3 ⟨fa, fcap, rfl, hfl, hb3⟩
        have HF : Hid (Gate.mendsOk ss ms = false ∧ Below w.heap.size w w3) := ⟨HNO.out (by unfold Gate.mendAt; rw [hkf]; rfl), HB.out.2.trans ((hba.trans (hb3.mono hba.size)).mono HB.out.2.size)⟩
        clear h hba hfl hb3 c0 c1 c2 c3 c4 c5
        go_wp2_with fail
        go_ret
        exact ⟨by rw [HF.out.1]; rfl, HF.out.2.alloc HF.out.2.size _⟩
      rw [hkk] at h
      refine h.mono ?_
      rintro e w3 ⟨fa, fcap, rfl, hfl, hb3⟩
      have hX3 := box_later (box_new wr _ _) (by simp) hb3
      have hz3 : wr.heap.size < w3.heap.size := by have := hb3.size; simp at this; omega
      have HB3 : Hid (Below wr.heap.size wr w3) := hba.trans (hb3.mono hba.size)
      have hbs := (Below.refl w3.heap.size w3).alloc (Nat.le_refl _) (.cells #[.string (Gate.shapeOf ss ms[k].kd).kd, .slice fa (Gate.shapeOf ss ms[k].kd).fs.length fcap] 69)
      have HB4 : Hid (Below wr.heap.size wr (w3.alloc (.cells #[.string (Gate.shapeOf ss ms[k].kd).kd, .slice fa (Gate.shapeOf ss ms[k].kd).fs.length fcap] 69))) := HB3.out.trans (hbs.mono HB3.out.size)
      have HFL : Hid (FldsAt (w3.alloc (.cells #[.string (Gate.shapeOf ss ms[k].kd).kd, .slice fa (Gate.shapeOf ss ms[k].kd).fs.length fcap] 69)) fa (Gate.shapeOf ss ms[k].kd).fs) := (hfl.mono hb3).mono hbs
      have HMA : Hid (Gate.mendAt ss ms[k] = Gate.mendOk (Gate.shapeOf ss ms[k].kd).fs ms[k]) := by unfold Hid Gate.mendAt; rw [hkk]; simp
      have HRM : Hid ((w3.alloc (.cells #[.string (Gate.shapeOf ss ms[k].kd).kd, .slice fa (Gate.shapeOf ss ms[k].kd).fs.length fcap] 69)).heap[w1.heap.size]? = some (.map kindEs 4)) := by
        have h1 := HB.out.1.size
        have h2 := HB2.out.2.2
        exact (HB4.out.block w1.heap.size (by omega)).trans ((HB.out.1.block w1.heap.size h2).trans HB2.out.2.1)
      clear h hba hfl hb3 hbs hkk c0 c1 c2 c3 c4 c5
      go_wp2_with fail
      have h := mendOk_any w1.heap.size fa fcap (Gate.shapeOf ss ms[k].kd).fs ms[k] _ HRM.out HFL.out HSM.out
      by_cases hmo : Gate.mendOk (Gate.shapeOf ss ms[k].kd).fs ms[k] = true
      · rw [hmo] at h
        refine h.mono ?_
        rintro e w5 ⟨rfl, hb5⟩
        have HY : Hid ((ms.take (k + 1)).all (Gate.mendAt ss) = true ∧ Below w2.heap.size w2 w5) := ⟨by rw [HTK.out, HMA.out]; exact hmo, HB.out.1.trans ((HB4.out.trans (hb5.mono HB4.out.size)).mono HB.out.1.size)⟩
        clear h hb5 hmo hX3
        go_wp2_with fail
        exact ⟨⟨k + 1, by omega, by go_num, HY.out.1, HY.out.2⟩, step_less' hlt⟩
      · have hmf : Gate.mendOk (Gate.shapeOf ss ms[k].kd).fs ms[k] = false := by simpa using hmo
        rw [hmf] at h
        refine h.mono ?_
        rintro e w5 ⟨rfl, hb5⟩
        have HF : Hid (Gate.mendsOk ss ms = false ∧ Below w.heap.size w w5) := ⟨HNO.out (by rw [HMA.out]; exact hmf), HB.out.2.trans ((HB4.out.trans (hb5.mono HB4.out.size)).mono HB.out.2.size)⟩
        clear h hb5 hmo hX3
        go_wp2_with fail
        go_ret
        exact ⟨by rw [HF.out.1]; rfl, HF.out.2⟩
    · have e : k = ms.length := by omega
      have hall := HA.out
      rw [e, List.take_of_length_le (Nat.le_refl _)] at hall
      have HALL : Hid (ms.all (Gate.mendAt ss) = true) := hall
      subst e
      clear hall HA
      go_wp2_with fail
      have HBw : Hid (Below w.heap.size w wr) := HB.out.2
      clear HB
      go_loopw [49] (fun iv wq => ∃ k : Nat, k ≤ ss.length ∧ iv = .int .i64 k ∧ (ss.take k).all (Gate.rowOk ms) = true ∧ Below w.heap.size w wq) (fun iv _ => ss.length - (intOf iv).toNat)
      case atStart => exact ⟨0, Nat.zero_le _, rfl, rfl, HBw.out⟩
      case round =>
        obtain ⟨k, hk, rfl, hall, hB⟩ := hrel
        have HB : Hid (Below w.heap.size w wr) := hB
        have HA : Hid ((ss.take k).all (Gate.rowOk ms) = true) := hall
        clear hall hB
        by_cases hlt : k < ss.length
        · obtain ⟨b, off, rfl, hb, hr⟩ := HW.out.1.rows (by rintro rfl; simp at hlt)
          obtain ⟨fa, fcap, hs0⟩ := hr k hlt
          have hs := hs0.mono hb HB.out
          have hck := hs.kind
          have hcl := hs.list
          have hfl := hs.flds
          have hltI : (k : Int) < (ss.length : Int) := by omega
          have HTK : Hid ((ss.take (k + 1)).all (Gate.rowOk ms) = Gate.rowOk ms ss[k]) := by
            unfold Hid; rw [List.take_succ_eq_append_getElem hlt, List.all_append, HA.out]; simp
          have HNO : Hid (Gate.rowOk ms ss[k] = false → Gate.mendsOk ss ms = false) := by
            intro h
            have : ss.all (Gate.rowOk ms) = false := by rw [List.all_eq_false]; exact ⟨_, List.getElem_mem hlt, by rw [h]; simp⟩
            unfold Gate.mendsOk; rw [this]; simp
          have hba := (Below.refl wr.heap.size wr).alloc (Nat.le_refl _) (.cells #[.string ss[k].kd, .slice fa ss[k].fs.length fcap] 69)
          have HFL : Hid (FldsAt (wr.alloc (.cells #[.string ss[k].kd, .slice fa ss[k].fs.length fcap] 69)) fa ss[k].fs) := hfl.mono hba
          have HBA : Hid (Below w.heap.size w (wr.alloc (.cells #[.string ss[k].kd, .slice fa ss[k].fs.length fcap] 69))) := HB.out.trans (hba.mono HB.out.size)
          clear hr hs0 hs hfl hba
          go_wp2_with fail
          have h := mendRow_any ss[k] ms a' fa cap' fcap _ (HW.out.2.mono HBA.out) HFL.out hml (Gate.fields_few HOK.out k hlt) (Gate.reads_ok HOK.out HALL.out k hlt)
          by_cases hrk : Gate.rowOk ms ss[k] = true
          · have hrk' : (Gate.walkAll (Gate.readsN ss[k] ms) ss[k].fs.length).1 = true := hrk
            refine h.mono ?_
            rintro e w5 ⟨v5, rfl, hb5, _⟩
            have HY : Hid ((ss.take (k + 1)).all (Gate.rowOk ms) = true ∧ Below w.heap.size w w5) := ⟨by rw [HTK.out]; exact hrk, HBA.out.trans (hb5.mono HBA.out.size)⟩
            rw [hrk']
            clear h hb5 hrk hrk' hck hcl
            go_wp2_with fail
            exact ⟨⟨k + 1, by omega, by go_num, HY.out.1, HY.out.2⟩, step_less' hlt⟩
          · have hrf : Gate.rowOk ms ss[k] = false := by simpa using hrk
            have hrk' : (Gate.walkAll (Gate.readsN ss[k] ms) ss[k].fs.length).1 = false := hrf
            refine h.mono ?_
            rintro e w5 ⟨v5, rfl, hb5, _⟩
            have HF : Hid (Gate.mendsOk ss ms = false ∧ Below w.heap.size w w5) := ⟨HNO.out hrf, HBA.out.trans (hb5.mono HBA.out.size)⟩
            rw [hrk']
            clear h hb5 hrk hrk' hck hcl
            go_wp2_with fail
            go_ret
            exact ⟨by rw [HF.out.1]; rfl, HF.out.2⟩
        · have e : k = ss.length := by omega
          have hall := HA.out
          rw [e, List.take_of_length_le (Nat.le_refl _)] at hall
          have HF : Hid (Gate.mendsOk ss ms = true) := by unfold Hid Gate.mendsOk; rw [HALL.out, HOK.out, hall, decide_eq_true h12]; rfl
          subst e
          clear hall HA
          go_wp2_with fail
          go_ret
          exact ⟨by rw [HF.out]; rfl, HB.out⟩

end Go.Proofs.YtponiggfclcbgaaGreat
