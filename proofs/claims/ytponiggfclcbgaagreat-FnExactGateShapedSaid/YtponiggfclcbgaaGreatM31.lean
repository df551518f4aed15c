import Derived.Test.YtponiggfclcbgaaGreatM08
import Derived.Test.YtponiggfclcbgaaGreatM27
import Derived.Test.YtponiggfclcbgaaGreatM29
import Derived.Test.YtponiggfclcbgaaGreatM19
namespace Go.Proofs.YtponiggfclcbgaaGreat
open Go.RowKit

/-- Where a list of texts lies: nowhere, being empty, or at a plain address. -/
def OwnA (a : Option Addr) (ws : List ByteArray) : Prop := (a = none ∧ ws = []) ∨ ∃ b off, a = some ⟨b, off, none⟩
theorem TxtsOwn.ownA {lo : Nat} {w : World} {a : Option Addr} {ws : List ByteArray} (h : TxtsOwn lo w a ws) : OwnA a ws := by
  rcases h with ⟨h0, h1⟩ | ⟨g, C, h0, _⟩
  · exact Or.inl ⟨h0, h1⟩
  · exact Or.inr ⟨g, 0, h0⟩

set_option maxHeartbeats 1000000 in
theorem copyTexts_none (cap : Nat) (w : World) :
    Calls Tryz.prog 69 #[.slice none 0 cap] w fun e w' => ∃ v, e = .returned v ∧ w'.ownsRow w.heap.size 9 1 v 0 [] ∧ Below w.heap.size w w' := by
  go_enter Tryz.func69, Tryz.ntmps69
  go_wp2_with fail
  go_ret
  exact ⟨_, rfl, World.ownsRow_nil _ _ _ _, Below.refl _ _⟩

theorem copyTexts_gen (a : Option Addr) (cap : Nat) (ws : List ByteArray) (w : World) (hw : StrsAt w a ws) (hA : OwnA a ws) (hl : ws.length ≤ 1048576) :
    Calls Tryz.prog 69 #[.slice a ws.length cap] w
      fun e w' => ∃ v, e = .returned v ∧ w'.ownsRow w.heap.size 9 1 v ws.length (ws.map Value.string) ∧ Below w.heap.size w w' := by
  rcases hA with ⟨rfl, rfl⟩ | ⟨b, off, rfl⟩
  · exact copyTexts_none cap w
  · exact copyTexts_any b off cap ws w hw hl

set_option maxHeartbeats 1000000 in
theorem copyObject_gen (o : Ob) (va ha : Option Addr) (cap cap' : Nat) (w : World) (ho : ObAt w o va ha) (hA : OwnA va o.vs) (hA' : OwnA ha o.hs) (hl : o.vs.length ≤ 1048576) (hl' : o.hs.length ≤ 1048576) :
    Calls Tryz.prog 42 #[.agg #[.string o.kd, .string o.nm, .string o.tm, .slice va o.vs.length cap, .bool o.en, .slice ha o.hs.length cap', .int .i64 o.vr]] w
      fun e w' => ∃ a dap a' dap' m, e = .returned (.agg #[.string o.kd, .string o.nm, .string o.tm, .slice a o.vs.length dap, .bool o.en, .slice a' o.hs.length dap', .int .i64 o.vr]) ∧ TxtsOwn w.heap.size w' a o.vs ∧ (∀ g, a = some g → g.block < m) ∧ w.heap.size ≤ m ∧ TxtsOwn m w' a' o.hs ∧ Below w.heap.size w w' := by
  go_enter Tryz.func42, Tryz.ntmps42
  go_wp2_with fail
  refine (copyTexts_gen _ _ _ _ (ho.vals.mono (below2' _ _ _)) hA hl).mono ?_
  rintro e w1 ⟨v, rfl, hown1, hb1⟩
  obtain ⟨a, dap, rfl, ht1⟩ := TxtsOwn.of_row hown1
  have hk1 : w1.heap[w.heap.size]? = some (.cells #[.string o.kd, .string o.nm, .string o.tm, .slice va o.vs.length cap, .bool o.en, .slice ha o.hs.length cap', .int .i64 o.vr] 30) := (hb1.block w.heap.size (by simp; omega)).trans (two_blocks _ _ _).1
  have hr1 : w1.heap[w.heap.size + 1]? = some (.cells #[.string ByteArray.empty, .string ByteArray.empty, .string ByteArray.empty, .slice none 0 0, .bool false, .slice none 0 0, .int .i64 0] 30) := (hb1.block (w.heap.size + 1) (by simp)).trans (two_blocks _ _ _).2
  have HT : Hid (TxtsOwn (w.heap.size + 1 + 1) w1 a o.vs) := by unfold Hid; simpa using ht1
  have hz1 : w.heap.size + 1 < w1.heap.size := by have := hb1.size; simp at this; omega
  have hB1 : Below w.heap.size w w1 := (below2' _ _ _).trans (hb1.mono (by simp; omega))
  have HK : Hid (w1.heap[w.heap.size]? = some (.cells #[.string o.kd, .string o.nm, .string o.tm, .slice va o.vs.length cap, .bool o.en, .slice ha o.hs.length cap', .int .i64 o.vr] 30)) := hk1
  have HRR : Hid (w1.heap[w.heap.size + 1]? = some (.cells #[.string ByteArray.empty, .string ByteArray.empty, .string ByteArray.empty, .slice none 0 0, .bool false, .slice none 0 0, .int .i64 0] 30)) := hr1
  have hX1 : ∀ j, w1.cell? ⟨w.heap.size, j, none⟩ = (#[.string o.kd, .string o.nm, .string o.tm, .slice va o.vs.length cap, .bool o.en, .slice ha o.hs.length cap', .int .i64 o.vr] : Array Value)[j]? := fun j => cell_of_block hk1
  have hF1 : ∀ j, w1.frozen? ⟨w.heap.size, j, none⟩ = false := fun j => frozen_of_block hk1
  clear hb1 hown1 ht1 hk1 hr1
  go_wp2_with fail
  have hB1' := hB1.setCell (p := ⟨w.heap.size, 3, none⟩) (Nat.le_refl _) (.slice a o.vs.length dap)
  refine (copyTexts_gen _ _ _ _ (ho.holds.mono hB1') hA' hl').mono ?_
  rintro e w2 ⟨v, rfl, hown2, hb2⟩
  obtain ⟨a', dap', rfl, ht2⟩ := TxtsOwn.of_row hown2
  have hk2 : w2.heap[w.heap.size]? = some (.cells #[.string o.kd, .string o.nm, .string o.tm, .slice a o.vs.length dap, .bool o.en, .slice ha o.hs.length cap', .int .i64 o.vr] 30) := (hb2.block w.heap.size (by simp [World.setCell]; omega)).trans (heap_setCell_at HK.out _)
  have hr2 : w2.heap[w.heap.size + 1]? = some (.cells #[.string ByteArray.empty, .string ByteArray.empty, .string ByteArray.empty, .slice none 0 0, .bool false, .slice none 0 0, .int .i64 0] 30) := (hb2.block (w.heap.size + 1) (by simp [World.setCell]; omega)).trans ((Below.heap_setCell _ _ _ _ (by simp)).trans HRR.out)
  have HT2 : Hid (TxtsOwn (w.heap.size + 1 + 1) w2 a o.vs) := (HT.out.setCell _ (by simp; omega) _).mono hb2
  have HU2 : Hid (TxtsOwn w1.heap.size w2 a' o.hs) := by unfold Hid; simpa [World.setCell] using ht2
  have HM : Hid (∀ g, a = some g → g.block < w1.heap.size) := by
    intro g hg
    rcases HT.out with ⟨h0, _⟩ | ⟨g', C, h0, _, hh, _⟩
    · rw [h0] at hg; cases hg
    · rw [h0] at hg; cases hg; exact (Array.getElem?_eq_some_iff.1 hh).1
  have hz2 : w.heap.size + 1 < w2.heap.size := by have := hb2.size; simp [World.setCell] at this; omega
  have hB2 : Below w.heap.size w w2 := hB1'.trans (hb2.mono hB1'.size)
  have hX2 : ∀ j, w2.cell? ⟨w.heap.size, j, none⟩ = (#[.string o.kd, .string o.nm, .string o.tm, .slice a o.vs.length dap, .bool o.en, .slice ha o.hs.length cap', .int .i64 o.vr] : Array Value)[j]? := fun j => cell_of_block hk2
  have hF2 : ∀ j, w2.frozen? ⟨w.heap.size, j, none⟩ = false := fun j => frozen_of_block hk2
  have hY2 : ∀ j, w2.cell? ⟨w.heap.size + 1, j, none⟩ = (#[.string ByteArray.empty, .string ByteArray.empty, .string ByteArray.empty, .slice none 0 0, .bool false, .slice none 0 0, .int .i64 0] : Array Value)[j]? := fun j => cell_of_block hr2
  have hG2 : ∀ j, w2.frozen? ⟨w.heap.size + 1, j, none⟩ = false := fun j => frozen_of_block hr2
  have hzz : w.heap.size ≤ w1.heap.size := by omega
  clear hb2 hown2 ht2 hX1 hF1 hB1 hB1' hk2 hr2
  go_wp2_with fail
  refine bodyPost_ret (v := (.agg #[.string o.kd, .string o.nm, .string o.tm, .slice a o.vs.length dap, .bool o.en, .slice a' o.hs.length dap', .int .i64 o.vr])) (by simp [results, Tryz.results42, go_sem, hY2]) rfl ⟨a, dap, a', dap', w1.heap.size, rfl, ((((((((HT2.out.setCell _ (by simp; omega) _).setCell _ (by simp) _).setCell _ (by simp) _).setCell _ (by simp) _).setCell _ (by simp) _).setCell _ (by simp) _).setCell _ (by simp) _).setCell _ (by simp) _).low (by omega), HM.out, hzz, ((((((((HU2.out.setCell _ (by simp; omega) _).setCell _ (by simp; omega) _).setCell _ (by simp; omega) _).setCell _ (by simp; omega) _).setCell _ (by simp; omega) _).setCell _ (by simp; omega) _).setCell _ (by simp; omega) _).setCell _ (by simp; omega) _), ((((((((hB2.setCell (Nat.le_refl _) _).setCell (by simp) _).setCell (by simp) _).setCell (by simp) _).setCell (by simp) _).setCell (by simp) _).setCell (by simp) _).setCell (by simp) _)⟩

end Go.Proofs.YtponiggfclcbgaaGreat

namespace Go.Proofs.YtponiggfclcbgaaGreat
open Go.RowKit

set_option maxRecDepth 20000 in
set_option maxHeartbeats 4000000 in
theorem mended_gen (o : Ob) (s : Shp) (ms : List Mnd) (fa ma ova oha : Option Addr) (fcap mcap cap cap' : Nat) (w : World) (hf : FldsAt w fa s.fs) (hm : MndsAt w ma ms) (ho : ObAt w o ova oha) (hA : OwnA ova o.vs) (hA' : OwnA oha o.hs) (hl : o.vs.length ≤ 1048576) (hl' : o.hs.length ≤ 1048576) (hc : o.vs.length = s.fs.length)
    (hml : ms.length ≤ 1048576) (hn : s.fs.length ≤ 6) (hrd : ∀ q, q < s.fs.length → ∀ x ∈ Gate.readsI s ms q, 0 ≤ x ∧ x < s.fs.length) (hwk : (Gate.walkAll (Gate.readsN s ms) s.fs.length).1 = true) :
    Calls Tryz.prog 43 #[.agg #[.string s.kd, .slice fa s.fs.length fcap], .slice ma ms.length mcap, .agg #[.string o.kd, .string o.nm, .string o.tm, .slice ova o.vs.length cap, .bool o.en, .slice oha o.hs.length cap', .int .i64 o.vr]] w
      fun e w' => ∃ a dap a' dap' m, e = .returned (.agg #[.string o.kd, .string o.nm, .string o.tm, .slice a o.vs.length dap, .bool o.en, .slice a' o.hs.length dap', .int .i64 o.vr]) ∧ TxtsOwn w.heap.size w' a (Gate.turnRow (Gate.decided s ms) (Gate.walkAll (Gate.readsN s ms) s.fs.length).2.row o.vs) ∧ (∀ g, a = some g → g.block < m) ∧ w.heap.size ≤ m ∧ TxtsOwn m w' a' o.hs ∧ Below w.heap.size w w' := by
  have HH : Hid (FldsAt w fa s.fs ∧ MndsAt w ma ms ∧ o.vs.length = s.fs.length ∧ ms.length ≤ 1048576 ∧ s.fs.length ≤ 6 ∧ (∀ q, q < s.fs.length → ∀ x ∈ Gate.readsI s ms q, 0 ≤ x ∧ x < s.fs.length) ∧ (∀ x ∈ o.vs, x.size ≤ maxLen)) := ⟨hf, hm, hc, hml, hn, hrd, ho.vals.small⟩
  have HWK : Hid ((Gate.walkAll (Gate.readsN s ms) s.fs.length).1 = true) := hwk
  clear hf hm hc hml hrd hwk
  go_enter Tryz.func43, Tryz.ntmps43
  go_wp2_with fail
  refine (copyObject_gen o ova oha cap cap' _ (ho.mono (below_three _ _ _ _)) hA hA' hl hl').mono ?_
  rintro e w1 ⟨a, dap, a', dap', m, rfl, ht, hmm, hsm, ht', hb1⟩
  have hX1 : ∀ j, w1.cell? ⟨w.heap.size, j, none⟩ = (#[.string s.kd, .slice fa s.fs.length fcap] : Array Value)[j]? := fun j => cell_of_block ((hb1.block w.heap.size (by simp; omega)).trans (three_first _ _ _ _))
  have HS1 : Hid (w1.heap[w.heap.size]? = some (.cells #[.string s.kd, .slice fa s.fs.length fcap] 69)) := (hb1.block w.heap.size (by simp; omega)).trans (three_first _ _ _ _)
  have HR1 : Hid (w1.heap[w.heap.size + 1 + 1]? = some (.cells #[.string ByteArray.empty, .string ByteArray.empty, .string ByteArray.empty, .slice none 0 0, .bool false, .slice none 0 0, .int .i64 0] 30)) := (hb1.block (w.heap.size + 1 + 1) (by simp)).trans (three_third _ _ _ _)
  have HB1 : Hid (Below w.heap.size w w1) := (below_three _ _ _ _).trans (hb1.mono (by simp; omega))
  have hz1 : w.heap.size + 1 + 1 < w1.heap.size := by have := hb1.size; simp at this; omega
  have HT : Hid (TxtsOwn (w.heap.size + 1 + 1 + 1) w1 a o.vs ∧ (∀ g, a = some g → g.block < m) ∧ w.heap.size + 1 + 1 + 1 ≤ m ∧ TxtsOwn m w1 a' o.hs) := by
    simp only [World.size_alloc] at ht hsm
    exact ⟨ht, hmm, hsm, ht'⟩
  have hz0 : w.heap.size < w1.heap.size := by omega
  clear ht hmm hsm ht' hb1 ho
  have hba := (Below.refl w1.heap.size w1).alloc (Nat.le_refl _) (.cells #[.string o.kd, .string o.nm, .string o.tm, .slice a o.vs.length dap, .bool o.en, .slice a' o.hs.length dap', .int .i64 o.vr] 30)
  have HBA : Hid (Below w.heap.size w (w1.alloc (.cells #[.string o.kd, .string o.nm, .string o.tm, .slice a o.vs.length dap, .bool o.en, .slice a' o.hs.length dap', .int .i64 o.vr] 30))) := HB1.out.trans (hba.mono HB1.out.size)
  have HBB : Hid (Below w1.heap.size w1 (w1.alloc (.cells #[.string o.kd, .string o.nm, .string o.tm, .slice a o.vs.length dap, .bool o.en, .slice a' o.hs.length dap', .int .i64 o.vr] 30))) := hba
  clear hba
  go_wp2_with fail
  have h := mendRow_any s ms ma fa mcap fcap _ (HH.out.2.1.mono HBA.out) (HH.out.1.mono HBA.out) HH.out.2.2.2.1 HH.out.2.2.2.2.1 HH.out.2.2.2.2.2.1
  rw [HWK.out] at h
  refine h.mono ?_
  rintro e w2 ⟨rv, rfl, hb2, hrow⟩
  have hrow := hrow rfl
  obtain ⟨ra, rcap, rfl⟩ := ownsRow_slice hrow
  have HBC : Hid (Below w1.heap.size w1 w2) := HBB.out.trans (hb2.mono HBB.out.size)
  have HR2 : Hid (w2.ownsRow (w1.heap.size + 1) 3 1 (.slice ra (Gate.walkAll (Gate.readsN s ms) s.fs.length).2.row.length rcap) (Gate.walkAll (Gate.readsN s ms) s.fs.length).2.row.length (nats (Gate.walkAll (Gate.readsN s ms) s.fs.length).2.row)) := by
    have := hrow; rw [World.size_alloc] at this; exact this
  have HU2 : Hid (w2.heap[w1.heap.size]? = some (.cells #[.string o.kd, .string o.nm, .string o.tm, .slice a o.vs.length dap, .bool o.en, .slice a' o.hs.length dap', .int .i64 o.vr] 30)) := (hb2.block _ (by simp)).trans (alloc_at _ _)
  have HTP : Hid (Gate.Topo (Gate.readsN s ms) s.fs.length (Gate.walkAll (Gate.readsN s ms) s.fs.length).2.row) := Gate.walkAll_topo (fun p hp q hq => by
    unfold Gate.readsN at hq
    obtain ⟨x, hx, rfl⟩ := List.mem_map.1 hq
    have := HH.out.2.2.2.2.2.1 p hp x hx
    omega) HWK.out
  have hz2 : w1.heap.size < w2.heap.size := (Array.getElem?_eq_some_iff.1 HU2.out).1
  have HRL : Hid ((Gate.walkAll (Gate.readsN s ms) s.fs.length).2.row.length ≤ 6) := by
    have h1 := Gate.length_le_of (Gate.walkAll (Gate.readsN s ms) s.fs.length).2.row (List.range s.fs.length) HTP.out.nodup (fun x hx => List.mem_range.2 ((HTP.out.mem x).1 hx))
    have h2 := HH.out.2.2.2.2.1
    rw [List.length_range] at h1
    show _ ≤ _; omega
  clear h hrow hb2 hX1
  go_wp2_with fail
  go_loopw [22] (fun iv wr => ∃ j : Nat, j ≤ (Gate.walkAll (Gate.readsN s ms) s.fs.length).2.row.length ∧ iv = .int .i64 j ∧ TxtsOwn (w.heap.size + 1 + 1 + 1) wr a (Gate.turnRow (Gate.decided s ms) ((Gate.walkAll (Gate.readsN s ms) s.fs.length).2.row.take j) o.vs) ∧ TxtsOwn m wr a' o.hs ∧ wr.heap[w.heap.size + 1 + 1]? = some (.cells #[.string ByteArray.empty, .string ByteArray.empty, .string ByteArray.empty, .slice none 0 0, .bool false, .slice none 0 0, .int .i64 0] 30) ∧ wr.heap[w1.heap.size]? = some (.cells #[.string o.kd, .string o.nm, .string o.tm, .slice a o.vs.length dap, .bool o.en, .slice a' o.hs.length dap', .int .i64 o.vr] 30) ∧ wr.heap[w.heap.size]? = some (.cells #[.string s.kd, .slice fa s.fs.length fcap] 69) ∧ wr.ownsRow (w1.heap.size + 1) 3 1 (.slice ra (Gate.walkAll (Gate.readsN s ms) s.fs.length).2.row.length rcap) (Gate.walkAll (Gate.readsN s ms) s.fs.length).2.row.length (nats (Gate.walkAll (Gate.readsN s ms) s.fs.length).2.row) ∧ Below w.heap.size w wr) (fun iv _ => (Gate.walkAll (Gate.readsN s ms) s.fs.length).2.row.length - (intOf iv).toNat)
  case atStart => exact ⟨0, Nat.zero_le _, rfl, HT.out.1.mono HBC.out, HT.out.2.2.2.mono HBC.out, (HBC.out.block _ hz1).trans HR1.out, HU2.out, (HBC.out.block _ hz0).trans HS1.out, HR2.out, HB1.out.trans (HBC.out.mono HB1.out.size)⟩
  case round =>
    obtain ⟨j, hj, rfl, hinv⟩ := hrel
    have HI : Hid (TxtsOwn (w.heap.size + 1 + 1 + 1) wr a (Gate.turnRow (Gate.decided s ms) ((Gate.walkAll (Gate.readsN s ms) s.fs.length).2.row.take j) o.vs) ∧ TxtsOwn m wr a' o.hs ∧ wr.heap[w.heap.size + 1 + 1]? = some (.cells #[.string ByteArray.empty, .string ByteArray.empty, .string ByteArray.empty, .slice none 0 0, .bool false, .slice none 0 0, .int .i64 0] 30) ∧ wr.heap[w1.heap.size]? = some (.cells #[.string o.kd, .string o.nm, .string o.tm, .slice a o.vs.length dap, .bool o.en, .slice a' o.hs.length dap', .int .i64 o.vr] 30) ∧ wr.heap[w.heap.size]? = some (.cells #[.string s.kd, .slice fa s.fs.length fcap] 69) ∧ wr.ownsRow (w1.heap.size + 1) 3 1 (.slice ra (Gate.walkAll (Gate.readsN s ms) s.fs.length).2.row.length rcap) (Gate.walkAll (Gate.readsN s ms) s.fs.length).2.row.length (nats (Gate.walkAll (Gate.readsN s ms) s.fs.length).2.row) ∧ Below w.heap.size w wr) := hinv
    clear hinv
    by_cases hlt : j < (Gate.walkAll (Gate.readsN s ms) s.fs.length).2.row.length
    · have hltI : (j : Int) < ((Gate.walkAll (Gate.readsN s ms) s.fs.length).2.row.length : Int) := by omega
      have hqn : (Gate.walkAll (Gate.readsN s ms) s.fs.length).2.row[j] < s.fs.length := (HTP.out.mem _).1 (List.getElem_mem hlt)
      obtain ⟨rg, rfl, hrc⟩ : ∃ rg, ra = some ⟨rg, 0, none⟩ ∧ wr.cell? ⟨rg, j, none⟩ = some (.int .i64 (((Gate.walkAll (Gate.readsN s ms) s.fs.length).2.row[j] : Nat) : Int)) := by
        have hrow := HI.out.2.2.2.2.2.1
        obtain ⟨_, ⟨h0, h1⟩ | ⟨g, cp, cur, h0, h1⟩⟩ := id hrow
        · rw [h1] at hlt; exact absurd hlt (by omega)
        · cases h0
          refine ⟨g, rfl, ?_⟩
          rw [hrow.cellAt j (by omega)]
          simp [nats, hlt]
      have HTS : Hid ((Gate.turnRow (Gate.decided s ms) ((Gate.walkAll (Gate.readsN s ms) s.fs.length).2.row.take (j + 1)) o.vs) = (Gate.turnRow (Gate.decided s ms) ((Gate.walkAll (Gate.readsN s ms) s.fs.length).2.row.take j) o.vs).set (Gate.walkAll (Gate.readsN s ms) s.fs.length).2.row[j] (Gate.decided s ms (Gate.walkAll (Gate.readsN s ms) s.fs.length).2.row[j] (Gate.turnRow (Gate.decided s ms) ((Gate.walkAll (Gate.readsN s ms) s.fs.length).2.row.take j) o.vs))) := by
        unfold Hid
        rw [List.take_succ_eq_append_getElem hlt, Gate.turnRow_append]
        rfl
      have HTL : Hid ((Gate.turnRow (Gate.decided s ms) ((Gate.walkAll (Gate.readsN s ms) s.fs.length).2.row.take j) o.vs).length = o.vs.length) := Gate.turnRow_length _ _ _
      have HSML : Hid (∀ x ∈ (Gate.turnRow (Gate.decided s ms) ((Gate.walkAll (Gate.readsN s ms) s.fs.length).2.row.take j) o.vs), x.size ≤ maxLen) := Gate.turnRow_small HH.out.2.1.small _ _ HH.out.2.2.2.2.2.2
      have hvl : 0 < o.vs.length := by rw [HH.out.2.2.1]; omega
      obtain ⟨g, C, hga, hgl, hgh, hgc⟩ : ∃ g C, a = some ⟨g, 0, none⟩ ∧ w.heap.size + 1 + 1 + 1 ≤ g ∧ wr.heap[g]? = some (.cells C 9) ∧ ∀ i (h : i < (Gate.turnRow (Gate.decided s ms) ((Gate.walkAll (Gate.readsN s ms) s.fs.length).2.row.take j) o.vs).length), C[i]? = some (.string (Gate.turnRow (Gate.decided s ms) ((Gate.walkAll (Gate.readsN s ms) s.fs.length).2.row.take j) o.vs)[i]) := by
        rcases HI.out.1 with ⟨_, h0⟩ | h0
        · have := HTL.out; rw [h0] at this; simp at this; omega
        · exact h0
      have hgm : g < m := HT.out.2.1 _ hga
      have hgw1 : g < w1.heap.size := HT.out.1.lt _ hga
      subst hga
      revert hqn hrc HTS
      generalize (Gate.walkAll (Gate.readsN s ms) s.fs.length).2.row[j] = q
      intro hqn hrc HTS
      have hqv : q < o.vs.length := by rw [HH.out.2.2.1]; exact hqn
      have hqI : (q : Int) < (o.vs.length : Int) := by omega
      have HCS : Hid (C.size = C.size ∧ q < C.size) := by
        refine ⟨rfl, ?_⟩
        rcases Nat.lt_or_ge q C.size with h1 | h1
        · exact h1
        · have h2 := hgc q (by rw [HTL.out]; exact hqv)
          rw [Array.getElem?_eq_none h1] at h2; cases h2
      have hOc := block_cells HI.out.2.2.2.1
      have hSc := block_cells HI.out.2.2.2.2.1
      have hzw : w1.heap.size < wr.heap.size := (Array.getElem?_eq_some_iff.1 HI.out.2.2.2.1).1
      have HST : Hid (StrsAt wr (some ⟨g, 0, none⟩) (Gate.turnRow (Gate.decided s ms) ((Gate.walkAll (Gate.readsN s ms) s.fs.length).2.row.take j) o.vs)) := HI.out.1.at (by rw [HTL.out]; unfold maxLen; omega) HSML.out
      have HBD : Hid (Below w.heap.size w wr.drew ∧ Below wr.heap.size wr wr.drew) := ⟨HI.out.2.2.2.2.2.2.drew, (Below.refl _ _).drew⟩
      have HGH : Hid (wr.heap[g]? = some (.cells C 9)) := hgh
      clear hgh hgc
      go_wp2_with fail
      clear hrc
      have hbd := HBD.out.2
      have hOd := box_later hOc hzw hbd
      have hSd := box_later hSc (by omega) hbd
      have HDV : Hid (∀ W, Below wr.heap.size wr W → Calls Tryz.prog 70 #[.agg #[.string s.kd, .slice fa s.fs.length fcap], .slice ma ms.length mcap, .slice (some ⟨g, 0, none⟩) o.vs.length dap, .int .i64 (q : Int)] W fun e w' => e = .returned (.string (Gate.decided s ms q (Gate.turnRow (Gate.decided s ms) ((Gate.walkAll (Gate.readsN s ms) s.fs.length).2.row.take j) o.vs))) ∧ Below W.heap.size W w') := by
        intro W hb
        have hbw := HI.out.2.2.2.2.2.2.trans (hb.mono HI.out.2.2.2.2.2.2.size)
        have h := decidedValue_any s ms (Gate.turnRow (Gate.decided s ms) ((Gate.walkAll (Gate.readsN s ms) s.fs.length).2.row.take j) o.vs) q fa ma (some ⟨g, 0, none⟩) fcap mcap dap W (HH.out.1.mono hbw) (HH.out.2.1.mono hbw) (HST.out.mono hb) (by rw [HTL.out]; exact HH.out.2.2.1) hqn
        rw [HTL.out] at h
        exact h
      go_region_held3 (fun w' => (∀ k, w'.cell? ⟨w1.heap.size, k, none⟩ = (#[.string o.kd, .string o.nm, .string o.tm, .slice (some ⟨g, 0, none⟩) o.vs.length dap, .bool o.en, .slice a' o.hs.length dap', .int .i64 o.vr] : Array Value)[k]?) ∧ ∀ k, w'.cell? ⟨w.heap.size, k, none⟩ = (#[.string s.kd, .slice fa s.fs.length fcap] : Array Value)[k]?) (first | (refine ⟨fun k => ?_, fun k => ?_⟩; rw [hOd]; rw [hSd]) | (refine ⟨fun k => ?_, fun k => ?_⟩; rw [hqo]; rw [hqs])) (first
        | (go_at_call 70; refine (HDV.out _ hbd).mono ?_; rintro e w5 ⟨rfl, hb5⟩; have hbd := hbd.trans (hb5.mono hbd.size); have hOd := box_later hOc hzw hbd; have hSd := box_later hSc (by omega) hbd; have hg5 := (hbd.block g (by omega)).trans HGH.out; have hcg : w5.cell? ⟨g, q, none⟩ = some (C[q]'HCS.out.2) := (by rw [cell_of_block hg5]; exact Array.getElem?_eq_getElem HCS.out.2); have hfg : w5.frozen? ⟨g, q, none⟩ = false := frozen_of_block hg5; have hqo : ∀ k, (w5.setCell ⟨g, q, none⟩ (.string (Gate.decided s ms q (Gate.turnRow (Gate.decided s ms) ((Gate.walkAll (Gate.readsN s ms) s.fs.length).2.row.take j) o.vs)))).cell? ⟨w1.heap.size, k, none⟩ = (#[.string o.kd, .string o.nm, .string o.tm, .slice (some ⟨g, 0, none⟩) o.vs.length dap, .bool o.en, .slice a' o.hs.length dap', .int .i64 o.vr] : Array Value)[k]? := (fun k => (cell_setCell_other (by show w1.heap.size ≠ g; omega)).trans (hOd k)); have hqs : ∀ k, (w5.setCell ⟨g, q, none⟩ (.string (Gate.decided s ms q (Gate.turnRow (Gate.decided s ms) ((Gate.walkAll (Gate.readsN s ms) s.fs.length).2.row.take j) o.vs)))).cell? ⟨w.heap.size, k, none⟩ = (#[.string s.kd, .slice fa s.fs.length fcap] : Array Value)[k]? := (fun k => (cell_setCell_other (by show w.heap.size ≠ g; omega)).trans (hSd k)); have HBE : Hid (Below wr.heap.size wr w5) := hbd; clear hb5 hg5))
      go_wp2_with fail
      obtain ⟨i1, i2, i3, i4, i5, i6, i7⟩ := HI.out
      have hE := HBE.out
      refine ⟨⟨j + 1, by omega, by rw [wrap_one (by have := HRL.out; omega)], ?_, (i2.mono hE).setCell _ hgm _, (Below.heap_setCell _ _ _ _ (by show w.heap.size + 1 + 1 ≠ g; omega)).trans ((hE.block _ (by omega)).trans i3), (Below.heap_setCell _ _ _ _ (by show w1.heap.size ≠ g; omega)).trans ((hE.block _ hzw).trans i4), (Below.heap_setCell _ _ _ _ (by show w.heap.size ≠ g; omega)).trans ((hE.block _ (by omega)).trans i5), ?_, (i7.trans (hE.mono i7.size)).setCell (p := ⟨g, q, none⟩) (by show w.heap.size ≤ g; omega) _⟩, step_less hlt (by have := HRL.out; omega)⟩
      · rw [HTS.out]; exact (i1.mono hE).set q _
      · refine ownsRow_same (ownsRow_later i6 hE) (fun g' hg' => Below.heap_setCell _ _ _ _ ?_)
        have := (i6.lt g' hg').1
        show g' ≠ g
        omega
    · have e : j = (Gate.walkAll (Gate.readsN s ms) s.fs.length).2.row.length := by omega
      obtain ⟨i1, i2, i3, i4, i5, i6, i7⟩ := HI.out
      rw [e, List.take_of_length_le (Nat.le_refl _)] at i1
      have hRc : ∀ k, wr.cell? ⟨w.heap.size + 1 + 1, k, none⟩ = (#[.string ByteArray.empty, .string ByteArray.empty, .string ByteArray.empty, .slice none 0 0, .bool false, .slice none 0 0, .int .i64 0] : Array Value)[k]? := fun k => cell_of_block i3
      have hRf : ∀ k, wr.frozen? ⟨w.heap.size + 1 + 1, k, none⟩ = false := fun k => frozen_of_block i3
      have hOc := block_cells i4
      have HX : Hid (TxtsOwn (w.heap.size + 1 + 1 + 1) wr a (Gate.turnRow (Gate.decided s ms) (Gate.walkAll (Gate.readsN s ms) s.fs.length).2.row o.vs) ∧ TxtsOwn m wr a' o.hs ∧ Below w.heap.size w wr) := ⟨i1, i2, i7⟩
      clear i1 i2 i3 i4 i5 i6 i7 HI
      subst e
      go_wp2_with fail
      refine bodyPost_ret (v := (.agg #[.string o.kd, .string o.nm, .string o.tm, .slice a o.vs.length dap, .bool o.en, .slice a' o.hs.length dap', .int .i64 o.vr])) (by simp [results, Tryz.results43, go_sem, hRc]) rfl ?_
      obtain ⟨ht, ht', hB⟩ := HX.out
      exact ⟨a, dap, a', dap', m, rfl, (put7_own ht _ (by omega) _ _ _ _ _ _ _).low (by omega), HT.out.2.1, by have := HT.out.2.2.1; omega, put7_own ht' _ (by have := HT.out.2.2.1; omega) _ _ _ _ _ _ _, put7_below hB _ (by omega) _ _ _ _ _ _ _⟩

end Go.Proofs.YtponiggfclcbgaaGreat

namespace Go.Proofs.YtponiggfclcbgaaGreat
open Go.RowKit

namespace Gate
/-- An object with its unset values filled. -/
def filledOb (ss : List Shp) (o : Ob) : Ob := ⟨o.kd, o.nm, o.tm, fillVs (shapeOf ss o.kd).fs o.vs, o.en, o.hs, o.vr⟩
/-- The values that GateShaped leaves. -/
def shapedRes (ss : List Shp) (ms : List Mnd) (o : Ob) : List ByteArray := if mendable ss ms o = true then mendVs ss ms (filledOb ss o) else o.vs
theorem filled_len {ss : List Shp} {ms : List Mnd} {o : Ob} (h : mendable ss ms o = true) : (filledOb ss o).vs.length = o.vs.length := fillVs_length (mend_facts h).1
theorem shapedRes_length (ss : List Shp) (ms : List Mnd) (o : Ob) : (shapedRes ss ms o).length = o.vs.length := by
  unfold shapedRes
  split
  · rename_i h; rw [← filled_len h]; exact turnRow_length _ _ _
  · rfl
end Gate

theorem fillVs_small {fs : List Fld} {vs : List ByteArray} (hf : FldsSmall fs) (hv : ∀ s ∈ vs, s.size ≤ maxLen) (hl : vs.length = fs.length) : ∀ s ∈ Gate.fillVs fs vs, s.size ≤ maxLen := by
  intro s hm
  obtain ⟨i, hi, rfl⟩ := List.mem_iff_getElem.1 hm
  have h2 := Gate.fillVs_length hl
  have e : (Gate.fillVs fs vs)[i] = Gate.fillVal (fs[i]'(by omega)) (vs[i]'(by omega)) := by simp [Gate.fillVs]
  rw [e]
  unfold Gate.fillVal
  split
  · exact mem_df hf _ (List.getElem_mem _)
  · exact hv _ (List.getElem_mem _)

theorem mended_us (o : Ob) (us : List ByteArray) (hnn : us.length = o.vs.length) (s : Shp) (ms : List Mnd) (fa ma ova oha : Option Addr) (fcap mcap cap cap' : Nat) (w : World) (hf : FldsAt w fa s.fs) (hm : MndsAt w ma ms) (hsm : o.Small) (ho : StrsAt w ova us) (ho' : StrsAt w oha o.hs) (hA : OwnA ova us) (hA' : OwnA oha o.hs) (hl : o.vs.length ≤ 1048576) (hl' : o.hs.length ≤ 1048576) (hc : o.vs.length = s.fs.length)
    (hml : ms.length ≤ 1048576) (hn : s.fs.length ≤ 6) (hrd : ∀ q, q < s.fs.length → ∀ x ∈ Gate.readsI s ms q, 0 ≤ x ∧ x < s.fs.length) (hwk : (Gate.walkAll (Gate.readsN s ms) s.fs.length).1 = true) :
    Calls Tryz.prog 43 #[.agg #[.string s.kd, .slice fa s.fs.length fcap], .slice ma ms.length mcap, .agg #[.string o.kd, .string o.nm, .string o.tm, .slice ova o.vs.length cap, .bool o.en, .slice oha o.hs.length cap', .int .i64 o.vr]] w
      fun e w' => ∃ a dap a' dap' m, e = .returned (.agg #[.string o.kd, .string o.nm, .string o.tm, .slice a o.vs.length dap, .bool o.en, .slice a' o.hs.length dap', .int .i64 o.vr]) ∧ TxtsOwn w.heap.size w' a (Gate.turnRow (Gate.decided s ms) (Gate.walkAll (Gate.readsN s ms) s.fs.length).2.row us) ∧ (∀ g, a = some g → g.block < m) ∧ w.heap.size ≤ m ∧ TxtsOwn m w' a' o.hs ∧ Below w.heap.size w w' := by
  have h := mended_gen ⟨o.kd, o.nm, o.tm, us, o.en, o.hs, o.vr⟩ s ms fa ma ova oha fcap mcap cap cap' w hf hm ⟨⟨hsm.kd, hsm.nm, hsm.tm⟩, ho, ho'⟩ hA hA' (by show us.length ≤ _; omega) hl' (by show us.length = _; omega) hml hn hrd hwk
  simp only [hnn] at h
  exact h

set_option maxRecDepth 20000 in
set_option maxHeartbeats 4000000 in
theorem implShaped_any (a0 ma : Option Addr) (cap0 mcap : Nat) (ss : List Shp) (ms : List Mnd) (o : Ob) (b off b' off' cap cap' : Nat) (w : World) (hw : ShpsAt w a0 ss) (hm : MndsAt w ma ms) (ho : ObAt w o (some ⟨b, off, none⟩) (some ⟨b', off', none⟩)) (hl : o.vs.length ≤ 1048576) (hl' : o.hs.length ≤ 1048576) (hml : ms.length ≤ 1048576) :
    Calls Tryz.prog 22 #[.slice a0 ss.length cap0, .slice ma ms.length mcap, .agg #[.string o.kd, .string o.nm, .string o.tm, .slice (some ⟨b, off, none⟩) o.vs.length cap, .bool o.en, .slice (some ⟨b', off', none⟩) o.hs.length cap', .int .i64 o.vr]] w (FillPost o (Gate.shapedRes ss ms o) w) := by
  have HH : Hid (ShpsAt w a0 ss ∧ MndsAt w ma ms ∧ ObAt w o (some ⟨b, off, none⟩) (some ⟨b', off', none⟩) ∧ o.vs.length ≤ maxLen) := ⟨hw, hm, ho, ho.vals.len⟩
  clear hw hm ho
  by_cases hmd : Gate.mendable ss ms o = true
  · have hmd : Gate.mendable ss ms o = true := hmd

    have HFA : Hid _ := Gate.mend_facts hmd
    have HRES : Hid (Gate.shapedRes ss ms o = Gate.mendVs ss ms (Gate.filledOb ss o)) := by unfold Hid Gate.shapedRes; rw [if_pos hmd]
    go_enter Tryz.func22, Tryz.ntmps22
    go_wp2_with fail
    have hb2 := below2' w (.cells #[.string o.kd, .string o.nm, .string o.tm, .slice (some ⟨b, off, none⟩) o.vs.length cap, .bool o.en, .slice (some ⟨b', off', none⟩) o.hs.length cap', .int .i64 o.vr] 30) (.cells #[.string ByteArray.empty, .string ByteArray.empty, .string ByteArray.empty, .slice none 0 0, .bool false, .slice none 0 0, .int .i64 0] 30)
    have h1 := mendShape_any a0 ma cap0 mcap ss ms o (some ⟨b, off, none⟩) (some ⟨b', off', none⟩) cap cap' _ (HH.out.1.mono hb2) (HH.out.2.1.mono hb2) hml HH.out.2.2.2
    rw [hmd] at h1
    refine h1.mono ?_
    rintro e w1 ⟨fa, fcap, rfl, hfl0, hb1⟩
    have HFL : Hid (FldsAt w1 fa (Gate.shapeOf ss o.kd).fs) := hfl0.mono hb1
    have HO1 : Hid (w1.heap[w.heap.size]? = some (.cells #[.string o.kd, .string o.nm, .string o.tm, .slice (some ⟨b, off, none⟩) o.vs.length cap, .bool o.en, .slice (some ⟨b', off', none⟩) o.hs.length cap', .int .i64 o.vr] 30)) := (hb1.block w.heap.size (by simp; omega)).trans (two_blocks _ _ _).1
    have HR1 : Hid (w1.heap[w.heap.size + 1]? = some (.cells #[.string ByteArray.empty, .string ByteArray.empty, .string ByteArray.empty, .slice none 0 0, .bool false, .slice none 0 0, .int .i64 0] 30)) := (hb1.block (w.heap.size + 1) (by simp)).trans (two_blocks _ _ _).2
    have hX1 : ∀ j, w1.cell? ⟨w.heap.size, j, none⟩ = (#[.string o.kd, .string o.nm, .string o.tm, .slice (some ⟨b, off, none⟩) o.vs.length cap, .bool o.en, .slice (some ⟨b', off', none⟩) o.hs.length cap', .int .i64 o.vr] : Array Value)[j]? := fun j => cell_of_block HO1.out
    have hz1 : w.heap.size + 1 < w1.heap.size := by have := hb1.size; simp at this; omega
    have hz0 : w.heap.size < w1.heap.size := by omega
    have hB1 : Below w.heap.size w w1 := hb2.trans (hb1.mono (by simp; omega))
    clear h1 hb1 hfl0 hb2 hmd
    go_wp2_with fail
    have hbs := (Below.refl w1.heap.size w1).alloc (Nat.le_refl _) (.cells #[.string (Gate.shapeOf ss o.kd).kd, .slice fa (Gate.shapeOf ss o.kd).fs.length fcap] 69)
    have hRW := (hbs.block _ hz1).trans HR1.out
    have hzW : w.heap.size + 1 < (w1.alloc (.cells #[.string (Gate.shapeOf ss o.kd).kd, .slice fa (Gate.shapeOf ss o.kd).fs.length fcap] 69)).heap.size := Nat.lt_of_lt_of_le hz1 hbs.size
    have hBW := hB1.trans (hbs.mono hB1.size)
    have hFW := HFL.out.mono hbs
    clear hbs
    obtain ⟨W2, hW2⟩ : ∃ W2, W2 = (w1.alloc (.cells #[.string (Gate.shapeOf ss o.kd).kd, .slice fa (Gate.shapeOf ss o.kd).fs.length fcap] 69)) := ⟨_, rfl⟩
    have hS2 : ∀ j, W2.drew.cell? ⟨w1.heap.size, j, none⟩ = (#[.string (Gate.shapeOf ss o.kd).kd, .slice fa (Gate.shapeOf ss o.kd).fs.length fcap] : Array Value)[j]? := by rw [hW2]; exact box_new w1 _ _
    have hS1 : ∀ j, W2.drew.cell? ⟨w.heap.size, j, none⟩ = (#[.string o.kd, .string o.nm, .string o.tm, .slice (some ⟨b, off, none⟩) o.vs.length cap, .bool o.en, .slice (some ⟨b', off', none⟩) o.hs.length cap', .int .i64 o.vr] : Array Value)[j]? := by rw [hW2]; exact box_later hX1 hz0 ((Below.refl _ _).alloc (Nat.le_refl _) _).drew
    have hzs : w1.heap.size < W2.drew.heap.size := by rw [hW2]; show w1.heap.size < (w1.alloc (.cells #[.string (Gate.shapeOf ss o.kd).kd, .slice fa (Gate.shapeOf ss o.kd).fs.length fcap] 69)).heap.size; simp
    rw [← hW2] at hRW hzW hBW hFW ⊢
    clear hW2 hX1
    have hb := (Below.refl W2.heap.size W2).drew
    have hlW : W2.heap.size = W2.drew.heap.size := rfl
    have hzo : w.heap.size < W2.drew.heap.size := by omega
    go_region_held3 (fun w' => (∀ j, w'.cell? ⟨w.heap.size, j, none⟩ = (#[.string o.kd, .string o.nm, .string o.tm, .slice (some ⟨b, off, none⟩) o.vs.length cap, .bool o.en, .slice (some ⟨b', off', none⟩) o.hs.length cap', .int .i64 o.vr] : Array Value)[j]?) ∧ ∀ j, w'.cell? ⟨w1.heap.size, j, none⟩ = (#[.string (Gate.shapeOf ss o.kd).kd, .slice fa (Gate.shapeOf ss o.kd).fs.length fcap] : Array Value)[j]?) (first | exact ⟨fun j => by rw [hS1], fun j => by rw [hS2]⟩ | exact ⟨fun j => by rw [hS3], fun j => by rw [hS4]⟩) (first
      | (go_at_call 52; refine (filled_any o (Gate.shapeOf ss o.kd).kd (Gate.shapeOf ss o.kd).fs _ _ b off b' off' cap cap' _ (by exact hFW.mono hb) (by exact HH.out.2.2.1.mono (hBW.trans (hb.mono hBW.size))) hl hl' HFA.out.1).mono ?_; rintro e w5 ⟨a5, dap5, a5', dap5', m5, rfl, ht5, hm5, hsm5, ht5', hb5⟩; have hS1 := box_later hS1 hzo hb5; have hS2 := box_later hS2 hzs hb5; have hb := hb.trans (hb5.mono hb.size); have hO5 : StrsAt w5 a5 (Gate.fillVs (Gate.shapeOf ss o.kd).fs o.vs) := ht5.at (by rw [Gate.fillVs_length HFA.out.1]; exact HH.out.2.2.2) (fillVs_small hFW.smalls HH.out.2.2.1.vals.small HFA.out.1); have hO5' : StrsAt w5 a5' o.hs := ht5'.at HH.out.2.2.1.holds.len HH.out.2.2.1.holds.small; have hA5 := ht5.ownA; have hA5' := ht5'.ownA; clear ht5 hm5 hsm5 ht5' hb5)
      | (go_at_call 43; refine (mended_us o (Gate.fillVs (Gate.shapeOf ss o.kd).fs o.vs) (Gate.fillVs_length HFA.out.1) (Gate.shapeOf ss o.kd) ms _ _ _ _ _ _ _ _ _ (by exact hFW.mono hb) (by exact HH.out.2.1.mono (hBW.trans (hb.mono hBW.size))) HH.out.2.2.1.small (by exact hO5) (by exact hO5') hA5 hA5' hl hl' HFA.out.1 hml HFA.out.2.1 HFA.out.2.2.1 HFA.out.2.2.2).mono ?_; rintro e w6 ⟨a, dap, a', dap', m, rfl, ht, hm, hsm, ht', hb6⟩; have hR6 : w6.heap[w.heap.size + 1]? = some (.cells #[.string ByteArray.empty, .string ByteArray.empty, .string ByteArray.empty, .slice none 0 0, .bool false, .slice none 0 0, .int .i64 0] 30) := ((hb.trans (hb6.mono hb.size)).block (w.heap.size + 1) hzW).trans hRW; have hS1 := fun j => (hb6.cell (p := ⟨w.heap.size, j, none⟩) (Nat.lt_of_lt_of_le hzo hb.size)).trans (hS1 j); have hS2 := fun j => (hb6.cell (p := ⟨w1.heap.size, j, none⟩) (Nat.lt_of_lt_of_le hzs hb.size)).trans (hS2 j); have hS3 := fun j => (cell_set7 (g := w.heap.size + 1) (by omega : w.heap.size ≠ w.heap.size + 1) (v0 := .string o.kd) (v1 := .string o.nm) (v2 := .string o.tm) (v3 := .slice a o.vs.length dap) (v4 := .bool o.en) (v5 := .slice a' o.hs.length dap') (v6 := .int .i64 o.vr)).trans (hS1 j); have hS4 := fun j => (cell_set7 (g := w.heap.size + 1) (by omega : w1.heap.size ≠ w.heap.size + 1) (v0 := .string o.kd) (v1 := .string o.nm) (v2 := .string o.tm) (v3 := .slice a o.vs.length dap) (v4 := .bool o.en) (v5 := .slice a' o.hs.length dap') (v6 := .int .i64 o.vr)).trans (hS2 j); have hRc := blk_cells hR6; have hRf := blk_frozen hR6; have hsz5 := hb.size; have hb := hb.trans (hb6.mono hb.size); clear hb6))
    go_wp2_with fail
    refine bodyPost_ret (v := (.agg #[.string o.kd, .string o.nm, .string o.tm, .slice a o.vs.length dap, .bool o.en, .slice a' o.hs.length dap', .int .i64 o.vr])) (by simp [results, Tryz.results22, go_sem, hRc]) rfl ?_
    rw [HRES.out]
    have hB := hBW.trans (hb.mono hBW.size)
    have h2 : w.heap.size + 1 + 1 ≤ W2.drew.heap.size := hzW
    exact ⟨a, dap, a', dap', m, rfl, (put7_own (ht.low (lo' := w.heap.size + 1 + 1) (by omega)) _ (by omega) _ _ _ _ _ _ _).low (by omega), hm, by omega, put7_own ht' _ (by omega) _ _ _ _ _ _ _, put7_below hB _ (by omega) _ _ _ _ _ _ _⟩
  · have hmd : Gate.mendable ss ms o = false := by simpa using hmd
    have HRES : Hid (Gate.shapedRes ss ms o = o.vs) := by unfold Hid Gate.shapedRes; rw [if_neg (by rw [hmd]; simp)]
    go_enter Tryz.func22, Tryz.ntmps22
    go_wp2_with fail
    have hb2 := below2' w (.cells #[.string o.kd, .string o.nm, .string o.tm, .slice (some ⟨b, off, none⟩) o.vs.length cap, .bool o.en, .slice (some ⟨b', off', none⟩) o.hs.length cap', .int .i64 o.vr] 30) (.cells #[.string ByteArray.empty, .string ByteArray.empty, .string ByteArray.empty, .slice none 0 0, .bool false, .slice none 0 0, .int .i64 0] 30)
    have h1 := mendShape_any a0 ma cap0 mcap ss ms o (some ⟨b, off, none⟩) (some ⟨b', off', none⟩) cap cap' _ (HH.out.1.mono hb2) (HH.out.2.1.mono hb2) hml HH.out.2.2.2
    rw [hmd] at h1
    refine h1.mono ?_
    rintro e w1 ⟨fa, fcap, rfl, hfl0, hb1⟩
    have HFL : Hid (FldsAt w1 fa (Gate.shapeOf ss o.kd).fs) := hfl0.mono hb1
    have HO1 : Hid (w1.heap[w.heap.size]? = some (.cells #[.string o.kd, .string o.nm, .string o.tm, .slice (some ⟨b, off, none⟩) o.vs.length cap, .bool o.en, .slice (some ⟨b', off', none⟩) o.hs.length cap', .int .i64 o.vr] 30)) := (hb1.block w.heap.size (by simp; omega)).trans (two_blocks _ _ _).1
    have HR1 : Hid (w1.heap[w.heap.size + 1]? = some (.cells #[.string ByteArray.empty, .string ByteArray.empty, .string ByteArray.empty, .slice none 0 0, .bool false, .slice none 0 0, .int .i64 0] 30)) := (hb1.block (w.heap.size + 1) (by simp)).trans (two_blocks _ _ _).2
    have hX1 : ∀ j, w1.cell? ⟨w.heap.size, j, none⟩ = (#[.string o.kd, .string o.nm, .string o.tm, .slice (some ⟨b, off, none⟩) o.vs.length cap, .bool o.en, .slice (some ⟨b', off', none⟩) o.hs.length cap', .int .i64 o.vr] : Array Value)[j]? := fun j => cell_of_block HO1.out
    have hz1 : w.heap.size + 1 < w1.heap.size := by have := hb1.size; simp at this; omega
    have hz0 : w.heap.size < w1.heap.size := by omega
    have hB1 : Below w.heap.size w w1 := hb2.trans (hb1.mono (by simp; omega))
    clear h1 hb1 hfl0 hb2 hmd
    go_wp2_with fail
    have hbs := (Below.refl w1.heap.size w1).alloc (Nat.le_refl _) (.cells #[.string (Gate.shapeOf ss o.kd).kd, .slice fa (Gate.shapeOf ss o.kd).fs.length fcap] 69)
    have hRW := (hbs.block _ hz1).trans HR1.out
    have hzW : w.heap.size + 1 < (w1.alloc (.cells #[.string (Gate.shapeOf ss o.kd).kd, .slice fa (Gate.shapeOf ss o.kd).fs.length fcap] 69)).heap.size := Nat.lt_of_lt_of_le hz1 hbs.size
    have hBW := hB1.trans (hbs.mono hB1.size)
    have hFW := HFL.out.mono hbs
    clear hbs
    refine (copyObject_any o b off b' off' cap cap' _ (HH.out.2.2.1.mono hBW) hl hl').mono ?_
    rintro e w4 ⟨a, dap, a', dap', m, rfl, ht, hm, hsm, ht', hb4⟩
    have hR4 : w4.heap[w.heap.size + 1]? = some (.cells #[.string ByteArray.empty, .string ByteArray.empty, .string ByteArray.empty, .slice none 0 0, .bool false, .slice none 0 0, .int .i64 0] 30) := (hb4.block (w.heap.size + 1) hzW).trans hRW
    have hRc : ∀ j, w4.cell? ⟨w.heap.size + 1, j, none⟩ = (#[.string ByteArray.empty, .string ByteArray.empty, .string ByteArray.empty, .slice none 0 0, .bool false, .slice none 0 0, .int .i64 0] : Array Value)[j]? := fun j => cell_of_block hR4
    have hRf : ∀ j, w4.frozen? ⟨w.heap.size + 1, j, none⟩ = false := fun j => frozen_of_block hR4
    have HX : Hid (TxtsOwn (w.heap.size + 1 + 1) w4 a (o.vs) ∧ (∀ g, a = some g → g.block < m) ∧ w.heap.size + 1 + 1 ≤ m ∧ TxtsOwn m w4 a' o.hs ∧ Below w.heap.size w w4) := ⟨ht.low hzW, hm, Nat.le_trans hzW hsm, ht', hBW.trans (hb4.mono hBW.size)⟩
    clear ht hm hsm ht' hb4 hR4 hBW hRW hFW
    go_wp2_with fail
    refine bodyPost_ret (v := (.agg #[.string o.kd, .string o.nm, .string o.tm, .slice a o.vs.length dap, .bool o.en, .slice a' o.hs.length dap', .int .i64 o.vr])) (by simp [results, Tryz.results22, go_sem, hRc]) rfl ?_
    obtain ⟨ht, hm, hsm, ht', hB⟩ := HX.out
    rw [HRES.out]
    exact ⟨a, dap, a', dap', m, rfl, (put7_own ht _ (by omega) _ _ _ _ _ _ _).low (by omega), hm, by omega, put7_own ht' _ (by omega) _ _ _ _ _ _ _, put7_below hB _ (by omega) _ _ _ _ _ _ _⟩

end Go.Proofs.YtponiggfclcbgaaGreat
