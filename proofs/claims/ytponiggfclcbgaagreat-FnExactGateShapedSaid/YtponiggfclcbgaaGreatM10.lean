import Derived.Test.YtponiggfclcbgaaGreatM09
import Derived.Test.YtponiggfclcbgaaGreatM03
namespace Go.Proofs.YtponiggfclcbgaaGreat
open Go.RowKit

/-- The marks from k on, n of them. -/
def markTxts (k n : Nat) : List ByteArray := (List.range n).map fun i => Gate.markTxt (k + i)
theorem markTxts_length (k n : Nat) : (markTxts k n).length = n := by simp [markTxts]
theorem markTxts_at (k n i : Nat) (h : i < (markTxts k n).length) : (markTxts k n)[i] = Gate.markTxt (k + i) := by simp [markTxts]

theorem TxtsOwn.form {lo : Nat} {w : World} {g : Addr} {ws : List ByteArray} (h : TxtsOwn lo w (some g) ws) : ∃ b C, g = ⟨b, 0, none⟩ ∧ lo ≤ b ∧ w.heap[b]? = some (.cells C 9) ∧ ws.length ≤ C.size ∧ ∀ j, j < ws.length → NoSlice C j := by
  rcases h with ⟨h0, _⟩ | ⟨b, C, h0, hg, hh, hc⟩
  · cases h0
  · cases h0
    refine ⟨b, C, rfl, hg, hh, ?_, fun j hj a n c he => by rw [hc j hj] at he; cases he⟩
    rcases Nat.lt_or_ge C.size ws.length with hlt | hge
    · have := hc C.size hlt
      rw [Array.getElem?_eq_none (Nat.le_refl _)] at this; cases this
    · exact hge

theorem markStringS_own (lo cap : Nat) (a : Option Addr) (vs : List ByteArray) (k : Nat) (w : World) (h : TxtsOwn lo w a vs) (hk : 0 < k) (hkn : k + vs.length < 9000000000000000000) :
    Calls Tryz.prog 49 #[.slice a vs.length cap, .int .i64 k] w fun e w' => e = .returned (.int .i64 ((k + vs.length : Nat) : Int)) ∧ TxtsOwn lo w' a (markTxts k vs.length) ∧ Marked lo w.heap.size w w' ∧ (a = none → w' = w) ∧ ∀ g, a = some g → Marked g.block (g.block + 1) w w' := by
  rcases a with _ | g
  · rcases h with ⟨_, rfl⟩ | ⟨_, _, h0, _⟩
    · exact (markStringS_none (k : Int) none cap w).mono fun e w' ⟨h1, h2⟩ => ⟨by simpa using h1, by subst h2; exact Or.inl ⟨rfl, rfl⟩, by subst h2; exact Marked.refl _ _ _, fun _ => h2, fun g hg => by cases hg⟩
    · cases h0
  · obtain ⟨b, C, rfl, hlo, hC, hs, hns⟩ := h.form
    refine (markStringS_any b vs.length cap C k w hC hs hns hk hkn).mono fun e w' ⟨h1, h2, C', hC', hs', hc'⟩ => ⟨h1, Or.inr ⟨b, C', rfl, hlo, hC', fun i hi => ?_⟩, h2.wide hlo (Array.getElem?_eq_some_iff.1 hC).1, fun h0 => (by cases h0), fun g hg => by cases hg; exact h2⟩
    rw [markTxts_length] at hi
    rw [hc' i hi, markTxts_at]

theorem int_nat {k : Int} {n : Nat} (h : k = (n : Int)) : Value.int .i64 k = Value.int .i64 (n : Int) := by rw [h]

set_option maxHeartbeats 1000000 in
theorem markGateObject_form (lo hi : Nat) (o : Ob) (b b' cap cap' : Nat) (k : Int) (w : World) (h : TxtsForm lo hi w b o.vs.length) (h' : TxtsForm lo hi w b' o.hs.length) (hl : o.vs.length ≤ 1048576) (hl' : o.hs.length ≤ 1048576) (hhi : hi ≤ w.heap.size) (hk : 0 < k) (hk2 : k < 7000000000000000000) :
    Calls Tryz.prog 19 #[.agg #[.string o.kd, .string o.nm, .string o.tm, .slice (some ⟨b, 0, none⟩) o.vs.length cap, .bool o.en, .slice (some ⟨b', 0, none⟩) o.hs.length cap', .int .i64 o.vr], .int .i64 k] w
      fun e w' => ∃ k', e = .returned (.int .i64 k') ∧ 0 < k' ∧ Marked lo hi w w' := by
  go_enter Tryz.func19, Tryz.ntmps19
  have HK : Hid (0 < k ∧ k < 7000000000000000000) := ⟨hk, hk2⟩
  clear hk hk2
  have hM0 : Marked lo hi w (w.alloc (.cells #[.string o.kd, .string o.nm, .string o.tm, .slice (some ⟨b, 0, none⟩) o.vs.length cap, .bool o.en, .slice (some ⟨b', 0, none⟩) o.hs.length cap', .int .i64 o.vr] 30)) := Marked.of_below ((Below.refl _ _).alloc (Nat.le_refl _) _)
  go_wp2_with fail
  refine (markStringS_some lo hi b _ cap _ _ (h.mono hM0) hl HK.out.1 (by have := HK.out; omega)).mono ?_
  rintro e w1 ⟨k1, rfl, hk1, hM1⟩
  have hX1 := hM1.box (box_new w _ _) (by simp) (Or.inr hhi)
  have HM1 : Hid (Marked lo hi w w1) := hM0.trans hM1
  have HB1 : Hid (0 < k1 ∧ k1 < 8000000000000000000) := by have := HK.out; exact ⟨by omega, by omega⟩
  clear hM0 hM1 hk1 h
  go_wp2_with fail
  refine (markStringS_some lo hi b' _ cap' _ _ (h'.mono HM1.out) hl' HB1.out.1 HB1.out.2).mono ?_
  rintro e w2 ⟨k2, rfl, hk2, hM2⟩
  have HM2 : Hid (Marked lo hi w w2) := HM1.out.trans hM2
  have HB2 : Hid (0 < k2) := by have := HB1.out; show 0 < k2; omega
  clear hM2 hk2 h' hX1
  go_wp2_with fail
  go_ret
  exact ⟨k2, rfl, HB2.out, HM2.out⟩

set_option maxHeartbeats 1000000 in
theorem markGateObject_own (lo m hi : Nat) (o : Ob) (a a' : Option Addr) (cap cap' : Nat) (w : World) (h : TxtsOwn lo w a o.vs) (hm : ∀ g, a = some g → g.block < m) (hlm : lo ≤ m) (h' : TxtsOwn m w a' o.hs) (hl : o.vs.length ≤ 1048576) (hl' : o.hs.length ≤ 1048576) (hu : ∀ g, a = some g → g.block < hi) (hu' : ∀ g, a' = some g → g.block < hi) (hhi : hi ≤ w.heap.size) :
    Calls Tryz.prog 19 #[.agg #[.string o.kd, .string o.nm, .string o.tm, .slice a o.vs.length cap, .bool o.en, .slice a' o.hs.length cap', .int .i64 o.vr], .int .i64 1] w
      fun e w' => e = .returned (.int .i64 ((1 + o.vs.length + o.hs.length : Nat) : Int)) ∧ TxtsOwn lo w' a (markTxts 1 o.vs.length) ∧ TxtsOwn m w' a' (markTxts (1 + o.vs.length) o.hs.length) ∧ Marked lo hi w w' := by
  go_enter Tryz.func19, Tryz.ntmps19
  have hB0 : Below w.heap.size w (w.alloc (.cells #[.string o.kd, .string o.nm, .string o.tm, .slice a o.vs.length cap, .bool o.en, .slice a' o.hs.length cap', .int .i64 o.vr] 30)) := (Below.refl _ _).alloc (Nat.le_refl _) _
  have HALT : Hid (∀ g, a = some g → g.block < hi) := hu
  have HALT' : Hid (∀ g, a' = some g → g.block < hi) := hu'
  have HMM : Hid (∀ g, a = some g → g.block < m) := hm
  go_wp2_with fail
  refine (markStringS_own lo cap a o.vs 1 _ (h.mono hB0) (by omega) (by omega)).mono ?_
  rintro e w1 ⟨rfl, ht1, _, hn1, hg1⟩
  have hM1 : Marked lo hi (w.alloc (.cells #[.string o.kd, .string o.nm, .string o.tm, .slice a o.vs.length cap, .bool o.en, .slice a' o.hs.length cap', .int .i64 o.vr] 30)) w1 := by
    rcases a with _ | g
    · rw [hn1 rfl]; exact Marked.refl _ _ _
    · obtain ⟨b, C, rfl, hlo', hC, _⟩ := h.form
      exact (hg1 _ rfl).wide hlo' (HALT.out _ rfl)
  have hX1 := hM1.box (box_new w _ _) (by simp) (Or.inr hhi)
  have h1' : TxtsOwn m w1 a' o.hs := by
    rcases a with _ | g
    · rw [hn1 rfl]; exact h'.mono hB0
    · refine (hg1 _ rfl).txts (h'.mono hB0) (fun g' hg' => ?_)
      right
      subst hg'
      obtain ⟨b, C, rfl, hlo', _⟩ := h'.form
      have := HMM.out _ rfl
      show g.block + 1 ≤ b
      omega
  have HM1 : Hid (Marked lo hi w w1) := (Marked.of_below hB0).trans hM1
  have HT1 : Hid (TxtsOwn lo w1 a (markTxts 1 o.vs.length)) := ht1
  clear hM1 hB0 hn1 hg1 h h' ht1 hm hu hu'
  go_wp2_with fail
  rw [show ((1 : Int) + (o.vs.length : Int)) = ((1 + o.vs.length : Nat) : Int) by omega]
  refine (markStringS_own m cap' a' o.hs (1 + o.vs.length) _ h1' (by omega) (by omega)).mono ?_
  rintro e w2 ⟨rfl, ht2, _, hn2, hg2⟩
  have hM2 : Marked lo hi w1 w2 := by
    rcases a' with _ | g
    · rw [hn2 rfl]; exact Marked.refl _ _ _
    · obtain ⟨b, C, rfl, hlo', hC, _⟩ := h1'.form
      exact (hg2 _ rfl).wide (Nat.le_trans hlm hlo') (HALT'.out _ rfl)
  have HT2 : Hid (TxtsOwn lo w2 a (markTxts 1 o.vs.length)) := by
    rcases a' with _ | g
    · rw [hn2 rfl]; exact HT1.out
    · refine (hg2 _ rfl).txts HT1.out (fun g' hg' => ?_)
      left
      obtain ⟨b, C, rfl, hlo', _⟩ := h1'.form
      have := HMM.out _ hg'
      show g'.block < b
      omega
  have HU2 : Hid (TxtsOwn m w2 a' (markTxts (1 + o.vs.length) o.hs.length)) := ht2
  have HM2 : Hid (Marked lo hi w w2) := HM1.out.trans hM2
  clear hM2 hn2 hg2 ht2 h1' hX1
  go_wp2_with fail
  go_ret
  exact ⟨rfl, HT2.out, HU2.out, HM2.out⟩

set_option maxHeartbeats 1000000 in
theorem heldGateObject_any (o : Ob) (n n' : Nat) (a a' : Option Addr) (cap cap' : Nat) (w : World) (h : StrsAt w a (markTxts 1 n)) (h' : StrsAt w a' (markTxts (1 + n) n')) (hl : n ≤ 1048576) (hl' : n' ≤ 1048576) :
    Calls Tryz.prog 20 #[.agg #[.string o.kd, .string o.nm, .string o.tm, .slice a n cap, .bool o.en, .slice a' n' cap', .int .i64 o.vr], .int .i64 1] w
      fun e w' => e = .returned (.int .i64 ((1 + n + n' : Nat) : Int)) ∧ Below w.heap.size w w' := by
  go_enter Tryz.func20, Tryz.ntmps20
  have hB0 : Below w.heap.size w (w.alloc (.cells #[.string o.kd, .string o.nm, .string o.tm, .slice a n cap, .bool o.en, .slice a' n' cap', .int .i64 o.vr] 30)) := (Below.refl _ _).alloc (Nat.le_refl _) _
  go_wp2_with fail
  have h1 := heldStringS_any a cap (markTxts 1 n) 1 _ (h.mono hB0) (by omega) (by rw [markTxts_length]; omega) (fun i hi => markTxts_at _ _ _ hi)
  rw [markTxts_length] at h1
  refine h1.mono ?_
  rintro e w1 ⟨rfl, hb1⟩
  clear h1
  have hX1 := box_later (box_new w _ _) (by simp) hb1
  have hB1 := hB0.trans (hb1.mono hB0.size)
  have hneg : decide (((1 + n : Nat) : Int) < 0) = false := by simp; omega
  clear hB0 hb1 h
  go_wp2_with fail
  have h2 := heldStringS_any a' cap' (markTxts (1 + n) n') (1 + n) _ (h'.mono hB1) (by omega) (by rw [markTxts_length]; omega) (fun i hi => markTxts_at _ _ _ hi)
  rw [markTxts_length] at h2
  rw [show ((1 : Int) + (n : Int)) = ((1 + n : Nat) : Int) by omega]
  refine h2.mono ?_
  rintro e w2 ⟨rfl, hb2⟩
  have hB2 := hB1.trans (hb2.mono hB1.size)
  have hneg2 : decide (((1 + n + n' : Nat) : Int) < 0) = false := by simp; omega
  clear h2 hB1 hb2 h' hX1
  go_wp2_with fail
  go_ret
  exact ⟨rfl, hB2⟩

end Go.Proofs.YtponiggfclcbgaaGreat

namespace Go.Proofs.YtponiggfclcbgaaGreat
open Go.RowKit

set_option maxHeartbeats 400000 in
theorem Index_any (a : Option Addr) (cap : Nat) (ws : List ByteArray) (v : ByteArray) (w : World) (hw : StrsAt w a ws) :
    Calls Tryz.prog 154 #[.slice a ws.length cap, .string v] w fun e w' => ∃ r : Int, e = .returned (.int .i64 r) ∧ decide (0 ≤ r) = Gate.has ws v ∧ w' = w := by
  have hl := hw.len
  unfold maxLen at hl
  by_cases hne : ws = []
  · subst hne
    go_enter Tryz.func154, Tryz.ntmps154
    go_wp2
    go_loop [8] (fun i => i = .int .i64 0) (fun i => 0)
    case atStart => rfl
    case round =>
      subst hrel
      go_wp2
      go_ret
      exact ⟨_, rfl, rfl, rfl⟩
  · obtain ⟨b, off, rfl, hb, hc⟩ := hw.cells hne
    clear hw
    have HL : Hid (0 < ws.length) := List.length_pos_iff.2 hne
    clear hne
    go_enter Tryz.func154, Tryz.ntmps154
    go_wp2
    go_loop [8] (fun i => ∃ k : Nat, k ≤ ws.length ∧ i = .int .i64 k ∧ Gate.has (ws.take k) v = false) (fun i => ws.length - (intOf i).toNat)
    case atStart => exact ⟨0, Nat.zero_le _, rfl, rfl⟩
    case round =>
      obtain ⟨k, hk, rfl, hall⟩ := hrel
      by_cases hlt : k < ws.length
      · have hck := hc k hlt
        clear hc
        have HS : Hid (Gate.has (ws.take (k + 1)) v = (false || decide (ws[k] = v))) := by rw [Gate.has_snoc ws v k hlt, hall]; rfl
        have HN : Hid (ws[k] = v → Gate.has ws v = true) := fun h => Gate.has_at ws v k hlt h
        clear hall
        by_cases he : ws[k] = v
        · have hbe : (v.toList == ws[k].toList) = true := by rw [Gate.beq_toList]; simpa using he.symm
          have HE : Hid (ws[k] = v) := he
          clear he
          go_wp2
          go_ret
          exact ⟨_, rfl, by rw [HN.out HE.out]; simp, rfl⟩
        · have hbe : (v.toList == ws[k].toList) = false := by rw [Gate.beq_toList]; simpa using fun h => he h.symm
          have HE : Hid (¬ ws[k] = v) := he
          clear he
          go_wp2
          go_round
          case rel => exact ⟨k + 1, by omega, by go_num, by rw [HS.out, decide_eq_false HE.out]; rfl⟩
          case measure => simp [intOf]; omega
      · have HA : Hid (Gate.has ws v = false) := by rw [← Gate.has_all ws v k (by omega)]; exact hall
        clear hall hc
        go_wp2
        go_ret
        exact ⟨_, rfl, by rw [HA.out]; rfl, rfl⟩

set_option maxHeartbeats 400000 in
theorem Contains_any (a : Option Addr) (cap : Nat) (ws : List ByteArray) (v : ByteArray) (w : World) (hw : StrsAt w a ws) :
    Calls Tryz.prog 152 #[.slice a ws.length cap, .string v] w fun e w' => e = .returned (.bool (Gate.has ws v)) ∧ w' = w := by
  go_enter Tryz.func152, Tryz.ntmps152
  go_wp2_with (go_at_call 154; refine (Index_any _ _ _ _ _ hw).mono ?_; rintro e w' ⟨r, rfl, hr, rfl⟩)
  go_ret
  exact ⟨rfl, rfl⟩

set_option maxHeartbeats 400000 in
theorem wordFits_any (nm : ByteArray) (kd ls ms : Int) (a : Option Addr) (cap : Nat) (ws : List ByteArray) (to : ByteArray) (rl : Int) (mu fx : Bool) (df wg : ByteArray) (v : ByteArray) (w : World) (hw : StrsAt w a ws) :
    Calls Tryz.prog 150 #[.agg #[.string nm, .int .i64 kd, .int .i64 ls, .int .i64 ms, .slice a ws.length cap, .string to, .int .i64 rl, .bool mu, .bool fx, .string df, .string wg], .string v] w
      fun e w' => e = .returned (.bool (Gate.has ws v)) ∧ Below w.heap.size w w' := by
  go_enter Tryz.func150, Tryz.ntmps150
  go_wp2_with (go_at_call 152; refine (Contains_any _ _ _ _ _ (hw.mono (by exact (Below.refl _ _).alloc (Nat.le_refl _) _))).mono ?_; rintro e w' ⟨rfl, rfl⟩)
  go_ret
  exact ⟨rfl, (Below.refl _ _).alloc (Nat.le_refl _) _⟩

set_option maxHeartbeats 400000 in
theorem linkFits_any (nm : ByteArray) (kd ls ms : Int) (sl : Value) (to : ByteArray) (rl : Int) (mu fx : Bool) (df wg : ByteArray) (v : ByteArray) (w : World) (hs : v.size ≤ maxLen) :
    Calls Tryz.prog 159 #[.agg #[.string nm, .int .i64 kd, .int .i64 ls, .int .i64 ms, sl, .string to, .int .i64 rl, .bool mu, .bool fx, .string df, .string wg], .string v] w
      fun e w' => e = .returned (.bool (Gate.nameOk v)) ∧ Below w.heap.size w w' := by
  go_enter Tryz.func159, Tryz.ntmps159
  go_wp2_with (go_at_call 76; refine (isName_any _ _ hs).mono ?_; rintro e w' ⟨rfl, rfl⟩)
  go_ret
  exact ⟨rfl, (Below.refl _ _).alloc (Nat.le_refl _) _⟩

set_option maxHeartbeats 400000 in
theorem textFits_any (nm : ByteArray) (kd ls ms : Int) (sl : Value) (to : ByteArray) (rl : Int) (mu fx : Bool) (df wg : ByteArray) (s : ByteArray) (w : World) (hs : s.size ≤ maxLen) :
    Calls Tryz.prog 156 #[.agg #[.string nm, .int .i64 kd, .int .i64 ls, .int .i64 ms, sl, .string to, .int .i64 rl, .bool mu, .bool fx, .string df, .string wg], .string s] w
      fun e w' => e = .returned (.bool (Gate.textFits ls ms s)) ∧ Below w.heap.size w w' := by
  unfold maxLen at hs
  by_cases h1 : (s.size : Int) < ls
  · go_enter Tryz.func156, Tryz.ntmps156
    go_wp2
    go_ret
    refine ⟨ret_bool ?_, (Below.refl _ _).alloc (Nat.le_refl _) _⟩
    unfold Gate.textFits; rw [decide_eq_false (by omega)]; rfl
  · by_cases h2 : ms < (s.size : Int)
    · go_enter Tryz.func156, Tryz.ntmps156
      go_wp2
      go_ret
      refine ⟨ret_bool ?_, (Below.refl _ _).alloc (Nat.le_refl _) _⟩
      unfold Gate.textFits; rw [decide_eq_false (show ¬ (s.size : Int) ≤ ms by omega)]; simp
    · have HF : Hid (Gate.textFits ls ms s = Gate.allPlain s) := by
        unfold Gate.textFits
        rw [decide_eq_true (show ls ≤ s.size by omega), decide_eq_true (show (s.size : Int) ≤ ms by omega)]; simp [Hid]
      go_enter Tryz.func156, Tryz.ntmps156
      go_wp2
      go_loop [20] (fun i => ∃ k : Nat, k ≤ s.size ∧ i = .int .i64 k ∧ (s.data.toList.take k).all Gate.plainByte = true) (fun i => s.size - (intOf i).toNat)
      case atStart => exact ⟨0, Nat.zero_le _, rfl, rfl⟩
      case round =>
        obtain ⟨k, hk, rfl, hall⟩ := hrel
        by_cases hlt : k < s.size
        · have HS : Hid ((s.data.toList.take (k + 1)).all Gate.plainByte = (true && Gate.plainByte s[k])) := by rw [Gate.all_snoc _ s k hlt, hall]; rfl
          have HN : Hid (Gate.plainByte s[k] = false → Gate.allPlain s = false) := fun h => Gate.all_not Gate.plainByte s k hlt h
          clear hall
          by_cases h33 : (s[k].toNat : Int) < 33
          · have HC : Hid (Gate.plainByte s[k] = false) := by simp [Gate.plainByte, Hid]; omega
            go_wp2
            go_ret
            exact ⟨ret_bool (HF.out.trans (HN.out HC.out)).symm, (Below.refl _ _).alloc (Nat.le_refl _) _⟩
          · by_cases h126 : 126 < (s[k].toNat : Int)
            · have HC : Hid (Gate.plainByte s[k] = false) := by simp [Gate.plainByte, Hid]; omega
              go_wp2
              go_ret
              exact ⟨ret_bool (HF.out.trans (HN.out HC.out)).symm, (Below.refl _ _).alloc (Nat.le_refl _) _⟩
            · have HC : Hid (Gate.plainByte s[k] = true) := by simp [Gate.plainByte, Hid]; omega
              go_wp2
              go_round
              case rel => exact ⟨k + 1, by omega, by go_num, by rw [HS.out, HC.out]; rfl⟩
              case measure => simp [intOf]; omega
        · have HA : Hid (Gate.allPlain s = true) := by unfold Gate.allPlain Hid; rw [← Gate.take_all s k (by omega)]; exact hall
          clear hall
          go_wp2
          go_ret
          exact ⟨ret_bool (HF.out.trans HA.out).symm, (Below.refl _ _).alloc (Nat.le_refl _) _⟩

end Go.Proofs.YtponiggfclcbgaaGreat

namespace Go.Proofs.YtponiggfclcbgaaGreat
open Go.RowKit

def numRes (s : ByteArray) : Int := if Gate.decOk s = true then Gate.decS s else -1

theorem pow_small (k : Nat) (h : k ≤ 7) : (10 : Int) ^ k ≤ 10000000 := by
  have : k = 0 ∨ k = 1 ∨ k = 2 ∨ k = 3 ∨ k = 4 ∨ k = 5 ∨ k = 6 ∨ k = 7 := by omega
  rcases this with h | h | h | h | h | h | h | h <;> subst h <;> decide

set_option maxHeartbeats 800000 in
theorem l1Number_loop (s : ByteArray) (w : World) (h1 : 1 ≤ s.size) (h7 : s.size ≤ 7) (hz : s.size ≤ 1 ∨ ¬ (s[0].toNat : Int) = 48) :
    Calls Tryz.prog 117 #[.string s] w fun e w' => e = .returned (.int .i64 (numRes s)) ∧ w' = w := by
  have HF : Hid (Gate.decOk s = Gate.allDigit s) := Gate.decOk_all s h1 h7 hz
  rcases (show (s.size ≤ 1) ∨ (1 < s.size ∧ ¬ (s[0].toNat : Int) = 48) by rcases hz with h | h <;> omega) with hone | ⟨hmore, hz0⟩
  all_goals
    clear hz
    try have hz1 : ((s[0].toNat : Int) == 48) = false := by simpa using hz0
    try clear hz0
    go_enter Tryz.func117, Tryz.ntmps117
    go_wp2_with (go_at_call 113; refine (l1In_yes _ _ _ _ (by omega) (by omega)).mono ?_; rintro e w' ⟨rfl, rfl⟩)
    go_loop [3, 4] (fun n i => ∃ k : Nat, k ≤ s.size ∧ i = .int .i64 k ∧ (s.data.toList.take k).all Gate.digit = true ∧ n = .int .i64 (Gate.dec (s.data.toList.take k))) (fun _ i => s.size - (intOf i).toNat)
    case atStart => exact ⟨0, Nat.zero_le _, rfl, rfl, rfl⟩
    case round =>
      obtain ⟨k, hk, rfl, hall, rfl⟩ := hrel
      have hlen : (s.data.toList.take k).length ≤ k := List.length_take_le _ _
      obtain ⟨hd0, hd1⟩ := Gate.dec_bound _ hall k hlen
      by_cases hlt : k < s.size
      · have hp := pow_small k (by omega)
        have hd2 : Gate.dec (s.data.toList.take k) < 10000000 := by omega
        clear hp hd1 hlen
        have HS : Hid ((s.data.toList.take (k + 1)).all Gate.digit = (true && Gate.digit s[k])) := by rw [Gate.all_snoc _ s k hlt, hall]; rfl
        have HD : Hid (Gate.dec (s.data.toList.take (k + 1)) = Gate.dec (s.data.toList.take k) * 10 + ((s[k].toNat : Int) - 48)) := by rw [Gate.take_snoc s k hlt]; exact Gate.dec_snoc _ _
        have HN : Hid (Gate.digit s[k] = false → Gate.allDigit s = false) := fun h => Gate.all_not Gate.digit s k hlt h
        clear hall
        by_cases h48 : (s[k].toNat : Int) < 48
        · have HC : Hid (Gate.digit s[k] = false) := by simp [Gate.digit, Hid]; omega
          go_wp2
          go_ret
          exact ⟨ret_int (by unfold numRes; rw [HF.out, HN.out HC.out]; rfl), rfl⟩
        · by_cases h57 : 57 < (s[k].toNat : Int)
          · have HC : Hid (Gate.digit s[k] = false) := by simp [Gate.digit, Hid]; omega
            go_wp2
            go_ret
            exact ⟨ret_int (by unfold numRes; rw [HF.out, HN.out HC.out]; rfl), rfl⟩
          · have HC : Hid (Gate.digit s[k] = true) := by simp [Gate.digit, Hid]; omega
            go_wp2
            go_round
            case rel => exact ⟨k + 1, by omega, by go_num, by rw [HS.out, HC.out]; rfl, by rw [HD.out]; go_num⟩
            case measure => simp [intOf]; omega
      · have HA : Hid (Gate.allDigit s = true) := by unfold Gate.allDigit Hid; rw [← Gate.take_all s k (by omega)]; exact hall
        have HB : Hid (Gate.dec (s.data.toList.take k) = Gate.decS s) := by rw [Gate.take_all s k (by omega)]; rfl
        clear hall hd0 hd1 hlen
        go_wp2
        go_ret
        exact ⟨ret_int (by unfold numRes; rw [HF.out, HA.out, HB.out]; rfl), rfl⟩

set_option maxHeartbeats 400000 in
theorem l1Number_any (s : ByteArray) (w : World) (hs : s.size ≤ maxLen) :
    Calls Tryz.prog 117 #[.string s] w fun e w' => e = .returned (.int .i64 (numRes s)) ∧ w' = w := by
  unfold maxLen at hs
  by_cases h17 : 1 ≤ s.size ∧ s.size ≤ 7
  · obtain ⟨h1, h7⟩ := h17
    by_cases hz : 1 < s.size ∧ (s[0].toNat : Int) = 48
    · obtain ⟨hm, hz0⟩ := hz
      have HF : Hid (numRes s = -1) := by unfold numRes Hid; rw [Gate.decOk_no_zero s hm hz0]; rfl
      have hz1 : ((s[0].toNat : Int) == 48) = true := by simpa using hz0
      clear hz0
      go_enter Tryz.func117, Tryz.ntmps117
      go_wp2_with (go_at_call 113; refine (l1In_yes _ _ _ _ (by omega) (by omega)).mono ?_; rintro e w' ⟨rfl, rfl⟩)
      go_ret
      exact ⟨ret_int HF.out.symm, rfl⟩
    · exact l1Number_loop s w h1 h7 (by omega)
  · have HF : Hid (numRes s = -1) := by unfold numRes Hid; rw [Gate.decOk_no_len s h17]; rfl
    go_enter Tryz.func117, Tryz.ntmps117
    go_wp2_with (go_at_call 113; refine (l1In_no _ _ _ _ (by omega)).mono ?_; rintro e w' ⟨rfl, rfl⟩)
    go_ret
    exact ⟨ret_int HF.out.symm, rfl⟩

end Go.Proofs.YtponiggfclcbgaaGreat
