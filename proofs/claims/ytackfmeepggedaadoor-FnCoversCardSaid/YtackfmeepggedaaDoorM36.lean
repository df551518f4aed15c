import Derived.Test.YtackfmeepggedaaDoorM34
import Derived.Deep.MidRow
import Derived.Test.YtackfmeepggedaaDoorM35
namespace Go.Proofs.YtackfmeepggedaaDoor
open Go.RowKit

/-- A row of teams of one's own, as its texts. -/
structure TeamRow (lo : Nat) (w : World) (a : Option Addr) (n cap : Nat) (ss : List ByteArray) : Prop where
  own : w.ownsRow lo 69 2 (.slice a n cap) n (ss.map Value.string)
  small : ∀ s ∈ ss, s.size ≤ 1000
theorem TeamRow.len {lo : Nat} {w : World} {a : Option Addr} {n cap : Nat} {ss : List ByteArray} (h : TeamRow lo w a n cap ss) : ss.length = n * 2 := by simpa using h.own.1
theorem TeamRow.dr {lo r : Nat} {w w' : World} {a : Option Addr} {n cap : Nat} {ss : List ByteArray} (h : TeamRow lo w a n cap ss) (hd : Dr r w w') (hr : r < lo) : TeamRow lo w' a n cap ss := ⟨owns_dr h.own hd hr, h.small⟩
theorem team_lit (w : World) (lo n : Nat) (ss : List ByteArray) (hl : lo ≤ w.heap.size) (hn : ss.length = n * 2) (hm : n ≤ maxLen) (hs : ∀ s ∈ ss, s.size ≤ 1000) : TeamRow lo (w.alloc (.cells (strArr ss) 69)) (some ⟨w.heap.size, 0, none⟩) n n ss :=
  ⟨⟨by simp [hn], Or.inr ⟨w.heap.size, n, strArr ss, rfl, hl, (MapKept.heap_alloc w _).1, Nat.le_refl _, hm, by simp [strArr, hn], by rw [List.take_of_length_le (by simp [strArr, hn])]; simp [strArr]⟩⟩, hs⟩
theorem team_heap (w : World) (lo n g : Nat) (ss : List ByteArray) (hg : lo ≤ g) (h : w.heap[g]? = some (.cells (strArr ss) 69)) (hn : ss.length = n * 2) (hm : n ≤ maxLen) (hs : ∀ s ∈ ss, s.size ≤ 1000) : TeamRow lo w (some ⟨g, 0, none⟩) n n ss :=
  ⟨⟨by simp [hn], Or.inr ⟨g, n, strArr ss, rfl, hg, h, Nat.le_refl _, hm, by simp [strArr, hn], by rw [List.take_of_length_le (by simp [strArr, hn])]; simp [strArr]⟩⟩, hs⟩
theorem TeamRow.block {lo : Nat} {w : World} {a : Option Addr} {n cap : Nat} {ss : List ByteArray} (h : TeamRow lo w a n cap ss) (hn : 0 < n) : ∃ g C, a = some ⟨g, 0, none⟩ ∧ lo ≤ g ∧ g < w.heap.size ∧ w.heap[g]? = some (.cells C 69) ∧ ∀ j (hj : j < ss.length), w.cell? ⟨g, j, none⟩ = some (.string ss[j]) := by
  obtain ⟨h0, ⟨_, h1⟩ | ⟨g, cp, cur, e, h1, h2, h3⟩⟩ := id h.own
  · omega
  · cases e
    refine ⟨g, cur, rfl, h1, (Array.getElem?_eq_some_iff.1 h2).1, h2, fun j hj => ?_⟩
    have := h.own.cells rfl j (.string ss[j]) (by simp [hj])
    rw [Addr.add_mid, Nat.zero_add] at this
    exact this
theorem TeamRow.at {lo r : Nat} {w : World} {a : Option Addr} {n cap : Nat} {ss : List ByteArray} (h : TeamRow lo w a n cap ss) (hr : r < lo) (hn : n ≤ 1000) : ∃ ts : List Tm, ts.length = n ∧ TmsAt (clr r w) a ts := by
  have hl := h.len
  refine ⟨(List.range n).map fun i => ⟨ss.getD (i * 2) ByteArray.empty, ss.getD (i * 2 + 1) ByteArray.empty⟩, by simp, ⟨by simp [maxLen]; omega, fun i hi => ?_, fun hne => ?_⟩⟩
  · have hi' : i < n := by simpa using hi
    have hsz : ∀ k, k < ss.length → (ss.getD k ByteArray.empty).size ≤ maxLen := fun k hk => by
      have := h.small ss[k] (List.getElem_mem hk)
      have e : ss.getD k ByteArray.empty = ss[k] := by simp [hk]
      rw [e]; unfold maxLen; omega
    exact ⟨by simpa using hsz (i * 2) (by omega), by simpa using hsz (i * 2 + 1) (by omega)⟩
  · have hn0 : 0 < n := by
      rcases Nat.eq_zero_or_pos n with h0 | h0
      · subst h0; simp at hne
      · exact h0
    obtain ⟨g, C, rfl, hg, hgs, hh, hc⟩ := h.block hn0
    have hgr : g ≠ r := by omega
    refine ⟨g, 0, rfl, by rw [clr_size]; exact hgs, fun i hi j hj => ?_⟩
    have hi' : i < n := by simpa using hi
    have e : (clr r w).cell? ⟨g, 0 + i * 2 + j, none⟩ = w.cell? ⟨g, i * 2 + j, none⟩ := by simp only [World.cell?, clr_other w hgr, Nat.zero_add]
    rw [e]
    have hj' : j = 0 ∨ j = 1 := by omega
    rcases hj' with rfl | rfl
    · show w.cell? ⟨g, i * 2, none⟩ = _
      rw [hc (i * 2) (by omega)]
      simp [Tm.cells, List.getElem?_eq_getElem (show i * 2 < ss.length by omega)]
    · rw [hc (i * 2 + 1) (by omega)]
      simp [Tm.cells, List.getElem?_eq_getElem (show i * 2 + 1 < ss.length by omega)]

set_option maxRecDepth 10000 in
set_option maxHeartbeats 4000000 in
theorem l4DrawTeams_any (r p : Nat) (w : World) (hp : p ≤ 40000) (hr : RdAt w r p) :
    Calls Tryd.prog 29 #[.pointer (some ⟨r, 0, none⟩)] w fun e w' => ∃ (n : Nat) (a : Option Addr) (cap : Nat) (ss : List ByteArray), e = .returned (.slice a n cap) ∧ 1 ≤ n ∧ n ≤ 6 ∧ TeamRow w.heap.size w' a n cap ss ∧ RdAt w' r (p + 1) ∧ Dr r w w' := by
  go_enter Tryd.func29, Tryd.ntmps29
  go_wp2_with fail
  refine (pick_any 4 r p w (by omega) (by omega) (by omega) hr).mono ?_
  rintro e w1 ⟨c, rfl, hc, hr1, -, D1⟩
  have HX : Hid (RdAt w1 r (p + 1) ∧ Dr r w w1) := ⟨hr1, D1⟩
  clear hr1 D1
  by_cases c0 : c = 0
  · subst c0
    go_wp2_with fail
    go_ret
    have hb : Below w1.heap.size w1 (w1.alloc (.cells (strArr [⟨#[100, 101, 118]⟩, ByteArray.empty, ⟨#[108, 97, 98]⟩, ⟨#[100, 101, 118]⟩, ⟨#[111, 112, 115]⟩, ByteArray.empty, ⟨#[114, 49]⟩, ⟨#[108, 97, 98]⟩, ⟨#[114, 50]⟩, ⟨#[114, 49]⟩, ⟨#[114, 51]⟩, ⟨#[114, 50]⟩]) 69)) := (Below.refl _ _).alloc (Nat.le_refl _) _
    exact ⟨6, _, 6, [⟨#[100, 101, 118]⟩, ByteArray.empty, ⟨#[108, 97, 98]⟩, ⟨#[100, 101, 118]⟩, ⟨#[111, 112, 115]⟩, ByteArray.empty, ⟨#[114, 49]⟩, ⟨#[108, 97, 98]⟩, ⟨#[114, 50]⟩, ⟨#[114, 49]⟩, ⟨#[114, 51]⟩, ⟨#[114, 50]⟩], rfl, by omega, by omega, team_lit w1 w.heap.size 6 [⟨#[100, 101, 118]⟩, ByteArray.empty, ⟨#[108, 97, 98]⟩, ⟨#[100, 101, 118]⟩, ⟨#[111, 112, 115]⟩, ByteArray.empty, ⟨#[114, 49]⟩, ⟨#[108, 97, 98]⟩, ⟨#[114, 50]⟩, ⟨#[114, 49]⟩, ⟨#[114, 51]⟩, ⟨#[114, 50]⟩] (dr_le HX.out.2) rfl (by simp [maxLen]) (by simp +decide), HX.out.1.mono hb, dr_trans HX.out.2 (dr_below hb)⟩
  have n0 : ((c : Int) == 0) = false := by rw [beq_eq_false_iff_ne]; omega
  by_cases c1 : c = 1
  · subst c1
    go_wp2_with fail
    go_ret
    have hb : Below w1.heap.size w1 (w1.alloc (.cells (strArr [⟨#[100, 101, 118]⟩, ⟨#[111, 112, 115]⟩, ⟨#[108, 97, 98]⟩, ByteArray.empty, ⟨#[111, 112, 115]⟩, ⟨#[108, 97, 98]⟩]) 69)) := (Below.refl _ _).alloc (Nat.le_refl _) _
    exact ⟨3, _, 3, [⟨#[100, 101, 118]⟩, ⟨#[111, 112, 115]⟩, ⟨#[108, 97, 98]⟩, ByteArray.empty, ⟨#[111, 112, 115]⟩, ⟨#[108, 97, 98]⟩], rfl, by omega, by omega, team_lit w1 w.heap.size 3 [⟨#[100, 101, 118]⟩, ⟨#[111, 112, 115]⟩, ⟨#[108, 97, 98]⟩, ByteArray.empty, ⟨#[111, 112, 115]⟩, ⟨#[108, 97, 98]⟩] (dr_le HX.out.2) rfl (by simp [maxLen]) (by simp +decide), HX.out.1.mono hb, dr_trans HX.out.2 (dr_below hb)⟩
  have n1 : ((c : Int) == 1) = false := by rw [beq_eq_false_iff_ne]; omega
  go_wp2_with fail
  refine (l11Law_any w1).mono ?_
  rintro e w2 ⟨sv, mv, g, rfl, hg, hh, hb⟩
  have HY : Hid (w1.heap.size ≤ g ∧ w2.heap[g]? = some (.cells (strArr [⟨#[100, 101, 118]⟩, ByteArray.empty, ⟨#[108, 97, 98]⟩, ⟨#[100, 101, 118]⟩, ⟨#[111, 112, 115]⟩, ByteArray.empty]) 69) ∧ Below w1.heap.size w1 w2) := ⟨hg, hh, hb⟩
  clear hg hh hb
  have hfd : ∀ W : World, (Instr.field 90 (.agg #[sv, mv, .slice (some ⟨g, 0, none⟩) 3 3]) 2).run Tryd.prog W = .ok (.slice (some ⟨g, 0, none⟩) 3 3) W := fun _ => by kernel_rfl
  go_wp2_with fail
  go_ret
  exact ⟨3, _, 3, [⟨#[100, 101, 118]⟩, ByteArray.empty, ⟨#[108, 97, 98]⟩, ⟨#[100, 101, 118]⟩, ⟨#[111, 112, 115]⟩, ByteArray.empty], rfl, by omega, by omega, team_heap w2 w.heap.size 3 g [⟨#[100, 101, 118]⟩, ByteArray.empty, ⟨#[108, 97, 98]⟩, ⟨#[100, 101, 118]⟩, ⟨#[111, 112, 115]⟩, ByteArray.empty] (Nat.le_trans (dr_le HX.out.2) HY.out.1) HY.out.2.1 rfl (by simp [maxLen]) (by simp +decide), HX.out.1.mono HY.out.2.2, dr_trans HX.out.2 (dr_below HY.out.2.2)⟩

end Go.Proofs.YtackfmeepggedaaDoor

namespace Go.Proofs.YtackfmeepggedaaDoor
open Go.RowKit

theorem take_map_snoc {α β : Type} (f : α → β) (xs : List α) (k : Nat) (h : k < xs.length) : (xs.map f).take (k + 1) = (xs.map f).take k ++ [f xs[k]] := by
  rw [List.take_add_one, List.getElem?_map, List.getElem?_eq_getElem h]; rfl

set_option maxHeartbeats 2000000 in
theorem freeTeam_any (ta : Option Addr) (tcap : Nat) (ts : List Tm) (ra : Option Addr) (rcap : Nat) (rs : List Rl) (w : World) (hw : TmsAt w ta ts) (hr : RlsAt w ra rs) (hlm : ts.length + rs.length < 2305843009213693952) (htab : TabW w) :
    Calls Tryd.prog 23 #[.slice ta ts.length tcap, .slice ra rs.length rcap] w fun e w' => (∃ k, e = .returned (.string (Gate.numbered Gate.letterT k)) ∧ Gate.IsFree Gate.letterT (ts.map Tm.nm ++ rs.map Rl.tm) k) ∧ Below w.heap.size w w' := by
  have hl := hr.len
  have hl2 := hw.len
  unfold maxLen at hl hl2
  have HT : Hid (TabW w) := htab
  have HR : Hid (RlsAt w ra rs) := hr
  have HW : Hid (TmsAt w ta ts) := hw
  have hmk : ∀ w : World, (Instr.makeMap 79 none).run Tryd.prog w = .ok (.map (some w.heap.size)) (w.alloc (.map #[] 0)) := fun w => by kernel_rfl
  clear htab hr hw
  go_enter Tryd.func23, Tryd.ntmps23
  go_wp2_with fail
  go_loopw [13] (fun i wr => ∃ (k : Nat), k ≤ ts.length ∧ i = .int .i64 k ∧ Hid ((∃ f, StrMap wr w.heap.size f ∧ Counts f ((ts.map Tm.nm).take k)) ∧ Below w.heap.size w wr)) (fun i _ => ts.length - (intOf i).toNat)
  case atStart => exact ⟨0, Nat.zero_le _, rfl, ⟨_, StrMap.new w, by rw [List.take_zero]; exact Counts.nil⟩, (Below.refl _ _).alloc (Nat.le_refl _) _⟩
  case round =>
    obtain ⟨k, hk, rfl, HX⟩ := hrel
    obtain ⟨⟨f, hf, hc⟩, hB⟩ := HX.out
    by_cases hlt : k < ts.length
    · obtain ⟨b, off, rfl, hb, c0, c1⟩ := HW.out.load hB k hlt
      have hltI : (k : Int) < (ts.length : Int) := by omega
      have hbr : b < wr.heap.size := Nat.lt_of_lt_of_le hb hB.size
      obtain ⟨v, w2, hv0, hv1, hlk, hup, HC⟩ := hf.count hc (by rw [List.length_take, List.length_map]; omega) ts[k].nm (.cells #[.string ts[k].nm, .string ts[k].ov] 69)
      have HS : Hid ((ts.map Tm.nm).take (k + 1) = (ts.map Tm.nm).take k ++ [ts[k].nm]) := take_map_snoc _ _ _ hlt
      have HB : Hid (Below w.heap.size w wr) := hB
      clear hf hc hB HX
      go_wp2_with fail
      exact ⟨⟨k + 1, by omega, by go_num, by rw [HS.out]; exact HC.out.1, HC.out.2 _ _ (Nat.le_refl _) HB.out HB.out.size⟩, by simp [intOf]; omega⟩
    · have e : k = ts.length := by omega
      subst e
      rw [List.take_of_length_le (by simp)] at hc
      have H0 : Hid ((∃ f, StrMap wr w.heap.size f ∧ Counts f (ts.map Tm.nm)) ∧ Below w.heap.size w wr) := ⟨⟨f, hf, hc⟩, hB⟩
      clear hf hc HX hB hk
      go_wp2_with fail
      go_loopw [25] (fun i wr => ∃ (k : Nat), k ≤ rs.length ∧ i = .int .i64 k ∧ Hid ((∃ f, StrMap wr w.heap.size f ∧ Counts f (ts.map Tm.nm ++ (rs.map Rl.tm).take k)) ∧ Below w.heap.size w wr)) (fun i _ => rs.length - (intOf i).toNat)
      case atStart => exact ⟨0, Nat.zero_le _, rfl, by rw [List.take_zero, List.append_nil]; exact H0⟩
      case round =>
        clear H0
        obtain ⟨k, hk, rfl, HX⟩ := hrel
        obtain ⟨⟨f, hf, hc⟩, hB⟩ := HX.out
        by_cases hlt : k < rs.length
        · obtain ⟨b, off, va, vcap, rfl, hb, hsm, hI, c0, c1, c2, c3⟩ := HR.out.load hB k hlt
          have hltI : (k : Int) < (rs.length : Int) := by omega
          have hbr : b < wr.heap.size := Nat.lt_of_lt_of_le hb hB.size
          obtain ⟨v, w2, hv0, hv1, hlk, hup, HC⟩ := hf.count hc (by rw [List.length_append, List.length_take, List.length_map, List.length_map]; omega) rs[k].tm (.cells #[.slice va rs[k].vs.length vcap, .string rs[k].kd, .string rs[k].tm, .string rs[k].px] 27)
          have HS : Hid (ts.map Tm.nm ++ (rs.map Rl.tm).take (k + 1) = ts.map Tm.nm ++ (rs.map Rl.tm).take k ++ [rs[k].tm]) := by unfold Hid; rw [take_map_snoc _ _ _ hlt, List.append_assoc]
          have HB : Hid (Below w.heap.size w wr) := hB
          clear hf hc hB HX hsm hI
          go_wp2_with fail
          exact ⟨⟨k + 1, by omega, by go_num, by rw [HS.out]; exact HC.out.1, HC.out.2 _ _ (Nat.le_refl _) HB.out HB.out.size⟩, by simp [intOf]; omega⟩
        · have e : k = rs.length := by omega
          subst e
          rw [List.take_of_length_le (by simp)] at hc
          have HN : Hid (Calls Tryd.prog 45 #[.string Gate.letterT, .map (some w.heap.size)] wr fun e w' => (∃ k, e = .returned (.string (Gate.numbered Gate.letterT k)) ∧ Gate.IsFree Gate.letterT (ts.map Tm.nm ++ rs.map Rl.tm) k) ∧ Below w.heap.size w w') := by
            refine (freeName_any Gate.letterT _ f _ wr (HT.out.mono hB) hf hc.mem (by rw [List.length_append, List.length_map, List.length_map]; exact hlm) (by decide)).mono ?_
            rintro e w' ⟨h1, h2⟩
            exact ⟨h1, hB.trans (h2.mono hB.size)⟩
          clear hf hc HX hB HT HR
          unfold Gate.letterT at HN
          go_wp2_with fail
          refine HN.out.mono ?_
          rintro e w3 ⟨⟨j, rfl, hj⟩, hb3⟩
          have HJ : Hid (Gate.IsFree ⟨#[116]⟩ (ts.map Tm.nm ++ rs.map Rl.tm) j ∧ Below w.heap.size w w3) := ⟨hj, hb3⟩
          clear hj hb3
          go_wp2_with fail
          go_ret
          exact ⟨⟨j, rfl, HJ.out.1⟩, HJ.out.2⟩

end Go.Proofs.YtackfmeepggedaaDoor
