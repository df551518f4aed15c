import Derived.Test.YtimhinpekngceaaDoorM05
import Derived.Test.YtimhinpekngceaaDoorM18
namespace Go.Proofs.YtimhinpekngceaaDoor
open Go.RowKit

/-- A map that counts the strings of a list. -/
structure Counts (f : ByteArray → Option Int) (L : List ByteArray) : Prop where
  lo : ∀ s, 0 ≤ (f s).getD 0
  hi : ∀ s, (f s).getD 0 ≤ L.length
  mem : ∀ s, 0 < (f s).getD 0 ↔ s ∈ L

theorem Counts.nil : Counts (fun _ => none) [] := ⟨fun _ => by simp, fun _ => by simp, fun _ => by simp⟩

theorem Counts.snoc {f : ByteArray → Option Int} {L : List ByteArray} (h : Counts f L) (s : ByteArray) : Counts (fun q => if q = s then some ((f s).getD 0 + 1) else f q) (L ++ [s]) := by
  refine ⟨fun q => ?_, fun q => ?_, fun q => ?_⟩
  · have h0 := h.lo s
    have h1 := h.lo q
    show 0 ≤ (if q = s then some ((f s).getD 0 + 1) else f q).getD 0
    split
    · show 0 ≤ (f s).getD 0 + 1; omega
    · exact h1
  · have h0 := h.hi s
    have h1 := h.hi q
    rw [List.length_append]
    show (if q = s then some ((f s).getD 0 + 1) else f q).getD 0 ≤ _
    split
    · show (f s).getD 0 + 1 ≤ _; simp; omega
    · simp; omega
  · have h0 := h.lo s
    rw [List.mem_append, List.mem_singleton]
    show 0 < (if q = s then some ((f s).getD 0 + 1) else f q).getD 0 ↔ _
    split
    · rename_i e
      show 0 < (f s).getD 0 + 1 ↔ _
      exact ⟨fun _ => Or.inr e, fun _ => by omega⟩
    · rename_i e
      rw [h.mem q]
      exact ⟨Or.inl, fun h => h.resolve_right e⟩

theorem StrMap.new (w : World) : StrMap (w.alloc (.map #[] 0)) w.heap.size (fun _ => none) :=
  ⟨#[], 0, Array.getElem?_push_size, fun x hx => (by simp at hx), fun k v h => (by cases h), fun i j x y hx => (by simp at hx)⟩

/-- One string more is counted. -/
theorem StrMap.count {w : World} {r : Nat} {f : ByteArray → Option Int} {L : List ByteArray} (h : StrMap w r f) (hc : Counts f L) (hl : L.length < 4611686018427387904) (s : ByteArray) (o : Obj) :
    ∃ (v : Int) (w' : World), 0 ≤ v ∧ v < 4611686018427387904 ∧ (Instr.lookup 99 (.map (some r)) (.string s) false).run Tryd.prog (w.alloc o) = .ok (.int .i64 v) (w.alloc o) ∧
      (Instr.mapUpdate 99 (.map (some r)) (.string s) (.int .i64 (v + 1))).run Tryd.prog (w.alloc o) = .ok () w' ∧
      Hid ((∃ f', StrMap w' r f' ∧ Counts f' (L ++ [s])) ∧ ∀ (B : Nat) (w0 : World), B ≤ r → Below B w0 w → B ≤ w.heap.size → Below B w0 w') := by
  have h1 : StrMap (w.alloc o) r f := h.mono (Below.heap_alloc _ _ _ h.lt)
  obtain ⟨w', hrun, hm, hp⟩ := h1.upd s ((f s).getD 0 + 1)
  refine ⟨(f s).getD 0, w', hc.lo s, by have := hc.hi s; omega, h1.look s, hrun, ⟨_, hm, hc.snoc s⟩, fun B w0 hB hb hB' => ?_⟩
  have hb1 : Below B w0 (w.alloc o) := hb.alloc hB' _
  exact ⟨hp.os.trans hb1.os, hp.tape.trans hb1.tape, hp.output.trans hb1.output, by rw [hp.size]; exact hb1.size, fun k hk => (hp.out k (by omega)).trans (hb1.block k hk)⟩

def Gate.letterK : ByteArray := ⟨#[107]⟩
def Gate.letterT : ByteArray := ⟨#[116]⟩

set_option maxHeartbeats 1000000 in
theorem freeKind_any (ra : Option Addr) (rcap : Nat) (rs : List Rl) (w : World) (hr : RlsAt w ra rs) (hlm : rs.length < 2305843009213693952) (htab : TabW w) :
    Calls Tryd.prog 35 #[.slice ra rs.length rcap] w fun e w' => (∃ k, e = .returned (.string (Gate.numbered Gate.letterK k)) ∧ Gate.IsFree Gate.letterK (rs.map Rl.kd) k) ∧ Below w.heap.size w w' := by
  have hl := hr.len
  unfold maxLen at hl
  have HT : Hid (TabW w) := htab
  have HR : Hid (RlsAt w ra rs) := hr
  have hmk : ∀ w : World, (Instr.makeMap 99 none).run Tryd.prog w = .ok (.map (some w.heap.size)) (w.alloc (.map #[] 0)) := fun w => by kernel_rfl
  clear htab hr
  go_enter Tryd.func35, Tryd.ntmps35
  go_wp2_with fail
  go_loopw [9] (fun i wr => ∃ (k : Nat), k ≤ rs.length ∧ i = .int .i64 k ∧ Hid ((∃ f, StrMap wr w.heap.size f ∧ Counts f ((rs.map Rl.kd).take k)) ∧ Below w.heap.size w wr)) (fun i _ => rs.length - (intOf i).toNat)
  case atStart => exact ⟨0, Nat.zero_le _, rfl, ⟨_, StrMap.new w, by rw [List.take_zero]; exact Counts.nil⟩, (Below.refl _ _).alloc (Nat.le_refl _) _⟩
  case round =>
    obtain ⟨k, hk, rfl, HX⟩ := hrel
    obtain ⟨⟨f, hf, hc⟩, hB⟩ := HX.out
    by_cases hlt : k < rs.length
    · obtain ⟨b, off, va, vcap, rfl, hb, hsm, hI, c0, c1, c2, c3⟩ := HR.out.load hB k hlt
      have hltI : (k : Int) < (rs.length : Int) := by omega
      have hbr : b < wr.heap.size := Nat.lt_of_lt_of_le hb hB.size
      obtain ⟨v, w2, hv0, hv1, hlk, hup, HC⟩ := hf.count hc (by rw [List.length_take, List.length_map]; omega) rs[k].kd (.cells #[.slice va rs[k].vs.length vcap, .string rs[k].kd, .string rs[k].tm, .string rs[k].px] 38)
      have HS : Hid ((rs.map Rl.kd).take (k + 1) = (rs.map Rl.kd).take k ++ [rs[k].kd]) := by
        unfold Hid; rw [List.take_add_one, List.getElem?_map, List.getElem?_eq_getElem hlt]; rfl
      have HB : Hid (Below w.heap.size w wr) := hB
      clear hf hc hB HX hsm hI
      go_wp2_with fail
      exact ⟨⟨k + 1, by omega, by go_num, by rw [HS.out]; exact HC.out.1, HC.out.2 _ _ (Nat.le_refl _) HB.out HB.out.size⟩, by simp [intOf]; omega⟩
    · have e : k = rs.length := by omega
      subst e
      rw [List.take_of_length_le (by simp)] at hc
      have HN : Hid (Calls Tryd.prog 65 #[.string Gate.letterK, .map (some w.heap.size)] wr fun e w' => (∃ k, e = .returned (.string (Gate.numbered Gate.letterK k)) ∧ Gate.IsFree Gate.letterK (rs.map Rl.kd) k) ∧ Below w.heap.size w w') := by
        refine (freeName_any Gate.letterK _ f _ wr (HT.out.mono hB) hf hc.mem (by rw [List.length_map]; exact hlm) (by decide)).mono ?_
        rintro e w' ⟨h1, h2⟩
        exact ⟨h1, hB.trans (h2.mono hB.size)⟩
      clear hf hc HX hB HT HR
      unfold Gate.letterK at HN
      go_wp2_with fail
      refine HN.out.mono ?_
      rintro e w3 ⟨⟨j, rfl, hj⟩, hb3⟩
      have HJ : Hid (Gate.IsFree ⟨#[107]⟩ (rs.map Rl.kd) j ∧ Below w.heap.size w w3) := ⟨hj, hb3⟩
      clear hj hb3
      go_wp2_with fail
      go_ret
      exact ⟨⟨j, rfl, HJ.out.1⟩, HJ.out.2⟩

end Go.Proofs.YtimhinpekngceaaDoor

namespace Go.Proofs.YtimhinpekngceaaDoor
open Go.RowKit

theorem take_map_snoc {α β : Type} (f : α → β) (xs : List α) (k : Nat) (h : k < xs.length) : (xs.map f).take (k + 1) = (xs.map f).take k ++ [f xs[k]] := by
  rw [List.take_add_one, List.getElem?_map, List.getElem?_eq_getElem h]; rfl

set_option maxHeartbeats 2000000 in
theorem freeTeam_any (ta : Option Addr) (tcap : Nat) (ts : List Tm) (ra : Option Addr) (rcap : Nat) (rs : List Rl) (w : World) (hw : TmsAt w ta ts) (hr : RlsAt w ra rs) (hlm : ts.length + rs.length < 2305843009213693952) (htab : TabW w) :
    Calls Tryd.prog 36 #[.slice ta ts.length tcap, .slice ra rs.length rcap] w fun e w' => (∃ k, e = .returned (.string (Gate.numbered Gate.letterT k)) ∧ Gate.IsFree Gate.letterT (ts.map Tm.nm ++ rs.map Rl.tm) k) ∧ Below w.heap.size w w' := by
  have hl := hr.len
  have hl2 := hw.len
  unfold maxLen at hl hl2
  have HT : Hid (TabW w) := htab
  have HR : Hid (RlsAt w ra rs) := hr
  have HW : Hid (TmsAt w ta ts) := hw
  have hmk : ∀ w : World, (Instr.makeMap 99 none).run Tryd.prog w = .ok (.map (some w.heap.size)) (w.alloc (.map #[] 0)) := fun w => by kernel_rfl
  clear htab hr hw
  go_enter Tryd.func36, Tryd.ntmps36
  go_wp2_with fail
  go_loopw [13] (fun i wr => ∃ (k : Nat), k ≤ ts.length ∧ i = .int .i64 k ∧ Hid ((∃ f, StrMap wr w.heap.size f ∧ Counts f ((ts.map Tm.nm).take k)) ∧ Below w.heap.size w wr)) (fun i _ => ts.length - (intOf i).toNat)
  case atStart => exact ⟨0, Nat.zero_le _, rfl, ⟨_, StrMap.new w, by rw [List.take_zero]; exact Counts.nil⟩, (Below.refl _ _).alloc (Nat.le_refl _) _⟩
  case round =>
    obtain ⟨k, hk, rfl, HX⟩ := hrel
    obtain ⟨⟨f, hf, hc⟩, hB⟩ := HX.out
    by_cases hlt : k < ts.length
    · obtain ⟨b, off, rfl, hb, c0, c1⟩ := HW.out.load hB k hlt
      have hltI : (k : Int) < (ts.length : Int) := by omega
      have hbr : b < wr.heap.size := Nat.lt_of_lt_of_le hb hB.size
      obtain ⟨v, w2, hv0, hv1, hlk, hup, HC⟩ := hf.count hc (by rw [List.length_take, List.length_map]; omega) ts[k].nm (.cells #[.string ts[k].nm, .string ts[k].ov] 60)
      have HS : Hid ((ts.map Tm.nm).take (k + 1) = (ts.map Tm.nm).take k ++ [ts[k].nm]) := take_map_snoc _ _ _ hlt
      have HB : Hid (Below w.heap.size w wr) := hB
      clear hf hc hB HX
      go_wp2_with fail
      exact ⟨⟨k + 1, by omega, by go_num, by rw [HS.out]; exact HC.out.1, HC.out.2 _ _ (Nat.le_refl _) HB.out HB.out.size⟩, by simp [intOf]; omega⟩
    · have e : k = ts.length := by omega
      subst e
      rw [List.take_of_length_le (by simp)] at hc
      have H0 : Hid ((∃ f, StrMap wr w.heap.size f ∧ Counts f (ts.map Tm.nm)) ∧ Below w.heap.size w wr) := ⟨⟨f, hf, hc⟩, hB⟩
      clear hf hc HX hB hk
      go_wp2_with fail
      go_loopw [25] (fun i wr => ∃ (k : Nat), k ≤ rs.length ∧ i = .int .i64 k ∧ Hid ((∃ f, StrMap wr w.heap.size f ∧ Counts f (ts.map Tm.nm ++ (rs.map Rl.tm).take k)) ∧ Below w.heap.size w wr)) (fun i _ => rs.length - (intOf i).toNat)
      case atStart => exact ⟨0, Nat.zero_le _, rfl, by rw [List.take_zero, List.append_nil]; exact H0⟩
      case round =>
        clear H0
        obtain ⟨k, hk, rfl, HX⟩ := hrel
        obtain ⟨⟨f, hf, hc⟩, hB⟩ := HX.out
        by_cases hlt : k < rs.length
        · obtain ⟨b, off, va, vcap, rfl, hb, hsm, hI, c0, c1, c2, c3⟩ := HR.out.load hB k hlt
          have hltI : (k : Int) < (rs.length : Int) := by omega
          have hbr : b < wr.heap.size := Nat.lt_of_lt_of_le hb hB.size
          obtain ⟨v, w2, hv0, hv1, hlk, hup, HC⟩ := hf.count hc (by rw [List.length_append, List.length_take, List.length_map, List.length_map]; omega) rs[k].tm (.cells #[.slice va rs[k].vs.length vcap, .string rs[k].kd, .string rs[k].tm, .string rs[k].px] 38)
          have HS : Hid (ts.map Tm.nm ++ (rs.map Rl.tm).take (k + 1) = ts.map Tm.nm ++ (rs.map Rl.tm).take k ++ [rs[k].tm]) := by unfold Hid; rw [take_map_snoc _ _ _ hlt, List.append_assoc]
          have HB : Hid (Below w.heap.size w wr) := hB
          clear hf hc hB HX hsm hI
          go_wp2_with fail
          exact ⟨⟨k + 1, by omega, by go_num, by rw [HS.out]; exact HC.out.1, HC.out.2 _ _ (Nat.le_refl _) HB.out HB.out.size⟩, by simp [intOf]; omega⟩
        · have e : k = rs.length := by omega
          subst e
          rw [List.take_of_length_le (by simp)] at hc
          have HN : Hid (Calls Tryd.prog 65 #[.string Gate.letterT, .map (some w.heap.size)] wr fun e w' => (∃ k, e = .returned (.string (Gate.numbered Gate.letterT k)) ∧ Gate.IsFree Gate.letterT (ts.map Tm.nm ++ rs.map Rl.tm) k) ∧ Below w.heap.size w w') := by
            refine (freeName_any Gate.letterT _ f _ wr (HT.out.mono hB) hf hc.mem (by rw [List.length_append, List.length_map, List.length_map]; exact hlm) (by decide)).mono ?_
            rintro e w' ⟨h1, h2⟩
            exact ⟨h1, hB.trans (h2.mono hB.size)⟩
          clear hf hc HX hB HT HR
          unfold Gate.letterT at HN
          go_wp2_with fail
          refine HN.out.mono ?_
          rintro e w3 ⟨⟨j, rfl, hj⟩, hb3⟩
          have HJ : Hid (Gate.IsFree ⟨#[116]⟩ (ts.map Tm.nm ++ rs.map Rl.tm) j ∧ Below w.heap.size w w3) := ⟨hj, hb3⟩
          clear hj hb3
          go_wp2_with fail
          go_ret
          exact ⟨⟨j, rfl, HJ.out.1⟩, HJ.out.2⟩

end Go.Proofs.YtimhinpekngceaaDoor
