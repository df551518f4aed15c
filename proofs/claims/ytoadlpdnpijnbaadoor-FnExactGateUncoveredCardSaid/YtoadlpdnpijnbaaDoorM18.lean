import Derived.Test.YtoadlpdnpijnbaaDoorM17
import Derived.Test.YtoadlpdnpijnbaaDoorM06
namespace Go.Proofs.YtoadlpdnpijnbaaDoor
open Go.RowKit

theorem take_map_snoc {α β : Type} (f : α → β) (xs : List α) (k : Nat) (h : k < xs.length) : (xs.map f).take (k + 1) = (xs.map f).take k ++ [f xs[k]] := by
  rw [List.take_add_one, List.getElem?_map, List.getElem?_eq_getElem h]; rfl

set_option maxHeartbeats 2000000 in
theorem freeTeam_any (ta : Option Addr) (tcap : Nat) (ts : List Tm) (ra : Option Addr) (rcap : Nat) (rs : List Rl) (w : World) (hw : TmsAt w ta ts) (hr : RlsAt w ra rs) (hlm : ts.length + rs.length < 2305843009213693952) (htab : TabW w) :
    Calls Tryd.prog 36 #[.slice ta ts.length tcap, .slice ra rs.length rcap] w fun e w' => (∃ k, e = .returned (.string (Gate.numbered Gate.letterT k)) ∧ Gate.IsFree Gate.letterT (ts.map Tm.nm ++ rs.map Rl.tm) k) ∧ Below w.heap.size w w' := by
  have hl := hr.len
  have hl2 := hw.len
  unfold maxLen at hl hl2
  have HT : Hid (TabW w) := htab
  have HR : Hid (RlsAt w ra rs) := hr
  have HW : Hid (TmsAt w ta ts) := hw
  have hmk : ∀ w : World, (Instr.makeMap 99 none).run Tryd.prog w = .ok (.map (some w.heap.size)) (w.alloc (.map #[] 0)) := fun w => by kernel_rfl
  clear htab hr hw
  go_enter Tryd.func36, Tryd.ntmps36
  go_wp2_with fail
  go_loopw [13] (fun i wr => ∃ (k : Nat), k ≤ ts.length ∧ i = .int .i64 k ∧ Hid ((∃ f, StrMap wr w.heap.size f ∧ Counts f ((ts.map Tm.nm).take k)) ∧ Below w.heap.size w wr)) (fun i _ => ts.length - (intOf i).toNat)
  case atStart => exact ⟨0, Nat.zero_le _, rfl, ⟨_, StrMap.new w, by rw [List.take_zero]; exact Counts.nil⟩, (Below.refl _ _).alloc (Nat.le_refl _) _⟩
  case round =>
    obtain ⟨k, hk, rfl, HX⟩ := hrel
    obtain ⟨⟨f, hf, hc⟩, hB⟩ := HX.out
    by_cases hlt : k < ts.length
    · obtain ⟨b, off, rfl, hb, c0, c1⟩ := HW.out.load hB k hlt
      have hltI : (k : Int) < (ts.length : Int) := by omega
      have hbr : b < wr.heap.size := Nat.lt_of_lt_of_le hb hB.size
      obtain ⟨v, w2, hv0, hv1, hlk, hup, HC⟩ := hf.count hc (by rw [List.length_take, List.length_map]; omega) ts[k].nm (.cells #[.string ts[k].nm, .string ts[k].ov] 60)
      have HS : Hid ((ts.map Tm.nm).take (k + 1) = (ts.map Tm.nm).take k ++ [ts[k].nm]) := take_map_snoc _ _ _ hlt
      have HB : Hid (Below w.heap.size w wr) := hB
      clear hf hc hB HX
      go_wp2_with fail
      exact ⟨⟨k + 1, by omega, by go_num, by rw [HS.out]; exact HC.out.1, HC.out.2 _ _ (Nat.le_refl _) HB.out HB.out.size⟩, by simp [intOf]; omega⟩
    · have e : k = ts.length := by omega
      subst e
      rw [List.take_of_length_le (by simp)] at hc
      have H0 : Hid ((∃ f, StrMap wr w.heap.size f ∧ Counts f (ts.map Tm.nm)) ∧ Below w.heap.size w wr) := ⟨⟨f, hf, hc⟩, hB⟩
      clear hf hc HX hB hk
      go_wp2_with fail
      go_loopw [25] (fun i wr => ∃ (k : Nat), k ≤ rs.length ∧ i = .int .i64 k ∧ Hid ((∃ f, StrMap wr w.heap.size f ∧ Counts f (ts.map Tm.nm ++ (rs.map Rl.tm).take k)) ∧ Below w.heap.size w wr)) (fun i _ => rs.length - (intOf i).toNat)
      case atStart => exact ⟨0, Nat.zero_le _, rfl, by rw [List.take_zero, List.append_nil]; exact H0⟩
      case round =>
        clear H0
        obtain ⟨k, hk, rfl, HX⟩ := hrel
        obtain ⟨⟨f, hf, hc⟩, hB⟩ := HX.out
        by_cases hlt : k < rs.length
        · obtain ⟨b, off, va, vcap, rfl, hb, hsm, hI, c0, c1, c2, c3⟩ := HR.out.load hB k hlt
          have hltI : (k : Int) < (rs.length : Int) := by omega
          have hbr : b < wr.heap.size := Nat.lt_of_lt_of_le hb hB.size
          obtain ⟨v, w2, hv0, hv1, hlk, hup, HC⟩ := hf.count hc (by rw [List.length_append, List.length_take, List.length_map, List.length_map]; omega) rs[k].tm (.cells #[.slice va rs[k].vs.length vcap, .string rs[k].kd, .string rs[k].tm, .string rs[k].px] 38)
          have HS : Hid (ts.map Tm.nm ++ (rs.map Rl.tm).take (k + 1) = ts.map Tm.nm ++ (rs.map Rl.tm).take k ++ [rs[k].tm]) := by unfold Hid; rw [take_map_snoc _ _ _ hlt, List.append_assoc]
          have HB : Hid (Below w.heap.size w wr) := hB
          clear hf hc hB HX hsm hI
          go_wp2_with fail
          exact ⟨⟨k + 1, by omega, by go_num, by rw [HS.out]; exact HC.out.1, HC.out.2 _ _ (Nat.le_refl _) HB.out HB.out.size⟩, by simp [intOf]; omega⟩
        · have e : k = rs.length := by omega
          subst e
          rw [List.take_of_length_le (by simp)] at hc
          have HN : Hid (Calls Tryd.prog 65 #[.string Gate.letterT, .map (some w.heap.size)] wr fun e w' => (∃ k, e = .returned (.string (Gate.numbered Gate.letterT k)) ∧ Gate.IsFree Gate.letterT (ts.map Tm.nm ++ rs.map Rl.tm) k) ∧ Below w.heap.size w w') := by
            refine (freeName_any Gate.letterT _ f _ wr (HT.out.mono hB) hf hc.mem (by rw [List.length_append, List.length_map, List.length_map]; exact hlm) (by decide)).mono ?_
            rintro e w' ⟨h1, h2⟩
            exact ⟨h1, hB.trans (h2.mono hB.size)⟩
          clear hf hc HX hB HT HR
          unfold Gate.letterT at HN
          go_wp2_with fail
          refine HN.out.mono ?_
          rintro e w3 ⟨⟨j, rfl, hj⟩, hb3⟩
          have HJ : Hid (Gate.IsFree ⟨#[116]⟩ (ts.map Tm.nm ++ rs.map Rl.tm) j ∧ Below w.heap.size w w3) := ⟨hj, hb3⟩
          clear hj hb3
          go_wp2_with fail
          go_ret
          exact ⟨⟨j, rfl, HJ.out.1⟩, HJ.out.2⟩

end Go.Proofs.YtoadlpdnpijnbaaDoor

namespace Go.Proofs.YtoadlpdnpijnbaaDoor
namespace Gate

/-- The least verb of a set of verbs, 8 if it is empty. -/
def low5 (a b c d e : Bool) : Int := if a then 1 else if b then 2 else if c then 3 else if d then 4 else if e then 5 else 8
def low (f : Int → Bool) : Int := low5 (f 1) (f 2) (f 3) (f 4) (f 5)

theorem low_is {f : Int → Bool} {x : Int} (hx : 1 ≤ x ∧ x ≤ 5) (hf : f x = true) (hn : ∀ v, 1 ≤ v → v < x → f v = false) : low f = x := by
  have hc : x = 1 ∨ x = 2 ∨ x = 3 ∨ x = 4 ∨ x = 5 := by omega
  unfold low low5
  rcases hc with rfl | rfl | rfl | rfl | rfl
  · simp [hf]
  · simp [hf, hn 1 (by omega) (by omega)]
  · simp [hf, hn 1 (by omega) (by omega), hn 2 (by omega) (by omega)]
  · simp [hf, hn 1 (by omega) (by omega), hn 2 (by omega) (by omega), hn 3 (by omega) (by omega)]
  · simp [hf, hn 1 (by omega) (by omega), hn 2 (by omega) (by omega), hn 3 (by omega) (by omega), hn 4 (by omega) (by omega)]

theorem verbs_less {vs : List Int} (h : verbsOk vs = true) : ∀ (j : Nat) (hj : j < vs.length) (i : Nat) (hi : i < j), vs[i]'(by omega) < vs[j] := by
  unfold verbsOk at h
  rw [Bool.and_eq_true] at h
  intro j
  induction j with
  | zero => intro _ i hi; omega
  | succ j ih =>
    intro hj i hi
    have h1 := up_at hj h.2
    unfold verbAt at h1
    rw [getD_at vs (j + 1) _ hj, Nat.add_sub_cancel, getD_at vs j _ (by omega)] at h1
    simp only [Bool.and_eq_true] at h1
    have h2 : vs[j] < vs[j + 1] := by simpa using h1.2
    rcases Nat.lt_or_ge i j with hlt | hge
    · exact Int.lt_trans (ih (by omega) i hlt) h2
    · have e : i = j := by omega
      subst e; exact h2

/-- The first verb that lacks is the least one. -/
theorem lacks_low {ts : List Tm} (hok : teamsOk ts = true) (rs : List Rl) {r : Rl} (hv : verbsOk r.vs = true) (hne : ¬ (leftBits ts rs r == 0) = true) : lacksS ts rs r = low (lacksAt ts rs r) ∧ ¬ lacksS ts rs r = 0 := by
  rw [left_zero_iff rs hv] at hne
  rw [lacks_find hok]
  cases hf : r.vs.find? (fun v => !(rs.any fun q => covs ts r q v)) with
  | none =>
    rw [List.find?_eq_none] at hf
    exact absurd (fun v hm => by simpa using hf v hm) hne
  | some x =>
    have hx := List.mem_of_find?_eq_some hf
    have hp := List.find?_some hf
    obtain ⟨i, hi, rfl⟩ := List.mem_iff_getElem.1 hx
    have h5 := verbsOk_at hv i hi
    refine ⟨(low_is h5 ?_ ?_).symm, by show ¬ r.vs[i] = 0; omega⟩
    · unfold lacksAt
      have hh : hasVerb r.vs r.vs[i] = true := hasVerb_at r.vs _ i hi rfl
      rw [hh]
      simpa using hp
    · intro v _ hlt
      unfold lacksAt
      cases hh : hasVerb r.vs v
      · rfl
      · unfold hasVerb at hh
        rw [List.any_eq_true] at hh
        obtain ⟨y, hy, he⟩ := hh
        have e : y = v := by simpa using he
        subst e
        obtain ⟨k, hk, rfl⟩ := List.mem_iff_getElem.1 hy
        have hki : k < i := by
          rcases Nat.lt_or_ge k i with h | h
          · exact h
          · rcases Nat.eq_or_lt_of_le h with e | h
            · subst e; omega
            · have := verbs_less hv k hk i h; omega
        rw [List.find?_eq_some_iff_getElem] at hf
        obtain ⟨_, j, hj, he2, hb⟩ := hf
        have hij : i = j := by
          rcases Nat.lt_trichotomy i j with h | h | h
          · have := verbs_less hv j hj i h; omega
          · exact h
          · have := verbs_less hv i hi j h; omega
        subst hij
        have := hb k hki
        simpa using this

end Gate
end Go.Proofs.YtoadlpdnpijnbaaDoor
