import Derived.Test.YtkfigdbbncjojaaGreatM47
import Derived.Test.YtkfigdbbncjojaaGreatM43
import Derived.Test.YtkfigdbbncjojaaGreatM31
import Derived.WideKeyEntry
namespace Go.Proofs.YtkfigdbbncjojaaGreat
open Go.RowKit
theorem yx.entry {kt mt : TypeId} (K : zgz kt) (hm : Tryz.prog.underlying mt = some (.map kt 3)) {w : World} {r : Nat} {f : ByteArray -> ByteArray -> Option Int} (h : yx w r f) (a b : ByteArray) (ha : a.size <= maxLen) (hb : b.size <= maxLen) (v0 : Int) (hf : f a b = some v0) :
    ∃ st : Int, (Instr.mapEntry mt (.map (some r)) (y9 a b)).run Tryz.prog w = .ok (.tuple #[.int .i64 v0, .int .i64 st]) w /\
      ∀ v : Int, ∃ w', (Instr.entryStore mt (.map (some r)) (.int .i64 st) (.int .i64 v)).run Tryz.prog w = .ok () w' /\ yx w' r (fun p q => if p = a /\ q = b then some v else f p q) /\ zfi r w w' := by
  obtain ⟨es, clock, hh, h1, h2, h3⟩ := h.ex
  obtain ⟨l, hl⟩ := K.key a b ha hb
  obtain ⟨s1, s2⟩ := h.stamps es clock hh
  have hkeys : ∀ e ∈ es.toList, ∃ l, keyOf Tryz.prog kt e.key = some l := fun e he => by
    obtain ⟨a', b', v, e1, ha', hb', _⟩ := h1 e he
    rw [e1]; exact K.key a' b' ha' hb'
  have hc := K.law.check w false hl
  have hs := K.law.stays w hl
  rcases K.law.find w hl es.toList hkeys with ⟨g1, g2⟩ | ⟨j, e, g1, g2, g3⟩
  · obtain ⟨x, hx, hk⟩ := h2 a b v0 hf
    exact absurd hk (g2 x hx)
  · have hj : es[j]? = some e := by simpa using g2
    have hv : e.val = .int .i64 v0 := by
      obtain ⟨a', b', v', e1, _, _, e2, e3⟩ := h1 e (List.mem_of_getElem? g2)
      rw [g3] at e1
      have hab : a = a' /\ b = b' := by unfold y9 at e1; simpa using e1
      obtain ⟨rfl, rfl⟩ := hab
      rw [e3] at hf
      rw [e2, Option.some.inj hf]
    have hsame : es.modify j (fun e => { e with key := y9 a b }) = es := by
      apply Array.ext'
      rw [Array.toList_modify]
      apply List.ext_getElem?
      intro i
      rw [List.getElem?_modify]
      by_cases e' : j = i
      · subst e'
        rw [g2]
        simp [<- g3]
      · simp [e']
    have hset : { w with heap := w.heap.setIfInBounds r (.map es clock) } = w := by
      have hr : r < w.heap.size := (Array.getElem?_eq_some_iff.1 hh).1
      have : w.heap.setIfInBounds r (.map es clock) = w.heap := by
        apply Array.ext_getElem?
        intro i
        by_cases e' : r = i
        · subst e'; rw [Array.getElem?_setIfInBounds_self_of_lt hr, hh]
        · rw [Array.getElem?_setIfInBounds_ne e']
      rw [this]
    refine ⟨(e.born : Int), ?_, fun v => ?_⟩
    · rw [hv] at g1
      simp [Instr.mapEntry, run_underlying hm, MapKept.run_getObj_map hh, hc, g1, hj, g3, hs, hsame, MapKept.run_setObj_map _ hh, Result.andThen, goInt, hset]
    · obtain ⟨w', u1, u2, u3⟩ := h.upd K hm a b ha hb v
      refine ⟨w', ?_, u2, u3⟩
      have hidx : es.findIdx? (fun e' => ((e'.born : Nat) : Int) == ((e.born : Nat) : Int)) = some j := by
        rw [WideElems.findIdx_arr]
        exact WideElems.findIdx_born s2 g2
      have hmod : es.modify j (fun e => { e with val := .int .i64 v }) = es.modify j (fun e' => { e' with key := y9 a b, val := .int .i64 v }) := by
        apply Array.ext'
        rw [Array.toList_modify, Array.toList_modify]
        apply List.ext_getElem?
        intro i
        rw [List.getElem?_modify, List.getElem?_modify]
        by_cases e' : j = i
        · subst e'
          rw [g2]
          simp [<- g3]
        · simp [e']
      simp [Instr.mapUpdate, run_underlying hm, MapKept.run_getObj_map hh, hc, g1, hj, g3, hs, MapKept.run_setObj_map _ hh, Result.andThen] at u1
      simp [Instr.entryStore, MapKept.run_getObj_map hh, asInt, asIntOf, hidx, hmod, MapKept.run_setObj_map _ hh, Result.andThen]
      exact u1
end Go.Proofs.YtkfigdbbncjojaaGreat

namespace Go.Proofs.YtkfigdbbncjojaaGreat
open Go.RowKit
namespace Gate
theorem zaV (ss : List Shp) (o : Ob) : (yK ss o).length = o.vs.length := by
  unfold yK
  split
  · rename_i h; unfold zw at h; simp only [Bool.and_eq_true, decide_eq_true_eq] at h; exact yR h.2
  · rfl
theorem zgH {ss : List Shp} {ms : List Mnd} (h : zY ss ms = true) : zM ss = true := by
  unfold zY at h; simp only [Bool.and_eq_true] at h; exact h.1.1.2
theorem zk1 {ss : List Shp} {ms : List Mnd} {o : Ob} (h : zY ss ms = true) : zaT ss ms o = zbj ss ms ⟨o.kd, o.nm, o.tm, yK ss o, o.en, o.hs, o.vr⟩ := by
  have e : y8 ss ms ⟨o.kd, o.nm, o.tm, yK ss o, o.en, o.hs, o.vr⟩ = y8 ss ms o := by
    unfold y8; simp only [zaV]
  unfold zaT zbj
  rw [e]
  by_cases hm : y8 ss ms o = true
  · rw [if_pos hm, if_pos hm]
    have hc : zw ss o = true := by rw [<- zax h]; exact hm
    unfold zez yK
    rw [if_pos hc]
  · rw [if_neg hm, if_neg hm]
    have hc : ¬ zw ss o = true := by rw [<- zax h]; exact hm
    show o.vs = yK ss o
    unfold yK
    rw [if_neg hc]
end Gate
theorem zkQ (a0 ma : Option Addr) (cap0 mcap : Nat) (ss : List Shp) (ms : List Mnd) (o : Ob) (us : List ByteArray) (hus : us.length = o.vs.length) (b off b' off' cap cap' : Nat) (w : World) (hw : yB w a0 ss) (hm : y5 w ma ms) (hsm : o.Small) (ho : zB w (some ⟨b, off, none⟩) us) (ho' : zB w (some ⟨b', off', none⟩) o.hs) (hl : o.vs.length <= 1048576) (hl' : o.hs.length <= 1048576) (hok : Gate.zY ss ms = true) :
    Calls Tryz.prog 94 #[.slice a0 ss.length cap0, .slice ma ms.length mcap, .agg (oC o (some ⟨b, off, none⟩) (some ⟨b', off', none⟩) cap cap')] w (zet o (Gate.zbj ss ms ⟨o.kd, o.nm, o.tm, us, o.en, o.hs, o.vr⟩) w) := by
  have h := zjE a0 ma cap0 mcap ss ms ⟨o.kd, o.nm, o.tm, us, o.en, o.hs, o.vr⟩ b off b' off' cap cap' w hw hm ⟨⟨hsm.kd, hsm.nm, hsm.tm⟩, ho, ho'⟩ (by show us.length <= _; omega) hl' hok
  unfold zet at h ⊢
  simp only [oC, hus] at h
  exact h
set_option maxHeartbeats 2000000 in
theorem zjt (a0 ma : Option Addr) (cap0 mcap : Nat) (ss : List Shp) (ms : List Mnd) (o : Ob) (b off b' off' cap cap' : Nat) (w : World) (hw : yB w a0 ss) (hmm : y5 w ma ms) (ho : qQ w o (some ⟨b, off, none⟩) (some ⟨b', off', none⟩)) (hl : o.vs.length <= 1048576) (hl' : o.hs.length <= 1048576) (hok : Gate.zY ss ms = true) :
    Calls Tryz.prog 53 #[.slice a0 ss.length cap0, .slice ma ms.length mcap, .agg (oC o (some ⟨b, off, none⟩) (some ⟨b', off', none⟩) cap cap')] w (zet o (Gate.zaT ss ms o) w) := by
  have HRES : Hid (Gate.zaT ss ms o = Gate.zbj ss ms ⟨o.kd, o.nm, o.tm, Gate.yK ss o, o.en, o.hs, o.vr⟩) := Gate.zk1 hok
  have HSM : Hid ((Gate.yK ss o).length <= maxLen /\ ∀ s ∈ Gate.yK ss o, s.size <= maxLen) := ⟨by rw [Gate.zaV]; exact ho.vals.len, by rw [<- Gate.zlD (Gate.zgH hok)]; exact zlr hw.smalls ho.vals.small⟩
  have HH := zee hw hmm ho
  clear hw hmm ho
  have hb2 := zq w (.cells (oC o (some ⟨b, off, none⟩) (some ⟨b', off', none⟩) cap cap') 104) (.cells oZ 104)
  go_enter Tryz.func53, Tryz.ntmps53
  go_wp2_with fail
  refine (zjX a0 cap0 ss o b off b' off' cap cap' _ (HH.out.1.mono hb2) (HH.out.2.2.mono hb2) hl hl').mono ?_
  rintro e w1 ⟨a1, dap1, a1', dap1', m1, rfl, ht1, hm1, hsm1, ht1', hb1, ⟨g, rfl⟩, ⟨g', rfl⟩⟩
  have HR1 : Hid (w1.heap[w.heap.size + 1]? = some (.cells oZ 104)) := (hb1.block (w.heap.size + 1) (by simp)).trans (zP _ _ _).2
  have hz1 : w.heap.size + 1 < w1.heap.size := by have := hb1.size; simp at this; omega
  have hB1 : Below w.heap.size w w1 := hb2.trans (hb1.mono (by simp; omega))
  have hv1 := ht1.at HSM.out.1 HSM.out.2
  have hv1' := ht1'.at HH.out.2.2.holds.len HH.out.2.2.holds.small
  clear hb1 hb2 ht1 hm1 hsm1 ht1'
  go_wp2_with fail
  refine (zkQ a0 ma cap0 mcap ss ms o (Gate.yK ss o) (Gate.zaV ss o) g 0 g' 0 _ _ _ (HH.out.1.mono hB1) (HH.out.2.1.mono hB1) HH.out.2.2.small hv1 hv1' hl hl' hok).mono ?_
  rintro e w4 ⟨a, dap, a', dap', m, rfl, ht, hm, hsm, ht', hb4⟩
  have hR4 := (hb4.block (w.heap.size + 1) hz1).trans HR1.out
  have hRc : ∀ j, w4.cell? ⟨w.heap.size + 1, j, none⟩ = oZ[j]? := fun j => cell_of_block hR4
  have hRf : ∀ j, w4.frozen? ⟨w.heap.size + 1, j, none⟩ = false := fun j => zi hR4
  have HX : Hid (zn (w.heap.size + 1 + 1) w4 a (Gate.zaT ss ms o) /\ (∀ g, a = some g -> g.block < m) /\ w.heap.size + 1 + 1 <= m /\ zn m w4 a' o.hs /\ Below w.heap.size w w4) := by rw [HRES.out]; exact ⟨ht.low hz1, hm, Nat.le_trans hz1 hsm, ht', hB1.trans (hb4.mono hB1.size)⟩
  clear ht hm hsm ht' hb4 hR4
  go_wp2_with fail
  refine bodyPost_ret (v := (.agg (oC o a a' dap dap'))) (by simp [results, Tryz.results53, go_sem, hRc]) rfl ?_
  obtain ⟨ht, hm, hsm, ht', hB⟩ := HX.out
  exact ⟨a, dap, a', dap', m, rfl, (qK ht _ (by omega) _ _ _ _ _ _ _).low (by omega), hm, by omega, qK ht' _ (by omega) _ _ _ _ _ _ _, jU hB _ (by omega) _ _ _ _ _ _ _⟩
end Go.Proofs.YtkfigdbbncjojaaGreat
