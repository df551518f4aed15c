import Derived.Test.YtfpeplbmfbepcaaGreatM13
import Derived.Test.YtfpeplbmfbepcaaGreatM05
import Derived.Test.YtfpeplbmfbepcaaGreatM03
import Derived.Laws.IdiomStrings
import Derived.Deep.RegionHeld3
import Derived.Test.YtfpeplbmfbepcaaGreatM07
namespace Go.Proofs.YtfpeplbmfbepcaaGreat
open Go.RowKit
theorem zoR {w : World} {b off : Nat} {ws : List ByteArray} (hw : zA w (some ⟨b, off, none⟩) ws) : ∀ j u, (ws.map Value.string)[j]? = some u -> w.cell? ((⟨b, off, none⟩ : Addr).add j) = some u := by
  intro j u hj
  have hlt : j < ws.length := by
    have := (List.getElem?_eq_some_iff.1 hj).1; simpa using this
  obtain ⟨b', off', he, hb, hc⟩ := hw.cells (by rintro rfl; simp at hlt)
  simp only [Option.some.injEq, Addr.mk.injEq] at he
  obtain ⟨rfl, rfl, _⟩ := he
  have h1 := hc j hlt
  have e1 : (⟨b, off, none⟩ : Addr).add j = ⟨b, off + j, none⟩ := by
    unfold Addr.add; split
    · rename_i h; subst h; simp
    · rfl
  rw [e1, h1]
  rw [List.getElem?_map, List.getElem?_eq_getElem hlt] at hj
  simpa using hj
theorem zmO {ws : List ByteArray} : ∀ u ∈ ws.map Value.string, u.oneCell' = true := by
  intro u hu; simp only [List.mem_map] at hu; obtain ⟨s, _, rfl⟩ := hu; rfl
theorem jl (w : World) (o1 o2 o3 : Obj) : Below w.heap.size w (((w.alloc o1).alloc o2).alloc o3) :=
  (((Below.refl _ _).alloc (Nat.le_refl _) _).alloc (by simp) _).alloc (by simp; omega) _
theorem zcw (w : World) (o1 o2 o3 : Obj) : (((w.alloc o1).alloc o2).alloc o3).heap[w.heap.size + 1 + 1]? = some o3 := by
  have h := alloc_at ((w.alloc o1).alloc o2) o3
  simpa using h
theorem zbL (w : World) (o1 o2 o3 : Obj) : (((w.alloc o1).alloc o2).alloc o3).heap[w.heap.size]? = some o1 := (Below.heap_alloc _ _ _ (by simp; omega)).trans (zP _ _ _).1
theorem zf2 (w : World) (o1 o2 o3 : Obj) : (((w.alloc o1).alloc o2).alloc o3).heap[w.heap.size + 1]? = some o2 := (Below.heap_alloc _ _ _ (by simp)).trans (zP _ _ _).2
theorem zlX {w w1 : World} {o1 o2 o3 : Obj} (hg : (((w.alloc o1).alloc o2).alloc o3).grownBy w1 (some (w.heap.size + 1 + 1))) :
    w1.heap[w.heap.size]? = some o1 /\ w1.heap[w.heap.size + 1]? = some o2 /\ Below w.heap.size w w1 /\ w.heap.size + 1 + 1 < w1.heap.size := by
  refine ⟨(hg.block _ (by simp; omega) (by simp; try omega)).trans (zbL _ _ _ _), (hg.block _ (by simp) (by simp)).trans (zf2 _ _ _ _), (jl _ _ _ _).grown hg (jl _ _ _ _).size (by intro k hk; simp at hk; omega), ?_⟩
  have := hg.size; simp at this; omega
theorem zqc (w : World) (p : Addr) (v : Value) (o3 : Obj) : ((w.setCell p v).alloc o3).heap[w.heap.size]? = some o3 := by
  have h := alloc_at (w.setCell p v) o3
  simpa [World.setCell] using h
theorem zo8 {w w1 w2 : World} {a : Value} {C1 C2 : Array Value} {t1 t2 : TypeId} {o3 : Obj} (hk : w1.heap[w.heap.size]? = some (.cells C1 t1)) (hr : w1.heap[w.heap.size + 1]? = some (.cells C2 t2)) (hB : Below w.heap.size w w1) (hz : w.heap.size + 1 + 1 < w1.heap.size)
    (hg : ((w1.setCell ⟨w.heap.size, 3, none⟩ a).alloc o3).grownBy w2 (some w1.heap.size)) :
    w2.heap[w.heap.size]? = some (.cells (C1.setIfInBounds 3 a) t1) /\ w2.heap[w.heap.size + 1]? = some (.cells C2 t2) /\ Below w.heap.size w w2 /\ w1.heap.size < w2.heap.size := by
  have hs : (w1.setCell ⟨w.heap.size, 3, none⟩ a).heap.size = w1.heap.size := by simp [World.setCell]
  refine ⟨(hg.block _ (by simp [World.setCell]; omega) (by simp; omega)).trans ((Below.heap_alloc _ _ _ (by rw [hs]; omega)).trans (zf hk _)),
    (hg.block _ (by simp [World.setCell]; omega) (by simp; omega)).trans ((Below.heap_alloc _ _ _ (by rw [hs]; omega)).trans ((Below.heap_setCell _ _ _ _ (by simp)).trans hr)),
    ((hB.setCell (Nat.le_refl _) _).alloc (by rw [hs]; omega) _).grown hg (by simp [World.setCell]; omega) (by intro k hk; simp at hk; omega), ?_⟩
  have := hg.size; simp [World.setCell] at this; omega
theorem zq.grown {lo : Nat} {w w2 : World} {a : Option Addr} {ws : List ByteArray} {row : Nat} (h : zq lo w a ws) (hg : w.grownBy w2 (some row)) (hr : ∀ g, a = some g -> g.block ≠ row) : zq lo w2 a ws := by
  rcases h with ⟨rfl, rfl⟩ | ⟨g, C, rfl, hl, hh, hc⟩
  · exact Or.inl ⟨rfl, rfl⟩
  · exact Or.inr ⟨g, C, rfl, hl, (hg.block g (Array.getElem?_eq_some_iff.1 hh).1 (by have := hr _ rfl; simpa using this)).trans hh, hc⟩
theorem zq.lt {lo : Nat} {w : World} {a : Option Addr} {ws : List ByteArray} (h : zq lo w a ws) : ∀ g, a = some g -> g.block < w.heap.size := by
  intro g hg
  rcases h with ⟨rfl, _⟩ | ⟨g', C, rfl, _, hh, _⟩
  · cases hg
  · cases hg; exact (Array.getElem?_eq_some_iff.1 hh).1
theorem zkk {P : Program} {w : World} {ops : Array Oper} {rest : List Oper} {o : Oper} {a : Act} {Q : Exit -> Act -> World -> Prop} (hgd : o.guard = none) (s x : Operand) (t : TypeId)
    (ho : o.op = .call { callee := .builtin .append, args := #[s, x], argTypes := #[t, t] })
    (e : TypeId) (i : TypeInfo) (z : Value) (size bytes : Nat) (ht : P.underlying t = some (.slice e)) (hi : P.info? e = some i) (hz : i.zero = some z)
    (hsize : i.size = size) (hby : i.bytes = bytes) (hzs : z.cells.size = size) (hsz : 0 < size) (g : Nat) (hs : a.eval s = .slice (some ⟨g, 0, none⟩) 0 0) (hg : w.heap[g]? = some (.cells #[] e))
    (ad : Option Addr) (n c : Nat) (news : List Value) (hx : a.eval x = .slice ad n c) (hl : news.length = n * size) (hn : n ≠ 0 -> ∃ p, ad = some p /\ ∀ j u, news[j]? = some u -> w.cell? (p.add j) = some u) (h1 : ∀ u ∈ news, u.oneCell' = true)
    (h63 : n <= maxLen) (hbytes : n * bytes <= 140737488355328)
    (h : ∀ v' w', w'.ownsRow g e size v' n news -> w.grownBy w' (some g) -> (∃ g' c', v' = .slice (some ⟨g', 0, none⟩) n c') -> wpList P ops Q rest (a.put o.dst v') w') : wpList P ops Q (o :: rest) a w := by
  have hrow : w.ownsRow g e size (.slice (some ⟨g, 0, none⟩) 0 0) 0 [] := ⟨by simp, .inr ⟨g, 0, #[], rfl, Nat.le_refl _, hg, Nat.le_refl _, by simp [maxLen], by simp, by simp⟩⟩
  by_cases h0 : n = 0
  · subst h0
    have hr : (Builtin.append_ #[t, t] o.type #[.slice (some ⟨g, 0, none⟩) 0 0, .slice ad 0 c]).run P w = .ok (.slice (some ⟨g, 0, none⟩) 0 0) w := by
      have hso : (sizeOf e).run P w = .ok size w := by
        unfold sizeOf typeInfo
        simp [hi, hsize, go_sem, Result.andThen]
      rcases ad with _ | p
      · simp [Builtin.append_, run_underlying ht, Builtin.lenOf, Builtin.firstCells, go_sem, Result.andThen, hso]
      · simp [Builtin.append_, run_underlying ht, Builtin.lenOf, Builtin.firstCells, go_sem, Result.andThen, hso]
    refine wpList_plain hgd fun K hK => ?_
    unfold Oper.wp
    simp only [execOp, ho, resolve, invoke, builtin, Sem.run_bind, Sem.run_pure, Result.andThen_ok, List.map_toArray, List.map_cons, List.map_nil, hs, hx, hr]
    have hnews : news = [] := List.length_eq_zero_iff.1 (by rw [hl]; simp)
    exact hK _ _ (h _ _ (by rw [hnews]; exact hrow) ⟨rfl, rfl, rfl, Nat.le_refl _, fun _ _ _ => rfl⟩ ⟨g, 0, rfl⟩)
  · obtain ⟨p, rfl, hc⟩ := hn h0
    refine wpList_append_own w hgd s x t ho g e i z size bytes ht hi hz hsize hby hzs hsz _ 0 [] hs hrow p n c news hx hl hc h1 (by omega) (by rw [Nat.zero_add]; exact hbytes) (Nat.le_of_lt (Array.getElem?_eq_some_iff.1 hg).1) ?_
    intro v' w' hown hgr _
    rw [Nat.zero_add, List.nil_append] at hown
    refine h v' w' hown hgr ?_
    obtain ⟨_, ⟨_, h2⟩ | ⟨g', c', _, h2, _⟩⟩ := hown
    · exact absurd h2 h0
    · exact ⟨g', c', h2⟩
theorem zke {w : World} {a : Option Addr} {ws : List ByteArray} (h : zA w a ws) (hne : ws.length ≠ 0) : ∃ p, a = some p /\ ∀ j u, (ws.map Value.string)[j]? = some u -> w.cell? (p.add j) = some u := by
  obtain ⟨b, off, rfl, _⟩ := h.cells (fun e => hne (by rw [e]; rfl))
  exact ⟨_, rfl, zoR h⟩
set_option maxRecDepth 20000 in
set_option maxHeartbeats 1000000 in
theorem zir (o : Ob) (va ha : Option Addr) (cap cap' : Nat) (w : World) (ho : qR w o va ha) (hl : o.vs.length <= 1048576) (hl' : o.hs.length <= 1048576) :
    Calls Tryz.prog 175 #[.agg (oC o va ha cap cap')] w
      fun e w' => ∃ a dap a' dap' m, e = .returned (.agg (oC o a a' dap dap')) /\ zq w.heap.size w' a o.vs /\ (∀ g, a = some g -> g.block < m) /\ w.heap.size <= m /\ zq m w' a' o.hs /\ Below w.heap.size w w' /\ (∃ g, a = some ⟨g, 0, none⟩) /\ ∃ g, a' = some ⟨g, 0, none⟩ := by
  obtain ⟨i0, hi, hz0, hz1', hz2⟩ := info_parts Tryz.zdm
  go_enter Tryz.func175, Tryz.ntmps175
  go_wp2_with (first
    | (at_builtin; refine zkk rfl (.tmp 3) (.tmp 5) 102 rfl 9 i0 (.string ByteArray.empty) 1 16 Tryz.underlying102 hi hz0 hz1' hz2 rfl (by decide) (w.heap.size + 1 + 1) rfl (zcw _ _ _ _) va o.vs.length cap (o.vs.map Value.string) rfl (by simp) (zke (ho.vals.mono (jl _ _ _ _))) zmO (by unfold maxLen; omega) (by omega) ?_; intro v' w1 hown hgr hsm; obtain ⟨a, dap, rfl, ht1⟩ := zq.zf8 hown; have HA : Hid (∃ g, a = some ⟨g, 0, none⟩) := (by obtain ⟨g, c, h9⟩ := hsm; cases h9; exact ⟨g, rfl⟩); clear hsm; obtain ⟨hk1, hr1, hB1, hz1⟩ := zlX hgr; have hX1 : ∀ j, w1.cell? ⟨w.heap.size, j, none⟩ = (oC o va ha cap cap')[j]? := fun j => cell_of_block hk1; have hF1 : ∀ j, w1.frozen? ⟨w.heap.size, j, none⟩ = false := fun j => zh hk1; have hzz1 : w.heap.size < w1.heap.size := (by omega); have hone := hB1.setCell (p := ⟨w.heap.size, 3, none⟩) (Nat.le_refl _) (.slice a o.vs.length dap); have HT1 : Hid (zq (w.heap.size + 1 + 1) w1 a o.vs) := ht1; have HK1 : Hid (w1.heap[w.heap.size]? = some (.cells (oC o va ha cap cap') 119)) := hk1; have HR1 : Hid (w1.heap[w.heap.size + 1]? = some (.cells oZ 119)) := hr1; clear ht1 hk1 hr1; clear hown hgr)
    | (at_builtin; refine zkk rfl (.tmp 8) (.tmp 10) 102 rfl 9 i0 (.string ByteArray.empty) 1 16 Tryz.underlying102 hi hz0 hz1' hz2 rfl (by decide) w1.heap.size rfl (zqc _ _ _ _) ha o.hs.length cap' (o.hs.map Value.string) rfl (by simp) (zke (ho.holds.mono (hone.alloc hone.size _))) zmO (by unfold maxLen; omega) (by omega) ?_; intro v'' w2 hown hgr hsm; obtain ⟨a', dap', rfl, ht2⟩ := zq.zf8 hown; have HA' : Hid (∃ g, a' = some ⟨g, 0, none⟩) := (by obtain ⟨g, c, h9⟩ := hsm; cases h9; exact ⟨g, rfl⟩); clear hsm; obtain ⟨hk2, hr2, hB2, hz2'⟩ := zo8 HK1.out HR1.out hB1 hz1 hgr; have HU2 : Hid (zq w1.heap.size w2 a' o.hs) := ht2; have HT2 : Hid (zq (w.heap.size + 1 + 1) w2 a o.vs) := ((HT1.out.setCell _ (by simp; omega) _).mono ((Below.refl _ _).alloc (Nat.le_refl _) _)).grown hgr (fun g hg => Nat.ne_of_lt (HT1.out.lt g hg)); have hX2 : ∀ j, w2.cell? ⟨w.heap.size, j, none⟩ = (oC o a ha dap cap')[j]? := fun j => cell_of_block hk2; have hF2 : ∀ j, w2.frozen? ⟨w.heap.size, j, none⟩ = false := fun j => zh hk2; have hY2 : ∀ j, w2.cell? ⟨w.heap.size + 1, j, none⟩ = oZ[j]? := fun j => cell_of_block hr2; have hG2 : ∀ j, w2.frozen? ⟨w.heap.size + 1, j, none⟩ = false := fun j => zh hr2; have hzz2 : w.heap.size + 1 < w2.heap.size := (by omega); clear hown hgr ht2 hk2 hr2 hX1 hF1))
  refine bodyPost_ret (v := (.agg (oC o a a' dap dap'))) (by simp [results, Tryz.results175, go_sem, hY2]) rfl ⟨a, dap, a', dap', w1.heap.size, rfl, ((((((((HT2.out.setCell _ (by simp; omega) _).setCell _ (by simp) _).setCell _ (by simp) _).setCell _ (by simp) _).setCell _ (by simp) _).setCell _ (by simp) _).setCell _ (by simp) _).setCell _ (by simp) _).low (by omega), HT1.out.lt, by omega, ((((((((HU2.out.setCell _ (by simp; omega) _).setCell _ (by simp; omega) _).setCell _ (by simp; omega) _).setCell _ (by simp; omega) _).setCell _ (by simp; omega) _).setCell _ (by simp; omega) _).setCell _ (by simp; omega) _).setCell _ (by simp; omega) _), ((((((((hB2.setCell (Nat.le_refl _) _).setCell (by simp) _).setCell (by simp) _).setCell (by simp) _).setCell (by simp) _).setCell (by simp) _).setCell (by simp) _).setCell (by simp) _), HA.out, HA'.out⟩
theorem zix (o : Ob) (b off b' off' cap cap' : Nat) (w : World) (ho : qR w o (some ⟨b, off, none⟩) (some ⟨b', off', none⟩)) (hl : o.vs.length <= 1048576) (hl' : o.hs.length <= 1048576) :
    Calls Tryz.prog 175 #[.agg (oC o (some ⟨b, off, none⟩) (some ⟨b', off', none⟩) cap cap')] w
      fun e w' => ∃ a dap a' dap' m, e = .returned (.agg (oC o a a' dap dap')) /\ zq w.heap.size w' a o.vs /\ (∀ g, a = some g -> g.block < m) /\ w.heap.size <= m /\ zq m w' a' o.hs /\ Below w.heap.size w w' :=
  (zir o _ _ cap cap' w ho hl hl').mono fun _ _ ⟨a, dap, a', dap', m, h1, h2, h3, h4, h5, h6, _⟩ => ⟨a, dap, a', dap', m, h1, h2, h3, h4, h5, h6⟩
end Go.Proofs.YtfpeplbmfbepcaaGreat

namespace Go.Proofs.YtfpeplbmfbepcaaGreat
open Go.RowKit
def zme (a : Option Addr) (ws : List ByteArray) : Prop := (a = none /\ ws = []) \/ ∃ b off, a = some ⟨b, off, none⟩
theorem zq.zqn {lo : Nat} {w : World} {a : Option Addr} {ws : List ByteArray} (h : zq lo w a ws) : zme a ws := by
  rcases h with ⟨h0, h1⟩ | ⟨g, C, h0, _⟩
  · exact Or.inl ⟨h0, h1⟩
  · exact Or.inr ⟨g, 0, h0⟩
set_option maxHeartbeats 1000000 in
theorem zdY (cap : Nat) (w : World) :
    Calls Tryz.prog 226 #[.slice none 0 cap] w fun e w' => ∃ v, e = .returned v /\ w'.ownsRow w.heap.size 9 1 v 0 [] /\ Below w.heap.size w w' := by
  go_enter Tryz.func226, Tryz.ntmps226
  go_wp2_with fail
  go_ret
  exact ⟨_, rfl, World.ownsRow_nil _ _ _ _, Below.refl _ _⟩
theorem zeG (a : Option Addr) (cap : Nat) (ws : List ByteArray) (w : World) (hw : zA w a ws) (hA : zme a ws) (hl : ws.length <= 1048576) :
    Calls Tryz.prog 226 #[.slice a ws.length cap] w
      fun e w' => ∃ v, e = .returned v /\ w'.ownsRow w.heap.size 9 1 v ws.length (ws.map Value.string) /\ Below w.heap.size w w' := by
  rcases hA with ⟨rfl, rfl⟩ | ⟨b, off, rfl⟩
  · exact zdY cap w
  · exact zeH b off cap ws w hw hl
set_option maxHeartbeats 1000000 in
theorem ziw (o : Ob) (va ha : Option Addr) (cap cap' : Nat) (w : World) (ho : qR w o va ha) (hA : zme va o.vs) (hA' : zme ha o.hs) (hl : o.vs.length <= 1048576) (hl' : o.hs.length <= 1048576) :
    Calls Tryz.prog 223 #[.agg (oC o va ha cap cap')] w
      fun e w' => ∃ a dap a' dap' m, e = .returned (.agg (oC o a a' dap dap')) /\ zq w.heap.size w' a o.vs /\ (∀ g, a = some g -> g.block < m) /\ w.heap.size <= m /\ zq m w' a' o.hs /\ Below w.heap.size w w' := by
  go_enter Tryz.func223, Tryz.ntmps223
  go_wp2_with fail
  refine (zeG _ _ _ _ (ho.vals.mono (zn _ _ _)) hA hl).mono ?_
  rintro e w1 ⟨v, rfl, hown1, hb1⟩
  obtain ⟨a, dap, rfl, ht1⟩ := zq.zf8 hown1
  have hk1 := (hb1.block w.heap.size (by simp; omega)).trans (zP _ _ _).1
  have hr1 := (hb1.block (w.heap.size + 1) (by simp)).trans (zP _ _ _).2
  have HT : Hid (zq (w.heap.size + 1 + 1) w1 a o.vs) := by unfold Hid; simpa using ht1
  have hz1 : w.heap.size + 1 < w1.heap.size := by have := hb1.size; simp at this; omega
  have hB1 := (zn _ _ _).trans (hb1.mono (by simp; omega))
  have HK := hid hk1
  have HRR := hid hr1
  have hX1 : ∀ j, w1.cell? ⟨w.heap.size, j, none⟩ = (oC o va ha cap cap')[j]? := fun j => cell_of_block hk1
  have hF1 : ∀ j, w1.frozen? ⟨w.heap.size, j, none⟩ = false := fun j => zh hk1
  clear hb1 hown1 ht1 hk1 hr1
  go_wp2_with fail
  have hB1' := hB1.setCell (p := ⟨w.heap.size, 3, none⟩) (Nat.le_refl _) (.slice a o.vs.length dap)
  refine (zeG _ _ _ _ (ho.holds.mono hB1') hA' hl').mono ?_
  rintro e w2 ⟨v, rfl, hown2, hb2⟩
  obtain ⟨a', dap', rfl, ht2⟩ := zq.zf8 hown2
  have hk2 := (hb2.block w.heap.size (by simp [World.setCell]; omega)).trans (zf HK.out _)
  have hr2 := (hb2.block (w.heap.size + 1) (by simp [World.setCell]; omega)).trans ((Below.heap_setCell _ _ _ _ (by simp)).trans HRR.out)
  have HT2 := hid ((HT.out.setCell _ (by simp; omega) _).mono hb2)
  have HU2 : Hid (zq w1.heap.size w2 a' o.hs) := by unfold Hid; simpa [World.setCell] using ht2
  have HM : Hid (∀ g, a = some g -> g.block < w1.heap.size) := by
    intro g hg
    rcases HT.out with ⟨h0, _⟩ | ⟨g', C, h0, _, hh, _⟩
    · rw [h0] at hg; cases hg
    · rw [h0] at hg; cases hg; exact (Array.getElem?_eq_some_iff.1 hh).1
  have hz2 : w.heap.size + 1 < w2.heap.size := by have := hb2.size; simp [World.setCell] at this; omega
  have hB2 := hB1'.trans (hb2.mono hB1'.size)
  have hX2 : ∀ j, w2.cell? ⟨w.heap.size, j, none⟩ = (oC o a ha dap cap')[j]? := fun j => cell_of_block hk2
  have hF2 : ∀ j, w2.frozen? ⟨w.heap.size, j, none⟩ = false := fun j => zh hk2
  have hY2 : ∀ j, w2.cell? ⟨w.heap.size + 1, j, none⟩ = oZ[j]? := fun j => cell_of_block hr2
  have hG2 : ∀ j, w2.frozen? ⟨w.heap.size + 1, j, none⟩ = false := fun j => zh hr2
  have hzz : w.heap.size <= w1.heap.size := by omega
  clear hb2 hown2 ht2 hX1 hF1 hB1 hB1' hk2 hr2
  go_wp2_with fail
  refine bodyPost_ret (v := (.agg (oC o a a' dap dap'))) (by simp [results, Tryz.results223, go_sem, hY2]) rfl ⟨a, dap, a', dap', w1.heap.size, rfl, ((((((((HT2.out.setCell _ (by simp; omega) _).setCell _ (by simp) _).setCell _ (by simp) _).setCell _ (by simp) _).setCell _ (by simp) _).setCell _ (by simp) _).setCell _ (by simp) _).setCell _ (by simp) _).low (by omega), HM.out, hzz, ((((((((HU2.out.setCell _ (by simp; omega) _).setCell _ (by simp; omega) _).setCell _ (by simp; omega) _).setCell _ (by simp; omega) _).setCell _ (by simp; omega) _).setCell _ (by simp; omega) _).setCell _ (by simp; omega) _).setCell _ (by simp; omega) _), ((((((((hB2.setCell (Nat.le_refl _) _).setCell (by simp) _).setCell (by simp) _).setCell (by simp) _).setCell (by simp) _).setCell (by simp) _).setCell (by simp) _).setCell (by simp) _)⟩
end Go.Proofs.YtfpeplbmfbepcaaGreat

namespace Go.Proofs.YtfpeplbmfbepcaaGreat
open Go.RowKit
structure Marked (lo hi : Nat) (w w' : World) : Prop where
  os : w'.os = w.os
  tape : w'.tape = w.tape
  output : w'.output = w.output
  size : w.heap.size <= w'.heap.size
  out : ∀ k, k < w.heap.size -> (k < lo \/ hi <= k) -> w'.heap[k]? = w.heap[k]?
  inn : ∀ (k : Nat) (C : Array Value) (t : TypeId), lo <= k -> k < hi -> w.heap[k]? = some (.cells C t) -> ∃ C' : Array Value, w'.heap[k]? = some (.cells C' t) /\ C'.size = C.size /\ ∀ (j : Nat) a n c, C'[j]? = some (Value.slice a n c) ↔ C[j]? = some (Value.slice a n c)
theorem Marked.refl (lo hi : Nat) (w : World) : Marked lo hi w w := ⟨rfl, rfl, rfl, Nat.le_refl _, fun _ _ _ => rfl, fun _ C _ _ _ h => ⟨C, h, rfl, fun _ _ _ _ => Iff.rfl⟩⟩
theorem Marked.trans {lo hi : Nat} {a b c : World} (h : Marked lo hi a b) (k : Marked lo hi b c) : Marked lo hi a c :=
  ⟨k.os.trans h.os, k.tape.trans h.tape, k.output.trans h.output, Nat.le_trans h.size k.size,
    fun i hi ho => (k.out i (Nat.lt_of_lt_of_le hi h.size) ho).trans (h.out i hi ho),
    fun i C t h1 h2 hC => by
      obtain ⟨C1, hC1, hs1, hk1⟩ := h.inn i C t h1 h2 hC
      obtain ⟨C2, hC2, hs2, hk2⟩ := k.inn i C1 t h1 h2 hC1
      exact ⟨C2, hC2, hs2.trans hs1, fun j a n c => (hk2 j a n c).trans (hk1 j a n c)⟩⟩
theorem Marked.of_below {lo hi : Nat} {w w' : World} (h : Below w.heap.size w w') : Marked lo hi w w' :=
  ⟨h.os, h.tape, h.output, h.size, fun k hk _ => h.block k hk, fun k C _ _ _ hC => ⟨C, (h.block k (Array.getElem?_eq_some_iff.1 hC).1).trans hC, rfl, fun _ _ _ _ => Iff.rfl⟩⟩
theorem Marked.wide {lo hi lo' hi' : Nat} {w w' : World} (h : Marked lo hi w w') (h1 : lo' <= lo) (h2 : hi <= hi') : Marked lo' hi' w w' :=
  ⟨h.os, h.tape, h.output, h.size, fun k hk ho => h.out k hk (by omega), fun k C t g1 g2 hC => by
    by_cases hin : lo <= k /\ k < hi
    · exact h.inn k C t hin.1 hin.2 hC
    · exact ⟨C, (h.out k (Array.getElem?_eq_some_iff.1 hC).1 (by omega)).trans hC, rfl, fun _ _ _ _ => Iff.rfl⟩⟩
theorem Marked.put {lo hi b j : Nat} {w w1 : World} {C : Array Value} {t : TypeId} (h : Marked lo hi w w1) (hlo : lo <= b) (hhi : b < hi) (hC : w.heap[b]? = some (.cells C t)) (hj : ∀ a n c, C[j]? ≠ some (Value.slice a n c)) (v : Value) (hv : ∀ a n c, v ≠ Value.slice a n c) : Marked lo hi w (w1.setCell ⟨b, j, none⟩ v) := by
  refine ⟨h.os, h.tape, h.output, by have := h.size; simpa [World.setCell] using this, fun k hk ho => ?_, fun k C0 t0 g1 g2 hC0 => ?_⟩
  · rw [Below.heap_setCell _ _ _ _ (by show k ≠ b; omega)]; exact h.out k hk ho
  · obtain ⟨C1, hC1, hs1, hk1⟩ := h.inn k C0 t0 g1 g2 hC0
    by_cases hkb : k = b
    · subst hkb
      rw [hC] at hC0
      simp only [Option.some.injEq, Obj.cells.injEq] at hC0
      obtain ⟨rfl, rfl, _⟩ := hC0
      refine ⟨C1.setIfInBounds j v, zf hC1 _, by simpa using hs1, fun i a n c => ?_⟩
      by_cases hij : j = i
      · subst hij
        refine ⟨fun h => ?_, fun h => absurd h (hj a n c)⟩
        exfalso
        rw [Array.getElem?_setIfInBounds] at h
        simp only [if_true] at h
        split at h
        · exact hv a n c (Option.some.inj h)
        · cases h
      · rw [Array.getElem?_setIfInBounds_ne hij]; exact hk1 i a n c
    · exact ⟨C1, (Below.heap_setCell _ _ _ _ (by show k ≠ b; exact hkb)).trans hC1, hs1, hk1⟩
theorem Marked.cell {lo hi : Nat} {w w' : World} (h : Marked lo hi w w') {p : Addr} (hp : p.block < w.heap.size) (ho : p.block < lo \/ hi <= p.block) : w'.cell? p = w.cell? p := by
  unfold World.cell?; rw [h.out p.block hp ho]
theorem Marked.box {lo hi b : Nat} {w w' : World} {X : Array Value} (h : Marked lo hi w w') (hX : ∀ o, w.cell? ⟨b, o, none⟩ = X[o]?) (hb : b < w.heap.size) (ho : b < lo \/ hi <= b) : ∀ o, w'.cell? ⟨b, o, none⟩ = X[o]? :=
  fun o => (h.cell (p := ⟨b, o, none⟩) hb ho).trans (hX o)
theorem Marked.below {lo hi B : Nat} {w w' : World} (h : Marked lo hi w w') (h1 : B <= lo) (h2 : B <= w.heap.size) : Below B w w' :=
  ⟨h.os, h.tape, h.output, h.size, fun k hk => h.out k (by omega) (Or.inl (by omega))⟩
namespace Gate
def zd2 (n : Nat) : ByteArray := ⟨#[UInt8.ofNat (48 + n)]⟩
def digits (n : Nat) (acc : ByteArray) : ByteArray := if n = 0 then acc else digits (n / 10) (zd2 (n % 10) ++ acc)
termination_by n
decreasing_by omega
theorem zmD (acc : ByteArray) : digits 0 acc = acc := by rw [digits]; rfl
theorem znk {n : Nat} (h : 0 < n) (acc : ByteArray) : digits n acc = digits (n / 10) (zd2 (n % 10) ++ acc) := by
  conv => lhs; rw [digits]
  rw [if_neg (by omega)]
def zer (k : Nat) : ByteArray := ⟨#[109]⟩ ++ digits k ByteArray.empty
end Gate
theorem zlQ (n : Nat) (h : n < 9000000000000000000) : wrap64 ((n : Int) / 10) = ((n / 10 : Nat) : Int) := by
  rw [z8 _ ⟨by omega, by omega⟩]; omega
theorem zqa {k : Nat} (h : k < 9000000000000000000) : k < 10 ^ 19 := Nat.lt_trans h (by decide)
theorem znv (n : Nat) (hn : 0 < n) (h : n < 9000000000000000000) : (intOf (.int .i64 (wrap64 ((n : Int) / 10)))).toNat < (intOf (.int .i64 (n : Int))).toNat := by
  rw [zlQ n h]
  show (((n / 10 : Nat) : Int)).toNat < ((n : Nat) : Int).toNat
  rw [Int.toNat_natCast, Int.toNat_natCast]
  omega
theorem zoA (n : Nat) : ((UInt8.ofNat (48 + n % 10)).toNat : Int) = 48 + (n : Int) % 10 := by
  rw [UInt8.toNat_ofNat', Nat.mod_eq_of_lt (by omega)]; omega
theorem zoa (w : World) (n : Nat) : (convert 188 9 (.slice (some ⟨w.heap.size, 0, none⟩) 1 1)).run Tryz.prog (w.alloc (.cells #[.int .u8 (48 + (n : Int) % 10)] 5)) = .ok (.string (Gate.zd2 (n % 10))) (w.alloc (.cells #[.int .u8 (48 + (n : Int) % 10)] 5)) := by
  refine run_convert_bytes_back _ _ _ 5 ⟨w.heap.size, 0, none⟩ 1 [UInt8.ofNat (48 + n % 10)] Tryz.underlying188 Tryz.underlying5 Tryz.underlying9 (fun j hj => ?_)
  have e : j = 0 := by simp at hj; omega
  subst e
  rw [List.getElem_cons_zero, zoA]
  have e2 : (⟨w.heap.size, 0, none⟩ : Addr).add 0 = ⟨w.heap.size, 0, none⟩ := rfl
  rw [e2, World.cell?_alloc_at (hn := rfl)]
  rfl
set_option maxRecDepth 20000 in
set_option maxHeartbeats 1000000 in
theorem zfp (k : Nat) (w : World) (hk : 0 < k) (hk2 : k < 9000000000000000000) :
    Calls Tryz.prog 82 #[.int .i64 k] w fun e w' => e = .returned (.string (Gate.zer k)) /\ Below w.heap.size w w' := by
  have hk0 : decide ((k : Int) <= 0) = false := by simp; omega
  go_enter Tryz.func82, Tryz.ntmps82
  go_wp2_with fail
  go_loopw [0, 3] (fun kv ov wr => ∃ (n : Nat) (acc : ByteArray) (d : Nat), kv = .int .i64 n /\ ov = .string acc /\ n <= k /\ n < 10 ^ d /\ acc.size + d <= 19 /\ Gate.digits n acc = Gate.digits k ByteArray.empty /\ Below w.heap.size w wr) (fun kv _ _ => (intOf kv).toNat)
  case atStart => exact ⟨k, ByteArray.empty, 19, rfl, rfl, Nat.le_refl _, zqa hk2, by simp, rfl, Below.refl _ _⟩
  case round =>
    obtain ⟨n, acc, d, rfl, rfl, hnk, hnd, had, hdig, hB⟩ := hrel
    have HF : Hid (n <= k /\ n < 10 ^ d /\ acc.size + d <= 19 /\ Gate.digits n acc = Gate.digits k ByteArray.empty /\ Below w.heap.size w wr) := ⟨hnk, hnd, had, hdig, hB⟩
    have HK : Hid (k < 9000000000000000000) := hk2
    have hacc : acc.size <= 19 := by omega
    clear hnk hnd had hdig hB hk2
    by_cases hn : 0 < n
    · have hn0 : decide ((n : Int) > 0) = true := by simp; omega
      have hcv := zoa wr n
      have hds : (Gate.zd2 (n % 10)).size = 1 := rfl
      go_wp2_with fail
      go_roundw
      case rel =>
        obtain ⟨hnk, hnd, had, hdig, hB⟩ := HF.out
        have hk2 := HK.out
        have hd0 : d ≠ 0 := by rintro rfl; simp at hnd; omega
        obtain ⟨e, rfl⟩ : ∃ e, d = e + 1 := ⟨d - 1, by omega⟩
        exact ⟨n / 10, Gate.zd2 (n % 10) ++ acc, e, by rw [zlQ n (by omega)], rfl, by omega, by rw [Nat.pow_succ] at hnd; omega, by rw [ByteArray.size_append, hds]; omega, by rw [<- Gate.znk hn]; exact hdig, hB.alloc hB.size _⟩
      case measure =>
        have hnk := HF.out.1
        have hk2 := HK.out
        exact znv n hn (by omega)
    · have hn0 : decide ((n : Int) > 0) = false := by simp; omega
      go_wp2_with fail
      go_ret
      have e0 : n = 0 := by omega
      obtain ⟨_, _, _, hdig, hB⟩ := HF.out
      subst e0
      rw [Gate.zmD] at hdig
      exact ⟨by unfold Gate.zer; rw [<- hdig]; rfl, hB⟩
end Go.Proofs.YtfpeplbmfbepcaaGreat

namespace Go.Proofs.YtfpeplbmfbepcaaGreat
open Go.RowKit
set_option maxHeartbeats 1000000 in
theorem zhy (g n cap : Nat) (C : Array Value) (k : Nat) (w : World) (hC : w.heap[g]? = some (.cells C 9)) (hn : n <= C.size) (hns : ∀ i, i < n -> ∀ a m c, C[i]? ≠ some (Value.slice a m c)) (hk : 0 < k) (hkn : k + n < 9000000000000000000) :
    Calls Tryz.prog 84 #[.slice (some ⟨g, 0, none⟩) n cap, .int .i64 k] w fun e w' => e = .returned (.int .i64 ((k + n : Nat) : Int)) /\ Marked g (g + 1) w w' /\ ∃ C', w'.heap[g]? = some (.cells C' 9) /\ C'.size = C.size /\ ∀ i, i < n -> C'[i]? = some (.string (Gate.zer (k + i))) := by
  have HS := hid hns
  have HC := hid hC
  have HN := hid hn
  have HKN := hid hkn
  clear hns hC hn hkn
  go_enter Tryz.func84, Tryz.ntmps84
  go_wp2_with fail
  go_loopw [1, 5] (fun kv iv wr => ∃ i : Nat, i <= n /\ kv = .int .i64 ((k + i : Nat) : Int) /\ iv = .int .i64 i /\ Marked g (g + 1) w wr /\ ∃ C', wr.heap[g]? = some (.cells C' 9) /\ C'.size = C.size /\ ∀ j, j < i -> C'[j]? = some (.string (Gate.zer (k + j)))) (fun _ iv _ => n - (intOf iv).toNat)
  case atStart => exact ⟨0, Nat.zero_le _, by simp, rfl, Marked.refl _ _ _, C, HC.out, rfl, fun j h => absurd h (by omega)⟩
  case round =>
    obtain ⟨i, hi, rfl, rfl, hM, C', hC', hs', hc'⟩ := hrel
    by_cases hlt : i < n
    · have hkn := HKN.out
      have hltI : (i : Int) < (n : Int) := by omega
      have HX := zia hM hC' hs' hc'
      have hglt := (Array.getElem?_eq_some_iff.1 hC').1
      clear hM hC' hs' hc' hkn
      go_wp2_with fail
      rw [<- Int.natCast_add]
      refine (zfp (k + i) _ (by omega) (by have := HKN.out; omega)).mono ?_
      rintro e w1 ⟨rfl, hb1⟩
      have hC1 : w1.heap[g]? = some (.cells C' 9) := (hb1.block g hglt).trans HX.out.2.1
      have hi1 : i < C'.size := by have h1 := HX.out.2.2.1; have h2 := HN.out; omega
      have hcell : w1.cell? ⟨g, i, none⟩ = some C'[i] := by rw [cell_of_block hC1]; exact Array.getElem?_eq_getElem hi1
      have hfz : w1.frozen? ⟨g, i, none⟩ = false := zh hC1
      have HC1 := hid hC1
      have HM1 := hid (HX.out.1.trans (Marked.of_below hb1))
      have HR : Hid (wrap64 ((k : Int) + i + 1) = ((k + (i + 1) : Nat) : Int)) := by have := HKN.out; rw [Hid, z8 _ ⟨by omega, by omega⟩]; omega
      clear hb1 hC1
      go_wp2_with fail
      go_roundw
      case rel =>
        refine ⟨i + 1, by omega, ?_, by rw [wrap_one (by have := HKN.out; omega)], ?_, C'.setIfInBounds i (.string (Gate.zer (k + i))), zf HC1.out _, by simp [HX.out.2.2.1], fun j hj => ?_⟩
        · rw [HR.out]
        · exact HM1.out.put (Nat.le_refl _) (Nat.lt_succ_self _) HC.out (HS.out i hlt) _ (fun _ _ _ h => by cases h)
        · by_cases e : j = i
          · subst e; rw [Array.getElem?_setIfInBounds_self_of_lt hi1]
          · rw [Array.getElem?_setIfInBounds_ne (fun h => e h.symm)]; exact HX.out.2.2.2 j (by omega)
      case measure =>
        have hkn := HKN.out
        exact qK hlt (by omega)
    · have e : i = n := by omega
      have HX : Hid (Marked g (g + 1) w wr /\ ∃ C', wr.heap[g]? = some (.cells C' 9) /\ C'.size = C.size /\ ∀ j, j < n -> C'[j]? = some (.string (Gate.zer (k + j)))) := ⟨hM, C', hC', hs', by rw [<- e]; exact hc'⟩
      clear hM hC' hs' hc'
      subst e
      go_wp2_with fail
      go_ret
      exact ⟨rfl, HX.out⟩
end Go.Proofs.YtfpeplbmfbepcaaGreat

namespace Go.Proofs.YtfpeplbmfbepcaaGreat
open Go.RowKit
def zaP (C : Array Value) (j : Nat) : Prop := ∀ a n c, C[j]? ≠ some (Value.slice a n c)
structure q9 (lo hi : Nat) (w : World) (b n : Nat) : Prop where
  low : lo <= b
  high : b < hi
  rows : ∃ C, w.heap[b]? = some (.cells C 9) /\ n <= C.size /\ ∀ j, j < n -> zaP C j
structure qN (lo hi : Nat) (w : World) (bo : Nat) (fs : List Fld) : Prop where
  low : lo <= bo
  high : bo < hi
  rows : ∃ C, w.heap[bo]? = some (.cells C 165) /\ C.size = fs.length * 11 /\
    ∀ i (h : i < fs.length), ∃ bk cap, q9 lo hi w bk fs[i].ws.length /\ C[i * 11 + 4]? = some (.slice (some ⟨bk, 0, none⟩) fs[i].ws.length cap) /\ ∀ j, j < 11 -> j ≠ 4 -> zaP C (i * 11 + j)
structure qY (lo hi : Nat) (w : World) (bo : Nat) (ss : List Shp) : Prop where
  low : lo <= bo
  high : bo < hi
  rows : ∃ C, w.heap[bo]? = some (.cells C 123) /\ C.size = ss.length * 2 /\
    ∀ i (h : i < ss.length), ∃ bf cap, qN lo hi w bf ss[i].fs /\ C[i * 2 + 1]? = some (.slice (some ⟨bf, 0, none⟩) ss[i].fs.length cap) /\ zaP C (i * 2)
theorem q9.mono {lo hi : Nat} {w w' : World} {b n : Nat} (h : q9 lo hi w b n) (hM : Marked lo hi w w') : q9 lo hi w' b n := by
  obtain ⟨C, hC, hs, hn⟩ := h.rows
  obtain ⟨C', hC', hs', hk⟩ := hM.inn b C _ h.low h.high hC
  exact ⟨h.low, h.high, C', hC', by omega, fun j hj a m c he => hn j hj a m c ((hk j a m c).1 he)⟩
theorem qN.mono {lo hi : Nat} {w w' : World} {b : Nat} {fs : List Fld} (h : qN lo hi w b fs) (hM : Marked lo hi w w') : qN lo hi w' b fs := by
  obtain ⟨C, hC, hs, hn⟩ := h.rows
  obtain ⟨C', hC', hs', hk⟩ := hM.inn b C _ h.low h.high hC
  refine ⟨h.low, h.high, C', hC', by omega, fun i hi => ?_⟩
  obtain ⟨bk, cap, h1, h2, h3⟩ := hn i hi
  exact ⟨bk, cap, h1.mono hM, (hk _ _ _ _).2 h2, fun j hj hj4 a m c he => h3 j hj hj4 a m c ((hk _ a m c).1 he)⟩
theorem qY.mono {lo hi : Nat} {w w' : World} {b : Nat} {ss : List Shp} (h : qY lo hi w b ss) (hM : Marked lo hi w w') : qY lo hi w' b ss := by
  obtain ⟨C, hC, hs, hn⟩ := h.rows
  obtain ⟨C', hC', hs', hk⟩ := hM.inn b C _ h.low h.high hC
  refine ⟨h.low, h.high, C', hC', by omega, fun i hi => ?_⟩
  obtain ⟨bk, cap, h1, h2, h3⟩ := hn i hi
  exact ⟨bk, cap, h1.mono hM, (hk _ _ _ _).2 h2, fun a m c he => h3 a m c ((hk _ a m c).1 he)⟩
theorem zcm (ws : List ByteArray) (j : Nat) : zaP (jk ws) j := by
  intro a n c h
  simp only [jk, List.getElem?_toArray, List.getElem?_map, Option.map_eq_some_iff] at h
  obtain ⟨_, _, h⟩ := h
  cases h
theorem yY.form {lo : Nat} {w : World} {bo : Nat} {fs : List Fld} (h : yY lo w bo fs fs.length) : qN lo w.heap.size w bo fs := by
  obtain ⟨C, hC, hsz, hr⟩ := h.rows
  refine ⟨h.low, (Array.getElem?_eq_some_iff.1 hC).1, C, hC, hsz, fun i hi => ?_⟩
  obtain ⟨bk, h1, _, hk, hc⟩ := hr i hi hi
  refine ⟨bk, fs[i].ws.length, ⟨h1, (Array.getElem?_eq_some_iff.1 hk).1, jk fs[i].ws, hk, by simp [jk], fun j _ => zcm _ _⟩, by rw [hc 4 (by omega)]; rfl, fun j hj hj4 a n c he => ?_⟩
  rw [hc j hj] at he
  rcases j with _ | _ | _ | _ | _ | _ | _ | _ | _ | _ | _ | j <;> first | omega | (simp [Fld.cells] at he)
theorem je.form {lo : Nat} {w : World} {bo : Nat} {ss : List Shp} (h : je lo w bo ss ss.length) : qY lo w.heap.size w bo ss := by
  obtain ⟨C, hC, hsz, hr⟩ := h.rows
  refine ⟨h.low, (Array.getElem?_eq_some_iff.1 hC).1, C, hC, hsz, fun i hi => ?_⟩
  obtain ⟨bf, h1, h2, hf, hk, hl⟩ := hr i hi hi
  have hf' := hf.form
  have hlow : lo <= bo := h.low
  refine ⟨bf, ss[i].fs.length, ⟨h1, hf'.high, ?_⟩, hl, fun a n c he => by rw [hk] at he; cases he⟩
  obtain ⟨C', hC', hs', hr'⟩ := hf'.rows
  refine ⟨C', hC', hs', fun j hj => ?_⟩
  obtain ⟨bk, cap, g1, g2, g3⟩ := hr' j hj
  exact ⟨bk, cap, ⟨by have := g1.low; omega, g1.high, g1.rows⟩, g2, g3⟩
theorem zI (k : Int) (w : World) (hk : 0 < k) (hk2 : k < 9000000000000000000) :
    Calls Tryz.prog 82 #[.int .i64 k] w fun e w' => ∃ s, e = .returned (.string s) /\ Below w.heap.size w w' := by
  obtain ⟨n, rfl⟩ : ∃ n : Nat, k = n := ⟨k.toNat, by omega⟩
  exact (zfp n w (by omega) (by omega)).mono fun e w' ⟨h1, h2⟩ => ⟨_, h1, h2⟩
theorem zbx (lo hi b n cap : Nat) (k : Int) (w : World) (h : q9 lo hi w b n) (hn : n <= 1048576) (hk : 0 < k) (hk2 : k < 8000000000000000000) :
    Calls Tryz.prog 84 #[.slice (some ⟨b, 0, none⟩) n cap, .int .i64 k] w fun e w' => ∃ k', e = .returned (.int .i64 k') /\ k' = k + n /\ Marked lo hi w w' := by
  obtain ⟨m, rfl⟩ : ∃ m : Nat, k = m := ⟨k.toNat, by omega⟩
  obtain ⟨C, hC, hs, hns⟩ := h.rows
  refine (zhy b n cap C m w hC hs hns (by omega) (by omega)).mono fun e w' ⟨h1, h2, _⟩ => ⟨_, h1, Int.natCast_add _ _, h2.wide h.low h.high⟩
end Go.Proofs.YtfpeplbmfbepcaaGreat

namespace Go.Proofs.YtfpeplbmfbepcaaGreat
open Go.RowKit
theorem qN.ready {lo hi bo : Nat} {w W : World} {fs : List Fld} (h : qN lo hi w bo fs) (hM : Marked lo hi w W) (i : Nat) (hi' : i < fs.length) :
    (∀ j, j < 11 -> ∃ v, W.cell? ⟨bo, i * 11 + j, none⟩ = some v) /\ (∀ o, W.frozen? ⟨bo, o, none⟩ = false) := by
  have h' := h.mono hM
  obtain ⟨C, hC, hs, hn⟩ := h'.rows
  exact ⟨fun j hj => ⟨C[i * 11 + j]'(by omega), by rw [cell_of_block hC]; exact Array.getElem?_eq_getElem (by omega)⟩, fun o => zh hC⟩
theorem qN.words {lo hi bo : Nat} {w : World} {fs : List Fld} (h : qN lo hi w bo fs) (i : Nat) (hi' : i < fs.length) :
    ∃ bk cap, q9 lo hi w bk fs[i].ws.length /\ ∀ W, Marked lo hi w W -> W.cell? ⟨bo, i * 11 + 4, none⟩ = some (.slice (some ⟨bk, 0, none⟩) fs[i].ws.length cap) := by
  obtain ⟨C, hC, hs, hn⟩ := h.rows
  obtain ⟨bk, cap, h1, h2, _⟩ := hn i hi'
  refine ⟨bk, cap, h1, fun W hM => ?_⟩
  obtain ⟨C', hC', _, hk⟩ := hM.inn bo C _ h.low h.high hC
  rw [cell_of_block hC']
  exact (hk _ _ _ _).2 h2
theorem qN.put {lo hi bo : Nat} {w W : World} {fs : List Fld} (h : qN lo hi w bo fs) (hM : Marked lo hi w W) (i j : Nat) (hi' : i < fs.length) (hj : j < 11) (hj4 : j ≠ 4) (v : Value) (hv : ∀ a n c, v ≠ Value.slice a n c) : Marked lo hi w (W.setCell ⟨bo, i * 11 + j, none⟩ v) := by
  obtain ⟨C, hC, _, hn⟩ := h.rows
  obtain ⟨_, _, _, _, h3⟩ := hn i hi'
  exact hM.put h.low h.high hC (h3 j hj hj4) v hv
set_option maxRecDepth 20000 in
set_option maxHeartbeats 4000000 in
theorem ze4 (lo hi bo cap : Nat) (fs : List Fld) (k : Int) (w : World) (h : qN lo hi w bo fs) (hl : fs.length <= 1048576) (hls : ∀ i (h : i < fs.length), fs[i].ws.length <= 1048576) (hk : 0 < k) (hk2 : k < 4000000000000000000) :
    Calls Tryz.prog 83 #[.slice (some ⟨bo, 0, none⟩) fs.length cap, .int .i64 k] w fun e w' => ∃ k', e = .returned (.int .i64 k') /\ k <= k' /\ k' <= k + fs.length * 1048586 /\ Marked lo hi w w' := by
  have HF := hid h
  have HL := qJ hl hls
  have HK := qJ hk hk2
  clear h hl hls hk hk2
  go_enter Tryz.func83, Tryz.ntmps83
  go_wp2_with fail
  go_loopw [1, 5] (fun kv iv wr => ∃ (i : Nat) (kk : Int), i <= fs.length /\ kv = .int .i64 kk /\ iv = .int .i64 i /\ k <= kk /\ kk <= k + i * 1048586 /\ Marked lo hi w wr) (fun _ iv _ => fs.length - (intOf iv).toNat)
  case atStart => exact ⟨0, k, Nat.zero_le _, rfl, rfl, Int.le_refl _, by simp, Marked.refl _ _ _⟩
  case round =>
    obtain ⟨i, kk, hile, rfl, rfl, h1, h2, hM⟩ := hrel
    by_cases hlt : i < fs.length
    · have hltI : (i : Int) < (fs.length : Int) := by omega
      have HB : Hid (0 < kk /\ kk < 7000000000000000000 /\ kk <= k + i * 1048586 /\ k <= kk) := by have a := HK.out; have b := HL.out.1; exact ⟨by omega, by omega, h2, h1⟩
      have HM := hid hM
      clear h1 h2 hM
      obtain ⟨bk, bcap, hT, hsl⟩ := HF.out.words i hlt
      have HT := qJ hT hsl
      clear hT hsl
      go_wp2_with fail
      refine (zI _ _ HB.out.1 (by have := HB.out; omega)).mono ?_
      rintro e w1 ⟨s1, rfl, hb1⟩
      have HM1 := hid (HM.out.trans (Marked.of_below hb1))
      clear hb1
      have hsl := HT.out.2 _ HM1.out
      obtain ⟨hex, hfz⟩ := HF.out.ready HM1.out i hlt
      obtain ⟨v0, hv0⟩ := hex 0 (by omega)
      obtain ⟨v1, hv1⟩ := hex 1 (by omega)
      obtain ⟨v2, hv2⟩ := hex 2 (by omega)
      obtain ⟨v3, hv3⟩ := hex 3 (by omega)
      rw [Nat.add_zero] at hv0
      have hwkk1 : wrap64 (kk + 1) = kk + 1 := by have := HB.out; exact z8 _ ⟨by omega, by omega⟩
      have hwkk2 : wrap64 (kk + 1 + 1) = kk + 1 + 1 := by have := HB.out; exact z8 _ ⟨by omega, by omega⟩
      have hwkk3 : wrap64 (kk + 1 + 1 + 1) = kk + 1 + 1 + 1 := by have := HB.out; exact z8 _ ⟨by omega, by omega⟩
      have hwkk4 : wrap64 (kk + 1 + 1 + 1 + 1) = kk + 1 + 1 + 1 + 1 := by have := HB.out; exact z8 _ ⟨by omega, by omega⟩
      clear hex
      go_wp2_with fail
      have HMW := HF.out.put (HF.out.put (HF.out.put (HF.out.put HM1.out i 0 hlt (by omega) (by omega) (.string s1) (fun _ _ _ h => by cases h)) i 1 hlt (by omega) (by omega) (.int .i64 (kk + 1)) (fun _ _ _ h => by cases h)) i 2 hlt (by omega) (by omega) (.int .i64 (kk + 1 + 1)) (fun _ _ _ h => by cases h)) i 3 hlt (by omega) (by omega) (.int .i64 (kk + 1 + 1 + 1)) (fun _ _ _ h => by cases h)
      refine (zbx lo hi bk _ bcap _ _ (HT.out.1.mono HMW) (HL.out.2 i hlt) (by have := HB.out; omega) (by have := HB.out; omega)).mono ?_
      rintro e w2 ⟨k2, rfl, hk2, hM2⟩
      have HM2 := hid (HMW.trans hM2)
      have HB2 : Hid (kk < k2 /\ k2 <= kk + 4 + 1048576 /\ 0 < k2) := by have a := HL.out.2 i hlt; have b := HB.out; exact ⟨by omega, by omega, by omega⟩
      clear HMW hM2 hk2 hv0 hv1 hv2 hv3 hfz hsl
      go_wp2_with fail
      refine (zI _ _ HB2.out.2.2 (by have := HB.out; have := HB2.out; omega)).mono ?_
      rintro e w3 ⟨s3, rfl, hb3⟩
      have HM3 := hid (HM2.out.trans (Marked.of_below hb3))
      clear hb3
      obtain ⟨hex, hfz⟩ := HF.out.ready HM3.out i hlt
      obtain ⟨v5, hv5⟩ := hex 5 (by omega)
      obtain ⟨v6, hv6⟩ := hex 6 (by omega)
      obtain ⟨v7, hv7⟩ := hex 7 (by omega)
      obtain ⟨v8, hv8⟩ := hex 8 (by omega)
      have hwk21 : wrap64 (k2 + 1) = k2 + 1 := by have := HB.out; have := HB2.out; exact z8 _ ⟨by omega, by omega⟩
      have hwk22 : wrap64 (k2 + 1 + 1) = k2 + 1 + 1 := by have := HB.out; have := HB2.out; exact z8 _ ⟨by omega, by omega⟩
      have hwk23 : wrap64 (k2 + 1 + 1 + 1) = k2 + 1 + 1 + 1 := by have := HB.out; have := HB2.out; exact z8 _ ⟨by omega, by omega⟩
      have hwk24 : wrap64 (k2 + 1 + 1 + 1 + 1) = k2 + 1 + 1 + 1 + 1 := by have := HB.out; have := HB2.out; exact z8 _ ⟨by omega, by omega⟩
      have hwk25 : wrap64 (k2 + 1 + 1 + 1 + 1 + 1) = k2 + 1 + 1 + 1 + 1 + 1 := by have := HB.out; have := HB2.out; exact z8 _ ⟨by omega, by omega⟩
      have hwk26 : wrap64 (k2 + 1 + 1 + 1 + 1 + 1 + 1) = k2 + 1 + 1 + 1 + 1 + 1 + 1 := by have := HB.out; have := HB2.out; exact z8 _ ⟨by omega, by omega⟩
      clear hex
      go_wp2_with fail
      have HMW := HF.out.put (HF.out.put (HF.out.put (HF.out.put HM3.out i 5 hlt (by omega) (by omega) (.string s3) (fun _ _ _ h => by cases h)) i 6 hlt (by omega) (by omega) (.int .i64 (k2 + 1)) (fun _ _ _ h => by cases h)) i 7 hlt (by omega) (by omega) (.bool ((k2 + 1 + 1).tmod 3 == 0)) (fun _ _ _ h => by cases h)) i 8 hlt (by omega) (by omega) (.bool ((k2 + 1 + 1 + 1).tmod 3 == 0)) (fun _ _ _ h => by cases h)
      refine (zI _ _ (by have := HB2.out; omega) (by have := HB.out; have := HB2.out; omega)).mono ?_
      rintro e w4 ⟨s4, rfl, hb4⟩
      have HM4 := hid (HMW.trans (Marked.of_below hb4))
      clear HMW hb4 hv5 hv6 hv7 hv8 hfz
      obtain ⟨hex, hfz⟩ := HF.out.ready HM4.out i hlt
      obtain ⟨v9, hv9⟩ := hex 9 (by omega)
      clear hex
      go_wp2_with fail
      have HMW := HF.out.put HM4.out i 9 hlt (by omega) (by omega) (.string s4) (fun _ _ _ h => by cases h)
      refine (zI _ _ (by have := HB2.out; omega) (by have := HB.out; have := HB2.out; omega)).mono ?_
      rintro e w5 ⟨s5, rfl, hb5⟩
      have HM5 := hid (HMW.trans (Marked.of_below hb5))
      clear HMW hb5 hv9 hfz
      obtain ⟨hex, hfz⟩ := HF.out.ready HM5.out i hlt
      obtain ⟨v10, hv10⟩ := hex 10 (by omega)
      clear hex
      go_wp2_with fail
      go_roundw
      case rel => exact ⟨i + 1, k2 + 1 + 1 + 1 + 1 + 1 + 1, by omega, by rw [hwk26], by rw [wrap_one (by have := HL.out.1; omega)], by have a := HB.out; have b := HB2.out; omega, by have a := HB.out; have b := HB2.out; omega, HF.out.put HM5.out i 10 hlt (by omega) (by omega) (.string s5) (fun _ _ _ h => by cases h)⟩
      case measure => exact qK hlt (by have := HL.out.1; omega)
    · have e : i = fs.length := by omega
      subst e
      go_wp2_with fail
      go_ret
      exact ⟨kk, rfl, h1, h2, hM⟩
theorem qY.ready {lo hi bo : Nat} {w W : World} {ss : List Shp} (h : qY lo hi w bo ss) (hM : Marked lo hi w W) (i : Nat) (hi' : i < ss.length) :
    (∀ j, j < 2 -> ∃ v, W.cell? ⟨bo, i * 2 + j, none⟩ = some v) /\ (∀ o, W.frozen? ⟨bo, o, none⟩ = false) := by
  have h' := h.mono hM
  obtain ⟨C, hC, hs, hn⟩ := h'.rows
  exact ⟨fun j hj => ⟨C[i * 2 + j]'(by omega), by rw [cell_of_block hC]; exact Array.getElem?_eq_getElem (by omega)⟩, fun o => zh hC⟩
theorem qY.zcE {lo hi bo : Nat} {w : World} {ss : List Shp} (h : qY lo hi w bo ss) (i : Nat) (hi' : i < ss.length) :
    ∃ bf cap, qN lo hi w bf ss[i].fs /\ ∀ W, Marked lo hi w W -> W.cell? ⟨bo, i * 2 + 1, none⟩ = some (.slice (some ⟨bf, 0, none⟩) ss[i].fs.length cap) := by
  obtain ⟨C, hC, hs, hn⟩ := h.rows
  obtain ⟨bk, cap, h1, h2, _⟩ := hn i hi'
  refine ⟨bk, cap, h1, fun W hM => ?_⟩
  obtain ⟨C', hC', _, hk⟩ := hM.inn bo C _ h.low h.high hC
  rw [cell_of_block hC']
  exact (hk _ _ _ _).2 h2
theorem qY.put {lo hi bo : Nat} {w W : World} {ss : List Shp} (h : qY lo hi w bo ss) (hM : Marked lo hi w W) (i : Nat) (hi' : i < ss.length) (v : Value) (hv : ∀ a n c, v ≠ Value.slice a n c) : Marked lo hi w (W.setCell ⟨bo, i * 2, none⟩ v) := by
  obtain ⟨C, hC, _, hn⟩ := h.rows
  obtain ⟨_, _, _, _, h3⟩ := hn i hi'
  exact hM.put h.low h.high hC h3 v hv
set_option maxHeartbeats 4000000 in
theorem ze2 (lo hi bo cap : Nat) (ss : List Shp) (k : Int) (w : World) (h : qY lo hi w bo ss) (hl : ss.length <= 1048576) (hls : ∀ i (h : i < ss.length), ss[i].fs.length <= 1048576 /\ ∀ j (h' : j < ss[i].fs.length), ss[i].fs[j].ws.length <= 1048576) (hk : 0 < k) (hk2 : k < 1000000000000000000) :
    Calls Tryz.prog 44 #[.slice (some ⟨bo, 0, none⟩) ss.length cap, .int .i64 k] w fun e w' => ∃ k', e = .returned (.int .i64 k') /\ k <= k' /\ k' <= k + ss.length * 1099522113537 /\ Marked lo hi w w' := by
  have HF := hid h
  have HL := qJ hl hls
  have HK := qJ hk hk2
  clear h hl hls hk hk2
  go_enter Tryz.func44, Tryz.ntmps44
  go_wp2_with fail
  go_loopw [1, 5] (fun kv iv wr => ∃ (i : Nat) (kk : Int), i <= ss.length /\ kv = .int .i64 kk /\ iv = .int .i64 i /\ k <= kk /\ kk <= k + i * 1099522113537 /\ Marked lo hi w wr) (fun _ iv _ => ss.length - (intOf iv).toNat)
  case atStart => exact ⟨0, k, Nat.zero_le _, rfl, rfl, Int.le_refl _, by simp, Marked.refl _ _ _⟩
  case round =>
    obtain ⟨i, kk, hile, rfl, rfl, h1, h2, hM⟩ := hrel
    by_cases hlt : i < ss.length
    · have hltI : (i : Int) < (ss.length : Int) := by omega
      have HB : Hid (0 < kk /\ kk < 3000000000000000000 /\ kk <= k + i * 1099522113537 /\ k <= kk) := by have a := HK.out; have b := HL.out.1; exact ⟨by omega, by omega, h2, h1⟩
      have HM := hid hM
      clear h1 h2 hM
      obtain ⟨bf, bcap, hT, hsl⟩ := HF.out.zcE i hlt
      have HT := qJ hT hsl
      clear hT hsl
      go_wp2_with fail
      refine (zI _ _ HB.out.1 (by have := HB.out; omega)).mono ?_
      rintro e w1 ⟨s1, rfl, hb1⟩
      have HM1 := hid (HM.out.trans (Marked.of_below hb1))
      clear hb1
      have hsl := HT.out.2 _ HM1.out
      obtain ⟨hex, hfz⟩ := HF.out.ready HM1.out i hlt
      obtain ⟨v0, hv0⟩ := hex 0 (by omega)
      rw [Nat.add_zero] at hv0
      have hw1 : wrap64 (kk + 1) = kk + 1 := by have := HB.out; exact z8 _ ⟨by omega, by omega⟩
      clear hex
      go_wp2_with fail
      have HMW := HF.out.put HM1.out i hlt (.string s1) (fun _ _ _ h => by cases h)
      refine (ze4 lo hi bf bcap _ _ _ (HT.out.1.mono HMW) (HL.out.2 i hlt).1 (HL.out.2 i hlt).2 (by have := HB.out; omega) (by have := HB.out; omega)).mono ?_
      rintro e w2 ⟨k2, rfl, h3, h4, hM2⟩
      have HM2 := hid (HMW.trans hM2)
      have HB2 : Hid (kk < k2 /\ k2 <= kk + 1099522113537) := by have a := (HL.out.2 i hlt).1; exact ⟨by omega, by omega⟩
      clear HMW hM2 h3 h4 hv0 hfz hsl
      go_wp2_with fail
      go_roundw
      case rel => exact ⟨i + 1, k2, by omega, rfl, by rw [wrap_one (by have := HL.out.1; omega)], by have a := HB.out; have b := HB2.out; omega, by have a := HB.out; have b := HB2.out; omega, HM2.out⟩
      case measure => exact qK hlt (by have := HL.out.1; omega)
    · have e : i = ss.length := by omega
      subst e
      go_wp2_with fail
      go_ret
      exact ⟨kk, rfl, h1, h2, hM⟩
end Go.Proofs.YtfpeplbmfbepcaaGreat

namespace Go.Proofs.YtfpeplbmfbepcaaGreat
open Go.RowKit
structure zaF (lo hi : Nat) (w : World) (b n : Nat) : Prop where
  low : lo <= b
  high : b < hi
  rows : ∃ C, w.heap[b]? = some (.cells C 3) /\ n <= C.size /\ ∀ j, j < n -> zaP C j
theorem zaF.mono {lo hi : Nat} {w w' : World} {b n : Nat} (h : zaF lo hi w b n) (hM : Marked lo hi w w') : zaF lo hi w' b n := by
  obtain ⟨C, hC, hs, hn⟩ := h.rows
  obtain ⟨C', hC', hs', hk⟩ := hM.inn b C _ h.low h.high hC
  exact ⟨h.low, h.high, C', hC', by omega, fun j hj a m c he => hn j hj a m c ((hk j a m c).1 he)⟩
set_option maxHeartbeats 2000000 in
theorem zfJ (g n cap : Nat) (C : Array Value) (k : Nat) (w : World) (hC : w.heap[g]? = some (.cells C 3)) (hn : n <= C.size) (hns : ∀ i, i < n -> ∀ a m c, C[i]? ≠ some (Value.slice a m c)) (hk : 0 < k) (hkn : k + n < 9000000000000000000) :
    Calls Tryz.prog 15 #[.slice (some ⟨g, 0, none⟩) n cap, .int .i64 k] w fun e w' => e = .returned (.int .i64 ((k + n : Nat) : Int)) /\ Marked g (g + 1) w w' /\ ∃ C', w'.heap[g]? = some (.cells C' 3) /\ C'.size = C.size /\ ∀ i, i < n -> C'[i]? = some (.int .i64 ((k + i : Nat) : Int)) := by
  have HS := hid hns
  have HC := hid hC
  have HN := hid hn
  have HKN := hid hkn
  clear hC hn hns hkn
  go_enter Tryz.func15, Tryz.ntmps15
  go_wp2_with fail
  go_loopw [1, 5] (fun kv iv wr => ∃ i : Nat, i <= n /\ kv = .int .i64 ((k + i : Nat) : Int) /\ iv = .int .i64 i /\ Hid (Marked g (g + 1) w wr /\ ∃ C', wr.heap[g]? = some (.cells C' 3) /\ C'.size = C.size /\ ∀ j, j < i -> C'[j]? = some (.int .i64 ((k + j : Nat) : Int)))) (fun _ iv _ => n - (intOf iv).toNat)
  case atStart => exact ⟨0, Nat.zero_le _, rfl, rfl, Marked.refl _ _ _, C, HC.out, rfl, fun j h => absurd h (Nat.not_lt_zero _)⟩
  case round =>
    obtain ⟨i, hi, rfl, rfl, HQ⟩ := hrel
    obtain ⟨hM, C', hC', hs', hc'⟩ := HQ.out
    by_cases hlt : i < n
    · have hltI : (i : Int) < (n : Int) := by omega
      have hgw := (Array.getElem?_eq_some_iff.1 hC').1
      obtain ⟨cv, hce⟩ : ∃ cv, wr.cell? ⟨g, i, none⟩ = some cv := ⟨C'[i]'(by have := HN.out; omega), by rw [cell_of_block hC']; exact Array.getElem?_eq_getElem (by have := HN.out; omega)⟩
      have hfz : ∀ o, wr.frozen? ⟨g, o, none⟩ = false := fun o => zh hC'
      have HE : Hid (Marked g (g + 1) w (wr.setCell ⟨g, i, none⟩ (.int .i64 ((k + i : Nat) : Int))) /\ ∃ C', (wr.setCell ⟨g, i, none⟩ (.int .i64 ((k + i : Nat) : Int))).heap[g]? = some (.cells C' 3) /\ C'.size = C.size /\ ∀ j, j < i + 1 -> C'[j]? = some (.int .i64 ((k + j : Nat) : Int))) := by
        refine ⟨hM.put (Nat.le_refl _) (Nat.lt_succ_self _) HC.out (HS.out i hlt) _ (fun _ _ _ h => by cases h), _, zf hC' _, by simpa using hs', fun j hj => ?_⟩
        by_cases e : j = i
        · subst e; rw [Array.getElem?_setIfInBounds_self_of_lt (by have := HN.out; omega)]
        · rw [Array.getElem?_setIfInBounds_ne (by omega)]; exact hc' j (by omega)
      have hw1 : wrap64 ((k + i : Nat) + 1 : Int) = ((k + (i + 1) : Nat) : Int) := by rw [z8 _ ⟨by omega, by have := HKN.out; omega⟩]; omega
      clear HQ hM hC' hs' hc'
      obtain ⟨kk, hkk⟩ : ∃ kk : Int, kk = ((k + i : Nat) : Int) := ⟨_, rfl⟩
      rw [<- hkk] at HE hw1 ⊢
      clear hkk
      go_wp2_with fail
      go_roundw
      case rel => exact ⟨i + 1, by omega, by rw [hw1], by rw [wrap_one (by have := HKN.out; omega)], HE.out⟩
      case measure => exact qK hlt (by have := HKN.out; omega)
    · have e : i = n := by omega
      subst e
      have HE := hid HQ.out
      clear HQ hM hC' hs' hc'
      go_wp2_with fail
      go_ret
      exact ⟨rfl, HE.out⟩
theorem zjs (lo hi b n cap : Nat) (k : Int) (w : World) (h : zaF lo hi w b n) (hn : n <= 1048576) (hk : 0 < k) (hk2 : k < 8000000000000000000) :
    Calls Tryz.prog 15 #[.slice (some ⟨b, 0, none⟩) n cap, .int .i64 k] w fun e w' => ∃ k', e = .returned (.int .i64 k') /\ k' = k + n /\ Marked lo hi w w' := by
  obtain ⟨m, rfl⟩ : ∃ m : Nat, k = m := ⟨k.toNat, by omega⟩
  obtain ⟨C, hC, hs, hns⟩ := h.rows
  refine (zfJ b n cap C m w hC hs hns (by omega) (by omega)).mono fun e w' ⟨h1, h2, _⟩ => ⟨_, h1, Int.natCast_add _ _, h2.wide h.low h.high⟩
end Go.Proofs.YtfpeplbmfbepcaaGreat
