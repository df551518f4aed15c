import Derived.Test.YtkfigdbbncjojaaGreatM18
import Derived.Test.YtkfigdbbncjojaaGreatM05
import Derived.Test.YtkfigdbbncjojaaGreatM13
import Derived.Test.YtkfigdbbncjojaaGreatM09
import Derived.Deep.RegionHeld3
namespace Go.Proofs.YtkfigdbbncjojaaGreat
open Go.RowKit
set_option maxHeartbeats 400000 in
theorem zhx (nm : ByteArray) (kd ls ms : Int) (sl : Value) (to : ByteArray) (rl : Int) (mu fx : Bool) (df wg : ByteArray) (v : ByteArray) (bn : Nat) (w : World) (hb : bn < w.heap.size) (hn : w.cell? ⟨bn, 0, none⟩ = some (.string v)) :
    Calls Tryz.prog 178 #[.agg #[.string nm, .int .i64 kd, .int .i64 ls, .int .i64 ms, sl, .string to, .int .i64 rl, .bool mu, .bool fx, .string df, .string wg], .pointer (some ⟨bn, 0, none⟩)] w fun e w' => e = .returned (.bool (nm.toList == v.toList)) /\ Below w.heap.size w w' := by
  go_enter Tryz.func178, Tryz.ntmps178
  go_wp2
  go_ret
  exact ⟨rfl, (Below.refl _ _).alloc (Nat.le_refl _) _⟩
set_option maxHeartbeats 1000000 in
theorem zih (a : Option Addr) (cap : Nat) (fs : List Fld) (v : ByteArray) (bn : Nat) (w : World) (hw : zW w a fs) (hbn : bn < w.heap.size) (hn : w.cell? ⟨bn, 0, none⟩ = some (.string v)) :
    Calls Tryz.prog 177 #[.slice a fs.length cap, .func (.func 178) #[] #[.pointer (some ⟨bn, 0, none⟩)]] w fun e w' => e = .returned (.int .i64 (Gate.zQ fs v)) /\ Below w.heap.size w w' := by
  have hl := hw.len
  unfold maxLen at hl
  go_enter Tryz.func177, Tryz.ntmps177
  go_wp2
  go_loopw [8] (fun i wr => ∃ k : Nat, k <= fs.length /\ i = .int .i64 k /\ Gate.hasName (fs.take k) v = false /\ Below w.heap.size w wr) (fun i _ => fs.length - (intOf i).toNat)
  case atStart => exact ⟨0, Nat.zero_le _, rfl, rfl, Below.refl _ _⟩
  case round =>
    obtain ⟨k, hk, rfl, hno, hB⟩ := hrel
    by_cases hlt : k < fs.length
    · obtain ⟨b, off, rfl, hb, hr⟩ := hw.rows (by rintro rfl; simp at hlt)
      obtain ⟨wa, wcap, hf⟩ := hr k hlt
      obtain ⟨c0, c1, c2, c3, c4, c5, c6, c7, c8, c9, c10⟩ := (hf.mono hb hB).load
      have hn1 := (hB.cell (p := ⟨bn, 0, none⟩) hbn).trans hn
      have hbn1 : bn < wr.heap.size := Nat.lt_of_lt_of_le hbn hB.size
      clear hw hr hf hn
      by_cases he : fs[k].nm = v
      · have HA : Hid (Gate.zQ fs v = k) := Gate.zcr fs v k hlt hno he
        have HE : Hid ((fs[k].nm.toList == v.toList) = true) := by unfold Hid; rw [Gate.beq_toList]; simpa using he
        clear he hno
        go_wp2_with fail
        refine (zu HE.out (zhx _ _ _ _ _ _ _ _ _ _ _ _ _ _ hbn1 hn1)).mono ?_
        rintro e w2 ⟨rfl, hb2⟩
        go_wp2_with fail
        go_ret
        exact ⟨zk HA.out.symm, hB.trans (hb2.mono hB.size)⟩
      · have HS : Hid (Gate.hasName (fs.take (k + 1)) v = false) := by unfold Hid; rw [Gate.zcl fs v k hlt, hno, decide_eq_false he]; rfl
        have HE : Hid ((fs[k].nm.toList == v.toList) = false) := by unfold Hid; rw [Gate.beq_toList]; simpa using he
        clear he hno
        go_wp2_with fail
        refine (zu HE.out (zhx _ _ _ _ _ _ _ _ _ _ _ _ _ _ hbn1 hn1)).mono ?_
        rintro e w2 ⟨rfl, hb2⟩
        go_wp2_with fail
        exact ⟨⟨k + 1, by omega, by go_num, HS.out, hB.trans (hb2.mono hB.size)⟩, by simp [intOf]; omega⟩
    · have HA : Hid (Gate.zQ fs v = -1) := Gate.zeM fs v (by rw [<- Gate.zfB fs v k (by omega)]; exact hno)
      clear hno hw
      go_wp2
      go_ret
      exact ⟨zk HA.out.symm, hB⟩
set_option maxHeartbeats 400000 in
theorem qA (a : Option Addr) (cap : Nat) (fs : List Fld) (v : ByteArray) (w : World) (hw : zW w a fs) :
    Calls Tryz.prog 154 #[.slice a fs.length cap, .string v] w fun e w' => e = .returned (.int .i64 (Gate.zQ fs v)) /\ Below w.heap.size w w' := by
  go_enter Tryz.func154, Tryz.ntmps154
  go_wp2_with fail
  refine (zih _ _ _ v _ _ (hw.mono ((Below.refl _ _).alloc (Nat.le_refl _) _)) (by simp) (by rw [World.cell?_alloc_at _ _ _ _ rfl]; rfl)).mono ?_
  rintro e w2 ⟨rfl, hb2⟩
  go_wp2_with fail
  go_ret
  exact ⟨rfl, ((Below.refl _ _).alloc (Nat.le_refl _) _).trans (hb2.mono (by simp))⟩
end Go.Proofs.YtkfigdbbncjojaaGreat

namespace Go.Proofs.YtkfigdbbncjojaaGreat
open Go.RowKit
set_option maxHeartbeats 1000000 in
theorem zl4 (nm : ByteArray) (ls ms : Int) (a : Option Addr) (n cap : Nat) (to : ByteArray) (rl : Int) (mu fx : Bool) (df wg : ByteArray) (w : World) :
    Calls Tryz.prog 175 #[.agg #[.string nm, .int .i64 1, .int .i64 ls, .int .i64 ms, .slice a n cap, .string to, .int .i64 rl, .bool mu, .bool fx, .string df, .string wg]] w fun e w' => e = .returned (.bool (Gate.qE 1 ls ms n to rl wg)) /\ Below w.heap.size w w' := by
  go_enter Tryz.func175, Tryz.ntmps175
  go_wp2
  all_goals
    go_ret
    refine ⟨ze ?_, (Below.refl _ _).alloc (Nat.le_refl _) _⟩
    simp_all [Gate.qE]
    try first | omega | (intros; omega) | (rw [Bool.eq_iff_iff]; simp)
set_option maxHeartbeats 1000000 in
theorem zlu (nm : ByteArray) (ls ms : Int) (a : Option Addr) (n cap : Nat) (to : ByteArray) (rl : Int) (mu fx : Bool) (df wg : ByteArray) (w : World) :
    Calls Tryz.prog 175 #[.agg #[.string nm, .int .i64 2, .int .i64 ls, .int .i64 ms, .slice a n cap, .string to, .int .i64 rl, .bool mu, .bool fx, .string df, .string wg]] w fun e w' => e = .returned (.bool (Gate.qE 2 ls ms n to rl wg)) /\ Below w.heap.size w w' := by
  go_enter Tryz.func175, Tryz.ntmps175
  go_wp2
  all_goals
    go_ret
    refine ⟨ze ?_, (Below.refl _ _).alloc (Nat.le_refl _) _⟩
    simp_all [Gate.qE]
    try first | omega | (intros; omega) | (rw [Bool.eq_iff_iff]; simp)
set_option maxHeartbeats 1000000 in
theorem zlo (nm : ByteArray) (ls ms : Int) (a : Option Addr) (n cap : Nat) (to : ByteArray) (rl : Int) (mu fx : Bool) (df wg : ByteArray) (w : World) :
    Calls Tryz.prog 175 #[.agg #[.string nm, .int .i64 3, .int .i64 ls, .int .i64 ms, .slice a n cap, .string to, .int .i64 rl, .bool mu, .bool fx, .string df, .string wg]] w fun e w' => e = .returned (.bool (Gate.qE 3 ls ms n to rl wg)) /\ Below w.heap.size w w' := by
  go_enter Tryz.func175, Tryz.ntmps175
  go_wp2
  all_goals
    go_ret
    refine ⟨ze ?_, (Below.refl _ _).alloc (Nat.le_refl _) _⟩
    simp_all [Gate.qE]
    try first | omega | (intros; omega) | (rw [Bool.eq_iff_iff]; simp)
set_option maxHeartbeats 1000000 in
theorem zl5 (nm : ByteArray) (ls ms : Int) (a : Option Addr) (n cap : Nat) (to : ByteArray) (rl : Int) (mu fx : Bool) (df wg : ByteArray) (w : World) :
    Calls Tryz.prog 175 #[.agg #[.string nm, .int .i64 4, .int .i64 ls, .int .i64 ms, .slice a n cap, .string to, .int .i64 rl, .bool mu, .bool fx, .string df, .string wg]] w fun e w' => e = .returned (.bool (Gate.qE 4 ls ms n to rl wg)) /\ Below w.heap.size w w' := by
  go_enter Tryz.func175, Tryz.ntmps175
  go_wp2
  all_goals
    go_ret
    refine ⟨ze ?_, (Below.refl _ _).alloc (Nat.le_refl _) _⟩
    simp_all [Gate.qE]
    try first | omega | (intros; omega) | (rw [Bool.eq_iff_iff]; simp)
set_option maxHeartbeats 1000000 in
theorem zhz (nm : ByteArray) (kd ls ms : Int) (a : Option Addr) (n cap : Nat) (to : ByteArray) (rl : Int) (mu fx : Bool) (df wg : ByteArray) (w : World) (h1 : kd ≠ 1) (h2 : kd ≠ 2) (h3 : kd ≠ 3) (h4 : kd ≠ 4) :
    Calls Tryz.prog 175 #[.agg #[.string nm, .int .i64 kd, .int .i64 ls, .int .i64 ms, .slice a n cap, .string to, .int .i64 rl, .bool mu, .bool fx, .string df, .string wg]] w fun e w' => ∃ b, e = .returned (.bool b) /\ Below w.heap.size w w' := by
  have e1 : (kd == 1) = false := by simpa using h1
  have e2 : (kd == 2) = false := by simpa using h2
  have e3 : (kd == 3) = false := by simpa using h3
  have e4 : (kd == 4) = false := by simpa using h4
  have n1 : (kd != 1) = true := by simpa using h1
  have n2 : (kd != 2) = true := by simpa using h2
  clear h1 h2 h3 h4
  go_enter Tryz.func175, Tryz.ntmps175
  go_wp2
  all_goals
    go_ret
    exact ⟨_, rfl, (Below.refl _ _).alloc (Nat.le_refl _) _⟩
end Go.Proofs.YtkfigdbbncjojaaGreat

namespace Go.Proofs.YtkfigdbbncjojaaGreat
open Go.RowKit
theorem zmo {w : World} {b off : Nat} {ws : List ByteArray} (hw : zB w (some ⟨b, off, none⟩) ws) : ∀ j u, (ws.map Value.string)[j]? = some u -> w.cell? ((⟨b, off, none⟩ : Addr).add j) = some u := by
  intro j u hj
  have hlt : j < ws.length := by
    have := (List.getElem?_eq_some_iff.1 hj).1; simpa using this
  obtain ⟨b', off', he, hb, hc⟩ := hw.cells (by rintro rfl; simp at hlt)
  simp only [Option.some.injEq, Addr.mk.injEq] at he
  obtain ⟨rfl, rfl, _⟩ := he
  have h1 := hc j hlt
  have e1 : (⟨b, off, none⟩ : Addr).add j = ⟨b, off + j, none⟩ := by
    unfold Addr.add; split
    · rename_i h; subst h; simp
    · rfl
  rw [e1, h1]
  rw [List.getElem?_map, List.getElem?_eq_getElem hlt] at hj
  simpa using hj
theorem zj2 {ws : List ByteArray} : ∀ u ∈ ws.map Value.string, u.oneCell' = true := by
  intro u hu; simp only [List.mem_map] at hu; obtain ⟨s, _, rfl⟩ := hu; rfl
theorem qU (w : World) (o1 o2 o3 : Obj) : Below w.heap.size w (((w.alloc o1).alloc o2).alloc o3) :=
  (((Below.refl _ _).alloc (Nat.le_refl _) _).alloc (by simp) _).alloc (by simp; omega) _
theorem zbT (w : World) (o1 o2 o3 : Obj) : (((w.alloc o1).alloc o2).alloc o3).heap[w.heap.size + 1 + 1]? = some o3 := by
  have h := alloc_at ((w.alloc o1).alloc o2) o3
  simpa using h
theorem za4 (w : World) (o1 o2 o3 : Obj) : (((w.alloc o1).alloc o2).alloc o3).heap[w.heap.size]? = some o1 := (Below.heap_alloc _ _ _ (by simp; omega)).trans (zP _ _ _).1
theorem zeL (w : World) (o1 o2 o3 : Obj) : (((w.alloc o1).alloc o2).alloc o3).heap[w.heap.size + 1]? = some o2 := (Below.heap_alloc _ _ _ (by simp)).trans (zP _ _ _).2
theorem zkJ {w w1 : World} {o1 o2 o3 : Obj} (hg : (((w.alloc o1).alloc o2).alloc o3).grownBy w1 (some (w.heap.size + 1 + 1))) :
    w1.heap[w.heap.size]? = some o1 /\ w1.heap[w.heap.size + 1]? = some o2 /\ Below w.heap.size w w1 /\ w.heap.size + 1 + 1 < w1.heap.size := by
  refine ⟨(hg.block _ (by simp; omega) (by simp; try omega)).trans (za4 _ _ _ _), (hg.block _ (by simp) (by simp)).trans (zeL _ _ _ _), (qU _ _ _ _).grown hg (qU _ _ _ _).size (by intro k hk; simp at hk; omega), ?_⟩
  have := hg.size; simp at this; omega
theorem znR (w : World) (p : Addr) (v : Value) (o3 : Obj) : ((w.setCell p v).alloc o3).heap[w.heap.size]? = some o3 := by
  have h := alloc_at (w.setCell p v) o3
  simpa [World.setCell] using h
theorem zmt {w w1 w2 : World} {a : Value} {C1 C2 : Array Value} {t1 t2 : TypeId} {o3 : Obj} (hk : w1.heap[w.heap.size]? = some (.cells C1 t1)) (hr : w1.heap[w.heap.size + 1]? = some (.cells C2 t2)) (hB : Below w.heap.size w w1) (hz : w.heap.size + 1 + 1 < w1.heap.size)
    (hg : ((w1.setCell ⟨w.heap.size, 3, none⟩ a).alloc o3).grownBy w2 (some w1.heap.size)) :
    w2.heap[w.heap.size]? = some (.cells (C1.setIfInBounds 3 a) t1) /\ w2.heap[w.heap.size + 1]? = some (.cells C2 t2) /\ Below w.heap.size w w2 /\ w1.heap.size < w2.heap.size := by
  have hs : (w1.setCell ⟨w.heap.size, 3, none⟩ a).heap.size = w1.heap.size := by simp [World.setCell]
  refine ⟨(hg.block _ (by simp [World.setCell]; omega) (by simp; omega)).trans ((Below.heap_alloc _ _ _ (by rw [hs]; omega)).trans (zf hk _)),
    (hg.block _ (by simp [World.setCell]; omega) (by simp; omega)).trans ((Below.heap_alloc _ _ _ (by rw [hs]; omega)).trans ((Below.heap_setCell _ _ _ _ (by simp)).trans hr)),
    ((hB.setCell (Nat.le_refl _) _).alloc (by rw [hs]; omega) _).grown hg (by simp [World.setCell]; omega) (by intro k hk; simp at hk; omega), ?_⟩
  have := hg.size; simp [World.setCell] at this; omega
theorem zn.grown {lo : Nat} {w w2 : World} {a : Option Addr} {ws : List ByteArray} {row : Nat} (h : zn lo w a ws) (hg : w.grownBy w2 (some row)) (hr : ∀ g, a = some g -> g.block ≠ row) : zn lo w2 a ws := by
  rcases h with ⟨rfl, rfl⟩ | ⟨g, C, rfl, hl, hh, hc⟩
  · exact Or.inl ⟨rfl, rfl⟩
  · exact Or.inr ⟨g, C, rfl, hl, (hg.block g (Array.getElem?_eq_some_iff.1 hh).1 (by have := hr _ rfl; simpa using this)).trans hh, hc⟩
theorem zn.lt {lo : Nat} {w : World} {a : Option Addr} {ws : List ByteArray} (h : zn lo w a ws) : ∀ g, a = some g -> g.block < w.heap.size := by
  intro g hg
  rcases h with ⟨rfl, _⟩ | ⟨g', C, rfl, _, hh, _⟩
  · cases hg
  · cases hg; exact (Array.getElem?_eq_some_iff.1 hh).1
theorem ziF {P : Program} {w : World} {ops : Array Oper} {rest : List Oper} {o : Oper} {a : Act} {Q : Exit -> Act -> World -> Prop} (hgd : o.guard = none) (s x : Operand) (t : TypeId)
    (ho : o.op = .call { callee := .builtin .append, args := #[s, x], argTypes := #[t, t] })
    (e : TypeId) (i : TypeInfo) (z : Value) (size bytes : Nat) (ht : P.underlying t = some (.slice e)) (hi : P.info? e = some i) (hz : i.zero = some z)
    (hsize : i.size = size) (hby : i.bytes = bytes) (hzs : z.cells.size = size) (hsz : 0 < size) (g : Nat) (hs : a.eval s = .slice (some ⟨g, 0, none⟩) 0 0) (hg : w.heap[g]? = some (.cells #[] e))
    (ad : Option Addr) (n c : Nat) (news : List Value) (hx : a.eval x = .slice ad n c) (hl : news.length = n * size) (hn : n ≠ 0 -> ∃ p, ad = some p /\ ∀ j u, news[j]? = some u -> w.cell? (p.add j) = some u) (h1 : ∀ u ∈ news, u.oneCell' = true)
    (h63 : n <= maxLen) (hbytes : n * bytes <= 140737488355328)
    (h : ∀ v' w', w'.ownsRow g e size v' n news -> w.grownBy w' (some g) -> (∃ g' c', v' = .slice (some ⟨g', 0, none⟩) n c') -> wpList P ops Q rest (a.put o.dst v') w') : wpList P ops Q (o :: rest) a w := by
  have hrow : w.ownsRow g e size (.slice (some ⟨g, 0, none⟩) 0 0) 0 [] := ⟨by simp, .inr ⟨g, 0, #[], rfl, Nat.le_refl _, hg, Nat.le_refl _, by simp [maxLen], by simp, by simp⟩⟩
  by_cases h0 : n = 0
  · subst h0
    have hr : (Builtin.append_ #[t, t] o.type #[.slice (some ⟨g, 0, none⟩) 0 0, .slice ad 0 c]).run P w = .ok (.slice (some ⟨g, 0, none⟩) 0 0) w := by
      have hso : (sizeOf e).run P w = .ok size w := by
        unfold sizeOf typeInfo
        simp [hi, hsize, go_sem, Result.andThen]
      rcases ad with _ | p
      · simp [Builtin.append_, run_underlying ht, Builtin.lenOf, Builtin.firstCells, go_sem, Result.andThen, hso]
      · simp [Builtin.append_, run_underlying ht, Builtin.lenOf, Builtin.firstCells, go_sem, Result.andThen, hso]
    refine wpList_plain hgd fun K hK => ?_
    unfold Oper.wp
    simp only [execOp, ho, resolve, invoke, builtin, Sem.run_bind, Sem.run_pure, Result.andThen_ok, List.map_toArray, List.map_cons, List.map_nil, hs, hx, hr]
    have hnews : news = [] := List.length_eq_zero_iff.1 (by rw [hl]; simp)
    exact hK _ _ (h _ _ (by rw [hnews]; exact hrow) ⟨rfl, rfl, rfl, Nat.le_refl _, fun _ _ _ => rfl⟩ ⟨g, 0, rfl⟩)
  · obtain ⟨p, rfl, hc⟩ := hn h0
    refine wpList_append_own w hgd s x t ho g e i z size bytes ht hi hz hsize hby hzs hsz _ 0 [] hs hrow p n c news hx hl hc h1 (by omega) (by rw [Nat.zero_add]; exact hbytes) (Nat.le_of_lt (Array.getElem?_eq_some_iff.1 hg).1) ?_
    intro v' w' hown hgr _
    rw [Nat.zero_add, List.nil_append] at hown
    refine h v' w' hown hgr ?_
    obtain ⟨_, ⟨_, h2⟩ | ⟨g', c', _, h2, _⟩⟩ := hown
    · exact absurd h2 h0
    · exact ⟨g', c', h2⟩
theorem ziO {w : World} {a : Option Addr} {ws : List ByteArray} (h : zB w a ws) (hne : ws.length ≠ 0) : ∃ p, a = some p /\ ∀ j u, (ws.map Value.string)[j]? = some u -> w.cell? (p.add j) = some u := by
  obtain ⟨b, off, rfl, _⟩ := h.cells (fun e => hne (by rw [e]; rfl))
  exact ⟨_, rfl, zmo h⟩
set_option maxRecDepth 20000 in
set_option maxHeartbeats 1000000 in
theorem zgO (o : Ob) (va ha : Option Addr) (cap cap' : Nat) (w : World) (ho : qQ w o va ha) (hl : o.vs.length <= 1048576) (hl' : o.hs.length <= 1048576) :
    Calls Tryz.prog 142 #[.agg (oC o va ha cap cap')] w
      fun e w' => ∃ a dap a' dap' m, e = .returned (.agg (oC o a a' dap dap')) /\ zn w.heap.size w' a o.vs /\ (∀ g, a = some g -> g.block < m) /\ w.heap.size <= m /\ zn m w' a' o.hs /\ Below w.heap.size w w' /\ (∃ g, a = some ⟨g, 0, none⟩) /\ ∃ g, a' = some ⟨g, 0, none⟩ := by
  obtain ⟨i0, hi, hz0, hz1', hz2⟩ := info_parts Tryz.zcm
  go_enter Tryz.func142, Tryz.ntmps142
  go_wp2_with (first
    | (at_builtin; refine ziF rfl (.tmp 3) (.tmp 5) 87 rfl 9 i0 (.string ByteArray.empty) 1 16 Tryz.underlying87 hi hz0 hz1' hz2 rfl (by decide) (w.heap.size + 1 + 1) rfl (zbT _ _ _ _) va o.vs.length cap (o.vs.map Value.string) rfl (by simp) (ziO (ho.vals.mono (qU _ _ _ _))) zj2 (by unfold maxLen; omega) (by omega) ?_; intro v' w1 hown hgr hsm; obtain ⟨a, dap, rfl, ht1⟩ := zn.zfb hown; have HA : Hid (∃ g, a = some ⟨g, 0, none⟩) := (by obtain ⟨g, c, h9⟩ := hsm; cases h9; exact ⟨g, rfl⟩); clear hsm; obtain ⟨hk1, hr1, hB1, hz1⟩ := zkJ hgr; have hX1 : ∀ j, w1.cell? ⟨w.heap.size, j, none⟩ = (oC o va ha cap cap')[j]? := fun j => cell_of_block hk1; have hF1 : ∀ j, w1.frozen? ⟨w.heap.size, j, none⟩ = false := fun j => zi hk1; have hzz1 : w.heap.size < w1.heap.size := (by omega); have hone := hB1.setCell (p := ⟨w.heap.size, 3, none⟩) (Nat.le_refl _) (.slice a o.vs.length dap); have HT1 : Hid (zn (w.heap.size + 1 + 1) w1 a o.vs) := ht1; have HK1 : Hid (w1.heap[w.heap.size]? = some (.cells (oC o va ha cap cap') 104)) := hk1; have HR1 : Hid (w1.heap[w.heap.size + 1]? = some (.cells oZ 104)) := hr1; clear ht1 hk1 hr1; clear hown hgr)
    | (at_builtin; refine ziF rfl (.tmp 8) (.tmp 10) 87 rfl 9 i0 (.string ByteArray.empty) 1 16 Tryz.underlying87 hi hz0 hz1' hz2 rfl (by decide) w1.heap.size rfl (znR _ _ _ _) ha o.hs.length cap' (o.hs.map Value.string) rfl (by simp) (ziO (ho.holds.mono (hone.alloc hone.size _))) zj2 (by unfold maxLen; omega) (by omega) ?_; intro v'' w2 hown hgr hsm; obtain ⟨a', dap', rfl, ht2⟩ := zn.zfb hown; have HA' : Hid (∃ g, a' = some ⟨g, 0, none⟩) := (by obtain ⟨g, c, h9⟩ := hsm; cases h9; exact ⟨g, rfl⟩); clear hsm; obtain ⟨hk2, hr2, hB2, hz2'⟩ := zmt HK1.out HR1.out hB1 hz1 hgr; have HU2 : Hid (zn w1.heap.size w2 a' o.hs) := ht2; have HT2 : Hid (zn (w.heap.size + 1 + 1) w2 a o.vs) := ((HT1.out.setCell _ (by simp; omega) _).mono ((Below.refl _ _).alloc (Nat.le_refl _) _)).grown hgr (fun g hg => Nat.ne_of_lt (HT1.out.lt g hg)); have hX2 : ∀ j, w2.cell? ⟨w.heap.size, j, none⟩ = (oC o a ha dap cap')[j]? := fun j => cell_of_block hk2; have hF2 : ∀ j, w2.frozen? ⟨w.heap.size, j, none⟩ = false := fun j => zi hk2; have hY2 : ∀ j, w2.cell? ⟨w.heap.size + 1, j, none⟩ = oZ[j]? := fun j => cell_of_block hr2; have hG2 : ∀ j, w2.frozen? ⟨w.heap.size + 1, j, none⟩ = false := fun j => zi hr2; have hzz2 : w.heap.size + 1 < w2.heap.size := (by omega); clear hown hgr ht2 hk2 hr2 hX1 hF1))
  refine bodyPost_ret (v := (.agg (oC o a a' dap dap'))) (by simp [results, Tryz.results142, go_sem, hY2]) rfl ⟨a, dap, a', dap', w1.heap.size, rfl, ((((((((HT2.out.setCell _ (by simp; omega) _).setCell _ (by simp) _).setCell _ (by simp) _).setCell _ (by simp) _).setCell _ (by simp) _).setCell _ (by simp) _).setCell _ (by simp) _).setCell _ (by simp) _).low (by omega), HT1.out.lt, by omega, ((((((((HU2.out.setCell _ (by simp; omega) _).setCell _ (by simp; omega) _).setCell _ (by simp; omega) _).setCell _ (by simp; omega) _).setCell _ (by simp; omega) _).setCell _ (by simp; omega) _).setCell _ (by simp; omega) _).setCell _ (by simp; omega) _), ((((((((hB2.setCell (Nat.le_refl _) _).setCell (by simp) _).setCell (by simp) _).setCell (by simp) _).setCell (by simp) _).setCell (by simp) _).setCell (by simp) _).setCell (by simp) _), HA.out, HA'.out⟩
theorem zg4 (o : Ob) (b off b' off' cap cap' : Nat) (w : World) (ho : qQ w o (some ⟨b, off, none⟩) (some ⟨b', off', none⟩)) (hl : o.vs.length <= 1048576) (hl' : o.hs.length <= 1048576) :
    Calls Tryz.prog 142 #[.agg (oC o (some ⟨b, off, none⟩) (some ⟨b', off', none⟩) cap cap')] w
      fun e w' => ∃ a dap a' dap' m, e = .returned (.agg (oC o a a' dap dap')) /\ zn w.heap.size w' a o.vs /\ (∀ g, a = some g -> g.block < m) /\ w.heap.size <= m /\ zn m w' a' o.hs /\ Below w.heap.size w w' :=
  (zgO o _ _ cap cap' w ho hl hl').mono fun _ _ ⟨a, dap, a', dap', m, h1, h2, h3, h4, h5, h6, _⟩ => ⟨a, dap, a', dap', m, h1, h2, h3, h4, h5, h6⟩
end Go.Proofs.YtkfigdbbncjojaaGreat

namespace Go.Proofs.YtkfigdbbncjojaaGreat
open Go.RowKit
structure Lg where
  tm : ByteArray
  rs : ByteArray
  mo : Int
  fr : Int
def Lg.cells (m : Lg) : Array Value := #[.string m.tm, .string m.rs, .int .i64 m.mo, .int .i64 m.fr]
structure Lg.Small (m : Lg) : Prop where
  tm : m.tm.size <= maxLen
  rs : m.rs.size <= maxLen
structure zbo (w : World) (a : Option Addr) (ms : List Lg) : Prop where
  len : ms.length <= maxLen
  small : ∀ i (h : i < ms.length), ms[i].Small
  rows : ms ≠ [] -> ∃ b off, a = some ⟨b, off, none⟩ /\ b < w.heap.size /\ ∀ i (h : i < ms.length), ∀ j, j < 4 -> w.cell? ⟨b, off + i * 4 + j, none⟩ = ms[i].cells[j]?
theorem zbo.mono {w w' : World} {a : Option Addr} {ms : List Lg} (h : zbo w a ms) (hl : Below w.heap.size w w') : zbo w' a ms :=
  ⟨h.len, h.small, fun hne => by
    obtain ⟨b, off, ha, hb, hr⟩ := h.rows hne
    exact ⟨b, off, ha, Nat.lt_of_lt_of_le hb hl.size, fun i hi j hj => (hl.cell (p := ⟨b, off + i * 4 + j, none⟩) hb).trans (hr i hi j hj)⟩⟩
theorem zbo.load {w w' : World} {a : Option Addr} {ms : List Lg} (h : zbo w a ms) (hl : Below w.heap.size w w') (i : Nat) (hi : i < ms.length) : ∃ b off, a = some ⟨b, off, none⟩ /\ b < w.heap.size /\
    w'.cell? ⟨b, off + i * 4, none⟩ = some (.string ms[i].tm) /\ w'.cell? ⟨b, off + i * 4 + 1, none⟩ = some (.string ms[i].rs) /\ w'.cell? ⟨b, off + i * 4 + 2, none⟩ = some (.int .i64 ms[i].mo) /\ w'.cell? ⟨b, off + i * 4 + 3, none⟩ = some (.int .i64 ms[i].fr) := by
  obtain ⟨b, off, ha, hb, hr⟩ := h.rows (by rintro rfl; simp at hi)
  have hc : ∀ j, j < 4 -> w'.cell? ⟨b, off + i * 4 + j, none⟩ = ms[i].cells[j]? := fun j hj => (hl.cell (p := ⟨b, off + i * 4 + j, none⟩) hb).trans (hr i hi j hj)
  exact ⟨b, off, ha, hb, hc 0 (by omega), hc 1 (by omega), hc 2 (by omega), hc 3 (by omega)⟩
def Lg.sz (m : Lg) : Nat := m.tm.size + m.rs.size
def zcP (ms : List Lg) : Nat := (ms.map Lg.sz).sum
def zbw (ms : List Lg) : Nat := ms.length + zcP ms
set_option maxHeartbeats 1000000 in
theorem zcb (m : Lg) (left : Int) (w : World) (hm : m.Small) (h0 : 0 <= left) (h1 : left <= 1048576) :
    Calls Tryz.prog 45 #[.agg m.cells, .int .i64 left] w fun e w' => e = .returned (.int .i64 (zF m.sz left)) /\ Below w.heap.size w w' := by
  have k0 := hm.tm
  have k1 := hm.rs
  unfold maxLen at k0 k1
  unfold Lg.cells
  have hB : ∀ ob, Below w.heap.size w (w.alloc ob) := fun ob => (Below.refl _ _).alloc (Nat.le_refl _) _
  by_cases hf : (m.sz : Int) <= left
  · have HF : Hid (zF m.sz left = left - m.tm.size - m.rs.size) := by
      unfold Hid; rw [zG hf]; unfold Lg.sz; omega
    unfold Lg.sz at hf
    go_enter Tryz.func45, Tryz.ntmps45
    go_wp2_with fail
    go_ret
    exact ⟨zk HF.out.symm, hB _⟩
  · have HF : Hid (zF m.sz left = -1) := zx hf
    have HN : Hid (¬ ((m.tm.size + m.rs.size : Nat) : Int) <= left) := hf
    clear hf
    go_enter Tryz.func45, Tryz.ntmps45
    go_wp2_with fail
    all_goals go_ret
    all_goals first | exact ⟨zk HF.out.symm, hB _⟩ | (exfalso; have := HN.out; simp at *; omega)
theorem zfp (m : Lg) (left : Int) (w : World) (hm : m.Small) (h0 : 0 <= left) (h1 : left <= 1048576) (h : (m.sz : Int) <= left) :
    Calls Tryz.prog 45 #[.agg m.cells, .int .i64 left] w fun e w' => e = .returned (.int .i64 (left - m.sz)) /\ Below w.heap.size w w' := by
  refine (zcb m left w hm h0 h1).mono ?_
  rintro e w' ⟨rfl, hb⟩
  exact ⟨zk (zG h), hb⟩
theorem zfP (m : Lg) (left : Int) (w : World) (hm : m.Small) (h0 : 0 <= left) (h1 : left <= 1048576) (h : ¬ (m.sz : Int) <= left) :
    Calls Tryz.prog 45 #[.agg m.cells, .int .i64 left] w fun e w' => e = .returned (.int .i64 (-1)) /\ Below w.heap.size w w' := by
  refine (zcb m left w hm h0 h1).mono ?_
  rintro e w' ⟨rfl, hb⟩
  exact ⟨zk (zx h), hb⟩
set_option maxHeartbeats 1000000 in
theorem zd9 (a : Option Addr) (cap : Nat) (ms : List Lg) (left : Int) (w : World) (hw : zbo w a ms) (h0 : 0 <= left) (h1 : left <= 1048576) :
    Calls Tryz.prog 17 #[.slice a ms.length cap, .int .i64 left] w fun e w' => e = .returned (.int .i64 (zF (zbw ms) left)) /\ Below w.heap.size w w' := by
  have hl := hw.len
  unfold maxLen at hl
  by_cases hfit : (ms.length : Int) <= left
  · go_enter Tryz.func17, Tryz.ntmps17
    go_wp2_with fail
    go_loopw [1, 5] (fun l i wr => ∃ k : Nat, k <= ms.length /\ i = .int .i64 k /\ 0 <= left - ms.length - zcP (ms.take k) /\ l = .int .i64 (left - ms.length - zcP (ms.take k)) /\ Below w.heap.size w wr) (fun _ i _ => ms.length - (intOf i).toNat)
    case atStart => exact ⟨0, Nat.zero_le _, rfl, by simp [zcP]; omega, by simp [zcP], Below.refl _ _⟩
    case round =>
      obtain ⟨k, hk, rfl, hpos, rfl, hB⟩ := hrel
      by_cases hlt : k < ms.length
      · obtain ⟨b, off, rfl, hb, c0, c1, c2, c3⟩ := hw.load hB k hlt
        have hsm := hw.small k hlt
        have HS : Hid (zcP (ms.take (k + 1)) = zcP (ms.take k) + ms[k].sz) := zad Lg.sz ms k hlt
        have hle : zcP (ms.take (k + 1)) <= zcP ms := zbE Lg.sz ms (k + 1)
        clear hw
        by_cases hneg : (ms[k].sz : Int) <= left - ms.length - zcP (ms.take k)
        · have HNG : Hid ((ms[k].sz : Int) <= left - ms.length - zcP (ms.take k)) := hneg
          clear hle
          go_wp2_with fail
          refine (zfp _ _ _ hsm hpos (by omega) HNG.out).mono ?_
          rintro e w1 ⟨rfl, hb1⟩
          have hB1 := hB.trans (hb1.mono hB.size)
          clear hb1
          go_wp2_with fail
          exact ⟨⟨k + 1, by omega, by go_num, by rw [HS.out]; omega, by rw [HS.out]; congr 1; omega, hB1⟩, by simp [intOf]; omega⟩
        · have HF : Hid (zF (zbw ms) left = -1) := zx (by have := HS.out; unfold zbw; omega)
          have HNG := hid hneg
          clear hneg hle
          go_wp2_with fail
          refine (zfP _ _ _ hsm hpos (by omega) (by have := HNG.out; omega)).mono ?_
          rintro e w1 ⟨rfl, hb1⟩
          have hB1 := hB.trans (hb1.mono hB.size)
          clear hb1
          go_wp2_with fail
          go_ret
          exact ⟨zk HF.out.symm, hB1⟩
      · have HF : Hid (zF (zbw ms) left = left - ms.length - zcP (ms.take k)) := by
          rw [List.take_of_length_le (by omega)] at hpos ⊢
          have e : zF (zbw ms) left = left - zbw ms := zG (by unfold zbw; omega)
          unfold Hid; rw [e]; unfold zbw; omega
        clear hw
        go_wp2
        go_ret
        exact ⟨zk HF.out.symm, hB⟩
  · have HF : Hid (zF (zbw ms) left = -1) := zx (by unfold zbw; omega)
    clear hw
    go_enter Tryz.func17, Tryz.ntmps17
    go_wp2
    go_ret
    exact ⟨zk HF.out.symm, Below.refl _ _⟩
theorem zeV (m : Lg) (w : World) : Calls Tryz.prog 82 #[.agg m.cells, .agg m.cells] w fun e w' => e = .returned (.bool true) /\ Below w.heap.size w w' := by
  unfold Lg.cells
  have hn2 : (m.mo != m.mo) = false := by simp
  have hn3 : (m.fr != m.fr) = false := by simp
  go_enter Tryz.func82, Tryz.ntmps82
  go_wp2_with fail
  go_ret
  exact ⟨rfl, zq _ _ _⟩
set_option maxHeartbeats 2000000 in
theorem zew (a a' : Option Addr) (cap cap' : Nat) (ms : List Lg) (w : World) (hw : zbo w a ms) (hw' : zbo w a' ms) :
    Calls Tryz.prog 38 #[.slice a ms.length cap, .slice a' ms.length cap'] w fun e w' => e = .returned (.bool true) /\ Below w.heap.size w w' := by
  have hl := hw.len
  unfold maxLen at hl
  have hnn : ((ms.length : Int) != ms.length) = false := by simp
  go_enter Tryz.func38, Tryz.ntmps38
  go_wp2_with fail
  go_loopw [5] (fun i wr => ∃ k : Nat, k <= ms.length /\ i = .int .i64 k /\ Below w.heap.size w wr) (fun i _ => ms.length - (intOf i).toNat)
  case atStart => exact ⟨0, Nat.zero_le _, rfl, Below.refl _ _⟩
  case round =>
    obtain ⟨k, hk, rfl, hB⟩ := hrel
    by_cases hlt : k < ms.length
    · obtain ⟨b, off, rfl, hb, c0, c1, c2, c3⟩ := hw.load hB k hlt
      obtain ⟨b', off', rfl, hb', d0, d1, d2, d3⟩ := hw'.load hB k hlt
      have hltI : (k : Int) < (ms.length : Int) := by omega
      clear hw hw'
      go_wp2_with fail
      go_region_with (go_at_call 82; refine (zeV ms[k] _).mono ?_; rintro e w1 ⟨rfl, hb1'⟩; have hb1 := (Below.refl wr.heap.size wr).drew.trans hb1'; clear hb1')
      all_goals go_wp2_with fail
      all_goals exact ⟨⟨k + 1, by omega, by go_num, hB.trans (hb1.mono hB.size)⟩, by simp [intOf]; omega⟩
    · clear hw hw'
      go_wp2_with fail
      go_ret
      exact ⟨rfl, hB⟩
structure jA (lo : Nat) (w : World) (bo : Nat) (ms : List Lg) (k : Nat) : Prop where
  low : lo <= bo
  rows : ∃ C, w.heap[bo]? = some (.cells C 124) /\ C.size = ms.length * 4 /\ ∀ i (h : i < ms.length), i < k -> ∀ j, j < 4 -> C[i * 4 + j]? = ms[i].cells[j]?
theorem jA.at {lo : Nat} {w : World} {bo : Nat} {ms : List Lg} (h : jA lo w bo ms ms.length) (hs : ∀ i (h : i < ms.length), ms[i].Small) (hl : ms.length <= maxLen) : zbo w (some ⟨bo, 0, none⟩) ms := by
  obtain ⟨C, hC, hsz, hr⟩ := h.rows
  refine ⟨hl, hs, fun _ => ⟨bo, 0, rfl, (Array.getElem?_eq_some_iff.1 hC).1, fun i hi j hj => ?_⟩⟩
  rw [cell_of_block hC, Nat.zero_add]
  exact hr i hi hi j hj
theorem jA.later {lo : Nat} {w w' : World} {bo : Nat} {ms : List Lg} {k : Nat} (h : jA lo w bo ms k) (hb : Below w.heap.size w w') : jA lo w' bo ms k := by
  obtain ⟨C, hC, hsz, hr⟩ := h.rows
  exact ⟨h.low, C, (hb.block bo (Array.getElem?_eq_some_iff.1 hC).1).trans hC, hsz, hr⟩
theorem jA.above {lo : Nat} {w w' : World} {bo : Nat} {ms : List Lg} {k : Nat} (h : jA lo w bo ms k) (ha : yh lo w w') : jA lo w' bo ms k := by
  obtain ⟨C, hC, hr⟩ := h.rows
  exact ⟨h.low, C, (ha.same _ h.low (Array.getElem?_eq_some_iff.1 hC).1).trans hC, hr⟩
theorem jA.weaken {lo lo' : Nat} {w : World} {bo : Nat} {ms : List Lg} {k : Nat} (h : jA lo w bo ms k) (hl : lo' <= lo) : jA lo' w bo ms k := ⟨Nat.le_trans hl h.low, h.rows⟩
def znf (w : World) (b o : Nat) (v0 v1 v2 v3 : Value) : World := ((((w.setCell ⟨b, o, none⟩ v0).setCell ⟨b, o + 1, none⟩ v1).setCell ⟨b, o + 2, none⟩ v2).setCell ⟨b, o + 3, none⟩ v3)
def zgI (C : Array Value) (o : Nat) (v0 v1 v2 v3 : Value) : Array Value := ((((C.setIfInBounds (o) v0).setIfInBounds (o + 1) v1).setIfInBounds (o + 2) v2).setIfInBounds (o + 3) v3)
theorem zkL {w : World} {b o : Nat} {C : Array Value} {t : TypeId} (h : w.heap[b]? = some (.cells C t)) (v0 v1 v2 v3 : Value) : (znf w b o v0 v1 v2 v3).heap[b]? = some (.cells (zgI C o v0 v1 v2 v3) t) :=
  zf (zf (zf (zf h v0) v1) v2) v3
theorem zk4 {B : Nat} {a w : World} (h : Below B a w) {b : Nat} (hb : B <= b) (o : Nat) (v0 v1 v2 v3 : Value) : Below B a (znf w b o v0 v1 v2 v3) :=
  (((h.setCell hb v0).setCell hb v1).setCell hb v2).setCell hb v3
theorem zl2 (C : Array Value) (o : Nat) (v0 v1 v2 v3 : Value) : (zgI C o v0 v1 v2 v3).size = C.size := by simp [zgI]
theorem zmN (C : Array Value) (o i : Nat) (v0 v1 v2 v3 : Value) (h : i < o \/ o + 4 <= i) : (zgI C o v0 v1 v2 v3)[i]? = C[i]? := by
  unfold zgI
  iterate 4 rw [Array.getElem?_setIfInBounds, if_neg (by omega)]
theorem znc (C : Array Value) (o j : Nat) (v0 v1 v2 v3 : Value) (hj : j < 4) (ho : o + 4 <= C.size) : (zgI C o v0 v1 v2 v3)[o + j]? = (#[v0, v1, v2, v3] : Array Value)[j]? := by
  have hc : j = 0 \/ j = 1 \/ j = 2 \/ j = 3 := by omega
  unfold zgI
  rcases hc with h | h | h | h <;> subst h <;> simp [Array.getElem?_setIfInBounds] <;> omega
theorem jA.put {lo : Nat} {w : World} {bo : Nat} {ms : List Lg} {k : Nat} (h : jA lo w bo ms k) (hk : k < ms.length) :
    jA lo (znf w bo (k * 4) (.string ms[k].tm) (.string ms[k].rs) (.int .i64 ms[k].mo) (.int .i64 ms[k].fr)) bo ms (k + 1) := by
  obtain ⟨C, hC, hsz, hr⟩ := h.rows
  refine ⟨h.low, _, zkL hC _ _ _ _, by rw [zl2]; exact hsz, fun i hi hik j hj => ?_⟩
  rcases Nat.lt_or_ge i k with hlt | hge
  · rw [zmN _ _ _ _ _ _ _ (by omega)]
    exact hr i hi hlt j hj
  · have e : i = k := by omega
    subst e
    rw [znc _ _ _ _ _ _ _ hj (by omega)]
    rfl
set_option maxHeartbeats 1000000 in
theorem zfe (m : Lg) (w : World) :
    Calls Tryz.prog 67 #[.agg m.cells] w fun e w' => e = .returned (.agg m.cells) /\ Below w.heap.size w w' := by
  unfold Lg.cells
  go_enter Tryz.func67, Tryz.ntmps67
  go_wp2_with fail
  refine bodyPost_ret (v := .agg #[.string m.tm, .string m.rs, .int .i64 m.mo, .int .i64 m.fr]) (by simp [results, Tryz.results67, go_sem]) rfl ⟨rfl, ?_⟩
  exact ((((Below.refl _ _).alloc (Nat.le_refl _) _).alloc (by simp) _).alloc (by simp; omega) _)
def znw : Array Value := #[.string ByteArray.empty, .string ByteArray.empty, .int .i64 0, .int .i64 0]
def zmg (n : Nat) : Array Value := madeCells znw (n * 4)
set_option maxHeartbeats 2000000 in
theorem zeB (a : Option Addr) (cap : Nat) (ms : List Lg) (w : World) (hw : zbo w a ms) (hl : ms.length <= 1048576) :
    Calls Tryz.prog 29 #[.slice a ms.length cap] w fun e w' => e = .returned (.slice (some ⟨w.heap.size, 0, none⟩) ms.length ms.length) /\ jA w.heap.size w' w.heap.size ms ms.length /\ Below w.heap.size w w' := by
  have hmk : ∀ w : World, (Instr.makeSlice 44 (.int .i64 ms.length) (.int .i64 ms.length)).run Tryz.prog w = .ok (.slice (some ⟨w.heap.size, 0, none⟩) ms.length ms.length) (w.alloc (.cells (zmg ms.length) 124)) :=
    fun w => qG (P := Tryz.prog) 44 124 (.agg znw) 4 48 Tryz.underlying44 (by kernel_rfl) ms.length (by omega) (by omega) w
  go_enter Tryz.func29, Tryz.ntmps29
  go_wp2_with fail
  clear hmk
  go_loopw [4] (fun i wr => ∃ k : Nat, k <= ms.length /\ i = .int .i64 k /\ jA w.heap.size wr w.heap.size ms k /\ Below w.heap.size w wr) (fun i _ => ms.length - (intOf i).toNat)
  case atStart => exact ⟨0, Nat.zero_le _, rfl, ⟨Nat.le_refl _, zmg ms.length, (MapKept.heap_alloc w _).1, size_madeCells _ _, fun i _ h => absurd h (by omega)⟩, (Below.refl _ _).alloc (Nat.le_refl _) _⟩
  case round =>
    obtain ⟨k, hk, rfl, hown, hB⟩ := hrel
    by_cases hlt : k < ms.length
    · obtain ⟨b, off, rfl, hb, c0, c1, c2, c3⟩ := hw.load hB k hlt
      have hltI : (k : Int) < (ms.length : Int) := by omega
      clear hw
      go_wp2_with fail
      refine (zfe ms[k] _).mono ?_
      rintro e w1 ⟨rfl, hb1⟩
      have hB1 := hB.trans (hb1.mono hB.size)
      have hown1 := hown.later hb1
      have hbo : w.heap.size < wr.heap.size := by
        obtain ⟨C', hC', _⟩ := hown.rows
        exact (Array.getElem?_eq_some_iff.1 hC').1
      obtain ⟨C, hC, hsz, _⟩ := hown1.rows
      have hfz : ∀ o, w1.frozen? ⟨w.heap.size, o, none⟩ = false := fun o => zi hC
      have hex : ∀ o, o < ms.length * 4 -> ∃ v, w1.cell? ⟨w.heap.size, o, none⟩ = some v := fun o ho => ⟨C[o]'(by omega), by rw [cell_of_block hC]; exact Array.getElem?_eq_getElem (by omega)⟩
      obtain ⟨v0, hv0⟩ := hex (k * 4) (by omega)
      obtain ⟨v1, hv1⟩ := hex (k * 4 + 1) (by omega)
      obtain ⟨v2, hv2⟩ := hex (k * 4 + 2) (by omega)
      obtain ⟨v3, hv3⟩ := hex (k * 4 + 3) (by omega)
      have HP := hid hown1
      clear hex hC hsz c0 c1 c2 c3 hown hown1
      unfold Lg.cells
      go_wp2_with fail
      exact ⟨⟨k + 1, by omega, by go_num, HP.out.put hlt, zk4 hB1 (Nat.le_refl _) _ _ _ _ _⟩, by simp [intOf]; omega⟩
    · have HF : Hid (jA w.heap.size wr w.heap.size ms ms.length) := by
        have e : k = ms.length := by omega
        subst e; exact hown
      clear hw hown
      go_wp2_with fail
      go_ret
      exact ⟨rfl, HF.out, hB⟩
end Go.Proofs.YtkfigdbbncjojaaGreat

namespace Go.Proofs.YtkfigdbbncjojaaGreat
open Go.RowKit
structure Pu where
  dr : ByteArray
  tm : ByteArray
  rs : ByteArray
  am : Int
  un : Int
def Pu.cells (m : Pu) : Array Value := #[.string m.dr, .string m.tm, .string m.rs, .int .i64 m.am, .int .i64 m.un]
structure Pu.Small (m : Pu) : Prop where
  dr : m.dr.size <= maxLen
  tm : m.tm.size <= maxLen
  rs : m.rs.size <= maxLen
structure zb8 (w : World) (a : Option Addr) (ms : List Pu) : Prop where
  len : ms.length <= maxLen
  small : ∀ i (h : i < ms.length), ms[i].Small
  rows : ms ≠ [] -> ∃ b off, a = some ⟨b, off, none⟩ /\ b < w.heap.size /\ ∀ i (h : i < ms.length), ∀ j, j < 5 -> w.cell? ⟨b, off + i * 5 + j, none⟩ = ms[i].cells[j]?
theorem zb8.mono {w w' : World} {a : Option Addr} {ms : List Pu} (h : zb8 w a ms) (hl : Below w.heap.size w w') : zb8 w' a ms :=
  ⟨h.len, h.small, fun hne => by
    obtain ⟨b, off, ha, hb, hr⟩ := h.rows hne
    exact ⟨b, off, ha, Nat.lt_of_lt_of_le hb hl.size, fun i hi j hj => (hl.cell (p := ⟨b, off + i * 5 + j, none⟩) hb).trans (hr i hi j hj)⟩⟩
theorem zb8.load {w w' : World} {a : Option Addr} {ms : List Pu} (h : zb8 w a ms) (hl : Below w.heap.size w w') (i : Nat) (hi : i < ms.length) : ∃ b off, a = some ⟨b, off, none⟩ /\ b < w.heap.size /\
    w'.cell? ⟨b, off + i * 5, none⟩ = some (.string ms[i].dr) /\ w'.cell? ⟨b, off + i * 5 + 1, none⟩ = some (.string ms[i].tm) /\ w'.cell? ⟨b, off + i * 5 + 2, none⟩ = some (.string ms[i].rs) /\ w'.cell? ⟨b, off + i * 5 + 3, none⟩ = some (.int .i64 ms[i].am) /\ w'.cell? ⟨b, off + i * 5 + 4, none⟩ = some (.int .i64 ms[i].un) := by
  obtain ⟨b, off, ha, hb, hr⟩ := h.rows (by rintro rfl; simp at hi)
  have hc : ∀ j, j < 5 -> w'.cell? ⟨b, off + i * 5 + j, none⟩ = ms[i].cells[j]? := fun j hj => (hl.cell (p := ⟨b, off + i * 5 + j, none⟩) hb).trans (hr i hi j hj)
  exact ⟨b, off, ha, hb, hc 0 (by omega), hc 1 (by omega), hc 2 (by omega), hc 3 (by omega), hc 4 (by omega)⟩
def Pu.sz (m : Pu) : Nat := m.dr.size + m.tm.size + m.rs.size
def zcT (ms : List Pu) : Nat := (ms.map Pu.sz).sum
def zbU (ms : List Pu) : Nat := ms.length + zcT ms
set_option maxHeartbeats 1000000 in
theorem zcY (m : Pu) (left : Int) (w : World) (hm : m.Small) (h0 : 0 <= left) (h1 : left <= 1048576) :
    Calls Tryz.prog 46 #[.agg m.cells, .int .i64 left] w fun e w' => e = .returned (.int .i64 (zF m.sz left)) /\ Below w.heap.size w w' := by
  have k0 := hm.dr
  have k1 := hm.tm
  have k2 := hm.rs
  unfold maxLen at k0 k1 k2
  unfold Pu.cells
  have hB : ∀ ob, Below w.heap.size w (w.alloc ob) := fun ob => (Below.refl _ _).alloc (Nat.le_refl _) _
  by_cases hf : (m.sz : Int) <= left
  · have HF : Hid (zF m.sz left = left - m.dr.size - m.tm.size - m.rs.size) := by
      unfold Hid; rw [zG hf]; unfold Pu.sz; omega
    unfold Pu.sz at hf
    go_enter Tryz.func46, Tryz.ntmps46
    go_wp2_with fail
    go_ret
    exact ⟨zk HF.out.symm, hB _⟩
  · have HF : Hid (zF m.sz left = -1) := zx hf
    have HN : Hid (¬ ((m.dr.size + m.tm.size + m.rs.size : Nat) : Int) <= left) := hf
    clear hf
    go_enter Tryz.func46, Tryz.ntmps46
    go_wp2_with fail
    all_goals go_ret
    all_goals first | exact ⟨zk HF.out.symm, hB _⟩ | (exfalso; have := HN.out; simp at *; omega)
theorem zf3 (m : Pu) (left : Int) (w : World) (hm : m.Small) (h0 : 0 <= left) (h1 : left <= 1048576) (h : (m.sz : Int) <= left) :
    Calls Tryz.prog 46 #[.agg m.cells, .int .i64 left] w fun e w' => e = .returned (.int .i64 (left - m.sz)) /\ Below w.heap.size w w' := by
  refine (zcY m left w hm h0 h1).mono ?_
  rintro e w' ⟨rfl, hb⟩
  exact ⟨zk (zG h), hb⟩
theorem zgS (m : Pu) (left : Int) (w : World) (hm : m.Small) (h0 : 0 <= left) (h1 : left <= 1048576) (h : ¬ (m.sz : Int) <= left) :
    Calls Tryz.prog 46 #[.agg m.cells, .int .i64 left] w fun e w' => e = .returned (.int .i64 (-1)) /\ Below w.heap.size w w' := by
  refine (zcY m left w hm h0 h1).mono ?_
  rintro e w' ⟨rfl, hb⟩
  exact ⟨zk (zx h), hb⟩
set_option maxHeartbeats 1000000 in
theorem zeU (a : Option Addr) (cap : Nat) (ms : List Pu) (left : Int) (w : World) (hw : zb8 w a ms) (h0 : 0 <= left) (h1 : left <= 1048576) :
    Calls Tryz.prog 18 #[.slice a ms.length cap, .int .i64 left] w fun e w' => e = .returned (.int .i64 (zF (zbU ms) left)) /\ Below w.heap.size w w' := by
  have hl := hw.len
  unfold maxLen at hl
  by_cases hfit : (ms.length : Int) <= left
  · go_enter Tryz.func18, Tryz.ntmps18
    go_wp2_with fail
    go_loopw [1, 5] (fun l i wr => ∃ k : Nat, k <= ms.length /\ i = .int .i64 k /\ 0 <= left - ms.length - zcT (ms.take k) /\ l = .int .i64 (left - ms.length - zcT (ms.take k)) /\ Below w.heap.size w wr) (fun _ i _ => ms.length - (intOf i).toNat)
    case atStart => exact ⟨0, Nat.zero_le _, rfl, by simp [zcT]; omega, by simp [zcT], Below.refl _ _⟩
    case round =>
      obtain ⟨k, hk, rfl, hpos, rfl, hB⟩ := hrel
      by_cases hlt : k < ms.length
      · obtain ⟨b, off, rfl, hb, c0, c1, c2, c3, c4⟩ := hw.load hB k hlt
        have hsm := hw.small k hlt
        have HS : Hid (zcT (ms.take (k + 1)) = zcT (ms.take k) + ms[k].sz) := zad Pu.sz ms k hlt
        have hle : zcT (ms.take (k + 1)) <= zcT ms := zbE Pu.sz ms (k + 1)
        clear hw
        by_cases hneg : (ms[k].sz : Int) <= left - ms.length - zcT (ms.take k)
        · have HNG : Hid ((ms[k].sz : Int) <= left - ms.length - zcT (ms.take k)) := hneg
          clear hle
          go_wp2_with fail
          refine (zf3 _ _ _ hsm hpos (by omega) HNG.out).mono ?_
          rintro e w1 ⟨rfl, hb1⟩
          have hB1 := hB.trans (hb1.mono hB.size)
          clear hb1
          go_wp2_with fail
          exact ⟨⟨k + 1, by omega, by go_num, by rw [HS.out]; omega, by rw [HS.out]; congr 1; omega, hB1⟩, by simp [intOf]; omega⟩
        · have HF : Hid (zF (zbU ms) left = -1) := zx (by have := HS.out; unfold zbU; omega)
          have HNG := hid hneg
          clear hneg hle
          go_wp2_with fail
          refine (zgS _ _ _ hsm hpos (by omega) (by have := HNG.out; omega)).mono ?_
          rintro e w1 ⟨rfl, hb1⟩
          have hB1 := hB.trans (hb1.mono hB.size)
          clear hb1
          go_wp2_with fail
          go_ret
          exact ⟨zk HF.out.symm, hB1⟩
      · have HF : Hid (zF (zbU ms) left = left - ms.length - zcT (ms.take k)) := by
          rw [List.take_of_length_le (by omega)] at hpos ⊢
          have e : zF (zbU ms) left = left - zbU ms := zG (by unfold zbU; omega)
          unfold Hid; rw [e]; unfold zbU; omega
        clear hw
        go_wp2
        go_ret
        exact ⟨zk HF.out.symm, hB⟩
  · have HF : Hid (zF (zbU ms) left = -1) := zx (by unfold zbU; omega)
    clear hw
    go_enter Tryz.func18, Tryz.ntmps18
    go_wp2
    go_ret
    exact ⟨zk HF.out.symm, Below.refl _ _⟩
theorem zf0 (m : Pu) (w : World) : Calls Tryz.prog 83 #[.agg m.cells, .agg m.cells] w fun e w' => e = .returned (.bool true) /\ Below w.heap.size w w' := by
  unfold Pu.cells
  have hn3 : (m.am != m.am) = false := by simp
  have hn4 : (m.un != m.un) = false := by simp
  go_enter Tryz.func83, Tryz.ntmps83
  go_wp2_with fail
  go_ret
  exact ⟨rfl, zq _ _ _⟩
set_option maxHeartbeats 2000000 in
theorem ze3 (a a' : Option Addr) (cap cap' : Nat) (ms : List Pu) (w : World) (hw : zb8 w a ms) (hw' : zb8 w a' ms) :
    Calls Tryz.prog 39 #[.slice a ms.length cap, .slice a' ms.length cap'] w fun e w' => e = .returned (.bool true) /\ Below w.heap.size w w' := by
  have hl := hw.len
  unfold maxLen at hl
  have hnn : ((ms.length : Int) != ms.length) = false := by simp
  go_enter Tryz.func39, Tryz.ntmps39
  go_wp2_with fail
  go_loopw [5] (fun i wr => ∃ k : Nat, k <= ms.length /\ i = .int .i64 k /\ Below w.heap.size w wr) (fun i _ => ms.length - (intOf i).toNat)
  case atStart => exact ⟨0, Nat.zero_le _, rfl, Below.refl _ _⟩
  case round =>
    obtain ⟨k, hk, rfl, hB⟩ := hrel
    by_cases hlt : k < ms.length
    · obtain ⟨b, off, rfl, hb, c0, c1, c2, c3, c4⟩ := hw.load hB k hlt
      obtain ⟨b', off', rfl, hb', d0, d1, d2, d3, d4⟩ := hw'.load hB k hlt
      have hltI : (k : Int) < (ms.length : Int) := by omega
      clear hw hw'
      go_wp2_with fail
      go_region_with (go_at_call 83; refine (zf0 ms[k] _).mono ?_; rintro e w1 ⟨rfl, hb1'⟩; have hb1 := (Below.refl wr.heap.size wr).drew.trans hb1'; clear hb1')
      all_goals go_wp2_with fail
      all_goals exact ⟨⟨k + 1, by omega, by go_num, hB.trans (hb1.mono hB.size)⟩, by simp [intOf]; omega⟩
    · clear hw hw'
      go_wp2_with fail
      go_ret
      exact ⟨rfl, hB⟩
structure jm (lo : Nat) (w : World) (bo : Nat) (ms : List Pu) (k : Nat) : Prop where
  low : lo <= bo
  rows : ∃ C, w.heap[bo]? = some (.cells C 122) /\ C.size = ms.length * 5 /\ ∀ i (h : i < ms.length), i < k -> ∀ j, j < 5 -> C[i * 5 + j]? = ms[i].cells[j]?
theorem jm.at {lo : Nat} {w : World} {bo : Nat} {ms : List Pu} (h : jm lo w bo ms ms.length) (hs : ∀ i (h : i < ms.length), ms[i].Small) (hl : ms.length <= maxLen) : zb8 w (some ⟨bo, 0, none⟩) ms := by
  obtain ⟨C, hC, hsz, hr⟩ := h.rows
  refine ⟨hl, hs, fun _ => ⟨bo, 0, rfl, (Array.getElem?_eq_some_iff.1 hC).1, fun i hi j hj => ?_⟩⟩
  rw [cell_of_block hC, Nat.zero_add]
  exact hr i hi hi j hj
theorem jm.later {lo : Nat} {w w' : World} {bo : Nat} {ms : List Pu} {k : Nat} (h : jm lo w bo ms k) (hb : Below w.heap.size w w') : jm lo w' bo ms k := by
  obtain ⟨C, hC, hsz, hr⟩ := h.rows
  exact ⟨h.low, C, (hb.block bo (Array.getElem?_eq_some_iff.1 hC).1).trans hC, hsz, hr⟩
theorem jm.above {lo : Nat} {w w' : World} {bo : Nat} {ms : List Pu} {k : Nat} (h : jm lo w bo ms k) (ha : yh lo w w') : jm lo w' bo ms k := by
  obtain ⟨C, hC, hr⟩ := h.rows
  exact ⟨h.low, C, (ha.same _ h.low (Array.getElem?_eq_some_iff.1 hC).1).trans hC, hr⟩
theorem jm.weaken {lo lo' : Nat} {w : World} {bo : Nat} {ms : List Pu} {k : Nat} (h : jm lo w bo ms k) (hl : lo' <= lo) : jm lo' w bo ms k := ⟨Nat.le_trans hl h.low, h.rows⟩
def znj (w : World) (b o : Nat) (v0 v1 v2 v3 v4 : Value) : World := (((((w.setCell ⟨b, o, none⟩ v0).setCell ⟨b, o + 1, none⟩ v1).setCell ⟨b, o + 2, none⟩ v2).setCell ⟨b, o + 3, none⟩ v3).setCell ⟨b, o + 4, none⟩ v4)
def zhn (C : Array Value) (o : Nat) (v0 v1 v2 v3 v4 : Value) : Array Value := (((((C.setIfInBounds (o) v0).setIfInBounds (o + 1) v1).setIfInBounds (o + 2) v2).setIfInBounds (o + 3) v3).setIfInBounds (o + 4) v4)
theorem zkV {w : World} {b o : Nat} {C : Array Value} {t : TypeId} (h : w.heap[b]? = some (.cells C t)) (v0 v1 v2 v3 v4 : Value) : (znj w b o v0 v1 v2 v3 v4).heap[b]? = some (.cells (zhn C o v0 v1 v2 v3 v4) t) :=
  zf (zf (zf (zf (zf h v0) v1) v2) v3) v4
theorem zkl {B : Nat} {a w : World} (h : Below B a w) {b : Nat} (hb : B <= b) (o : Nat) (v0 v1 v2 v3 v4 : Value) : Below B a (znj w b o v0 v1 v2 v3 v4) :=
  ((((h.setCell hb v0).setCell hb v1).setCell hb v2).setCell hb v3).setCell hb v4
theorem zlM (C : Array Value) (o : Nat) (v0 v1 v2 v3 v4 : Value) : (zhn C o v0 v1 v2 v3 v4).size = C.size := by simp [zhn]
theorem zmX (C : Array Value) (o i : Nat) (v0 v1 v2 v3 v4 : Value) (h : i < o \/ o + 5 <= i) : (zhn C o v0 v1 v2 v3 v4)[i]? = C[i]? := by
  unfold zhn
  iterate 5 rw [Array.getElem?_setIfInBounds, if_neg (by omega)]
theorem zna (C : Array Value) (o j : Nat) (v0 v1 v2 v3 v4 : Value) (hj : j < 5) (ho : o + 5 <= C.size) : (zhn C o v0 v1 v2 v3 v4)[o + j]? = (#[v0, v1, v2, v3, v4] : Array Value)[j]? := by
  have hc : j = 0 \/ j = 1 \/ j = 2 \/ j = 3 \/ j = 4 := by omega
  unfold zhn
  rcases hc with h | h | h | h | h <;> subst h <;> simp [Array.getElem?_setIfInBounds] <;> omega
theorem jm.put {lo : Nat} {w : World} {bo : Nat} {ms : List Pu} {k : Nat} (h : jm lo w bo ms k) (hk : k < ms.length) :
    jm lo (znj w bo (k * 5) (.string ms[k].dr) (.string ms[k].tm) (.string ms[k].rs) (.int .i64 ms[k].am) (.int .i64 ms[k].un)) bo ms (k + 1) := by
  obtain ⟨C, hC, hsz, hr⟩ := h.rows
  refine ⟨h.low, _, zkV hC _ _ _ _ _, by rw [zlM]; exact hsz, fun i hi hik j hj => ?_⟩
  rcases Nat.lt_or_ge i k with hlt | hge
  · rw [zmX _ _ _ _ _ _ _ _ (by omega)]
    exact hr i hi hlt j hj
  · have e : i = k := by omega
    subst e
    rw [zna _ _ _ _ _ _ _ _ hj (by omega)]
    rfl
set_option maxHeartbeats 1000000 in
theorem zfZ (m : Pu) (w : World) :
    Calls Tryz.prog 68 #[.agg m.cells] w fun e w' => e = .returned (.agg m.cells) /\ Below w.heap.size w w' := by
  unfold Pu.cells
  go_enter Tryz.func68, Tryz.ntmps68
  go_wp2_with fail
  refine bodyPost_ret (v := .agg #[.string m.dr, .string m.tm, .string m.rs, .int .i64 m.am, .int .i64 m.un]) (by simp [results, Tryz.results68, go_sem]) rfl ⟨rfl, ?_⟩
  exact ((((Below.refl _ _).alloc (Nat.le_refl _) _).alloc (by simp) _).alloc (by simp; omega) _)
def zm9 : Array Value := #[.string ByteArray.empty, .string ByteArray.empty, .string ByteArray.empty, .int .i64 0, .int .i64 0]
def zl8 (n : Nat) : Array Value := madeCells zm9 (n * 5)
set_option maxHeartbeats 2000000 in
theorem zeZ (a : Option Addr) (cap : Nat) (ms : List Pu) (w : World) (hw : zb8 w a ms) (hl : ms.length <= 1048576) :
    Calls Tryz.prog 30 #[.slice a ms.length cap] w fun e w' => e = .returned (.slice (some ⟨w.heap.size, 0, none⟩) ms.length ms.length) /\ jm w.heap.size w' w.heap.size ms ms.length /\ Below w.heap.size w w' := by
  have hmk : ∀ w : World, (Instr.makeSlice 45 (.int .i64 ms.length) (.int .i64 ms.length)).run Tryz.prog w = .ok (.slice (some ⟨w.heap.size, 0, none⟩) ms.length ms.length) (w.alloc (.cells (zl8 ms.length) 122)) :=
    fun w => qG (P := Tryz.prog) 45 122 (.agg zm9) 5 64 Tryz.underlying45 (by kernel_rfl) ms.length (by omega) (by omega) w
  go_enter Tryz.func30, Tryz.ntmps30
  go_wp2_with fail
  clear hmk
  go_loopw [4] (fun i wr => ∃ k : Nat, k <= ms.length /\ i = .int .i64 k /\ jm w.heap.size wr w.heap.size ms k /\ Below w.heap.size w wr) (fun i _ => ms.length - (intOf i).toNat)
  case atStart => exact ⟨0, Nat.zero_le _, rfl, ⟨Nat.le_refl _, zl8 ms.length, (MapKept.heap_alloc w _).1, size_madeCells _ _, fun i _ h => absurd h (by omega)⟩, (Below.refl _ _).alloc (Nat.le_refl _) _⟩
  case round =>
    obtain ⟨k, hk, rfl, hown, hB⟩ := hrel
    by_cases hlt : k < ms.length
    · obtain ⟨b, off, rfl, hb, c0, c1, c2, c3, c4⟩ := hw.load hB k hlt
      have hltI : (k : Int) < (ms.length : Int) := by omega
      clear hw
      go_wp2_with fail
      refine (zfZ ms[k] _).mono ?_
      rintro e w1 ⟨rfl, hb1⟩
      have hB1 := hB.trans (hb1.mono hB.size)
      have hown1 := hown.later hb1
      have hbo : w.heap.size < wr.heap.size := by
        obtain ⟨C', hC', _⟩ := hown.rows
        exact (Array.getElem?_eq_some_iff.1 hC').1
      obtain ⟨C, hC, hsz, _⟩ := hown1.rows
      have hfz : ∀ o, w1.frozen? ⟨w.heap.size, o, none⟩ = false := fun o => zi hC
      have hex : ∀ o, o < ms.length * 5 -> ∃ v, w1.cell? ⟨w.heap.size, o, none⟩ = some v := fun o ho => ⟨C[o]'(by omega), by rw [cell_of_block hC]; exact Array.getElem?_eq_getElem (by omega)⟩
      obtain ⟨v0, hv0⟩ := hex (k * 5) (by omega)
      obtain ⟨v1, hv1⟩ := hex (k * 5 + 1) (by omega)
      obtain ⟨v2, hv2⟩ := hex (k * 5 + 2) (by omega)
      obtain ⟨v3, hv3⟩ := hex (k * 5 + 3) (by omega)
      obtain ⟨v4, hv4⟩ := hex (k * 5 + 4) (by omega)
      have HP := hid hown1
      clear hex hC hsz c0 c1 c2 c3 c4 hown hown1
      unfold Pu.cells
      go_wp2_with fail
      exact ⟨⟨k + 1, by omega, by go_num, HP.out.put hlt, zkl hB1 (Nat.le_refl _) _ _ _ _ _ _⟩, by simp [intOf]; omega⟩
    · have HF : Hid (jm w.heap.size wr w.heap.size ms ms.length) := by
        have e : k = ms.length := by omega
        subst e; exact hown
      clear hw hown
      go_wp2_with fail
      go_ret
      exact ⟨rfl, HF.out, hB⟩
end Go.Proofs.YtkfigdbbncjojaaGreat
