import Derived.Test.YtfapkhgallmkdaaGreatM15
namespace Go.Proofs.YtfapkhgallmkdaaGreat
open Go.RowKit
set_option maxHeartbeats 1600000 in
theorem zc4 (nm : ByteArray) (kd ls ms : Int) (a : Option Addr) (cap : Nat) (ws : List ByteArray) (to : ByteArray) (rl : Int) (mu fx : Bool) (df wg : ByteArray) (v : ByteArray) (w : World) (hv : v.size <= maxLen) (hws : zC w a ws) :
    Calls Tryz.prog 120 #[.agg #[.string nm, .int .i64 kd, .int .i64 ls, .int .i64 ms, .slice a ws.length cap, .string to, .int .i64 rl, .bool mu, .bool fx, .string df, .string wg], .string v] w
      fun e w' => e = .returned (.bool (Gate.fits kd ls ms ws v)) /\ Below w.heap.size w w' := by
  have hAl := (Below.refl w.heap.size w).alloc (Nat.le_refl _)
  have HWS := hid hws
  clear hws
  by_cases h1 : kd = 1
  · subst h1
    rw [Gate.zou]
    cases hd : Gate.jS v with
    | true =>
      have HE : Hid (qy v = Gate.zeE v) := by unfold qy Hid; rw [hd]; rfl
      have HF : Hid (Gate.jX ls ms v = (decide (ls <= qy v) && decide (qy v <= ms))) := by rw [HE.out]; exact Gate.zlr _ _ _ hd
      have h0 : 0 <= qy v := by rw [HE.out]; exact Gate.zb8 v hd
      go_enter Tryz.func120, Tryz.ntmps120
      go_wp2_with (first
        | (go_at_call 166; refine (zc8 _ _ hv).mono ?_; rintro e w' ⟨rfl, rfl⟩)
        | (go_at_call 47; refine (jD _ _ _ _).mono ?_; rintro e w' ⟨rfl, rfl⟩))
      go_ret
      exact ⟨ze HF.out.symm, hAl _⟩
    | false =>
      have HF : Hid (Gate.jX ls ms v = false) := Gate.zib _ _ _ hd
      have h0 : qy v < 0 := by unfold qy; rw [hd]; simp
      go_enter Tryz.func120, Tryz.ntmps120
      go_wp2_with (go_at_call 166; refine (zc8 _ _ hv).mono ?_; rintro e w' ⟨rfl, rfl⟩)
      go_ret
      exact ⟨ze HF.out.symm, hAl _⟩
  by_cases h2 : kd = 2
  · subst h2
    by_cases hz : v.size = 0
    · rw [Gate.jL _ _ _ _ _ hz]
      have hne : v.toList.isEmpty = true := by rw [Gate.zq]; simp [hz]
      clear hz
      go_enter Tryz.func120, Tryz.ntmps120
      go_wp2_with fail
      go_ret
      exact ⟨rfl, hAl _⟩
    · rw [Gate.zmw _ _ _ _ hz]
      have hne : v.toList.isEmpty = false := by rw [Gate.zq]; simp [hz]
      go_enter Tryz.func120, Tryz.ntmps120
      go_wp2_with (go_at_call 164; refine (zbL _ _ _ _ _ (by exact HWS.out.mono (hAl _))).mono ?_; rintro e w' ⟨rfl, rfl⟩)
      go_ret
      exact ⟨rfl, hAl _⟩
  by_cases h3 : kd = 3
  · subst h3
    unfold maxLen at hv
    go_enter Tryz.func120, Tryz.ntmps120
    go_wp2_with fail
    go_loop [6] (fun i => ∃ k : Nat, k <= v.size /\ i = .int .i64 k /\ (v.data.toList.take k).all Gate.yL = true) (fun i => v.size - (intOf i).toNat)
    case atStart => exact ⟨0, Nat.zero_le _, rfl, rfl⟩
    case round =>
      obtain ⟨k, hk, rfl, hall⟩ := hrel
      by_cases hlt : k < v.size
      · have HS : Hid ((v.data.toList.take (k + 1)).all Gate.yL = (true && Gate.yL v[k])) := by rw [Gate.zbr _ v k hlt, hall]; rfl
        have HN : Hid (Gate.yL v[k] = false -> Gate.fits 3 ls ms ws v = false) := fun h => Gate.ziC ls ms ws v (Gate.zc2 Gate.yL v k hlt h)
        clear hall
        by_cases h33 : 33 <= (v[k].toNat : Int) /\ (v[k].toNat : Int) <= 126
        · have HC : Hid (Gate.yL v[k] = true) := by simp [Gate.yL, Hid]; omega
          obtain ⟨ha, hb⟩ := h33
          go_wp2_with (go_at_call 47; refine (zb2 _ _ _ _ (by omega) (by omega)).mono ?_; rintro e w' ⟨rfl, rfl⟩)
          go_round
          case rel => exact ⟨k + 1, by omega, by go_num, by rw [HS.out, HC.out]; rfl⟩
          case measure => simp [intOf]; omega
        · have HC : Hid (Gate.yL v[k] = false) := by simp [Gate.yL, Hid]; omega
          have HD : Hid (¬ (33 <= (v[k].toNat : Int) /\ (v[k].toNat : Int) <= 126)) := h33
          clear h33
          have hby : (v[k].toNat : Int) < 256 := by have := v[k].toNat_lt; omega
          go_wp2_with (go_at_call 47; refine (zdZ _ _ _ _ (by have := HD.out; omega)).mono ?_; rintro e w' ⟨rfl, rfl⟩)
          go_ret
          exact ⟨ze (HN.out HC.out).symm, hAl _⟩
      · have HA : Hid (Gate.zaU v = true) := by unfold Gate.zaU Hid; rw [<- Gate.zaS v k (by omega)]; exact hall
        clear hall
        by_cases hz : v.size = 0
        · have HF : Hid (Gate.fits 3 ls ms ws v = false) := Gate.jL _ _ _ _ _ hz
          have hne : v.toList.isEmpty = true := by rw [Gate.zq]; simp [hz]
          clear hz
          go_wp2_with fail
          go_ret
          exact ⟨ze HF.out.symm, hAl _⟩
        · have HF : Hid (Gate.fits 3 ls ms ws v = (decide (ls <= v.size) && decide ((v.size : Int) <= ms))) := Gate.ziT ls ms ws v HA.out hz
          have hne : v.toList.isEmpty = false := by rw [Gate.zq]; simp [hz]
          go_wp2_with (go_at_call 47; refine (jD _ _ _ _).mono ?_; rintro e w' ⟨rfl, rfl⟩)
          go_ret
          exact ⟨ze HF.out.symm, hAl _⟩
  have e1 : (kd == 1) = false := by simpa using h1
  have e2 : (kd == 2) = false := by simpa using h2
  have e3 : (kd == 3) = false := by simpa using h3
  by_cases h4 : kd = 4
  · subst h4
    rw [Gate.znn]
    go_enter Tryz.func120, Tryz.ntmps120
    go_wp2_with (go_at_call 86; refine (zR _ _ hv).mono ?_; rintro e w' ⟨rfl, rfl⟩)
    go_ret
    exact ⟨rfl, hAl _⟩
  rw [Gate.zhs kd ls ms ws v h1 h2 h3 h4]
  have e4 : (kd == 4) = false := by simpa using h4
  clear h1 h2 h3 h4
  go_enter Tryz.func120, Tryz.ntmps120
  go_wp2_with fail
  go_ret
  exact ⟨rfl, hAl _⟩
end Go.Proofs.YtfapkhgallmkdaaGreat

namespace Go.Proofs.YtfapkhgallmkdaaGreat
open Go.RowKit
theorem znB {w : World} {b off : Nat} {ws : List ByteArray} (hw : zC w (some ⟨b, off, none⟩) ws) : ∀ j u, (ws.map Value.string)[j]? = some u -> w.cell? ((⟨b, off, none⟩ : Addr).add j) = some u := by
  intro j u hj
  have hlt : j < ws.length := by
    have := (List.getElem?_eq_some_iff.1 hj).1; simpa using this
  obtain ⟨b', off', he, hb, hc⟩ := hw.cells (by rintro rfl; simp at hlt)
  simp only [Option.some.injEq, Addr.mk.injEq] at he
  obtain ⟨rfl, rfl, _⟩ := he
  have h1 := hc j hlt
  have e1 : (⟨b, off, none⟩ : Addr).add j = ⟨b, off + j, none⟩ := by
    unfold Addr.add; split
    · rename_i h; subst h; simp
    · rfl
  rw [e1, h1]
  rw [List.getElem?_map, List.getElem?_eq_getElem hlt] at hj
  simpa using hj
theorem zlB {ws : List ByteArray} : ∀ u ∈ ws.map Value.string, u.oneCell' = true := by
  intro u hu; simp only [List.mem_map] at hu; obtain ⟨s, _, rfl⟩ := hu; rfl
theorem ji (w : World) (o1 o2 o3 : Obj) : Below w.heap.size w (((w.alloc o1).alloc o2).alloc o3) :=
  (((Below.refl _ _).alloc (Nat.le_refl _) _).alloc (by simp) _).alloc (by simp; omega) _
theorem zce (w : World) (o1 o2 o3 : Obj) : (((w.alloc o1).alloc o2).alloc o3).heap[w.heap.size + 1 + 1]? = some o3 := by
  have h := alloc_at ((w.alloc o1).alloc o2) o3
  simpa using h
theorem zbn (w : World) (o1 o2 o3 : Obj) : (((w.alloc o1).alloc o2).alloc o3).heap[w.heap.size]? = some o1 := (Below.heap_alloc _ _ _ (by simp; omega)).trans (zP _ _ _).1
theorem zfk (w : World) (o1 o2 o3 : Obj) : (((w.alloc o1).alloc o2).alloc o3).heap[w.heap.size + 1]? = some o2 := (Below.heap_alloc _ _ _ (by simp)).trans (zP _ _ _).2
theorem zkL {w w1 : World} {o1 o2 o3 : Obj} (hg : (((w.alloc o1).alloc o2).alloc o3).grownBy w1 (some (w.heap.size + 1 + 1))) :
    w1.heap[w.heap.size]? = some o1 /\ w1.heap[w.heap.size + 1]? = some o2 /\ Below w.heap.size w w1 /\ w.heap.size + 1 + 1 < w1.heap.size := by
  refine ⟨(hg.block _ (by simp; omega) (by simp; try omega)).trans (zbn _ _ _ _), (hg.block _ (by simp) (by simp)).trans (zfk _ _ _ _), (ji _ _ _ _).grown hg (ji _ _ _ _).size (by intro k hk; simp at hk; omega), ?_⟩
  have := hg.size; simp at this; omega
theorem zoU (w : World) (p : Addr) (v : Value) (o3 : Obj) : ((w.setCell p v).alloc o3).heap[w.heap.size]? = some o3 := by
  have h := alloc_at (w.setCell p v) o3
  simpa [World.setCell] using h
theorem znQ {w w1 w2 : World} {a : Value} {C1 C2 : Array Value} {t1 t2 : TypeId} {o3 : Obj} (hk : w1.heap[w.heap.size]? = some (.cells C1 t1)) (hr : w1.heap[w.heap.size + 1]? = some (.cells C2 t2)) (hB : Below w.heap.size w w1) (hz : w.heap.size + 1 + 1 < w1.heap.size)
    (hg : ((w1.setCell ⟨w.heap.size, 3, none⟩ a).alloc o3).grownBy w2 (some w1.heap.size)) :
    w2.heap[w.heap.size]? = some (.cells (C1.setIfInBounds 3 a) t1) /\ w2.heap[w.heap.size + 1]? = some (.cells C2 t2) /\ Below w.heap.size w w2 /\ w1.heap.size < w2.heap.size := by
  have hs : (w1.setCell ⟨w.heap.size, 3, none⟩ a).heap.size = w1.heap.size := by simp [World.setCell]
  refine ⟨(hg.block _ (by simp [World.setCell]; omega) (by simp; omega)).trans ((Below.heap_alloc _ _ _ (by rw [hs]; omega)).trans (zf hk _)),
    (hg.block _ (by simp [World.setCell]; omega) (by simp; omega)).trans ((Below.heap_alloc _ _ _ (by rw [hs]; omega)).trans ((Below.heap_setCell _ _ _ _ (by simp)).trans hr)),
    ((hB.setCell (Nat.le_refl _) _).alloc (by rw [hs]; omega) _).grown hg (by simp [World.setCell]; omega) (by intro k hk; simp at hk; omega), ?_⟩
  have := hg.size; simp [World.setCell] at this; omega
theorem zo.grown {lo : Nat} {w w2 : World} {a : Option Addr} {ws : List ByteArray} {row : Nat} (h : zo lo w a ws) (hg : w.grownBy w2 (some row)) (hr : ∀ g, a = some g -> g.block ≠ row) : zo lo w2 a ws := by
  rcases h with ⟨rfl, rfl⟩ | ⟨g, C, rfl, hl, hh, hc⟩
  · exact Or.inl ⟨rfl, rfl⟩
  · exact Or.inr ⟨g, C, rfl, hl, (hg.block g (Array.getElem?_eq_some_iff.1 hh).1 (by have := hr _ rfl; simpa using this)).trans hh, hc⟩
theorem zo.lt {lo : Nat} {w : World} {a : Option Addr} {ws : List ByteArray} (h : zo lo w a ws) : ∀ g, a = some g -> g.block < w.heap.size := by
  intro g hg
  rcases h with ⟨rfl, _⟩ | ⟨g', C, rfl, _, hh, _⟩
  · cases hg
  · cases hg; exact (Array.getElem?_eq_some_iff.1 hh).1
theorem zjf {P : Program} {w : World} {ops : Array Oper} {rest : List Oper} {o : Oper} {a : Act} {Q : Exit -> Act -> World -> Prop} (hgd : o.guard = none) (s x : Operand) (t : TypeId)
    (ho : o.op = .call { callee := .builtin .append, args := #[s, x], argTypes := #[t, t] })
    (e : TypeId) (i : TypeInfo) (z : Value) (size bytes : Nat) (ht : P.underlying t = some (.slice e)) (hi : P.info? e = some i) (hz : i.zero = some z)
    (hsize : i.size = size) (hby : i.bytes = bytes) (hzs : z.cells.size = size) (hsz : 0 < size) (g : Nat) (hs : a.eval s = .slice (some ⟨g, 0, none⟩) 0 0) (hg : w.heap[g]? = some (.cells #[] e))
    (ad : Option Addr) (n c : Nat) (news : List Value) (hx : a.eval x = .slice ad n c) (hl : news.length = n * size) (hn : n ≠ 0 -> ∃ p, ad = some p /\ ∀ j u, news[j]? = some u -> w.cell? (p.add j) = some u) (h1 : ∀ u ∈ news, u.oneCell' = true)
    (h63 : n <= maxLen) (hbytes : n * bytes <= 140737488355328)
    (h : ∀ v' w', w'.ownsRow g e size v' n news -> w.grownBy w' (some g) -> (∃ g' c', v' = .slice (some ⟨g', 0, none⟩) n c') -> wpList P ops Q rest (a.put o.dst v') w') : wpList P ops Q (o :: rest) a w := by
  have hrow : w.ownsRow g e size (.slice (some ⟨g, 0, none⟩) 0 0) 0 [] := ⟨by simp, .inr ⟨g, 0, #[], rfl, Nat.le_refl _, hg, Nat.le_refl _, by simp [maxLen], by simp, by simp⟩⟩
  by_cases h0 : n = 0
  · subst h0
    have hr : (Builtin.append_ #[t, t] o.type #[.slice (some ⟨g, 0, none⟩) 0 0, .slice ad 0 c]).run P w = .ok (.slice (some ⟨g, 0, none⟩) 0 0) w := by
      have hso : (sizeOf e).run P w = .ok size w := by
        unfold sizeOf typeInfo
        simp [hi, hsize, go_sem, Result.andThen]
      rcases ad with _ | p
      · simp [Builtin.append_, run_underlying ht, Builtin.lenOf, Builtin.firstCells, go_sem, Result.andThen, hso]
      · simp [Builtin.append_, run_underlying ht, Builtin.lenOf, Builtin.firstCells, go_sem, Result.andThen, hso]
    refine wpList_plain hgd fun K hK => ?_
    unfold Oper.wp
    simp only [execOp, ho, resolve, invoke, builtin, Sem.run_bind, Sem.run_pure, Result.andThen_ok, List.map_toArray, List.map_cons, List.map_nil, hs, hx, hr]
    have hnews : news = [] := List.length_eq_zero_iff.1 (by rw [hl]; simp)
    exact hK _ _ (h _ _ (by rw [hnews]; exact hrow) ⟨rfl, rfl, rfl, Nat.le_refl _, fun _ _ _ => rfl⟩ ⟨g, 0, rfl⟩)
  · obtain ⟨p, rfl, hc⟩ := hn h0
    refine wpList_append_own w hgd s x t ho g e i z size bytes ht hi hz hsize hby hzs hsz _ 0 [] hs hrow p n c news hx hl hc h1 (by omega) (by rw [Nat.zero_add]; exact hbytes) (Nat.le_of_lt (Array.getElem?_eq_some_iff.1 hg).1) ?_
    intro v' w' hown hgr _
    rw [Nat.zero_add, List.nil_append] at hown
    refine h v' w' hown hgr ?_
    obtain ⟨_, ⟨_, h2⟩ | ⟨g', c', _, h2, _⟩⟩ := hown
    · exact absurd h2 h0
    · exact ⟨g', c', h2⟩
theorem zjb {w : World} {a : Option Addr} {ws : List ByteArray} (h : zC w a ws) (hne : ws.length ≠ 0) : ∃ p, a = some p /\ ∀ j u, (ws.map Value.string)[j]? = some u -> w.cell? (p.add j) = some u := by
  obtain ⟨b, off, rfl, _⟩ := h.cells (fun e => hne (by rw [e]; rfl))
  exact ⟨_, rfl, znB h⟩
set_option maxRecDepth 20000 in
set_option maxHeartbeats 1000000 in
theorem zhu (o : Ob) (va ha : Option Addr) (cap cap' : Nat) (w : World) (ho : jg w o va ha) (hl : o.vs.length <= 1048576) (hl' : o.hs.length <= 1048576) :
    Calls Tryz.prog 167 #[.agg (oC o va ha cap cap')] w
      fun e w' => ∃ a dap a' dap' m, e = .returned (.agg (oC o a a' dap dap')) /\ zo w.heap.size w' a o.vs /\ (∀ g, a = some g -> g.block < m) /\ w.heap.size <= m /\ zo m w' a' o.hs /\ Below w.heap.size w w' /\ (∃ g, a = some ⟨g, 0, none⟩) /\ ∃ g, a' = some ⟨g, 0, none⟩ := by
  obtain ⟨i0, hi, hz0, hz1', hz2⟩ := info_parts Tryz.zcX
  go_enter Tryz.func167, Tryz.ntmps167
  go_wp2_with (first
    | (at_builtin; refine zjf rfl (.tmp 3) (.tmp 5) 91 rfl 9 i0 (.string ByteArray.empty) 1 16 Tryz.underlying91 hi hz0 hz1' hz2 rfl (by decide) (w.heap.size + 1 + 1) rfl (zce _ _ _ _) va o.vs.length cap (o.vs.map Value.string) rfl (by simp) (zjb (ho.vals.mono (ji _ _ _ _))) zlB (by unfold maxLen; omega) (by omega) ?_; intro v' w1 hown hgr hsm; obtain ⟨a, dap, rfl, ht1⟩ := zo.zfp hown; have HA : Hid (∃ g, a = some ⟨g, 0, none⟩) := (by obtain ⟨g, c, h9⟩ := hsm; cases h9; exact ⟨g, rfl⟩); clear hsm; obtain ⟨hk1, hr1, hB1, hz1⟩ := zkL hgr; have hX1 : ∀ j, w1.cell? ⟨w.heap.size, j, none⟩ = (oC o va ha cap cap')[j]? := fun j => cell_of_block hk1; have hF1 : ∀ j, w1.frozen? ⟨w.heap.size, j, none⟩ = false := fun j => zl hk1; have hzz1 : w.heap.size < w1.heap.size := (by omega); have hone := hB1.setCell (p := ⟨w.heap.size, 3, none⟩) (Nat.le_refl _) (.slice a o.vs.length dap); have HT1 : Hid (zo (w.heap.size + 1 + 1) w1 a o.vs) := ht1; have HK1 : Hid (w1.heap[w.heap.size]? = some (.cells (oC o va ha cap cap') 121)) := hk1; have HR1 : Hid (w1.heap[w.heap.size + 1]? = some (.cells oZ 121)) := hr1; clear ht1 hk1 hr1; clear hown hgr)
    | (at_builtin; refine zjf rfl (.tmp 8) (.tmp 10) 91 rfl 9 i0 (.string ByteArray.empty) 1 16 Tryz.underlying91 hi hz0 hz1' hz2 rfl (by decide) w1.heap.size rfl (zoU _ _ _ _) ha o.hs.length cap' (o.hs.map Value.string) rfl (by simp) (zjb (ho.holds.mono (hone.alloc hone.size _))) zlB (by unfold maxLen; omega) (by omega) ?_; intro v'' w2 hown hgr hsm; obtain ⟨a', dap', rfl, ht2⟩ := zo.zfp hown; have HA' : Hid (∃ g, a' = some ⟨g, 0, none⟩) := (by obtain ⟨g, c, h9⟩ := hsm; cases h9; exact ⟨g, rfl⟩); clear hsm; obtain ⟨hk2, hr2, hB2, hz2'⟩ := znQ HK1.out HR1.out hB1 hz1 hgr; have HU2 : Hid (zo w1.heap.size w2 a' o.hs) := ht2; have HT2 : Hid (zo (w.heap.size + 1 + 1) w2 a o.vs) := ((HT1.out.setCell _ (by simp; omega) _).mono ((Below.refl _ _).alloc (Nat.le_refl _) _)).grown hgr (fun g hg => Nat.ne_of_lt (HT1.out.lt g hg)); have hX2 : ∀ j, w2.cell? ⟨w.heap.size, j, none⟩ = (oC o a ha dap cap')[j]? := fun j => cell_of_block hk2; have hF2 : ∀ j, w2.frozen? ⟨w.heap.size, j, none⟩ = false := fun j => zl hk2; have hY2 : ∀ j, w2.cell? ⟨w.heap.size + 1, j, none⟩ = oZ[j]? := fun j => cell_of_block hr2; have hG2 : ∀ j, w2.frozen? ⟨w.heap.size + 1, j, none⟩ = false := fun j => zl hr2; have hzz2 : w.heap.size + 1 < w2.heap.size := (by omega); clear hown hgr ht2 hk2 hr2 hX1 hF1))
  refine bodyPost_ret (v := (.agg (oC o a a' dap dap'))) (by simp [results, Tryz.results167, go_sem, hY2]) rfl ⟨a, dap, a', dap', w1.heap.size, rfl, ((((((((HT2.out.setCell _ (by simp; omega) _).setCell _ (by simp) _).setCell _ (by simp) _).setCell _ (by simp) _).setCell _ (by simp) _).setCell _ (by simp) _).setCell _ (by simp) _).setCell _ (by simp) _).low (by omega), HT1.out.lt, by omega, ((((((((HU2.out.setCell _ (by simp; omega) _).setCell _ (by simp; omega) _).setCell _ (by simp; omega) _).setCell _ (by simp; omega) _).setCell _ (by simp; omega) _).setCell _ (by simp; omega) _).setCell _ (by simp; omega) _).setCell _ (by simp; omega) _), ((((((((hB2.setCell (Nat.le_refl _) _).setCell (by simp) _).setCell (by simp) _).setCell (by simp) _).setCell (by simp) _).setCell (by simp) _).setCell (by simp) _).setCell (by simp) _), HA.out, HA'.out⟩
theorem zhA (o : Ob) (b off b' off' cap cap' : Nat) (w : World) (ho : jg w o (some ⟨b, off, none⟩) (some ⟨b', off', none⟩)) (hl : o.vs.length <= 1048576) (hl' : o.hs.length <= 1048576) :
    Calls Tryz.prog 167 #[.agg (oC o (some ⟨b, off, none⟩) (some ⟨b', off', none⟩) cap cap')] w
      fun e w' => ∃ a dap a' dap' m, e = .returned (.agg (oC o a a' dap dap')) /\ zo w.heap.size w' a o.vs /\ (∀ g, a = some g -> g.block < m) /\ w.heap.size <= m /\ zo m w' a' o.hs /\ Below w.heap.size w w' :=
  (zhu o _ _ cap cap' w ho hl hl').mono fun _ _ ⟨a, dap, a', dap', m, h1, h2, h3, h4, h5, h6, _⟩ => ⟨a, dap, a', dap', m, h1, h2, h3, h4, h5, h6⟩
end Go.Proofs.YtfapkhgallmkdaaGreat

namespace Go.Proofs.YtfapkhgallmkdaaGreat
open Go.RowKit
def zk3 (a : Option Addr) (ws : List ByteArray) : Prop := (a = none /\ ws = []) \/ ∃ b off, a = some ⟨b, off, none⟩
theorem zo.zo7 {lo : Nat} {w : World} {a : Option Addr} {ws : List ByteArray} (h : zo lo w a ws) : zk3 a ws := by
  rcases h with ⟨h0, h1⟩ | ⟨g, C, h0, _⟩
  · exact Or.inl ⟨h0, h1⟩
  · exact Or.inr ⟨g, 0, h0⟩
set_option maxHeartbeats 1000000 in
theorem zdu (cap : Nat) (w : World) :
    Calls Tryz.prog 220 #[.slice none 0 cap] w fun e w' => ∃ v, e = .returned v /\ w'.ownsRow w.heap.size 9 1 v 0 [] /\ Below w.heap.size w w' := by
  go_enter Tryz.func220, Tryz.ntmps220
  go_wp2_with fail
  go_ret
  exact ⟨_, rfl, World.ownsRow_nil _ _ _ _, Below.refl _ _⟩
theorem zd8 (a : Option Addr) (cap : Nat) (ws : List ByteArray) (w : World) (hw : zC w a ws) (hA : zk3 a ws) (hl : ws.length <= 1048576) :
    Calls Tryz.prog 220 #[.slice a ws.length cap] w
      fun e w' => ∃ v, e = .returned v /\ w'.ownsRow w.heap.size 9 1 v ws.length (ws.map Value.string) /\ Below w.heap.size w w' := by
  rcases hA with ⟨rfl, rfl⟩ | ⟨b, off, rfl⟩
  · exact zdu cap w
  · exact zd9 b off cap ws w hw hl
set_option maxHeartbeats 1000000 in
theorem zhz (o : Ob) (va ha : Option Addr) (cap cap' : Nat) (w : World) (ho : jg w o va ha) (hA : zk3 va o.vs) (hA' : zk3 ha o.hs) (hl : o.vs.length <= 1048576) (hl' : o.hs.length <= 1048576) :
    Calls Tryz.prog 217 #[.agg (oC o va ha cap cap')] w
      fun e w' => ∃ a dap a' dap' m, e = .returned (.agg (oC o a a' dap dap')) /\ zo w.heap.size w' a o.vs /\ (∀ g, a = some g -> g.block < m) /\ w.heap.size <= m /\ zo m w' a' o.hs /\ Below w.heap.size w w' := by
  go_enter Tryz.func217, Tryz.ntmps217
  go_wp2_with fail
  refine (zd8 _ _ _ _ (ho.vals.mono (zu _ _ _)) hA hl).mono ?_
  rintro e w1 ⟨v, rfl, hown1, hb1⟩
  obtain ⟨a, dap, rfl, ht1⟩ := zo.zfp hown1
  have hk1 := (hb1.block w.heap.size (by simp; omega)).trans (zP _ _ _).1
  have hr1 := (hb1.block (w.heap.size + 1) (by simp)).trans (zP _ _ _).2
  have HT : Hid (zo (w.heap.size + 1 + 1) w1 a o.vs) := by unfold Hid; simpa using ht1
  have hz1 : w.heap.size + 1 < w1.heap.size := by have := hb1.size; simp at this; omega
  have hB1 := (zu _ _ _).trans (hb1.mono (by simp; omega))
  have HK := hid hk1
  have HRR := hid hr1
  have hX1 : ∀ j, w1.cell? ⟨w.heap.size, j, none⟩ = (oC o va ha cap cap')[j]? := fun j => cell_of_block hk1
  have hF1 : ∀ j, w1.frozen? ⟨w.heap.size, j, none⟩ = false := fun j => zl hk1
  clear hb1 hown1 ht1 hk1 hr1
  go_wp2_with fail
  have hB1' := hB1.setCell (p := ⟨w.heap.size, 3, none⟩) (Nat.le_refl _) (.slice a o.vs.length dap)
  refine (zd8 _ _ _ _ (ho.holds.mono hB1') hA' hl').mono ?_
  rintro e w2 ⟨v, rfl, hown2, hb2⟩
  obtain ⟨a', dap', rfl, ht2⟩ := zo.zfp hown2
  have hk2 := (hb2.block w.heap.size (by simp [World.setCell]; omega)).trans (zf HK.out _)
  have hr2 := (hb2.block (w.heap.size + 1) (by simp [World.setCell]; omega)).trans ((Below.heap_setCell _ _ _ _ (by simp)).trans HRR.out)
  have HT2 := hid ((HT.out.setCell _ (by simp; omega) _).mono hb2)
  have HU2 : Hid (zo w1.heap.size w2 a' o.hs) := by unfold Hid; simpa [World.setCell] using ht2
  have HM : Hid (∀ g, a = some g -> g.block < w1.heap.size) := by
    intro g hg
    rcases HT.out with ⟨h0, _⟩ | ⟨g', C, h0, _, hh, _⟩
    · rw [h0] at hg; cases hg
    · rw [h0] at hg; cases hg; exact (Array.getElem?_eq_some_iff.1 hh).1
  have hz2 : w.heap.size + 1 < w2.heap.size := by have := hb2.size; simp [World.setCell] at this; omega
  have hB2 := hB1'.trans (hb2.mono hB1'.size)
  have hX2 : ∀ j, w2.cell? ⟨w.heap.size, j, none⟩ = (oC o a ha dap cap')[j]? := fun j => cell_of_block hk2
  have hF2 : ∀ j, w2.frozen? ⟨w.heap.size, j, none⟩ = false := fun j => zl hk2
  have hY2 : ∀ j, w2.cell? ⟨w.heap.size + 1, j, none⟩ = oZ[j]? := fun j => cell_of_block hr2
  have hG2 : ∀ j, w2.frozen? ⟨w.heap.size + 1, j, none⟩ = false := fun j => zl hr2
  have hzz : w.heap.size <= w1.heap.size := by omega
  clear hb2 hown2 ht2 hX1 hF1 hB1 hB1' hk2 hr2
  go_wp2_with fail
  refine bodyPost_ret (v := (.agg (oC o a a' dap dap'))) (by simp [results, Tryz.results217, go_sem, hY2]) rfl ⟨a, dap, a', dap', w1.heap.size, rfl, ((((((((HT2.out.setCell _ (by simp; omega) _).setCell _ (by simp) _).setCell _ (by simp) _).setCell _ (by simp) _).setCell _ (by simp) _).setCell _ (by simp) _).setCell _ (by simp) _).setCell _ (by simp) _).low (by omega), HM.out, hzz, ((((((((HU2.out.setCell _ (by simp; omega) _).setCell _ (by simp; omega) _).setCell _ (by simp; omega) _).setCell _ (by simp; omega) _).setCell _ (by simp; omega) _).setCell _ (by simp; omega) _).setCell _ (by simp; omega) _).setCell _ (by simp; omega) _), ((((((((hB2.setCell (Nat.le_refl _) _).setCell (by simp) _).setCell (by simp) _).setCell (by simp) _).setCell (by simp) _).setCell (by simp) _).setCell (by simp) _).setCell (by simp) _)⟩
end Go.Proofs.YtfapkhgallmkdaaGreat
