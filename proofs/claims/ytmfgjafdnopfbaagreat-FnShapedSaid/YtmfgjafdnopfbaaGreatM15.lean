import Derived.Test.YtmfgjafdnopfbaaGreatM13
import Derived.Test.YtmfgjafdnopfbaaGreatM06
import Derived.Test.YtmfgjafdnopfbaaGreatM10
import Derived.Test.YtmfgjafdnopfbaaGreatM08
namespace Go.Proofs.YtmfgjafdnopfbaaGreat
open Go.RowKit
set_option maxHeartbeats 400000 in
theorem zej (nm : ByteArray) (kd ls ms : Int) (sl : Value) (to : ByteArray) (rl : Int) (mu fx : Bool) (df wg : ByteArray) (v : ByteArray) (bn : Nat) (w : World) (hb : bn < w.heap.size) (hn : w.cell? ⟨bn, 0, none⟩ = some (.string v)) :
    Calls Tryz.prog 76 #[.agg #[.string nm, .int .i64 kd, .int .i64 ls, .int .i64 ms, sl, .string to, .int .i64 rl, .bool mu, .bool fx, .string df, .string wg], .pointer (some ⟨bn, 0, none⟩)] w fun e w' => e = .returned (.bool (nm.toList == v.toList)) /\ Below w.heap.size w w' := by
  go_enter Tryz.func76, Tryz.ntmps76
  go_wp2
  go_ret
  exact ⟨rfl, (Below.refl _ _).alloc (Nat.le_refl _) _⟩
set_option maxHeartbeats 1000000 in
theorem ze3 (a : Option Addr) (cap : Nat) (fs : List Fld) (v : ByteArray) (bn : Nat) (w : World) (hw : yc w a fs) (hbn : bn < w.heap.size) (hn : w.cell? ⟨bn, 0, none⟩ = some (.string v)) :
    Calls Tryz.prog 75 #[.slice a fs.length cap, .func (.func 76) #[] #[.pointer (some ⟨bn, 0, none⟩)]] w fun e w' => e = .returned (.int .i64 (Gate.zG fs v)) /\ Below w.heap.size w w' := by
  have hl := hw.len
  unfold maxLen at hl
  go_enter Tryz.func75, Tryz.ntmps75
  go_wp2
  go_loopw [8] (fun i wr => ∃ k : Nat, k <= fs.length /\ i = .int .i64 k /\ Gate.hasName (fs.take k) v = false /\ Below w.heap.size w wr) (fun i _ => fs.length - (intOf i).toNat)
  case atStart => exact ⟨0, Nat.zero_le _, rfl, rfl, Below.refl _ _⟩
  case round =>
    obtain ⟨k, hk, rfl, hno, hB⟩ := hrel
    by_cases hlt : k < fs.length
    · obtain ⟨b, off, rfl, hb, hr⟩ := hw.rows (by rintro rfl; simp at hlt)
      obtain ⟨wa, wcap, hf⟩ := hr k hlt
      obtain ⟨c0, c1, c2, c3, c4, c5, c6, c7, c8, c9, c10⟩ := (hf.mono hb hB).load
      have hn1 := (hB.cell (p := ⟨bn, 0, none⟩) hbn).trans hn
      have hbn1 : bn < wr.heap.size := Nat.lt_of_lt_of_le hbn hB.size
      clear hw hr hf hn
      by_cases he : fs[k].nm = v
      · have HA : Hid (Gate.zG fs v = k) := Gate.zaz fs v k hlt hno he
        have HE : Hid ((fs[k].nm.toList == v.toList) = true) := by unfold Hid; rw [Gate.beq_toList]; simpa using he
        clear he hno
        go_wp2_with fail
        refine (zl HE.out (zej _ _ _ _ _ _ _ _ _ _ _ _ _ _ hbn1 hn1)).mono ?_
        rintro e w2 ⟨rfl, hb2⟩
        go_wp2_with fail
        go_ret
        exact ⟨za2 HA.out.symm, hB.trans (hb2.mono hB.size)⟩
      · have HS : Hid (Gate.hasName (fs.take (k + 1)) v = false) := by unfold Hid; rw [Gate.zaX fs v k hlt, hno, decide_eq_false he]; rfl
        have HE : Hid ((fs[k].nm.toList == v.toList) = false) := by unfold Hid; rw [Gate.beq_toList]; simpa using he
        clear he hno
        go_wp2_with fail
        refine (zl HE.out (zej _ _ _ _ _ _ _ _ _ _ _ _ _ _ hbn1 hn1)).mono ?_
        rintro e w2 ⟨rfl, hb2⟩
        go_wp2_with fail
        exact ⟨⟨k + 1, by omega, by go_num, HS.out, hB.trans (hb2.mono hB.size)⟩, by simp [intOf]; omega⟩
    · have HA : Hid (Gate.zG fs v = -1) := Gate.zaV fs v (by rw [<- Gate.zcm fs v k (by omega)]; exact hno)
      clear hno hw
      go_wp2
      go_ret
      exact ⟨za2 HA.out.symm, hB⟩
set_option maxHeartbeats 400000 in
theorem qQ (a : Option Addr) (cap : Nat) (fs : List Fld) (v : ByteArray) (w : World) (hw : yc w a fs) :
    Calls Tryz.prog 49 #[.slice a fs.length cap, .string v] w fun e w' => e = .returned (.int .i64 (Gate.zG fs v)) /\ Below w.heap.size w w' := by
  go_enter Tryz.func49, Tryz.ntmps49
  go_wp2_with fail
  refine (ze3 _ _ _ v _ _ (hw.mono ((Below.refl _ _).alloc (Nat.le_refl _) _)) (by simp) (by rw [World.cell?_alloc_at _ _ _ _ rfl]; rfl)).mono ?_
  rintro e w2 ⟨rfl, hb2⟩
  go_wp2_with fail
  go_ret
  exact ⟨rfl, ((Below.refl _ _).alloc (Nat.le_refl _) _).trans (hb2.mono (by simp))⟩
end Go.Proofs.YtmfgjafdnopfbaaGreat

namespace Go.Proofs.YtmfgjafdnopfbaaGreat
open Go.RowKit
set_option maxHeartbeats 1000000 in
theorem zb1 (nm : ByteArray) (ls ms : Int) (a : Option Addr) (n cap : Nat) (to : ByteArray) (rl : Int) (mu fx : Bool) (df wg : ByteArray) (w : World) :
    Calls Tryz.prog 88 #[.agg #[.string nm, .int .i64 1, .int .i64 ls, .int .i64 ms, .slice a n cap, .string to, .int .i64 rl, .bool mu, .bool fx, .string df, .string wg]] w fun e w' => e = .returned (.bool (Gate.yP 1 ls ms n to rl wg)) /\ Below w.heap.size w w' := by
  go_enter Tryz.func88, Tryz.ntmps88
  go_wp2
  all_goals
    go_ret
    refine ⟨zh ?_, (Below.refl _ _).alloc (Nat.le_refl _) _⟩
    simp_all [Gate.yP]
    try first | omega | (intros; omega) | (rw [Bool.eq_iff_iff]; simp)
set_option maxHeartbeats 1000000 in
theorem zaC (nm : ByteArray) (ls ms : Int) (a : Option Addr) (n cap : Nat) (to : ByteArray) (rl : Int) (mu fx : Bool) (df wg : ByteArray) (w : World) :
    Calls Tryz.prog 88 #[.agg #[.string nm, .int .i64 2, .int .i64 ls, .int .i64 ms, .slice a n cap, .string to, .int .i64 rl, .bool mu, .bool fx, .string df, .string wg]] w fun e w' => e = .returned (.bool (Gate.yP 2 ls ms n to rl wg)) /\ Below w.heap.size w w' := by
  go_enter Tryz.func88, Tryz.ntmps88
  go_wp2
  all_goals
    go_ret
    refine ⟨zh ?_, (Below.refl _ _).alloc (Nat.le_refl _) _⟩
    simp_all [Gate.yP]
    try first | omega | (intros; omega) | (rw [Bool.eq_iff_iff]; simp)
set_option maxHeartbeats 1000000 in
theorem zbU (nm : ByteArray) (ls ms : Int) (a : Option Addr) (n cap : Nat) (to : ByteArray) (rl : Int) (mu fx : Bool) (df wg : ByteArray) (w : World) :
    Calls Tryz.prog 88 #[.agg #[.string nm, .int .i64 3, .int .i64 ls, .int .i64 ms, .slice a n cap, .string to, .int .i64 rl, .bool mu, .bool fx, .string df, .string wg]] w fun e w' => e = .returned (.bool (Gate.yP 3 ls ms n to rl wg)) /\ Below w.heap.size w w' := by
  go_enter Tryz.func88, Tryz.ntmps88
  go_wp2
  all_goals
    go_ret
    refine ⟨zh ?_, (Below.refl _ _).alloc (Nat.le_refl _) _⟩
    simp_all [Gate.yP]
    try first | omega | (intros; omega) | (rw [Bool.eq_iff_iff]; simp)
set_option maxHeartbeats 1000000 in
theorem jR (nm : ByteArray) (ls ms : Int) (a : Option Addr) (n cap : Nat) (to : ByteArray) (rl : Int) (mu fx : Bool) (df wg : ByteArray) (w : World) :
    Calls Tryz.prog 88 #[.agg #[.string nm, .int .i64 4, .int .i64 ls, .int .i64 ms, .slice a n cap, .string to, .int .i64 rl, .bool mu, .bool fx, .string df, .string wg]] w fun e w' => e = .returned (.bool (Gate.yP 4 ls ms n to rl wg)) /\ Below w.heap.size w w' := by
  go_enter Tryz.func88, Tryz.ntmps88
  go_wp2
  all_goals
    go_ret
    refine ⟨zh ?_, (Below.refl _ _).alloc (Nat.le_refl _) _⟩
    simp_all [Gate.yP]
    try first | omega | (intros; omega) | (rw [Bool.eq_iff_iff]; simp)
set_option maxHeartbeats 1000000 in
theorem zef (nm : ByteArray) (kd ls ms : Int) (a : Option Addr) (n cap : Nat) (to : ByteArray) (rl : Int) (mu fx : Bool) (df wg : ByteArray) (w : World) (h1 : kd ≠ 1) (h2 : kd ≠ 2) (h3 : kd ≠ 3) (h4 : kd ≠ 4) :
    Calls Tryz.prog 88 #[.agg #[.string nm, .int .i64 kd, .int .i64 ls, .int .i64 ms, .slice a n cap, .string to, .int .i64 rl, .bool mu, .bool fx, .string df, .string wg]] w fun e w' => ∃ b, e = .returned (.bool b) /\ Below w.heap.size w w' := by
  have e1 : (kd == 1) = false := by simpa using h1
  have e2 : (kd == 2) = false := by simpa using h2
  have e3 : (kd == 3) = false := by simpa using h3
  have e4 : (kd == 4) = false := by simpa using h4
  have n1 : (kd != 1) = true := by simpa using h1
  have n2 : (kd != 2) = true := by simpa using h2
  clear h1 h2 h3 h4
  go_enter Tryz.func88, Tryz.ntmps88
  go_wp2
  all_goals
    go_ret
    exact ⟨_, rfl, (Below.refl _ _).alloc (Nat.le_refl _) _⟩
end Go.Proofs.YtmfgjafdnopfbaaGreat

namespace Go.Proofs.YtmfgjafdnopfbaaGreat
open Go.RowKit
theorem za8 {w : World} {b off : Nat} {ws : List ByteArray} (hw : zZ w (some ⟨b, off, none⟩) ws) : ∀ j u, (ws.map Value.string)[j]? = some u -> w.cell? ((⟨b, off, none⟩ : Addr).add j) = some u := by
  intro j u hj
  have hlt : j < ws.length := by
    have := (List.getElem?_eq_some_iff.1 hj).1; simpa using this
  obtain ⟨b', off', he, hb, hc⟩ := hw.cells (by rintro rfl; simp at hlt)
  simp only [Option.some.injEq, Addr.mk.injEq] at he
  obtain ⟨rfl, rfl, _⟩ := he
  have h1 := hc j hlt
  have e1 : (⟨b, off, none⟩ : Addr).add j = ⟨b, off + j, none⟩ := by
    unfold Addr.add; split
    · rename_i h; subst h; simp
    · rfl
  rw [e1, h1]
  rw [List.getElem?_map, List.getElem?_eq_getElem hlt] at hj
  simpa using hj
theorem zbQ {ws : List ByteArray} : ∀ u ∈ ws.map Value.string, u.oneCell' = true := by
  intro u hu; simp only [List.mem_map] at hu; obtain ⟨s, _, rfl⟩ := hu; rfl
theorem jv (w : World) (o1 o2 o3 : Obj) : Below w.heap.size w (((w.alloc o1).alloc o2).alloc o3) :=
  (((Below.refl _ _).alloc (Nat.le_refl _) _).alloc (by simp) _).alloc (by simp; omega) _
theorem zaI (w : World) (o1 o2 o3 : Obj) : (((w.alloc o1).alloc o2).alloc o3).heap[w.heap.size + 1 + 1]? = some o3 := by
  have h := alloc_at ((w.alloc o1).alloc o2) o3
  simpa using h
theorem zbu (w : World) (o1 o2 o3 : Obj) : (((w.alloc o1).alloc o2).alloc o3).heap[w.heap.size]? = some o1 := (Below.heap_alloc _ _ _ (by simp; omega)).trans (zq _ _ _).1
theorem zfJ (w : World) (o1 o2 o3 : Obj) : (((w.alloc o1).alloc o2).alloc o3).heap[w.heap.size + 1]? = some o2 := (Below.heap_alloc _ _ _ (by simp)).trans (zq _ _ _).2
theorem zcC {w w1 : World} {o1 o2 o3 : Obj} (hg : (((w.alloc o1).alloc o2).alloc o3).grownBy w1 (some (w.heap.size + 1 + 1))) :
    w1.heap[w.heap.size]? = some o1 /\ w1.heap[w.heap.size + 1]? = some o2 /\ Below w.heap.size w w1 /\ w.heap.size + 1 + 1 < w1.heap.size := by
  refine ⟨(hg.block _ (by simp; omega) (by simp; try omega)).trans (zbu _ _ _ _), (hg.block _ (by simp) (by simp)).trans (zfJ _ _ _ _), (jv _ _ _ _).grown hg (jv _ _ _ _).size (by intro k hk; simp at hk; omega), ?_⟩
  have := hg.size; simp at this; omega
theorem zhi (w : World) (p : Addr) (v : Value) (o3 : Obj) : ((w.setCell p v).alloc o3).heap[w.heap.size]? = some o3 := by
  have h := alloc_at (w.setCell p v) o3
  simpa [World.setCell] using h
theorem zfj {w w1 w2 : World} {a : Value} {C1 C2 : Array Value} {t1 t2 : TypeId} {o3 : Obj} (hk : w1.heap[w.heap.size]? = some (.cells C1 t1)) (hr : w1.heap[w.heap.size + 1]? = some (.cells C2 t2)) (hB : Below w.heap.size w w1) (hz : w.heap.size + 1 + 1 < w1.heap.size)
    (hg : ((w1.setCell ⟨w.heap.size, 3, none⟩ a).alloc o3).grownBy w2 (some w1.heap.size)) :
    w2.heap[w.heap.size]? = some (.cells (C1.setIfInBounds 3 a) t1) /\ w2.heap[w.heap.size + 1]? = some (.cells C2 t2) /\ Below w.heap.size w w2 /\ w1.heap.size < w2.heap.size := by
  have hs : (w1.setCell ⟨w.heap.size, 3, none⟩ a).heap.size = w1.heap.size := by simp [World.setCell]
  refine ⟨(hg.block _ (by simp [World.setCell]; omega) (by simp; omega)).trans ((Below.heap_alloc _ _ _ (by rw [hs]; omega)).trans (zu hk _)),
    (hg.block _ (by simp [World.setCell]; omega) (by simp; omega)).trans ((Below.heap_alloc _ _ _ (by rw [hs]; omega)).trans ((Below.heap_setCell _ _ _ _ (by simp)).trans hr)),
    ((hB.setCell (Nat.le_refl _) _).alloc (by rw [hs]; omega) _).grown hg (by simp [World.setCell]; omega) (by intro k hk; simp at hk; omega), ?_⟩
  have := hg.size; simp [World.setCell] at this; omega
theorem zk.grown {lo : Nat} {w w2 : World} {a : Option Addr} {ws : List ByteArray} {row : Nat} (h : zk lo w a ws) (hg : w.grownBy w2 (some row)) (hr : ∀ g, a = some g -> g.block ≠ row) : zk lo w2 a ws := by
  rcases h with ⟨rfl, rfl⟩ | ⟨g, C, rfl, hl, hh, hc⟩
  · exact Or.inl ⟨rfl, rfl⟩
  · exact Or.inr ⟨g, C, rfl, hl, (hg.block g (Array.getElem?_eq_some_iff.1 hh).1 (by have := hr _ rfl; simpa using this)).trans hh, hc⟩
theorem zk.lt {lo : Nat} {w : World} {a : Option Addr} {ws : List ByteArray} (h : zk lo w a ws) : ∀ g, a = some g -> g.block < w.heap.size := by
  intro g hg
  rcases h with ⟨rfl, _⟩ | ⟨g', C, rfl, _, hh, _⟩
  · cases hg
  · cases hg; exact (Array.getElem?_eq_some_iff.1 hh).1
set_option maxRecDepth 20000 in
set_option maxHeartbeats 1000000 in
theorem zec (o : Ob) (b off b' off' cap cap' : Nat) (w : World) (ho : qX w o (some ⟨b, off, none⟩) (some ⟨b', off', none⟩)) (hl : o.vs.length <= 1048576) (hl' : o.hs.length <= 1048576) :
    Calls Tryz.prog 22 #[.agg #[.string o.kd, .string o.nm, .string o.tm, .slice (some ⟨b, off, none⟩) o.vs.length cap, .bool o.en, .slice (some ⟨b', off', none⟩) o.hs.length cap', .int .i64 o.vr]] w
      fun e w' => ∃ a dap a' dap' m, e = .returned (.agg #[.string o.kd, .string o.nm, .string o.tm, .slice a o.vs.length dap, .bool o.en, .slice a' o.hs.length dap', .int .i64 o.vr]) /\ zk w.heap.size w' a o.vs /\ (∀ g, a = some g -> g.block < m) /\ w.heap.size <= m /\ zk m w' a' o.hs /\ Below w.heap.size w w' := by
  obtain ⟨i0, hi, hz0, hz1', hz2⟩ := info_parts Tryz.jC
  go_enter Tryz.func22, Tryz.ntmps22
  go_wp2_with (first
    | (at_builtin; refine wpList_append_own _ rfl (.tmp 3) (.tmp 5) 25 rfl (w.heap.size + 1 + 1) 9 i0 (.string ByteArray.empty) 1 16 Tryz.underlying25 hi hz0 hz1' hz2 rfl (by decide) (.slice (some ⟨w.heap.size + 1 + 1, 0, none⟩) 0 0) 0 [] rfl ⟨rfl, .inr ⟨w.heap.size + 1 + 1, 0, #[], rfl, Nat.le_refl _, zaI _ _ _ _, Nat.le_refl _, by simp [maxLen], rfl, rfl⟩⟩ ⟨b, off, none⟩ o.vs.length cap (o.vs.map Value.string) rfl (by simp) (za8 (ho.vals.mono (jv _ _ _ _))) zbQ (by unfold maxLen; omega) (by omega) (by simp) ?_; intro v' w1 hown hgr _; simp only [Nat.zero_add, List.nil_append] at hown; obtain ⟨a, dap, rfl, ht1⟩ := zk.qC hown; obtain ⟨hk1, hr1, hB1, hz1⟩ := zcC hgr; have hX1 : ∀ j, w1.cell? ⟨w.heap.size, j, none⟩ = (#[.string o.kd, .string o.nm, .string o.tm, .slice (some ⟨b, off, none⟩) o.vs.length cap, .bool o.en, .slice (some ⟨b', off', none⟩) o.hs.length cap', .int .i64 o.vr] : Array Value)[j]? := fun j => cell_of_block hk1; have hF1 : ∀ j, w1.frozen? ⟨w.heap.size, j, none⟩ = false := fun j => za hk1; have hzz1 : w.heap.size < w1.heap.size := (by omega); have hone := hB1.setCell (p := ⟨w.heap.size, 3, none⟩) (Nat.le_refl _) (.slice a o.vs.length dap); have HT1 : Hid (zk (w.heap.size + 1 + 1) w1 a o.vs) := ht1; have HK1 : Hid (w1.heap[w.heap.size]? = some (.cells #[.string o.kd, .string o.nm, .string o.tm, .slice (some ⟨b, off, none⟩) o.vs.length cap, .bool o.en, .slice (some ⟨b', off', none⟩) o.hs.length cap', .int .i64 o.vr] 27)) := hk1; have HR1 : Hid (w1.heap[w.heap.size + 1]? = some (.cells #[.string ByteArray.empty, .string ByteArray.empty, .string ByteArray.empty, .slice none 0 0, .bool false, .slice none 0 0, .int .i64 0] 27)) := hr1; clear ht1 hk1 hr1; clear hown hgr)
    | (at_builtin; refine wpList_append_own _ rfl (.tmp 8) (.tmp 10) 25 rfl w1.heap.size 9 i0 (.string ByteArray.empty) 1 16 Tryz.underlying25 hi hz0 hz1' hz2 rfl (by decide) (.slice (some ⟨w1.heap.size, 0, none⟩) 0 0) 0 [] rfl ⟨rfl, .inr ⟨w1.heap.size, 0, #[], rfl, Nat.le_refl _, zhi _ _ _ _, Nat.le_refl _, (by simp [maxLen]), rfl, rfl⟩⟩ ⟨b', off', none⟩ o.hs.length cap' (o.hs.map Value.string) rfl (by simp) (za8 (ho.holds.mono (hone.alloc hone.size _))) zbQ (by unfold maxLen; omega) (by omega) (by simp [World.setCell]) ?_; intro v'' w2 hown hgr _; simp only [Nat.zero_add, List.nil_append] at hown; obtain ⟨a', dap', rfl, ht2⟩ := zk.qC hown; obtain ⟨hk2, hr2, hB2, hz2'⟩ := zfj HK1.out HR1.out hB1 hz1 hgr; have HU2 : Hid (zk w1.heap.size w2 a' o.hs) := ht2; have HT2 : Hid (zk (w.heap.size + 1 + 1) w2 a o.vs) := ((HT1.out.setCell _ (by simp; omega) _).mono ((Below.refl _ _).alloc (Nat.le_refl _) _)).grown hgr (fun g hg => Nat.ne_of_lt (HT1.out.lt g hg)); have hX2 : ∀ j, w2.cell? ⟨w.heap.size, j, none⟩ = (#[.string o.kd, .string o.nm, .string o.tm, .slice a o.vs.length dap, .bool o.en, .slice (some ⟨b', off', none⟩) o.hs.length cap', .int .i64 o.vr] : Array Value)[j]? := fun j => cell_of_block hk2; have hF2 : ∀ j, w2.frozen? ⟨w.heap.size, j, none⟩ = false := fun j => za hk2; have hY2 : ∀ j, w2.cell? ⟨w.heap.size + 1, j, none⟩ = (#[.string ByteArray.empty, .string ByteArray.empty, .string ByteArray.empty, .slice none 0 0, .bool false, .slice none 0 0, .int .i64 0] : Array Value)[j]? := fun j => cell_of_block hr2; have hG2 : ∀ j, w2.frozen? ⟨w.heap.size + 1, j, none⟩ = false := fun j => za hr2; have hzz2 : w.heap.size + 1 < w2.heap.size := (by omega); clear hown hgr ht2 hk2 hr2 hX1 hF1))
  refine bodyPost_ret (v := (.agg #[.string o.kd, .string o.nm, .string o.tm, .slice a o.vs.length dap, .bool o.en, .slice a' o.hs.length dap', .int .i64 o.vr])) (by simp [results, Tryz.results22, go_sem, hY2]) rfl ⟨a, dap, a', dap', w1.heap.size, rfl, ((((((((HT2.out.setCell _ (by simp; omega) _).setCell _ (by simp) _).setCell _ (by simp) _).setCell _ (by simp) _).setCell _ (by simp) _).setCell _ (by simp) _).setCell _ (by simp) _).setCell _ (by simp) _).low (by omega), HT1.out.lt, by omega, ((((((((HU2.out.setCell _ (by simp; omega) _).setCell _ (by simp; omega) _).setCell _ (by simp; omega) _).setCell _ (by simp; omega) _).setCell _ (by simp; omega) _).setCell _ (by simp; omega) _).setCell _ (by simp; omega) _).setCell _ (by simp; omega) _), ((((((((hB2.setCell (Nat.le_refl _) _).setCell (by simp) _).setCell (by simp) _).setCell (by simp) _).setCell (by simp) _).setCell (by simp) _).setCell (by simp) _).setCell (by simp) _)⟩
end Go.Proofs.YtmfgjafdnopfbaaGreat
