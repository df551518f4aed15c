import Derived.Test.YtfapkhgallmkdaaGreatM27
import Derived.Deep.RegionHeld3
import Derived.Test.YtfapkhgallmkdaaGreatM26
import Derived.Test.YtfapkhgallmkdaaGreatM17
import Derived.Test.YtfapkhgallmkdaaGreatM24
import Derived.Test.YtfapkhgallmkdaaGreatM31
import Derived.Test.YtfapkhgallmkdaaGreatM29
import Derived.Test.YtfapkhgallmkdaaGreatM04
import Derived.Test.YtfapkhgallmkdaaGreatM21
import Derived.Test.YtfapkhgallmkdaaGreatM06
import Derived.Deep.OwnRows
import Derived.MapKept
namespace Go.Proofs.YtfapkhgallmkdaaGreat
open Go.RowKit
theorem Gate.zkO {ts : List Tm} {r : Rl} {x : Ac} (hv : Gate.qD r.vs = true) : (Gate.jM x.vb && (Gate.meets ts r x.kd x.tm x.nm && Gate.yD r.vs x.vb)) = Gate.yP ts r x := by
  unfold Gate.yP
  cases hh : Gate.yD r.vs x.vb
  · simp
  · have h5 := Gate.ziV hv _ hh
    have : Gate.jM x.vb = true := by simpa [Gate.jM] using h5
    rw [this]; simp
theorem Gate.zjV {r : Rl} (h : Gate.jF r = true) : Gate.qD r.vs = true := by
  unfold Gate.jF at h; simp only [Bool.and_eq_true] at h; exact h.2.1
end Go.Proofs.YtfapkhgallmkdaaGreat

namespace Go.Proofs.YtfapkhgallmkdaaGreat
open Go.RowKit
namespace Gate
def zK (who : ByteArray) : List Gr -> List Rl
  | [] => []
  | g :: gs => if g.to = who then g.r :: zK who gs else zK who gs
theorem zbY (who : ByteArray) : ∀ a b : List Gr, zK who (a ++ b) = zK who a ++ zK who b
  | [], _ => rfl
  | g :: a, b => by
    show (if g.to = who then g.r :: zK who (a ++ b) else zK who (a ++ b)) = (if g.to = who then g.r :: zK who a else zK who a) ++ zK who b
    rw [zbY who a b]; split <;> rfl
theorem zf7 {gs : List Gr} {who : ByteArray} {k : Nat} (h : k < gs.length) (e : gs[k].to = who) : zK who (gs.take (k + 1)) = zK who (gs.take k) ++ [gs[k].r] := by
  rw [List.take_succ_eq_append_getElem h, zbY]
  congr 1
  show (if gs[k].to = who then gs[k].r :: zK who [] else zK who []) = _
  rw [if_pos e]; rfl
theorem zic {gs : List Gr} {who : ByteArray} {k : Nat} (h : k < gs.length) (e : ¬ gs[k].to = who) : zK who (gs.take (k + 1)) = zK who (gs.take k) := by
  rw [List.take_succ_eq_append_getElem h, zbY]
  have : zK who [gs[k]] = [] := by
    show (if gs[k].to = who then gs[k].r :: zK who [] else zK who []) = _
    rw [if_neg e]; rfl
  rw [this, List.append_nil]
theorem zbN (who : ByteArray) : ∀ gs : List Gr, (zK who gs).length <= gs.length
  | [] => Nat.le_refl _
  | g :: gs => by
    have h := zbN who gs
    show (if g.to = who then g.r :: zK who gs else zK who gs).length <= _
    split <;> simp <;> omega
theorem zgi {who : ByteArray} (p : Rl -> Prop) : ∀ {gs : List Gr}, (∀ g ∈ gs, p g.r) -> ∀ r ∈ zK who gs, p r
  | [], _, r, hr => by cases hr
  | g :: gs, h, r, hr => by
    have hr' : r ∈ (if g.to = who then g.r :: zK who gs else zK who gs) := hr
    have ih := fun r => zgi p (fun g' hg' => h g' (List.mem_cons_of_mem _ hg')) (who := who) (gs := gs) r
    split at hr'
    · rcases List.mem_cons.1 hr' with e | e
      · rw [e]; exact h g (List.mem_cons_self ..)
      · exact ih r e
    · exact ih r hr'
def zjh (l : Lw) (b : Bk) (who : ByteArray) (x : Ac) : Bool := (zK who b.gs).any fun r => yP l.ts r x
end Gate
theorem Tryz.zkD : (Tryz.prog.info? 112).map (fun i => (i.zero, i.size, i.bytes)) = some (some (.agg #[.slice none 0 0, .string ByteArray.empty, .string ByteArray.empty, .string ByteArray.empty]), 4, 72) := by kernel_rfl
abbrev RlP := Rl × Option Addr × Nat
def zay : List RlP -> List Value
  | [] => []
  | p :: ps => (p.1.cells p.2.1 p.2.2).toList ++ zay ps
theorem zdG : ∀ a b : List RlP, zay (a ++ b) = zay a ++ zay b
  | [], _ => rfl
  | p :: a, b => by show _ ++ zay (a ++ b) = (_ ++ zay a) ++ zay b; rw [zdG a b, List.append_assoc]
theorem zhP : ∀ (ps : List RlP) (i : Nat) (h : i < ps.length) (j : Nat), j < 4 -> (zay ps)[i * 4 + j]? = (ps[i].1.cells ps[i].2.1 ps[i].2.2)[j]?
  | [], i, h, _, _ => by simp at h
  | p :: ps, 0, _, j, hj => by
    show ((p.1.cells p.2.1 p.2.2).toList ++ zay ps)[0 * 4 + j]? = _
    have hl : (p.1.cells p.2.1 p.2.2).toList.length = 4 := rfl
    rw [List.getElem?_append_left (by omega), Nat.zero_mul, Nat.zero_add, Array.getElem?_toList]; rfl
  | p :: ps, i + 1, h, j, hj => by
    show ((p.1.cells p.2.1 p.2.2).toList ++ zay ps)[(i + 1) * 4 + j]? = _
    have hl : (p.1.cells p.2.1 p.2.2).toList.length = 4 := rfl
    rw [List.getElem?_append_right (by omega), hl, show (i + 1) * 4 + j - 4 = i * 4 + j by omega, zhP ps i (by simpa using h) j hj]; rfl
def jC (w0 : World) (lo : Nat) (w : World) (v : Value) (rs : List Rl) : Prop :=
  ∃ ps : List RlP, ps.map (·.1) = rs /\ (∀ p ∈ ps, p.1.Small /\ yw w0 p.2.1 p.1.vs) /\ w.ownsRow lo 112 4 v ps.length (zay ps)
theorem jC.later {w0 : World} {lo : Nat} {w w' : World} {v : Value} {rs : List Rl} (h : jC w0 lo w v rs) (hb : Below w.heap.size w w') : jC w0 lo w' v rs := by
  obtain ⟨ps, h1, h2, h3⟩ := h
  exact ⟨ps, h1, h2, yZ h3 hb⟩
theorem jC.nil (w0 : World) (lo : Nat) (w : World) : jC w0 lo w (.slice none 0 0) [] := ⟨[], rfl, (fun _ h => by cases h), World.ownsRow_nil _ _ _ _⟩
theorem jC.at {w0 : World} {lo : Nat} {w : World} {v : Value} {rs : List Rl} (h : jC w0 lo w v rs) (hb : Below w0.heap.size w0 w) (hl : rs.length <= maxLen) : ∃ a cap, v = .slice a rs.length cap /\ zbC w a rs := by
  obtain ⟨ps, h1, h2, h3⟩ := h
  have hn : ps.length = rs.length := by rw [<- h1, List.length_map]
  obtain ⟨_, ⟨h0, hz⟩ | ⟨g, cp, cur, h0, h4⟩⟩ := id h3
  · refine ⟨none, 0, by rw [h0, <- hn, hz], hl, fun hne => ?_⟩
    exact absurd (List.length_eq_zero_iff.1 (hn ▸ hz)) hne
  · subst h0
    refine ⟨_, cp, by rw [hn], hl, fun _ => ⟨g, 0, rfl, (h3.lt g rfl).2, fun i hi => ?_⟩⟩
    have hi' : i < ps.length := by omega
    have he : rs[i] = ps[i].1 := by simp [<- h1]
    have hp := h2 _ (List.getElem_mem hi')
    refine ⟨ps[i].2.1, ps[i].2.2, ?_, ?_, fun j hj => ?_⟩
    · rw [he]; exact hp.1
    · rw [he]; exact hp.2.mono hb
    · rw [he, Nat.zero_add, h3.cellAt (i * 4 + j) (by omega), zhP ps i hi' j hj]
theorem jC.snoc {w0 : World} {lo : Nat} {w : World} {v : Value} {rs : List Rl} {ps : List RlP} {r : Rl} {a : Option Addr} {cap : Nat} (h1 : ps.map (·.1) = rs) (h2 : ∀ p ∈ ps, p.1.Small /\ yw w0 p.2.1 p.1.vs) (hr : r.Small) (hi : yw w0 a r.vs)
    (h3 : w.ownsRow lo 112 4 v (ps.length + 1) (zay ps ++ [.slice a r.vs.length cap, .string r.kd, .string r.tm, .string r.px])) : jC w0 lo w v (rs ++ [r]) := by
  refine ⟨ps ++ [(r, a, cap)], by rw [List.map_append, h1]; rfl, fun p hp => ?_, ?_⟩
  · rcases List.mem_append.1 hp with hp | hp
    · exact h2 p hp
    · obtain rfl := List.mem_singleton.1 hp
      exact ⟨hr, hi⟩
  · rw [zdG, List.length_append]
    exact h3
theorem zjz (w : World) (x0 x1 x2 x3 : Value) (t : TypeId) : ∀ j u, [x0, x1, x2, x3][j]? = some u -> (w.alloc (.cells #[x0, x1, x2, x3] t)).cell? ((⟨w.heap.size, 0, none⟩ : Addr).add j) = some u := by
  intro j u hj
  have e : (⟨w.heap.size, 0, none⟩ : Addr).add j = ⟨w.heap.size, j, none⟩ := by
    rcases j with _ | j
    · rfl
    · simp [Addr.add]
  rw [e, World.cell?_alloc_at (hn := rfl)]
  simpa using hj
theorem zfb {B : Nat} {w0 w w1 : World} {v : Value} {o : Obj} (h : Below B w0 w) (hB : B <= w.heap.size) (hg : (w.alloc o).grownBy w1 v.ownBlock) (hr : ∀ k, v.ownBlock = some k -> B <= k) : Below B w0 w1 :=
  (h.alloc hB _).grown hg (by simp; omega) hr
end Go.Proofs.YtfapkhgallmkdaaGreat

namespace Go.Proofs.YtfapkhgallmkdaaGreat
open Go.RowKit
set_option maxHeartbeats 1000000 in
theorem zgA (a : Option Addr) (cap : Nat) (w : World) :
    Calls Tryz.prog 220 #[.slice a 0 cap] w fun e w' => ∃ v, e = .returned v /\ w'.ownsRow w.heap.size 9 1 v 0 [] /\ Below w.heap.size w w' := by
  cases a with
  | none => exact zdu cap w
  | some g =>
    go_enter Tryz.func220, Tryz.ntmps220
    go_wp2_with fail
    go_ret
    exact ⟨_, rfl, World.ownsRow_nil _ _ _ _, Below.refl _ _⟩
theorem zed (a : Option Addr) (cap : Nat) (ws : List ByteArray) (w : World) (hw : zC w a ws) (hl : ws.length <= 1048576) :
    Calls Tryz.prog 220 #[.slice a ws.length cap] w
      fun e w' => ∃ v, e = .returned v /\ w'.ownsRow w.heap.size 9 1 v ws.length (ws.map Value.string) /\ Below w.heap.size w w' := by
  by_cases h : ws = []
  · subst h
    exact zgA a cap w
  · obtain ⟨b, off, rfl, _⟩ := hw.cells h
    exact zd9 b off cap ws w hw hl
set_option maxHeartbeats 1000000 in
theorem zhC (o : Ob) (va ha : Option Addr) (cap cap' : Nat) (w : World) (ho : jg w o va ha) (hl : o.vs.length <= 1048576) (hl' : o.hs.length <= 1048576) :
    Calls Tryz.prog 217 #[.agg (oC o va ha cap cap')] w
      fun e w' => ∃ a dap a' dap' m, e = .returned (.agg (oC o a a' dap dap')) /\ zo w.heap.size w' a o.vs /\ (∀ g, a = some g -> g.block < m) /\ w.heap.size <= m /\ zo m w' a' o.hs /\ Below w.heap.size w w' := by
  go_enter Tryz.func217, Tryz.ntmps217
  go_wp2_with fail
  refine (zed _ _ _ _ (ho.vals.mono (zu _ _ _)) hl).mono ?_
  rintro e w1 ⟨v, rfl, hown1, hb1⟩
  obtain ⟨a, dap, rfl, ht1⟩ := zo.zfp hown1
  have hk1 := (hb1.block w.heap.size (by simp; omega)).trans (zP _ _ _).1
  have hr1 := (hb1.block (w.heap.size + 1) (by simp)).trans (zP _ _ _).2
  have HT : Hid (zo (w.heap.size + 1 + 1) w1 a o.vs) := by unfold Hid; simpa using ht1
  have hz1 : w.heap.size + 1 < w1.heap.size := by have := hb1.size; simp at this; omega
  have hB1 := (zu _ _ _).trans (hb1.mono (by simp; omega))
  have HK := hid hk1
  have HRR := hid hr1
  have hX1 : ∀ j, w1.cell? ⟨w.heap.size, j, none⟩ = (oC o va ha cap cap')[j]? := fun j => cell_of_block hk1
  have hF1 : ∀ j, w1.frozen? ⟨w.heap.size, j, none⟩ = false := fun j => zl hk1
  clear hb1 hown1 ht1 hk1 hr1
  go_wp2_with fail
  have hB1' := hB1.setCell (p := ⟨w.heap.size, 3, none⟩) (Nat.le_refl _) (.slice a o.vs.length dap)
  refine (zed _ _ _ _ (ho.holds.mono hB1') hl').mono ?_
  rintro e w2 ⟨v, rfl, hown2, hb2⟩
  obtain ⟨a', dap', rfl, ht2⟩ := zo.zfp hown2
  have hk2 := (hb2.block w.heap.size (by simp [World.setCell]; omega)).trans (zf HK.out _)
  have hr2 := (hb2.block (w.heap.size + 1) (by simp [World.setCell]; omega)).trans ((Below.heap_setCell _ _ _ _ (by simp)).trans HRR.out)
  have HT2 := hid ((HT.out.setCell _ (by simp; omega) _).mono hb2)
  have HU2 : Hid (zo w1.heap.size w2 a' o.hs) := by unfold Hid; simpa [World.setCell] using ht2
  have HM : Hid (∀ g, a = some g -> g.block < w1.heap.size) := by
    intro g hg
    rcases HT.out with ⟨h0, _⟩ | ⟨g', C, h0, _, hh, _⟩
    · rw [h0] at hg; cases hg
    · rw [h0] at hg; cases hg; exact (Array.getElem?_eq_some_iff.1 hh).1
  have hz2 : w.heap.size + 1 < w2.heap.size := by have := hb2.size; simp [World.setCell] at this; omega
  have hB2 := hB1'.trans (hb2.mono hB1'.size)
  have hX2 : ∀ j, w2.cell? ⟨w.heap.size, j, none⟩ = (oC o a ha dap cap')[j]? := fun j => cell_of_block hk2
  have hF2 : ∀ j, w2.frozen? ⟨w.heap.size, j, none⟩ = false := fun j => zl hk2
  have hY2 : ∀ j, w2.cell? ⟨w.heap.size + 1, j, none⟩ = oZ[j]? := fun j => cell_of_block hr2
  have hG2 : ∀ j, w2.frozen? ⟨w.heap.size + 1, j, none⟩ = false := fun j => zl hr2
  have hzz : w.heap.size <= w1.heap.size := by omega
  clear hb2 hown2 ht2 hX1 hF1 hB1 hB1' hk2 hr2
  go_wp2_with fail
  refine bodyPost_ret (v := (.agg (oC o a a' dap dap'))) (by simp [results, Tryz.results217, go_sem, hY2]) rfl ⟨a, dap, a', dap', w1.heap.size, rfl, ((((((((HT2.out.setCell _ (by simp; omega) _).setCell _ (by simp) _).setCell _ (by simp) _).setCell _ (by simp) _).setCell _ (by simp) _).setCell _ (by simp) _).setCell _ (by simp) _).setCell _ (by simp) _).low (by omega), HM.out, hzz, ((((((((HU2.out.setCell _ (by simp; omega) _).setCell _ (by simp; omega) _).setCell _ (by simp; omega) _).setCell _ (by simp; omega) _).setCell _ (by simp; omega) _).setCell _ (by simp; omega) _).setCell _ (by simp; omega) _).setCell _ (by simp; omega) _), ((((((((hB2.setCell (Nat.le_refl _) _).setCell (by simp) _).setCell (by simp) _).setCell (by simp) _).setCell (by simp) _).setCell (by simp) _).setCell (by simp) _).setCell (by simp) _)⟩
set_option maxHeartbeats 2000000 in
theorem zmS (o : Ob) (kd : ByteArray) (fs : List Fld) (fa : Option Addr) (va ha : Option Addr) (fcap cap cap' : Nat) (w : World) (hf : yc w fa fs) (ho : jg w o va ha) (hl : o.vs.length <= 1048576) (hl' : o.hs.length <= 1048576) (hc : o.vs.length = fs.length) :
    Calls Tryz.prog 210 #[.agg #[.string kd, .slice fa fs.length fcap], .agg (oC o va ha cap cap')] w
      fun e w' => ∃ a dap a' dap' m, e = .returned (.agg (oC o a a' dap dap')) /\ zo w.heap.size w' a (Gate.jG fs o.vs) /\ (∀ g, a = some g -> g.block < m) /\ w.heap.size <= m /\ zo m w' a' o.hs /\ Below w.heap.size w w' := by
  have HC := hid hc
  clear hc
  go_enter Tryz.func210, Tryz.ntmps210
  go_wp2_with fail
  refine (zhC o va ha cap cap' _ (ho.mono (ji _ _ _ _)) hl hl').mono ?_
  rintro e w1 ⟨a, dap, a', dap', m, rfl, ht, hm, hsm, ht', hb1⟩
  have hX1 : ∀ j, w1.cell? ⟨w.heap.size, j, none⟩ = (#[.string kd, .slice fa fs.length fcap] : Array Value)[j]? := fun j => cell_of_block ((hb1.block w.heap.size (by simp; omega)).trans (zbn _ _ _ _))
  have HR1 := hid ((hb1.block (w.heap.size + 1 + 1) (by simp)).trans (zce _ _ _ _))
  have hB1 := (ji _ _ _ _).trans (hb1.mono (by simp; omega))
  have hz1 : w.heap.size + 1 + 1 < w1.heap.size := by have := hb1.size; simp at this; omega
  have HT : Hid (zo (w.heap.size + 1 + 1 + 1) w1 a o.vs /\ (∀ g, a = some g -> g.block < m) /\ w.heap.size + 1 + 1 + 1 <= m /\ zo m w1 a' o.hs) := by
    simp only [World.size_alloc] at ht hsm
    exact ⟨ht, hm, hsm, ht'⟩
  have hz0 : w.heap.size < w1.heap.size := by omega
  clear ht hm hsm ht' hb1 ho
  have hlen := hf.len
  unfold maxLen at hlen
  go_wp2_with fail
  clear hX1
  go_loopw [13] (fun i wr => ∃ k : Nat, k <= fs.length /\ i = .int .i64 k /\ zo (w.heap.size + 1 + 1 + 1) wr a (Gate.qJ fs o.vs k) /\ zo m wr a' o.hs /\ wr.heap[w.heap.size + 1 + 1]? = some (.cells oZ 121) /\ wr.heap[w1.heap.size]? = some (.cells (oC o a a' dap dap') 121) /\ Below w.heap.size w wr) (fun i _ => fs.length - (intOf i).toNat)
  case atStart =>
    have hba := (Below.refl w1.heap.size w1).alloc (Nat.le_refl _) (.cells (oC o a a' dap dap') 121)
    exact ⟨0, Nat.zero_le _, rfl, by rw [Gate.zge]; exact HT.out.1.mono hba, HT.out.2.2.2.mono hba, (hba.block _ hz1).trans HR1.out, alloc_at _ _, hB1.alloc hB1.size _⟩
  case round =>
    obtain ⟨k, hk, rfl, ht, ht', hR, hO, hB⟩ := hrel
    have hOc : ∀ j, wr.cell? ⟨w1.heap.size, j, none⟩ = (oC o a a' dap dap')[j]? := fun j => cell_of_block hO
    have hOz := (Array.getElem?_eq_some_iff.1 hO).1
    by_cases hlt : k < fs.length
    · have hltv : k < o.vs.length := by rw [HC.out]; exact hlt
      obtain ⟨fb, foff, rfl, hfb, hr⟩ := hf.rows (by rintro rfl; simp at hlt)
      obtain ⟨wa, wcap, hf0⟩ := hr k hlt
      have hf1 := hf0.mono hfb hB
      obtain ⟨c0, c1, c2, c3, c4, c5, c6, c7, c8, c9, c10⟩ := hf1.load
      have hltI : (k : Int) < (fs.length : Int) := by omega
      have hltV : (k : Int) < (o.vs.length : Int) := by omega
      have hfbw := Nat.lt_of_lt_of_le hfb hB.size
      obtain ⟨g, C, hga, hgl, hgh, hgc⟩ : ∃ g C, a = some ⟨g, 0, none⟩ /\ w.heap.size + 1 + 1 + 1 <= g /\ wr.heap[g]? = some (.cells C 9) /\ ∀ i (h : i < (Gate.qJ fs o.vs k).length), C[i]? = some (.string (Gate.qJ fs o.vs k)[i]) := by
        rcases ht with ⟨_, h0⟩ | h0
        · have := Gate.jU HC.out k; rw [h0] at this; simp at this; omega
        · exact h0
      have hgm : g < m := HT.out.2.1 _ hga
      have hgw1 : g < w1.heap.size := by have := HT.out.1.lt _ hga; exact this
      have hgw : g < wr.heap.size := by omega
      subst hga
      have hcell : wr.cell? ⟨g, k, none⟩ = some (.string o.vs[k]) := by
        have h1 := Gate.zdX HC.out k hlt
        have hkl : k < (Gate.qJ fs o.vs k).length := by rw [Gate.jU HC.out]; exact hltv
        rw [List.getElem?_eq_getElem hkl, List.getElem?_eq_getElem hltv] at h1
        rw [cell_of_block hgh, hgc k hkl, Option.some.inj h1]
      have hgf : wr.frozen? ⟨g, k, none⟩ = false := zl hgh
      have HX := znZ ht ht' hR hO hB
      clear ht ht' hR hO hB hf hr hf0 hf1 hgh hgc
      by_cases hv : o.vs[k].toList.isEmpty = true
      · have HV : Hid (Gate.jQ fs[k] o.vs[k] = fs[k].df) := by unfold Hid Gate.jQ; rw [if_pos hv]
        go_wp2_with fail
        obtain ⟨ht, ht', hR, hO, hB⟩ := HX.out
        have hba := (Below.refl (wr.setCell ⟨g, k, none⟩ (.string fs[k].df)).heap.size (wr.setCell ⟨g, k, none⟩ (.string fs[k].df))).alloc (Nat.le_refl _) (.cells #[.string fs[k].nm, .int .i64 fs[k].kd, .int .i64 fs[k].ls, .int .i64 fs[k].ms, .slice wa fs[k].ws.length wcap, .string fs[k].to, .int .i64 fs[k].rl, .bool fs[k].mu, .bool fs[k].fx, .string fs[k].df, .string fs[k].wg] 158)
        have hs0 : (wr.setCell ⟨g, k, none⟩ (.string fs[k].df)).heap.size = wr.heap.size := by simp [World.setCell]
        exact ⟨⟨k + 1, by omega, by go_num, by rw [Gate.zcg HC.out k hlt, HV.out]; exact (ht.set k _).mono hba, (ht'.setCell _ hgm _).mono hba, (hba.block _ (by rw [hs0]; omega)).trans ((Below.heap_setCell _ _ _ _ (by show w.heap.size + 1 + 1 ≠ g; omega)).trans hR), (hba.block _ (by rw [hs0]; exact hOz)).trans ((Below.heap_setCell _ _ _ _ (by show w1.heap.size ≠ g; omega)).trans hO), (hB.setCell (p := ⟨g, k, none⟩) (by show w.heap.size <= g; omega) _).alloc (by rw [hs0]; exact hB.size) _⟩, zm hlt⟩
      · have HV : Hid (Gate.jQ fs[k] o.vs[k] = o.vs[k]) := by unfold Hid Gate.jQ; rw [if_neg hv]
        go_wp2_with fail
        obtain ⟨ht, ht', hR, hO, hB⟩ := HX.out
        have hba := (Below.refl wr.heap.size wr).alloc (Nat.le_refl _) (.cells #[.string fs[k].nm, .int .i64 fs[k].kd, .int .i64 fs[k].ls, .int .i64 fs[k].ms, .slice wa fs[k].ws.length wcap, .string fs[k].to, .int .i64 fs[k].rl, .bool fs[k].mu, .bool fs[k].fx, .string fs[k].df, .string fs[k].wg] 158)
        have hsame : (Gate.qJ fs o.vs k).set k o.vs[k] = Gate.qJ fs o.vs k := by
          have h1 := Gate.zdX HC.out k hlt
          have hkl : k < (Gate.qJ fs o.vs k).length := by rw [Gate.jU HC.out]; exact hltv
          rw [List.getElem?_eq_getElem hkl, List.getElem?_eq_getElem hltv] at h1
          rw [<- Option.some.inj h1, List.set_getElem_self]
        exact ⟨⟨k + 1, by omega, by go_num, by rw [Gate.zcg HC.out k hlt, HV.out, hsame]; exact ht.mono hba, ht'.mono hba, (hba.block _ (by omega)).trans hR, (hba.block _ hOz).trans hO, hB.alloc hB.size _⟩, zm hlt⟩
    · have e : k = fs.length := by omega
      subst e
      rw [Gate.zhv HC.out] at ht
      have hRc : ∀ j, wr.cell? ⟨w.heap.size + 1 + 1, j, none⟩ = oZ[j]? := fun j => cell_of_block hR
      have hRf : ∀ j, wr.frozen? ⟨w.heap.size + 1 + 1, j, none⟩ = false := fun j => zl hR
      have HX := zff ht ht' hB
      have HM := j4 HT.out.2.2.1 HT.out.2.1
      clear ht ht' hB hR hO hf
      go_wp2_with fail
      refine bodyPost_ret (v := (.agg (oC o a a' dap dap'))) (by simp [results, Tryz.results210, go_sem, hRc]) rfl ?_
      obtain ⟨ht, ht', hB⟩ := HX.out
      exact ⟨a, dap, a', dap', m, rfl, (qZ ht _ (by omega) _ _ _ _ _ _ _).low (by omega), HM.out.2, by have := HM.out.1; omega, qZ ht' _ (by have := HM.out.1; omega) _ _ _ _ _ _ _, zad hB _ (by omega) _ _ _ _ _ _ _⟩
end Go.Proofs.YtfapkhgallmkdaaGreat

namespace Go.Proofs.YtfapkhgallmkdaaGreat
open Go.RowKit
set_option maxHeartbeats 4000000 in
theorem zj6 (l : Lw) (la lb lc : Option Addr) (lca lcb lcc : Nat) (b : Bk) (a0 a1 a2 a3 : Option Addr) (c0 c1 c2 c3 : Nat) (team res : ByteArray) (w : World) (hl : qH w l la lb lc) (hb : qL w b a0 a1 a2 a3) (hz : yV b.os <= 1048576) :
    Calls Tryz.prog 90 #[.agg (l.cells la lb lc lca lcb lcc), .agg (b.cells a0 a1 a2 a3 c0 c1 c2 c3), .string team, .string res] w fun e w' => e = .returned (.int .i64 (Gate.used l b.os team res)) /\ Below w.heap.size w w' := by
  have HL : Hid (qH w l la lb lc) := hl
  have HK : Hid (qL w b a0 a1 a2 a3) := hb
  have HZ : Hid (yV b.os <= 1048576 /\ b.os.length <= 1048576) := ⟨hz, by unfold yV at hz; omega⟩
  clear hl hb hz
  unfold Lw.cells Bk.cells
  go_enter Tryz.func90, Tryz.ntmps90
  go_wp2_with fail
  obtain ⟨hX0, hY0⟩ := qM w (lC l la lb lc lca lcb lcc) (bC b a0 a1 a2 a3 c0 c1 c2 c3) 43 50
  have HB0 : Hid (Below w.heap.size w ((w.alloc (.cells (lC l la lb lc lca lcb lcc) 43)).alloc (.cells (bC b a0 a1 a2 a3 c0 c1 c2 c3) 50))) := zu w _ _
  obtain ⟨W0, hW0⟩ : ∃ W0, W0 = (w.alloc (.cells (lC l la lb lc lca lcb lcc) 43)).alloc (.cells (bC b a0 a1 a2 a3 c0 c1 c2 c3) 50) := ⟨_, rfl⟩
  have hz0 : w.heap.size + 1 < W0.heap.size := by rw [hW0]; simp
  rw [<- hW0] at HB0 hX0 hY0 ⊢
  clear hW0
  go_loopw [9, 10] (fun nv iv wr => ∃ (k : Nat) (s : Int), k <= b.os.length /\ iv = .int .i64 k /\ nv = .int .i64 s /\ Hid (s = Gate.j3 l b.os team res k /\ Below W0.heap.size W0 wr)) (fun _ iv _ => b.os.length - (intOf iv).toNat)
  case atStart => exact ⟨0, 0, Nat.zero_le _, rfl, rfl, by simp [Gate.j3], Below.refl _ _⟩
  case round =>
    obtain ⟨k, s, hk, rfl, rfl, HQ⟩ := hrel
    have hsb : 0 <= s /\ s <= 20000000000000 := by
      have h1 := HQ.out.1; have h2 := Gate.zbi l b.os team res k hk; have h3 := HZ.out
      have h4 : zat (b.os.take k) <= zat b.os := zbW Ob.sz b.os k
      unfold yV at h3
      omega
    have hX := za hX0 (Nat.lt_of_succ_lt hz0) HQ.out.2
    have hY := za hY0 hz0 HQ.out.2
    have hz := Nat.lt_of_lt_of_le hz0 HQ.out.2.size
    have hzX := Nat.lt_of_succ_lt hz
    have hkn : k <= 1048576 := by have := HZ.out.2; omega
    by_cases hlt : k < b.os.length
    · obtain ⟨ob, off, v0, v1, q0, q1, rfl, hob, hsm, hl0, hl1, d0, d1, d2, d3, d4, d5, d6⟩ := HK.out.os.load (HB0.out.trans (HQ.out.2.mono HB0.out.size)) k hlt
      have hob' := Nat.lt_of_lt_of_le hob (HB0.out.trans (HQ.out.2.mono HB0.out.size)).size
      have hltI : (k : Int) < (b.os.length : Int) := by omega
      have HSt : Hid (Gate.j3 l b.os team res (k + 1) = Gate.j3 l b.os team res k + Gate.za5 l team res b.os[k]) := Gate.zeq l b.os team res k hlt
      have HOo : Hid (jg wr b.os[k] v0 v1) := ⟨hsm, hl0, hl1⟩
      have HOl : Hid (b.os[k].vs.length <= 1048576) := by
        have h3 := HZ.out.1
        have := (zjU (left := 1048576) (ms := b.os) (by omega) (by omega)).2 k hlt
        exact this.1
      have hwb := Gate.zfc l.ss b.os[k] res HOl.out
      have HBr : Hid (Below w.heap.size w wr) := HB0.out.trans (HQ.out.2.mono HB0.out.size)
      clear hsm hl0 hl1
      go_wp2_with fail
      have HS : Hid ((∀ j, wr.cell? ⟨w.heap.size, j, none⟩ = (lC l la lb lc lca lcb lcc)[j]?) /\ (∀ j, wr.cell? ⟨w.heap.size + 1, j, none⟩ = (bC b (some ⟨ob, off, none⟩) a1 a2 a3 c0 c1 c2 c3)[j]?) /\ wr.cell? ⟨ob, off + k * 7, none⟩ = some (.string b.os[k].kd) /\ wr.cell? ⟨ob, off + k * 7 + 1, none⟩ = some (.string b.os[k].nm) /\ wr.cell? ⟨ob, off + k * 7 + 2, none⟩ = some (.string b.os[k].tm) /\ wr.cell? ⟨ob, off + k * 7 + 3, none⟩ = some (.slice v0 b.os[k].vs.length q0) /\ wr.cell? ⟨ob, off + k * 7 + 4, none⟩ = some (.bool b.os[k].en) /\ wr.cell? ⟨ob, off + k * 7 + 5, none⟩ = some (.slice v1 b.os[k].hs.length q1) /\ wr.cell? ⟨ob, off + k * 7 + 6, none⟩ = some (.int .i64 b.os[k].vr)) := ⟨hX, hY, d0, d1, d2, d3, d4, d5, d6⟩
      have hS : (∀ j, wr.drew.cell? ⟨w.heap.size, j, none⟩ = (lC l la lb lc lca lcb lcc)[j]?) /\ (∀ j, wr.drew.cell? ⟨w.heap.size + 1, j, none⟩ = (bC b (some ⟨ob, off, none⟩) a1 a2 a3 c0 c1 c2 c3)[j]?) /\ wr.drew.cell? ⟨ob, off + k * 7, none⟩ = some (.string b.os[k].kd) /\ wr.drew.cell? ⟨ob, off + k * 7 + 1, none⟩ = some (.string b.os[k].nm) /\ wr.drew.cell? ⟨ob, off + k * 7 + 2, none⟩ = some (.string b.os[k].tm) /\ wr.drew.cell? ⟨ob, off + k * 7 + 3, none⟩ = some (.slice v0 b.os[k].vs.length q0) /\ wr.drew.cell? ⟨ob, off + k * 7 + 4, none⟩ = some (.bool b.os[k].en) /\ wr.drew.cell? ⟨ob, off + k * 7 + 5, none⟩ = some (.slice v1 b.os[k].hs.length q1) /\ wr.drew.cell? ⟨ob, off + k * 7 + 6, none⟩ = some (.int .i64 b.os[k].vr) := HS.out
      clear hX hY d0 d1 d2 d3 d4 d5 d6
      go_region_held3 (fun w' => (∀ j, w'.cell? ⟨w.heap.size, j, none⟩ = (lC l la lb lc lca lcb lcc)[j]?) /\ (∀ j, w'.cell? ⟨w.heap.size + 1, j, none⟩ = (bC b (some ⟨ob, off, none⟩) a1 a2 a3 c0 c1 c2 c3)[j]?) /\ w'.cell? ⟨ob, off + k * 7, none⟩ = some (.string b.os[k].kd) /\ w'.cell? ⟨ob, off + k * 7 + 1, none⟩ = some (.string b.os[k].nm) /\ w'.cell? ⟨ob, off + k * 7 + 2, none⟩ = some (.string b.os[k].tm) /\ w'.cell? ⟨ob, off + k * 7 + 3, none⟩ = some (.slice v0 b.os[k].vs.length q0) /\ w'.cell? ⟨ob, off + k * 7 + 4, none⟩ = some (.bool b.os[k].en) /\ w'.cell? ⟨ob, off + k * 7 + 5, none⟩ = some (.slice v1 b.os[k].hs.length q1) /\ w'.cell? ⟨ob, off + k * 7 + 6, none⟩ = some (.int .i64 b.os[k].vr)) (exact hS) (first | (go_at_call 93; refine (zas _ _ l.ts b.os[k].tm team _ (by exact HL.out.ts.mono HBr.out.drew)).mono ?_; rintro e w1 ⟨rfl, rfl⟩))
      obtain ⟨w2, hw2⟩ : ∃ w2, w2 = wr.drew := ⟨_, rfl⟩
      have hB2 : Below W0.heap.size W0 w2 := by rw [hw2]; exact HQ.out.2.drew
      have HBr2 : Hid (Below w.heap.size w w2) := by unfold Hid; rw [hw2]; exact HBr.out.drew
      have HO2 : Hid (jg w2 b.os[k] v0 v1) := by unfold Hid; rw [hw2]; exact HOo.out.mono (Below.refl _ _).drew
      have hS2 : (∀ j, w2.cell? ⟨w.heap.size, j, none⟩ = (lC l la lb lc lca lcb lcc)[j]?) /\ (∀ j, w2.cell? ⟨w.heap.size + 1, j, none⟩ = (bC b (some ⟨ob, off, none⟩) a1 a2 a3 c0 c1 c2 c3)[j]?) /\ w2.cell? ⟨ob, off + k * 7, none⟩ = some (.string b.os[k].kd) /\ w2.cell? ⟨ob, off + k * 7 + 1, none⟩ = some (.string b.os[k].nm) /\ w2.cell? ⟨ob, off + k * 7 + 2, none⟩ = some (.string b.os[k].tm) /\ w2.cell? ⟨ob, off + k * 7 + 3, none⟩ = some (.slice v0 b.os[k].vs.length q0) /\ w2.cell? ⟨ob, off + k * 7 + 4, none⟩ = some (.bool b.os[k].en) /\ w2.cell? ⟨ob, off + k * 7 + 5, none⟩ = some (.slice v1 b.os[k].hs.length q1) /\ w2.cell? ⟨ob, off + k * 7 + 6, none⟩ = some (.int .i64 b.os[k].vr) := by rw [hw2]; exact hS
      have hz2 : w.heap.size + 1 < w2.heap.size := by rw [hw2]; exact hz
      have hzX2 := Nat.lt_of_succ_lt hz2
      have hob2 : ob < w2.heap.size := by rw [hw2]; exact hob'
      have HB2 : Hid (Below W0.heap.size W0 w2) := hB2
      rw [<- hw2]
      clear hw2 hS HS hB2 hz hzX hob'
      by_cases hu : Gate.under l.ts 4 b.os[k].tm team = true
      · have HU : Hid (Gate.za5 l team res b.os[k] = Gate.y9 l.ss b.os[k] res) := by unfold Hid Gate.za5; rw [if_pos hu]
        rw [hu]
        clear hu
        have hS : (∀ j, w2.drew.cell? ⟨w.heap.size, j, none⟩ = (lC l la lb lc lca lcb lcc)[j]?) /\ (∀ j, w2.drew.cell? ⟨w.heap.size + 1, j, none⟩ = (bC b (some ⟨ob, off, none⟩) a1 a2 a3 c0 c1 c2 c3)[j]?) /\ w2.drew.cell? ⟨ob, off + k * 7, none⟩ = some (.string b.os[k].kd) /\ w2.drew.cell? ⟨ob, off + k * 7 + 1, none⟩ = some (.string b.os[k].nm) /\ w2.drew.cell? ⟨ob, off + k * 7 + 2, none⟩ = some (.string b.os[k].tm) /\ w2.drew.cell? ⟨ob, off + k * 7 + 3, none⟩ = some (.slice v0 b.os[k].vs.length q0) /\ w2.drew.cell? ⟨ob, off + k * 7 + 4, none⟩ = some (.bool b.os[k].en) /\ w2.drew.cell? ⟨ob, off + k * 7 + 5, none⟩ = some (.slice v1 b.os[k].hs.length q1) /\ w2.drew.cell? ⟨ob, off + k * 7 + 6, none⟩ = some (.int .i64 b.os[k].vr) := hS2
        clear hS2
        go_wp2_with fail
        go_region_held3 (fun w' => (∀ j, w'.cell? ⟨w.heap.size, j, none⟩ = (lC l la lb lc lca lcb lcc)[j]?) /\ (∀ j, w'.cell? ⟨w.heap.size + 1, j, none⟩ = (bC b (some ⟨ob, off, none⟩) a1 a2 a3 c0 c1 c2 c3)[j]?) /\ w'.cell? ⟨ob, off + k * 7, none⟩ = some (.string b.os[k].kd) /\ w'.cell? ⟨ob, off + k * 7 + 1, none⟩ = some (.string b.os[k].nm) /\ w'.cell? ⟨ob, off + k * 7 + 2, none⟩ = some (.string b.os[k].tm) /\ w'.cell? ⟨ob, off + k * 7 + 3, none⟩ = some (.slice v0 b.os[k].vs.length q0) /\ w'.cell? ⟨ob, off + k * 7 + 4, none⟩ = some (.bool b.os[k].en) /\ w'.cell? ⟨ob, off + k * 7 + 5, none⟩ = some (.slice v1 b.os[k].hs.length q1) /\ w'.cell? ⟨ob, off + k * 7 + 6, none⟩ = some (.int .i64 b.os[k].vr)) (exact hS) (first | (go_at_call 126; refine (zij l _ _ _ _ _ _ b.os[k] _ _ _ _ res _ (by exact HL.out.mono HBr2.out.drew) (by exact HO2.out.mono (Below.refl _ _).drew) HOl.out).mono ?_; rintro e w3 ⟨rfl, hb3⟩; have hS := (⟨za hS.1 hzX2 hb3, za hS.2.1 hz2 hb3, (hb3.cell (p := ⟨ob, _, none⟩) hob2).trans hS.2.2.1, (hb3.cell (p := ⟨ob, _, none⟩) hob2).trans hS.2.2.2.1, (hb3.cell (p := ⟨ob, _, none⟩) hob2).trans hS.2.2.2.2.1, (hb3.cell (p := ⟨ob, _, none⟩) hob2).trans hS.2.2.2.2.2.1, (hb3.cell (p := ⟨ob, _, none⟩) hob2).trans hS.2.2.2.2.2.2.1, (hb3.cell (p := ⟨ob, _, none⟩) hob2).trans hS.2.2.2.2.2.2.2.1, (hb3.cell (p := ⟨ob, _, none⟩) hob2).trans hS.2.2.2.2.2.2.2.2⟩ : _ /\ _ /\ _ /\ _ /\ _ /\ _ /\ _ /\ _ /\ _); have hB3 := HB2.out.drew.trans (hb3.mono HB2.out.drew.size); clear hb3))
        go_wp2_with fail
        refine ⟨⟨k + 1, s + Gate.y9 l.ss b.os[k] res, by omega, by go_num, ?_, by rw [HSt.out, HU.out, HQ.out.1], hB3⟩, zm hlt⟩
        have hw : IntKind.i64.wrap (s + Gate.y9 l.ss b.os[k] res) = s + Gate.y9 l.ss b.os[k] res := by
          rw [IntKind.wrap_i64]
          omega
        rw [hw]
      · have hu' : Gate.under l.ts 4 b.os[k].tm team = false := by simpa using hu
        have HU : Hid (Gate.za5 l team res b.os[k] = 0) := by unfold Hid Gate.za5; rw [if_neg hu]
        rw [hu']
        clear hu hu'
        go_wp2_with fail
        exact ⟨⟨k + 1, s, by omega, by go_num, rfl, by rw [HSt.out, HU.out, HQ.out.1]; omega, HB2.out⟩, zm hlt⟩
    · have e : k = b.os.length := by omega
      subst e
      have HE : Hid (Gate.used l b.os team res = s) := by unfold Hid Gate.used; rw [HQ.out.1]
      clear hlt hk
      go_wp2_with fail
      go_ret
      exact ⟨zh HE.out.symm, HB0.out.trans (HQ.out.2.mono HB0.out.size)⟩
end Go.Proofs.YtfapkhgallmkdaaGreat

namespace Go.Proofs.YtfapkhgallmkdaaGreat
open Go.RowKit
set_option maxHeartbeats 4000000 in
theorem zdJ (b : Bk) (a0 a1 a2 a3 : Option Addr) (c0 c1 c2 c3 : Nat) (w : World) (hl : qL w b a0 a1 a2 a3) (hf : b.Few) :
    Calls Tryz.prog 9 #[.agg (b.cells a0 a1 a2 a3 c0 c1 c2 c3)] w fun e w' => ∃ lo g0 g1 g2 g3, e = .returned (.agg (b.cells (some ⟨g0, 0, none⟩) (some ⟨g1, 0, none⟩) (some ⟨g2, 0, none⟩) (some ⟨g3, 0, none⟩) b.os.length b.gs.length b.ls.length b.ps.length)) /\ w.heap.size <= lo /\ zi6 lo w' b g0 g1 g2 g3 /\ Below w.heap.size w w' := by
  have HL : Hid (qL w b a0 a1 a2 a3) := hl
  have HF : Hid b.Few := hf
  clear hl hf
  unfold Bk.cells
  go_enter Tryz.func9, Tryz.ntmps9
  go_wp2_with fail
  have k0 := zoQ w (.cells (bC b a0 a1 a2 a3 c0 c1 c2 c3) 32) (.cells bZ 50) (.cells #[.int .i64 b.now, .int .i64 b.tick, .int .i64 b.given, .slice none 0 0, .slice none 0 0, .slice none 0 0, .slice none 0 0] 50)
  have hB0 := below3' w (.cells (bC b a0 a1 a2 a3 c0 c1 c2 c3) 32) (.cells bZ 50) (.cells #[.int .i64 b.now, .int .i64 b.tick, .int .i64 b.given, .slice none 0 0, .slice none 0 0, .slice none 0 0, .slice none 0 0] 50)
  obtain ⟨W0, hW0⟩ : ∃ W0, W0 = ((w.alloc (.cells (bC b a0 a1 a2 a3 c0 c1 c2 c3) 32)).alloc (.cells bZ 50)).alloc (.cells #[.int .i64 b.now, .int .i64 b.tick, .int .i64 b.given, .slice none 0 0, .slice none 0 0, .slice none 0 0, .slice none 0 0] 50) := ⟨_, rfl⟩
  have hz0 : w.heap.size + 1 + 1 < W0.heap.size := by rw [hW0]; simp
  rw [<- hW0] at k0 hB0 ⊢
  clear hW0
  have HLO : Hid (w.heap.size + 1 + 1 < W0.heap.size) := hz0
  refine (zfj _ _ b.os _ (HL.out.os.mono hB0) HF.out.os.1 HF.out.os.2).mono ?_
  rintro e w1 ⟨rfl, hown, hb⟩
  obtain ⟨g0, hp'⟩ : ∃ g0, g0 = W0.heap.size := ⟨_, rfl⟩
  have HN1 : Hid (jq W0.heap.size w1 g0 b.os b.os.length) := by rw [hp']; exact hown
  have hX1 := (hb.block _ (by omega)).trans k0.1
  have hR1 := (hb.block _ (by omega)).trans k0.2.1
  have hO1 := (hb.block _ hz0).trans k0.2.2
  have HZ1 : Hid (W0.heap.size <= w1.heap.size) := hb.size
  have HB1 : Hid (Below w.heap.size w w1) := hB0.trans (hb.mono hB0.size)
  rw [<- hp']
  clear hown hb k0 hB0 hz0 hp'
  have cO1 := fun j => cell_of_block (o := j) hO1
  have fO1 := fun j => zl (o := j) hO1
  have HX1' : Hid ((w1.setCell ⟨w.heap.size + 1 + 1, 3, none⟩ (.slice (some ⟨g0, 0, none⟩) b.os.length b.os.length)).heap[w.heap.size]? = some (.cells (bC b a0 a1 a2 a3 c0 c1 c2 c3) 32)) := (zB (by omega)).trans hX1
  have HR1' : Hid ((w1.setCell ⟨w.heap.size + 1 + 1, 3, none⟩ (.slice (some ⟨g0, 0, none⟩) b.os.length b.os.length)).heap[w.heap.size + 1]? = some (.cells bZ 50)) := (zB (by omega)).trans hR1
  have HO1' : Hid ((w1.setCell ⟨w.heap.size + 1 + 1, 3, none⟩ (.slice (some ⟨g0, 0, none⟩) b.os.length b.os.length)).heap[w.heap.size + 1 + 1]? = some (.cells #[.int .i64 b.now, .int .i64 b.tick, .int .i64 b.given, .slice (some ⟨g0, 0, none⟩) b.os.length b.os.length, .slice none 0 0, .slice none 0 0, .slice none 0 0] 50)) := zf hO1 _
  have HAB1 : Hid (yx W0.heap.size w1 (w1.setCell ⟨w.heap.size + 1 + 1, 3, none⟩ (.slice (some ⟨g0, 0, none⟩) b.os.length b.os.length))) := yx.setCell HLO.out _
  have HBB1 : Hid (Below w.heap.size w (w1.setCell ⟨w.heap.size + 1 + 1, 3, none⟩ (.slice (some ⟨g0, 0, none⟩) b.os.length b.os.length))) := HB1.out.setCell (by show w.heap.size <= w.heap.size + 1 + 1; omega) _
  have HZZ1 : Hid (W0.heap.size <= (w1.setCell ⟨w.heap.size + 1 + 1, 3, none⟩ (.slice (some ⟨g0, 0, none⟩) b.os.length b.os.length)).heap.size) := by unfold Hid; rw [World.size_setCell]; exact HZ1.out
  clear hX1 hR1 hO1
  have cX1 := fun j => cell_of_block (o := j) HX1'.out
  have cR1 := fun j => cell_of_block (o := j) HR1'.out
  have fR1 := fun j => zl (o := j) HR1'.out
  have cOO1 := fun j => cell_of_block (o := j) HO1'.out
  go_wp2_with fail
  refine (zfl _ _ b.gs _ (HL.out.gs.mono HBB1.out) HF.out.gs.1 HF.out.gs.2).mono ?_
  rintro e w2 ⟨rfl, hown, hb⟩
  obtain ⟨g1, hp'⟩ : ∃ g1, g1 = (w1.setCell ⟨w.heap.size + 1 + 1, 3, none⟩ (.slice (some ⟨g0, 0, none⟩) b.os.length b.os.length)).heap.size := ⟨_, rfl⟩
  have HN2 : Hid (jO W0.heap.size w2 g1 b.gs b.gs.length) := by rw [hp']; exact hown.weaken HZZ1.out
  have HAA2 : Hid (yx W0.heap.size w1 w2) := HAB1.out.trans (yx.below hb)
  have hX2 := (hb.block _ (lt_of_some HX1'.out)).trans HX1'.out
  have hR2 := (hb.block _ (lt_of_some HR1'.out)).trans HR1'.out
  have hO2 := (hb.block _ (lt_of_some HO1'.out)).trans HO1'.out
  have HZ2 : Hid (W0.heap.size <= w2.heap.size) := Nat.le_trans HZZ1.out hb.size
  have HB2 : Hid (Below w.heap.size w w2) := HBB1.out.trans (hb.mono HBB1.out.size)
  rw [<- hp']
  clear hown hb hp' cX1 cR1 fR1 cOO1
  have cO2 := fun j => cell_of_block (o := j) hO2
  have fO2 := fun j => zl (o := j) hO2
  have HX2' : Hid ((w2.setCell ⟨w.heap.size + 1 + 1, 4, none⟩ (.slice (some ⟨g1, 0, none⟩) b.gs.length b.gs.length)).heap[w.heap.size]? = some (.cells (bC b a0 a1 a2 a3 c0 c1 c2 c3) 32)) := (zB (by omega)).trans hX2
  have HR2' : Hid ((w2.setCell ⟨w.heap.size + 1 + 1, 4, none⟩ (.slice (some ⟨g1, 0, none⟩) b.gs.length b.gs.length)).heap[w.heap.size + 1]? = some (.cells bZ 50)) := (zB (by omega)).trans hR2
  have HO2' : Hid ((w2.setCell ⟨w.heap.size + 1 + 1, 4, none⟩ (.slice (some ⟨g1, 0, none⟩) b.gs.length b.gs.length)).heap[w.heap.size + 1 + 1]? = some (.cells #[.int .i64 b.now, .int .i64 b.tick, .int .i64 b.given, .slice (some ⟨g0, 0, none⟩) b.os.length b.os.length, .slice (some ⟨g1, 0, none⟩) b.gs.length b.gs.length, .slice none 0 0, .slice none 0 0] 50)) := zf hO2 _
  have HAB2 : Hid (yx W0.heap.size w2 (w2.setCell ⟨w.heap.size + 1 + 1, 4, none⟩ (.slice (some ⟨g1, 0, none⟩) b.gs.length b.gs.length))) := yx.setCell HLO.out _
  have HBB2 : Hid (Below w.heap.size w (w2.setCell ⟨w.heap.size + 1 + 1, 4, none⟩ (.slice (some ⟨g1, 0, none⟩) b.gs.length b.gs.length))) := HB2.out.setCell (by show w.heap.size <= w.heap.size + 1 + 1; omega) _
  have HZZ2 : Hid (W0.heap.size <= (w2.setCell ⟨w.heap.size + 1 + 1, 4, none⟩ (.slice (some ⟨g1, 0, none⟩) b.gs.length b.gs.length)).heap.size) := by unfold Hid; rw [World.size_setCell]; exact HZ2.out
  clear hX2 hR2 hO2
  have cX2 := fun j => cell_of_block (o := j) HX2'.out
  have cR2 := fun j => cell_of_block (o := j) HR2'.out
  have fR2 := fun j => zl (o := j) HR2'.out
  have cOO2 := fun j => cell_of_block (o := j) HO2'.out
  go_wp2_with fail
  refine (ze7 _ _ b.ls _ (HL.out.ls.mono HBB2.out) HF.out.ls).mono ?_
  rintro e w3 ⟨rfl, hown, hb⟩
  obtain ⟨g2, hp'⟩ : ∃ g2, g2 = (w2.setCell ⟨w.heap.size + 1 + 1, 4, none⟩ (.slice (some ⟨g1, 0, none⟩) b.gs.length b.gs.length)).heap.size := ⟨_, rfl⟩
  have HN3 : Hid (jN W0.heap.size w3 g2 b.ls b.ls.length) := by rw [hp']; exact hown.weaken HZZ2.out
  have HAA3 : Hid (yx W0.heap.size w2 w3) := HAB2.out.trans (yx.below hb)
  have hX3 := (hb.block _ (lt_of_some HX2'.out)).trans HX2'.out
  have hR3 := (hb.block _ (lt_of_some HR2'.out)).trans HR2'.out
  have hO3 := (hb.block _ (lt_of_some HO2'.out)).trans HO2'.out
  have HZ3 : Hid (W0.heap.size <= w3.heap.size) := Nat.le_trans HZZ2.out hb.size
  have HB3 : Hid (Below w.heap.size w w3) := HBB2.out.trans (hb.mono HBB2.out.size)
  rw [<- hp']
  clear hown hb hp' cX2 cR2 fR2 cOO2
  have cO3 := fun j => cell_of_block (o := j) hO3
  have fO3 := fun j => zl (o := j) hO3
  have HX3' : Hid ((w3.setCell ⟨w.heap.size + 1 + 1, 5, none⟩ (.slice (some ⟨g2, 0, none⟩) b.ls.length b.ls.length)).heap[w.heap.size]? = some (.cells (bC b a0 a1 a2 a3 c0 c1 c2 c3) 32)) := (zB (by omega)).trans hX3
  have HR3' : Hid ((w3.setCell ⟨w.heap.size + 1 + 1, 5, none⟩ (.slice (some ⟨g2, 0, none⟩) b.ls.length b.ls.length)).heap[w.heap.size + 1]? = some (.cells bZ 50)) := (zB (by omega)).trans hR3
  have HO3' : Hid ((w3.setCell ⟨w.heap.size + 1 + 1, 5, none⟩ (.slice (some ⟨g2, 0, none⟩) b.ls.length b.ls.length)).heap[w.heap.size + 1 + 1]? = some (.cells #[.int .i64 b.now, .int .i64 b.tick, .int .i64 b.given, .slice (some ⟨g0, 0, none⟩) b.os.length b.os.length, .slice (some ⟨g1, 0, none⟩) b.gs.length b.gs.length, .slice (some ⟨g2, 0, none⟩) b.ls.length b.ls.length, .slice none 0 0] 50)) := zf hO3 _
  have HAB3 : Hid (yx W0.heap.size w3 (w3.setCell ⟨w.heap.size + 1 + 1, 5, none⟩ (.slice (some ⟨g2, 0, none⟩) b.ls.length b.ls.length))) := yx.setCell HLO.out _
  have HBB3 : Hid (Below w.heap.size w (w3.setCell ⟨w.heap.size + 1 + 1, 5, none⟩ (.slice (some ⟨g2, 0, none⟩) b.ls.length b.ls.length))) := HB3.out.setCell (by show w.heap.size <= w.heap.size + 1 + 1; omega) _
  have HZZ3 : Hid (W0.heap.size <= (w3.setCell ⟨w.heap.size + 1 + 1, 5, none⟩ (.slice (some ⟨g2, 0, none⟩) b.ls.length b.ls.length)).heap.size) := by unfold Hid; rw [World.size_setCell]; exact HZ3.out
  clear hX3 hR3 hO3
  have cX3 := fun j => cell_of_block (o := j) HX3'.out
  have cR3 := fun j => cell_of_block (o := j) HR3'.out
  have fR3 := fun j => zl (o := j) HR3'.out
  have cOO3 := fun j => cell_of_block (o := j) HO3'.out
  go_wp2_with fail
  refine (zfx _ _ b.ps _ (HL.out.ps.mono HBB3.out) HF.out.ps).mono ?_
  rintro e w4 ⟨rfl, hown, hb⟩
  obtain ⟨g3, hp'⟩ : ∃ g3, g3 = (w3.setCell ⟨w.heap.size + 1 + 1, 5, none⟩ (.slice (some ⟨g2, 0, none⟩) b.ls.length b.ls.length)).heap.size := ⟨_, rfl⟩
  have HN4 : Hid (jJ W0.heap.size w4 g3 b.ps b.ps.length) := by rw [hp']; exact hown.weaken HZZ3.out
  have HAA4 : Hid (yx W0.heap.size w3 w4) := HAB3.out.trans (yx.below hb)
  have hX4 := (hb.block _ (lt_of_some HX3'.out)).trans HX3'.out
  have hR4 := (hb.block _ (lt_of_some HR3'.out)).trans HR3'.out
  have hO4 := (hb.block _ (lt_of_some HO3'.out)).trans HO3'.out
  have HZ4 : Hid (W0.heap.size <= w4.heap.size) := Nat.le_trans HZZ3.out hb.size
  have HB4 : Hid (Below w.heap.size w w4) := HBB3.out.trans (hb.mono HBB3.out.size)
  rw [<- hp']
  clear hown hb hp' cX3 cR3 fR3 cOO3
  have cO4 := fun j => cell_of_block (o := j) hO4
  have fO4 := fun j => zl (o := j) hO4
  have HX4' : Hid ((w4.setCell ⟨w.heap.size + 1 + 1, 6, none⟩ (.slice (some ⟨g3, 0, none⟩) b.ps.length b.ps.length)).heap[w.heap.size]? = some (.cells (bC b a0 a1 a2 a3 c0 c1 c2 c3) 32)) := (zB (by omega)).trans hX4
  have HR4' : Hid ((w4.setCell ⟨w.heap.size + 1 + 1, 6, none⟩ (.slice (some ⟨g3, 0, none⟩) b.ps.length b.ps.length)).heap[w.heap.size + 1]? = some (.cells bZ 50)) := (zB (by omega)).trans hR4
  have HO4' : Hid ((w4.setCell ⟨w.heap.size + 1 + 1, 6, none⟩ (.slice (some ⟨g3, 0, none⟩) b.ps.length b.ps.length)).heap[w.heap.size + 1 + 1]? = some (.cells (bC b (some ⟨g0, 0, none⟩) (some ⟨g1, 0, none⟩) (some ⟨g2, 0, none⟩) (some ⟨g3, 0, none⟩) (b.os.length) (b.gs.length) (b.ls.length) (b.ps.length)) 50)) := zf hO4 _
  have HAB4 : Hid (yx W0.heap.size w4 (w4.setCell ⟨w.heap.size + 1 + 1, 6, none⟩ (.slice (some ⟨g3, 0, none⟩) b.ps.length b.ps.length))) := yx.setCell HLO.out _
  have HBB4 : Hid (Below w.heap.size w (w4.setCell ⟨w.heap.size + 1 + 1, 6, none⟩ (.slice (some ⟨g3, 0, none⟩) b.ps.length b.ps.length))) := HB4.out.setCell (by show w.heap.size <= w.heap.size + 1 + 1; omega) _
  have HZZ4 : Hid (W0.heap.size <= (w4.setCell ⟨w.heap.size + 1 + 1, 6, none⟩ (.slice (some ⟨g3, 0, none⟩) b.ps.length b.ps.length)).heap.size) := by unfold Hid; rw [World.size_setCell]; exact HZ4.out
  clear hX4 hR4 hO4
  have cX4 := fun j => cell_of_block (o := j) HX4'.out
  have cR4 := fun j => cell_of_block (o := j) HR4'.out
  have fR4 := fun j => zl (o := j) HR4'.out
  have cOO4 := fun j => cell_of_block (o := j) HO4'.out
  go_wp2_with fail
  refine bodyPost_ret (v := .agg #[.int .i64 b.now, .int .i64 b.tick, .int .i64 b.given, .slice (some ⟨g0, 0, none⟩) b.os.length b.os.length, .slice (some ⟨g1, 0, none⟩) b.gs.length b.gs.length, .slice (some ⟨g2, 0, none⟩) b.ls.length b.ls.length, .slice (some ⟨g3, 0, none⟩) b.ps.length b.ps.length]) (by simp [results, Tryz.results9, go_sem, cR4]) rfl ⟨W0.heap.size, g0, g1, g2, g3, rfl, by have := HLO.out; omega, ?_, ?_⟩
  · have hlt1 : w.heap.size + 1 < W0.heap.size := by have := HLO.out; omega
    have hA4 : ∀ v0 v1 v2 v3 v4 v5 v6, yx W0.heap.size w4 ((((((((w4.setCell ⟨w.heap.size + 1 + 1, 6, none⟩ (.slice (some ⟨g3, 0, none⟩) b.ps.length b.ps.length)).setCell ⟨w.heap.size + 1, 0, none⟩ v0).setCell ⟨w.heap.size + 1, 1, none⟩ v1).setCell ⟨w.heap.size + 1, 2, none⟩ v2).setCell ⟨w.heap.size + 1, 3, none⟩ v3).setCell ⟨w.heap.size + 1, 4, none⟩ v4).setCell ⟨w.heap.size + 1, 5, none⟩ v5).setCell ⟨w.heap.size + 1, 6, none⟩ v6) := fun v0 v1 v2 v3 v4 v5 v6 => (((((((HAB4.out.trans (yx.setCell (p := ⟨w.heap.size + 1, 0, none⟩) hlt1 v0)).trans (yx.setCell (p := ⟨w.heap.size + 1, 1, none⟩) hlt1 v1)).trans (yx.setCell (p := ⟨w.heap.size + 1, 2, none⟩) hlt1 v2)).trans (yx.setCell (p := ⟨w.heap.size + 1, 3, none⟩) hlt1 v3)).trans (yx.setCell (p := ⟨w.heap.size + 1, 4, none⟩) hlt1 v4)).trans (yx.setCell (p := ⟨w.heap.size + 1, 5, none⟩) hlt1 v5)).trans (yx.setCell (p := ⟨w.heap.size + 1, 6, none⟩) hlt1 v6))
    exact ⟨HN1.out.above (((HAA2.out.trans HAA3.out).trans HAA4.out).trans (hA4 _ _ _ _ _ _ _)), HN2.out.above ((HAA3.out.trans HAA4.out).trans (hA4 _ _ _ _ _ _ _)), HN3.out.above (HAA4.out.trans (hA4 _ _ _ _ _ _ _)), HN4.out.above (hA4 _ _ _ _ _ _ _)⟩
  · exact ((((((HBB4.out.setCell (Nat.le_succ _) _).setCell (Nat.le_succ _) _).setCell (Nat.le_succ _) _).setCell (Nat.le_succ _) _).setCell (Nat.le_succ _) _).setCell (Nat.le_succ _) _).setCell (Nat.le_succ _) _
theorem zdv (b : Bk) (a0 a1 a2 a3 : Option Addr) (c0 c1 c2 c3 : Nat) (w : World) (hl : qL w b a0 a1 a2 a3) (hf : b.Few) :
    Calls Tryz.prog 9 #[.agg (b.cells a0 a1 a2 a3 c0 c1 c2 c3)] w fun e w' => ∃ a0' a1' a2' a3', e = .returned (.agg (b.cells a0' a1' a2' a3' b.os.length b.gs.length b.ls.length b.ps.length)) /\ qL w' b a0' a1' a2' a3' /\ Below w.heap.size w w' := by
  refine (zdJ b a0 a1 a2 a3 c0 c1 c2 c3 w hl hf).mono ?_
  rintro e w' ⟨lo, g0, g1, g2, g3, he, _, ho, hb⟩
  exact ⟨_, _, _, _, he, ho.at hl.small, hb⟩
end Go.Proofs.YtfapkhgallmkdaaGreat

namespace Go.Proofs.YtfapkhgallmkdaaGreat
open Go.RowKit
structure za9 (w : World) (a : Option Addr) (ms : List Ob) : Prop where
  len : ms.length <= maxLen
  rows : ms ≠ [] -> ∃ b off, a = some ⟨b, off, none⟩ /\ b < w.heap.size /\ ∀ i (h : i < ms.length), ∃ g0 g1 c0 c1, znw w b (off + i * 7) ms[i] (some ⟨g0, 0, none⟩) (some ⟨g1, 0, none⟩) c0 c1
theorem za9.at {w : World} {a : Option Addr} {ms : List Ob} (h : za9 w a ms) : za8 w a ms :=
  ⟨h.len, fun hne => by
    obtain ⟨b, off, ha, hb, hr⟩ := h.rows hne
    refine ⟨b, off, ha, hb, fun i hi => ?_⟩
    obtain ⟨g0, g1, c0, c1, hf⟩ := hr i hi
    exact ⟨_, _, c0, c1, hf⟩⟩
theorem za9.mono {w w' : World} {a : Option Addr} {ms : List Ob} (h : za9 w a ms) (hl : Below w.heap.size w w') : za9 w' a ms :=
  ⟨h.len, fun hne => by
    obtain ⟨b, off, ha, hb, hr⟩ := h.rows hne
    refine ⟨b, off, ha, Nat.lt_of_lt_of_le hb hl.size, fun i hi => ?_⟩
    obtain ⟨g0, g1, c0, c1, hf⟩ := hr i hi
    exact ⟨g0, g1, c0, c1, hf.mono hb hl⟩⟩
theorem za9.load {w w' : World} {a : Option Addr} {ms : List Ob} (h : za9 w a ms) (hl : Below w.heap.size w w') (i : Nat) (hi : i < ms.length) : ∃ b off g0 g1 c0 c1, a = some ⟨b, off, none⟩ /\ b < w.heap.size /\ ms[i].Small /\ zC w' (some ⟨g0, 0, none⟩) ms[i].vs /\ zC w' (some ⟨g1, 0, none⟩) ms[i].hs /\
    w'.cell? ⟨b, off + i * 7, none⟩ = some (.string ms[i].kd) /\ w'.cell? ⟨b, off + i * 7 + 1, none⟩ = some (.string ms[i].nm) /\ w'.cell? ⟨b, off + i * 7 + 2, none⟩ = some (.string ms[i].tm) /\ w'.cell? ⟨b, off + i * 7 + 3, none⟩ = some (.slice (some ⟨g0, 0, none⟩) ms[i].vs.length c0) /\ w'.cell? ⟨b, off + i * 7 + 4, none⟩ = some (.bool ms[i].en) /\ w'.cell? ⟨b, off + i * 7 + 5, none⟩ = some (.slice (some ⟨g1, 0, none⟩) ms[i].hs.length c1) /\ w'.cell? ⟨b, off + i * 7 + 6, none⟩ = some (.int .i64 ms[i].vr) := by
  obtain ⟨b, off, ha, hb, hr⟩ := h.rows (by rintro rfl; simp at hi)
  obtain ⟨g0, g1, c0, c1, hf0⟩ := hr i hi
  have hf := hf0.mono hb hl
  exact ⟨b, off, g0, g1, c0, c1, ha, hb, hf.small, hf.l0, hf.l1, hf.cell 0 (by omega), hf.cell 1 (by omega), hf.cell 2 (by omega), hf.cell 3 (by omega), hf.cell 4 (by omega), hf.cell 5 (by omega), hf.cell 6 (by omega)⟩
theorem jq.has {lo : Nat} {w : World} {bo : Nat} {ms : List Ob} (h : jq lo w bo ms ms.length) (hs : zeN ms) (hl : ms.length <= maxLen) : za9 w (some ⟨bo, 0, none⟩) ms := by
  obtain ⟨C, hC, hsz, hr⟩ := h.rows
  refine ⟨hl, fun _ => ⟨bo, 0, rfl, (Array.getElem?_eq_some_iff.1 hC).1, fun i hi => ?_⟩⟩
  obtain ⟨g0, g1, _, _, hk0, _, _, hk1, hc⟩ := hr i hi hi
  obtain ⟨s0, s1, s2⟩ := hs.small i hi
  refine ⟨g0, g1, ms[i].vs.length, ms[i].hs.length, s0, zcw hk0 s1.1 s1.2, zcw hk1 s2.1 s2.2, fun j hj => ?_⟩
  rw [cell_of_block hC, Nat.zero_add]
  exact hc j hj
theorem zie (b : Bk) (a0 a1 a2 a3 : Option Addr) (c0 c1 c2 c3 : Nat) (w : World) (hl : qL w b a0 a1 a2 a3) (hf : b.Few) :
    Calls Tryz.prog 9 #[.agg (b.cells a0 a1 a2 a3 c0 c1 c2 c3)] w fun e w' => ∃ a0' a1' a2' a3', e = .returned (.agg (b.cells a0' a1' a2' a3' b.os.length b.gs.length b.ls.length b.ps.length)) /\ qL w' b a0' a1' a2' a3' /\ za9 w' a0' b.os /\ Below w.heap.size w w' := by
  refine (zdJ b a0 a1 a2 a3 c0 c1 c2 c3 w hl hf).mono ?_
  rintro e w' ⟨lo, g0, g1, g2, g3, he, _, ho, hb⟩
  exact ⟨_, _, _, _, he, ho.at hl.small, ho.os.has hl.os.smalls hl.os.len, hb⟩
end Go.Proofs.YtfapkhgallmkdaaGreat

namespace Go.Proofs.YtfapkhgallmkdaaGreat
open Go.RowKit
theorem zoX {w w' : World} {g : Nat} {ws : List ByteArray} (h : zC w (some ⟨g, 0, none⟩) ws) (hl : Below w.heap.size w w') (i : Nat) (hi : i < ws.length) : g < w.heap.size /\ w'.cell? ⟨g, i, none⟩ = some (.string ws[i]) := by
  obtain ⟨b, off, e, hb, hr⟩ := h.cells (by rintro rfl; simp at hi)
  simp only [Option.some.injEq, Addr.mk.injEq] at e
  obtain ⟨rfl, rfl, _⟩ := e
  refine ⟨hb, ?_⟩
  have := hr i hi
  rw [Nat.zero_add] at this
  exact (hl.cell (p := ⟨g, i, none⟩) hb).trans this
theorem zoH {w w' : World} {a : Option Addr} {fs : List Fld} (h : yc w a fs) (hl : Below w.heap.size w w') (i : Nat) (hi : i < fs.length) : ∃ b off fw fc, a = some ⟨b, off, none⟩ /\ b < w.heap.size /\ zd5 w' b (off + i * 11) fs[i] fw fc := by
  obtain ⟨b, off, ha, hb, hr⟩ := (h.mono hl).rows (by rintro rfl; simp at hi)
  obtain ⟨b', off', ha', hb', _⟩ := h.rows (by rintro rfl; simp at hi)
  have e := ha.symm.trans ha'
  simp only [Option.some.injEq, Addr.mk.injEq] at e
  obtain ⟨rfl, rfl, _⟩ := e
  obtain ⟨fw, fc, hf⟩ := hr i hi
  exact ⟨b, off, fw, fc, ha, hb', hf⟩
end Go.Proofs.YtfapkhgallmkdaaGreat

namespace Go.Proofs.YtfapkhgallmkdaaGreat
open Go.RowKit
namespace Gate
def zhc (ss : List Shp) (o : Ob) : List ByteArray := if zF ss o.kd = true /\ zQ ss = true /\ o.vs.length = (shapeOf ss o.kd).fs.length then jG (shapeOf ss o.kd).fs o.vs else o.vs
end Gate
def ze4 (o : Ob) (vs : List ByteArray) (w : World) (e : Ending) (w' : World) : Prop :=
  ∃ a dap a' dap' m, e = .returned (.agg (oC o a a' dap dap')) /\ zo w.heap.size w' a vs /\ (∀ g, a = some g -> g.block < m) /\ w.heap.size <= m /\ zo m w' a' o.hs /\ Below w.heap.size w w'
end Go.Proofs.YtfapkhgallmkdaaGreat

namespace Go.Proofs.YtfapkhgallmkdaaGreat
open Go.RowKit
theorem zo4 {fs : List Fld} (h : zbb fs) : ∀ f ∈ fs, f.df.size <= maxLen := by
  intro f hf
  obtain ⟨i, hi, rfl⟩ := List.mem_iff_getElem.1 hf
  exact (h.small i hi).1.df
theorem zmz {ss : List Shp} {o : Ob} (hs : zcF ss) (ho : ∀ s ∈ o.vs, s.size <= maxLen) : ∀ s ∈ Gate.zhc ss o, s.size <= maxLen := by
  unfold Gate.zhc
  split
  · rename_i h
    have hf : zbb (Gate.shapeOf ss o.kd).fs := by
      obtain ⟨hk, _, _⟩ := h
      unfold Gate.zF at hk
      rw [List.any_eq_true] at hk
      obtain ⟨x, hx, he⟩ := hk
      unfold Gate.shapeOf
      cases hfi : ss.find? (fun s => decide (s.kd = o.kd)) with
      | none => rw [List.find?_eq_none] at hfi; exact absurd he (hfi x hx)
      | some y =>
        obtain ⟨i, hi, rfl⟩ := List.mem_iff_getElem.1 (List.mem_of_find?_eq_some hfi)
        exact (hs.small i hi).2.2
    intro s hm
    obtain ⟨i, hi, rfl⟩ := List.mem_iff_getElem.1 hm
    have hl := Gate.y5 h.2.2
    have e : (Gate.jG (Gate.shapeOf ss o.kd).fs o.vs)[i] = Gate.jQ ((Gate.shapeOf ss o.kd).fs[i]'(by have := h.2.2; omega)) (o.vs[i]'(by omega)) := by simp [Gate.jG]
    rw [e]
    unfold Gate.jQ
    split
    · exact zo4 hf _ (List.getElem_mem _)
    · exact ho _ (List.getElem_mem _)
  · exact ho
end Go.Proofs.YtfapkhgallmkdaaGreat
