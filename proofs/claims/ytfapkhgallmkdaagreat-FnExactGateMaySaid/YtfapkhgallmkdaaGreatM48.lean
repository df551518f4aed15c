import Derived.Test.YtfapkhgallmkdaaGreatM06
import Derived.Test.YtfapkhgallmkdaaGreatM47
import Derived.Test.YtfapkhgallmkdaaGreatM39
import Derived.Test.YtfapkhgallmkdaaGreatM46
import Derived.Test.YtfapkhgallmkdaaGreatM34
import Derived.Test.YtfapkhgallmkdaaGreatM14
import Derived.Test.YtfapkhgallmkdaaGreatM04
import Derived.Test.YtfapkhgallmkdaaGreatM42
import Derived.Deep.RegionHeld3
import Derived.Test.YtfapkhgallmkdaaGreatM29
import Derived.WideKeyEntry
namespace Go.Proofs.YtfapkhgallmkdaaGreat
open Go.RowKit
def Gate.qx (ss : List Shp) (ms : List Mnd) (o : Ob) : Bool := Gate.zF ss o.kd && (decide (o.vs.length = (Gate.shapeOf ss o.kd).fs.length) && Gate.yg ss ms)
namespace Gate
theorem zdr {ss : List Shp} {v : ByteArray} (h : zF ss v = true) : ∃ i, ∃ hi : i < ss.length, shapeOf ss v = ss[i] := by
  unfold zF at h
  rw [List.any_eq_true] at h
  obtain ⟨x, hx, he⟩ := h
  unfold shapeOf
  cases hf : ss.find? (fun s => decide (s.kd = v)) with
  | none => rw [List.find?_eq_none] at hf; exact absurd he (hf x hx)
  | some y =>
    obtain ⟨i, hi, rfl⟩ := List.mem_iff_getElem.1 (List.mem_of_find?_eq_some hf)
    exact ⟨i, hi, rfl⟩
theorem zbS {ss : List Shp} {ms : List Mnd} {o : Ob} (h : qx ss ms o = true) : o.vs.length = (shapeOf ss o.kd).fs.length /\ (shapeOf ss o.kd).fs.length <= 6 /\ (∀ q, q < (shapeOf ss o.kd).fs.length -> ∀ x ∈ yh (shapeOf ss o.kd) ms q, 0 <= x /\ x < (shapeOf ss o.kd).fs.length) /\ (zD (zi (shapeOf ss o.kd) ms) (shapeOf ss o.kd).fs.length).1 = true := by
  unfold qx at h
  simp only [Bool.and_eq_true, decide_eq_true_eq] at h
  obtain ⟨hk, hl, hm⟩ := h
  obtain ⟨i, hi, e⟩ := zdr hk
  unfold yg at hm
  simp only [Bool.and_eq_true, decide_eq_true_eq] at hm
  obtain ⟨⟨⟨h12, hs⟩, ha⟩, hr⟩ := hm
  rw [e] at hl ⊢
  refine ⟨hl, zek hs i hi, zhQ hs ha i hi, ?_⟩
  have := List.all_eq_true.1 hr ss[i] (List.getElem_mem hi)
  exact this
def zfQ (ss : List Shp) (ms : List Mnd) (o : Ob) : List ByteArray := zM (decided (shapeOf ss o.kd) ms) (zD (zi (shapeOf ss o.kd) ms) (shapeOf ss o.kd).fs.length).2.row o.vs
def zbF (ss : List Shp) (ms : List Mnd) (o : Ob) : List ByteArray := if qx ss ms o = true then zfQ ss ms o else o.vs
end Gate
namespace Gate
def ze6 (ss : List Shp) (o : Ob) : Ob := ⟨o.kd, o.nm, o.tm, jG (shapeOf ss o.kd).fs o.vs, o.en, o.hs, o.vr⟩
def zba (ss : List Shp) (ms : List Mnd) (o : Ob) : List ByteArray := if qx ss ms o = true then zfQ ss ms (ze6 ss o) else o.vs
theorem zl7 {ss : List Shp} {ms : List Mnd} {o : Ob} (h : qx ss ms o = true) : (ze6 ss o).vs.length = o.vs.length := y5 (zbS h).1
end Gate
theorem ze8 {fs : List Fld} {vs : List ByteArray} (hf : zbb fs) (hv : ∀ s ∈ vs, s.size <= maxLen) (hl : vs.length = fs.length) : ∀ s ∈ Gate.jG fs vs, s.size <= maxLen := by
  intro s hm
  obtain ⟨i, hi, rfl⟩ := List.mem_iff_getElem.1 hm
  have h2 := Gate.y5 hl
  have e : (Gate.jG fs vs)[i] = Gate.jQ (fs[i]'(by omega)) (vs[i]'(by omega)) := by simp [Gate.jG]
  rw [e]
  unfold Gate.jQ
  split
  · exact (hf.small i (by omega)).1.df
  · exact hv _ (List.getElem_mem _)
theorem znC (o : Ob) (us : List ByteArray) (hnn : us.length = o.vs.length) (s : Shp) (ms : List Mnd) (fa ma ova oha : Option Addr) (fcap mcap cap cap' : Nat) (w : World) (hf : yc w fa s.fs) (hm : qp w ma ms) (hsm : o.Small) (ho : zC w ova us) (ho' : zC w oha o.hs) (hA : zk3 ova us) (hA' : zk3 oha o.hs) (hl : o.vs.length <= 1048576) (hl' : o.hs.length <= 1048576) (hc : o.vs.length = s.fs.length)
    (hml : ms.length <= 1048576) (hn : s.fs.length <= 6) (hrd : ∀ q, q < s.fs.length -> ∀ x ∈ Gate.yh s ms q, 0 <= x /\ x < s.fs.length) (hwk : (Gate.zD (Gate.zi s ms) s.fs.length).1 = true) :
    Calls Tryz.prog 209 #[.agg #[.string s.kd, .slice fa s.fs.length fcap], .slice ma ms.length mcap, .agg #[.string o.kd, .string o.nm, .string o.tm, .slice ova o.vs.length cap, .bool o.en, .slice oha o.hs.length cap', .int .i64 o.vr]] w
      fun e w' => ∃ a dap a' dap' m, e = .returned (.agg #[.string o.kd, .string o.nm, .string o.tm, .slice a o.vs.length dap, .bool o.en, .slice a' o.hs.length dap', .int .i64 o.vr]) /\ zo w.heap.size w' a (Gate.zM (Gate.decided s ms) (Gate.zD (Gate.zi s ms) s.fs.length).2.row us) /\ (∀ g, a = some g -> g.block < m) /\ w.heap.size <= m /\ zo m w' a' o.hs /\ Below w.heap.size w w' := by
  have h := zmu ⟨o.kd, o.nm, o.tm, us, o.en, o.hs, o.vr⟩ s ms fa ma ova oha fcap mcap cap cap' w hf hm ⟨⟨hsm.kd, hsm.nm, hsm.tm⟩, ho, ho'⟩ hA hA' (by show us.length <= _; omega) hl' (by show us.length = _; omega) hml hn hrd hwk
  simp only [oC, hnn] at h
  exact h
end Go.Proofs.YtfapkhgallmkdaaGreat

namespace Go.Proofs.YtfapkhgallmkdaaGreat
open Go.RowKit
set_option maxHeartbeats 2000000 in
theorem zgN (a c : Option Addr) (ca cc : Nat) (xs ys : List ByteArray) (w : World) (hx : zC w a xs) (hy : zC w c ys) (hl : xs.length <= 1048576) (hl' : ys.length <= 1048576) :
    Calls Tryz.prog 189 #[.slice a xs.length ca, .slice c ys.length cc] w fun e w' => e = .returned (.bool (decide (xs = ys))) /\ Below w.heap.size w w' := by
  obtain ⟨r, hr⟩ : ∃ r, r = decide (xs = ys) := ⟨_, rfl⟩
  rw [<- hr]
  have HR : Hid (r = decide (xs = ys)) := hr
  have HX : Hid (zC w a xs /\ zC w c ys) := ⟨hx, hy⟩
  clear hr hx hy
  by_cases hn : xs.length = ys.length
  rotate_left
  · have HF : Hid (r = false) := by unfold Hid; rw [HR.out, decide_eq_false_iff_not]; intro e; exact hn (by rw [e])
    have e1 : ((xs.length : Int) != (ys.length : Int)) = true := by simp; omega
    clear hn
    go_enter Tryz.func189, Tryz.ntmps189
    go_wp2_with fail
    go_ret
    exact ⟨ze HF.out.symm, Below.refl _ _⟩
  have e1 : ((xs.length : Int) != (ys.length : Int)) = false := by simp; omega
  have HN : Hid (xs.length = ys.length) := hn
  clear hn
  go_enter Tryz.func189, Tryz.ntmps189
  go_wp2_with fail
  go_loopw [13] (fun iv wr => ∃ k : Nat, k <= xs.length /\ iv = .int .i64 k /\ Hid ((∀ i (h : i < xs.length) (h' : i < ys.length), i < k -> xs[i] = ys[i]) /\ Below w.heap.size w wr)) (fun iv _ => xs.length - (intOf iv).toNat)
  case atStart => exact ⟨0, Nat.zero_le _, rfl, fun i h h' hk => by omega, Below.refl _ _⟩
  case round =>
    obtain ⟨k, hk, rfl, HQ⟩ := hrel
    have hkn : k <= 1048576 := by omega
    by_cases hlt : k < xs.length
    · have hlt' : k < ys.length := by have := HN.out; omega
      obtain ⟨p, po, rfl, hp, hpc⟩ := HX.out.1.cells (by intro e; rw [e] at hlt; simp at hlt)
      obtain ⟨q, qo, rfl, hq, hqc⟩ := HX.out.2.cells (by intro e; rw [e] at hlt'; simp at hlt')
      have c1 := (HQ.out.2.cell (p := ⟨p, po + k, none⟩) hp).trans (hpc k hlt)
      have c2 := (HQ.out.2.cell (p := ⟨q, qo + k, none⟩) hq).trans (hqc k hlt')
      have hltI : (k : Int) < (xs.length : Int) := by omega
      have hltI' : (k : Int) < (ys.length : Int) := by omega
      have hp' : p < wr.heap.size := Nat.lt_of_lt_of_le hp HQ.out.2.size
      have hq' : q < wr.heap.size := Nat.lt_of_lt_of_le hq HQ.out.2.size
      have HB : Hid (Below w.heap.size w wr) := HQ.out.2
      clear hpc hqc
      by_cases he : xs[k] = ys[k]
      · have e2 : (xs[k].toList == ys[k].toList) = true := by rw [Gate.beq_toList]; simpa using he
        have HA : Hid (∀ i (h : i < xs.length) (h' : i < ys.length), i < k + 1 -> xs[i] = ys[i]) := by
          intro i h h' hi
          rcases Nat.eq_or_lt_of_le (Nat.le_of_lt_succ hi) with e | h2
          · subst e; exact he
          · exact HQ.out.1 i h h' h2
        clear he HQ
        go_wp2_with fail
        go_quiet (fail)
        go_wp2_with fail
        exact ⟨⟨k + 1, by omega, by go_num, HA.out, below_drewN HB.out _⟩, zm hlt⟩
      · have e2 : (xs[k].toList == ys[k].toList) = false := by rw [Gate.beq_toList]; simpa using he
        have HF : Hid (r = false) := by
          unfold Hid
          rw [HR.out, decide_eq_false_iff_not]
          intro e
          subst e
          exact he rfl
        clear he HQ
        go_wp2_with fail
        go_quiet (fail)
        go_wp2_with fail
        go_ret
        exact ⟨ze HF.out.symm, below_drewN HB.out _⟩
    · have HF : Hid (r = true) := by
        unfold Hid
        rw [HR.out, decide_eq_true_eq]
        exact List.ext_getElem HN.out fun i h h' => HQ.out.1 i h h' (by omega)
      have HB : Hid (Below w.heap.size w wr) := HQ.out.2
      clear HQ
      go_wp2_with fail
      go_ret
      exact ⟨ze HF.out.symm, HB.out⟩
end Go.Proofs.YtfapkhgallmkdaaGreat

namespace Go.Proofs.YtfapkhgallmkdaaGreat
open Go.RowKit
namespace Gate
def zbo (l : Lw) (o : Ob) : List ByteArray := zfQ l.ss l.ms (ze6 l.ss o)
end Gate
theorem zcP {l : Lw} {o : Ob} (h : Gate.qx l.ss l.ms o = true) : (Gate.zbo l o).length = o.vs.length := by
  unfold Gate.zbo
  rw [<- Gate.zl7 h]
  exact Gate.q8 _ _ _
set_option maxRecDepth 20000 in
set_option maxHeartbeats 4000000 in
theorem ziS (l : Lw) (a b c : Option Addr) (ca cb cc : Nat) (o : Ob) (va ha : Option Addr) (cap cap' : Nat) (w : World) (hL : qH w l a b c) (hml : l.ms.length <= 1048576) (ho : jg w o va ha) (hl : o.vs.length <= 1048576) (hl' : o.hs.length <= 1048576) (hmd : Gate.qx l.ss l.ms o = true) :
    Calls Tryz.prog 190 #[.agg (lC l a b c ca cb cc), .agg (oC o va ha cap cap')] w
      fun e w' => ∃ e0 dap e1 dap', e = .returned (.agg (oC o e0 e1 dap dap')) /\ zo w.heap.size w' e0 (Gate.zbo l o) /\ Below w.heap.size w w' := by
  have HH := zff hL ho ho.vals.len
  have HFA := hid (Gate.zbS hmd)
  clear hL ho hmd
  go_enter Tryz.func190, Tryz.ntmps190
  go_wp2_with fail
  have hb2 := ji w (.cells (lC l a b c ca cb cc) 43) (.cells (oC o va ha cap cap') 121) (.cells oZ 121)
  refine (qC _ _ l.ss o.kd _ (HH.out.1.ss.mono hb2)).mono ?_
  rintro e w1 ⟨fa, fcap, rfl, hfl0, hb1⟩
  have HFL := hid (hfl0.mono hb1)
  have hX0 : ∀ j, w1.cell? ⟨w.heap.size, j, none⟩ = (lC l a b c ca cb cc)[j]? := fun j => cell_of_block ((hb1.block w.heap.size (by simp; omega)).trans (zbn _ _ _ _))
  have hX1 : ∀ j, w1.cell? ⟨w.heap.size + 1, j, none⟩ = (oC o va ha cap cap')[j]? := fun j => cell_of_block ((hb1.block (w.heap.size + 1) (by simp)).trans (zfk _ _ _ _))
  have HR1 : Hid (w1.heap[w.heap.size + 1 + 1]? = some (.cells oZ 121)) := (hb1.block (w.heap.size + 1 + 1) (by simp)).trans (zce _ _ _ _)
  have hz2 : w.heap.size + 1 + 1 < w1.heap.size := by have := hb1.size; simp at this; omega
  have hz1 : w.heap.size + 1 < w1.heap.size := by omega
  have hz0 : w.heap.size < w1.heap.size := by omega
  have hB1 : Below w.heap.size w w1 := hb2.trans (hb1.mono (by simp; omega))
  clear hb1 hfl0 hb2
  go_wp2_with fail
  have hbs := (Below.refl w1.heap.size w1).alloc (Nat.le_refl _) (.cells #[.string (Gate.shapeOf l.ss o.kd).kd, .slice fa (Gate.shapeOf l.ss o.kd).fs.length fcap] 115)
  have hRW := (hbs.block _ hz2).trans HR1.out
  have hzW := Nat.lt_of_lt_of_le hz2 hbs.size
  have hBW := hB1.trans (hbs.mono hB1.size)
  have hFW := HFL.out.mono hbs
  clear hbs
  obtain ⟨W2, hW2⟩ : ∃ W2, W2 = (w1.alloc (.cells #[.string (Gate.shapeOf l.ss o.kd).kd, .slice fa (Gate.shapeOf l.ss o.kd).fs.length fcap] 115)) := ⟨_, rfl⟩
  have hS2 : ∀ j, W2.drew.cell? ⟨w1.heap.size, j, none⟩ = (#[.string (Gate.shapeOf l.ss o.kd).kd, .slice fa (Gate.shapeOf l.ss o.kd).fs.length fcap] : Array Value)[j]? := by rw [hW2]; exact zG w1 _ _
  have hS1 : ∀ j, W2.drew.cell? ⟨w.heap.size + 1, j, none⟩ = (oC o va ha cap cap')[j]? := by rw [hW2]; exact za hX1 hz1 ((Below.refl _ _).alloc (Nat.le_refl _) _).drew
  have hS0 : ∀ j, W2.drew.cell? ⟨w.heap.size, j, none⟩ = (lC l a b c ca cb cc)[j]? := by rw [hW2]; exact za hX0 hz0 ((Below.refl _ _).alloc (Nat.le_refl _) _).drew
  have hzs : w1.heap.size < W2.drew.heap.size := by rw [hW2]; show w1.heap.size < (w1.alloc (.cells #[.string (Gate.shapeOf l.ss o.kd).kd, .slice fa (Gate.shapeOf l.ss o.kd).fs.length fcap] 115)).heap.size; simp
  rw [<- hW2] at hRW hzW hBW hFW ⊢
  clear hW2 hX1 hX0
  have hb := (Below.refl W2.heap.size W2).drew
  have hlW : W2.heap.size = W2.drew.heap.size := rfl
  have hzo : w.heap.size + 1 < W2.drew.heap.size := by omega
  have hzl : w.heap.size < W2.drew.heap.size := by omega
  go_region_held3 (fun w' => (∀ j, w'.cell? ⟨w.heap.size, j, none⟩ = (lC l a b c ca cb cc)[j]?) /\ (∀ j, w'.cell? ⟨w.heap.size + 1, j, none⟩ = (oC o va ha cap cap')[j]?) /\ ∀ j, w'.cell? ⟨w1.heap.size, j, none⟩ = (#[.string (Gate.shapeOf l.ss o.kd).kd, .slice fa (Gate.shapeOf l.ss o.kd).fs.length fcap] : Array Value)[j]?) (first | exact ⟨fun j => by rw [hS0], fun j => by rw [hS1], fun j => by rw [hS2]⟩ | exact ⟨fun j => by rw [hS5], fun j => by rw [hS3], fun j => by rw [hS4]⟩) (first
    | (go_at_call 210; refine (zmS o (Gate.shapeOf l.ss o.kd).kd (Gate.shapeOf l.ss o.kd).fs _ va ha _ cap cap' _ (by exact hFW.mono hb) (by exact HH.out.2.1.mono (hBW.trans (hb.mono hBW.size))) hl hl' HFA.out.1).mono ?_; rintro e w5 ⟨a5, dap5, a5', dap5', m5, rfl, ht5, hm5, hsm5, ht5', hb5⟩; have hS0 := za hS0 hzl hb5; have hS1 := za hS1 hzo hb5; have hS2 := za hS2 hzs hb5; have hb := hb.trans (hb5.mono hb.size); have hO5 : zC w5 a5 (Gate.jG (Gate.shapeOf l.ss o.kd).fs o.vs) := ht5.at (by rw [Gate.y5 HFA.out.1]; exact HH.out.2.2) (ze8 hFW.smalls HH.out.2.1.vals.small HFA.out.1); have hO5' : zC w5 a5' o.hs := ht5'.at HH.out.2.1.holds.len HH.out.2.1.holds.small; have hA5 := ht5.zo7; have hA5' := ht5'.zo7; clear ht5 hm5 hsm5 ht5' hb5)
    | (go_at_call 209; refine (znC o (Gate.jG (Gate.shapeOf l.ss o.kd).fs o.vs) (Gate.y5 HFA.out.1) (Gate.shapeOf l.ss o.kd) l.ms _ _ _ _ _ _ _ _ _ (by exact hFW.mono hb) (by exact HH.out.1.ms.mono (hBW.trans (hb.mono hBW.size))) HH.out.2.1.small (by exact hO5) (by exact hO5') hA5 hA5' hl hl' HFA.out.1 hml HFA.out.2.1 HFA.out.2.2.1 HFA.out.2.2.2).mono ?_; rintro e w6 ⟨e0, dap, e1, dap', m, rfl, ht, hm, hsm, ht', hb6⟩; have hR6 : w6.heap[w.heap.size + 1 + 1]? = some (.cells oZ 121) := ((hb.trans (hb6.mono hb.size)).block (w.heap.size + 1 + 1) hzW).trans hRW; have hS0 := fun j => (hb6.cell (p := ⟨w.heap.size, j, none⟩) (Nat.lt_of_lt_of_le hzl hb.size)).trans (hS0 j); have hS1 := fun j => (hb6.cell (p := ⟨w.heap.size + 1, j, none⟩) (Nat.lt_of_lt_of_le hzo hb.size)).trans (hS1 j); have hS2 := fun j => (hb6.cell (p := ⟨w1.heap.size, j, none⟩) (Nat.lt_of_lt_of_le hzs hb.size)).trans (hS2 j); have hS5 := fun j => (zfZ (g := w.heap.size + 1 + 1) (by omega : w.heap.size ≠ w.heap.size + 1 + 1) (v0 := .string o.kd) (v1 := .string o.nm) (v2 := .string o.tm) (v3 := .slice e0 o.vs.length dap) (v4 := .bool o.en) (v5 := .slice e1 o.hs.length dap') (v6 := .int .i64 o.vr)).trans (hS0 j); have hS3 := fun j => (zfZ (g := w.heap.size + 1 + 1) (by omega : w.heap.size + 1 ≠ w.heap.size + 1 + 1) (v0 := .string o.kd) (v1 := .string o.nm) (v2 := .string o.tm) (v3 := .slice e0 o.vs.length dap) (v4 := .bool o.en) (v5 := .slice e1 o.hs.length dap') (v6 := .int .i64 o.vr)).trans (hS1 j); have hS4 := fun j => (zfZ (g := w.heap.size + 1 + 1) (by omega : w1.heap.size ≠ w.heap.size + 1 + 1) (v0 := .string o.kd) (v1 := .string o.nm) (v2 := .string o.tm) (v3 := .slice e0 o.vs.length dap) (v4 := .bool o.en) (v5 := .slice e1 o.hs.length dap') (v6 := .int .i64 o.vr)).trans (hS2 j); have hRc := zfv hR6; have hRf := zmK hR6; have hsz5 := hb.size; have hb := hb.trans (hb6.mono hb.size); clear hb6))
  go_wp2_with fail
  refine bodyPost_ret (v := (.agg (oC o e0 e1 dap dap'))) (by simp [results, Tryz.results190, go_sem, hRc]) rfl ?_
  have hB := hBW.trans (hb.mono hBW.size)
  have h2 := hzW
  exact ⟨e0, dap, e1, dap', rfl, (qZ (ht.low (lo' := w.heap.size + 1 + 1 + 1) (by omega)) _ (by omega) _ _ _ _ _ _ _).low (by omega), zad hB _ (by omega) _ _ _ _ _ _ _⟩
end Go.Proofs.YtfapkhgallmkdaaGreat

namespace Go.Proofs.YtfapkhgallmkdaaGreat
open Go.RowKit
namespace Gate
def za1 (l : Lw) (o : Ob) : Bool := decide ((yA l.ss o).1 = 0) && decide (zbo l o = o.vs)
theorem za3 {l : Lw} {o : Ob} (hok : yg l.ss l.ms = true) (h : (yA l.ss o).1 = 0) : qx l.ss l.ms o = true := by
  have hw : whole l.ss o = true := by
    cases hc : whole l.ss o with
    | true => rfl
    | false => unfold yA at h; rw [if_neg (by rw [hc]; simp)] at h; simp at h
  unfold whole zx at hw
  unfold qx
  simp only [Bool.and_eq_true] at hw ⊢
  exact ⟨hw.2.1, hw.2.2, hok⟩
end Gate
theorem zeA {l : Lw} {o : Ob} (hm : Gate.qx l.ss l.ms o = true) (hs : zcF l.ss) (hms : ∀ i (h : i < l.ms.length), l.ms[i].Small) (ho : ∀ s ∈ o.vs, s.size <= maxLen) : ∀ s ∈ Gate.zbo l o, s.size <= maxLen := by
  have hf := Gate.zbS hm
  have hk : Gate.zF l.ss o.kd = true := by unfold Gate.qx at hm; simp only [Bool.and_eq_true] at hm; exact hm.1
  obtain ⟨i, hi, e⟩ := Gate.zdr hk
  have h1 : zbb (Gate.shapeOf l.ss o.kd).fs := by rw [e]; exact (hs.small i hi).2.2
  exact Gate.zbj hms _ _ (ze8 h1 ho hf.1)
theorem zf6 {l : Lw} {o : Ob} {w : World} {a : Option Addr} {lo : Nat} (h : zo lo w a (Gate.zbo l o)) (hm : Gate.qx l.ss l.ms o = true) (hl : o.vs.length <= maxLen) (hs : ∀ s ∈ Gate.zbo l o, s.size <= maxLen) : zC w a (Gate.zbo l o) := h.at (by rw [zcP hm]; exact hl) hs
theorem zh1 (a c : Option Addr) (ca cc : Nat) (xs ys : List ByteArray) (w : World) (hx : zC w a xs) (hy : zC w c ys) (hl : xs.length <= 1048576) (hl' : ys.length <= 1048576) (hn : xs.length = ys.length) :
    Calls Tryz.prog 189 #[.slice a ys.length ca, .slice c ys.length cc] w fun e w' => e = .returned (.bool (decide (xs = ys))) /\ Below w.heap.size w w' := by
  have h := zgN a c ca cc xs ys w hx hy hl hl'
  rw [hn] at h
  exact h
set_option maxRecDepth 20000 in
set_option maxHeartbeats 4000000 in
theorem zkt (l : Lw) (a b c : Option Addr) (ca cb cc : Nat) (o : Ob) (va ha : Option Addr) (cap cap' : Nat) (w : World) (hL : qH w l a b c) (hml : l.ms.length <= 1048576) (ho : jg w o va ha) (hl : o.vs.length <= 1048576) (hl' : o.hs.length <= 1048576) (hok : Gate.yg l.ss l.ms = true) :
    Calls Tryz.prog 143 #[.agg (lC l a b c ca cb cc), .agg (oC o va ha cap cap')] w fun e w' => e = .returned (.bool (Gate.za1 l o)) /\ Below w.heap.size w w' := by
  have hfd : ∀ (s0 s1 s2 : ByteArray) (x y : Option Addr) (n m p q : Nat) (t : Bool) (v : Int) (wf : World), (Instr.field 121 (.agg #[.string s0, .string s1, .string s2, .slice x n p, .bool t, .slice y m q, .int .i64 v]) 3).run Tryz.prog wf = .ok (.slice x n p) wf := fun s0 s1 s2 x y n m p q t v wf => by kernel_rfl
  have HH := j4 hL ho
  clear hL ho
  obtain ⟨r, hr⟩ : ∃ r, r = Gate.za1 l o := ⟨_, rfl⟩
  rw [<- hr]
  have HR : Hid (r = Gate.za1 l o) := hr
  clear hr
  go_enter Tryz.func143, Tryz.ntmps143
  go_wp2_with fail
  have hb2 := zu w (.cells (lC l a b c ca cb cc) 43) (.cells (oC o va ha cap cap') 121)
  refine (zgZ _ _ l.ss o _ _ _ _ _ (HH.out.1.ss.mono hb2) (HH.out.2.mono hb2)).mono ?_
  rintro e w1 ⟨rfl, hb1⟩
  have hX0 : ∀ j, w1.cell? ⟨w.heap.size, j, none⟩ = (lC l a b c ca cb cc)[j]? := fun j => cell_of_block ((hb1.block w.heap.size (by simp; omega)).trans (zP _ _ _).1)
  have hX1 : ∀ j, w1.cell? ⟨w.heap.size + 1, j, none⟩ = (oC o va ha cap cap')[j]? := fun j => cell_of_block ((hb1.block (w.heap.size + 1) (by simp)).trans (zP _ _ _).2)
  have hz1 : w.heap.size + 1 < w1.heap.size := by have := hb1.size; simp at this; omega
  have hz0 : w.heap.size < w1.heap.size := by omega
  have hB1 : Below w.heap.size w w1 := hb2.trans (hb1.mono (by simp; omega))
  clear hb1 hb2
  by_cases hc : (Gate.yA l.ss o).1 = 0
  rotate_left
  · have HF : Hid (r = false) := by unfold Hid; rw [HR.out]; unfold Gate.za1; rw [decide_eq_false hc]; rfl
    have hv : zeZ l.ss o = .iface 275 (.agg #[.int .i64 (Gate.yA l.ss o).1, .int .i64 (Gate.yA l.ss o).2]) := zke hc
    rw [hv]
    clear hc hv
    go_wp2_with fail
    go_ret
    exact ⟨ze HF.out.symm, hB1⟩
  have HMD := hid (Gate.za3 hok hc)
  have HS := hid (zeA HMD.out HH.out.1.ss.smalls HH.out.1.ms.small HH.out.2.vals.small)
  have HF : Hid (decide (Gate.zbo l o = o.vs) = r) := by unfold Hid; rw [HR.out]; unfold Gate.za1; rw [decide_eq_true hc]; rfl
  have hv : zeZ l.ss o = .nilIface := by unfold zeZ; rw [hc]; rfl
  rw [hv]
  have HLN := hid (zcP HMD.out)
  clear hc hv
  go_wp2_with fail
  have hS0 := za hX0 hz0 (Below.refl w1.heap.size w1).drew
  have hS1 := za hX1 hz1 (Below.refl w1.heap.size w1).drew
  have hb := (Below.refl w1.heap.size w1).drew
  have hzl := hz0
  have hzo := hz1
  clear hX0 hX1
  go_region_held3 (fun w' => (∀ j, w'.cell? ⟨w.heap.size, j, none⟩ = (lC l a b c ca cb cc)[j]?) /\ (∀ j, w'.cell? ⟨w.heap.size + 1, j, none⟩ = (oC o va ha cap cap')[j]?)) (exact ⟨fun j => by rw [hS0], fun j => by rw [hS1]⟩) (first
    | (go_at_call 190; refine (ziS l a b c ca cb cc o va ha cap cap' _ (by exact HH.out.1.mono (hB1.trans (hb.mono hB1.size))) hml (by exact HH.out.2.mono (hB1.trans (hb.mono hB1.size))) hl hl' HMD.out).mono ?_; rintro e w5 ⟨e0, dap, e1, dap', rfl, ht5, hb5⟩; have hS0 := za hS0 hzl hb5; have hS1 := za hS1 hzo hb5; have hb := hb.trans (hb5.mono hb.size); have hO5 : zC w5 e0 (Gate.zbo l o) := zf6 ht5 HMD.out HH.out.2.vals.len HS.out; clear ht5 hb5)
    | (go_at_call 189; refine (zh1 _ va _ cap (Gate.zbo l o) o.vs _ (by exact hO5) (by exact HH.out.2.vals.mono (hB1.trans (hb.mono hB1.size))) (by rw [HLN.out]; exact hl) hl HLN.out).mono ?_; rintro e w6 ⟨rfl, hb6⟩; rw [HF.out]; have hS0 := fun j => (hb6.cell (p := ⟨w.heap.size, j, none⟩) (Nat.lt_of_lt_of_le hzl hb.size)).trans (hS0 j); have hS1 := fun j => (hb6.cell (p := ⟨w.heap.size + 1, j, none⟩) (Nat.lt_of_lt_of_le hzo hb.size)).trans (hS1 j); have hb := hb.trans (hb6.mono hb.size); clear hb6))
  go_wp2_with fail
  go_ret
  exact ⟨rfl, hB1.trans (hb.mono hB1.size)⟩
end Go.Proofs.YtfapkhgallmkdaaGreat

namespace Go.Proofs.YtfapkhgallmkdaaGreat
open Go.RowKit
theorem yF.new (w : World) : yF (w.alloc (.map #[] 0)) w.heap.size (fun _ _ => none) :=
  ⟨⟨#[], 0, Array.getElem?_push_size, fun x hx => (by simp at hx), fun a b v h => (by cases h), fun i j x y hx => (by simp at hx)⟩, fun es c h => by
    have e : (w.alloc (.map #[] 0)).heap[w.heap.size]? = some (.map #[] 0) := Array.getElem?_push_size
    rw [e] at h
    cases h
    exact ⟨fun x hx => (by simp at hx), by simp⟩⟩
theorem zfD.below {r B : Nat} {w0 w w' : World} (h : zfD r w w') (hb : Below B w0 w) (hr : B <= r) : Below B w0 w' :=
  ⟨h.os.trans hb.os, h.tape.trans hb.tape, h.output.trans hb.output, by rw [h.size]; exact hb.size, fun k hk => (h.out k (by omega)).trans (hb.block k hk)⟩
set_option maxHeartbeats 1000000 in
theorem zis (o : Ob) (a0 a1 : Option Addr) (c0 c1 : Nat) (w : World) : Calls Tryz.prog 187 #[.agg (oC o a0 a1 c0 c1)] w fun e w' => e = .returned (qB o.kd o.nm) /\ Below w.heap.size w w' := by
  unfold qB
  go_enter Tryz.func187, Tryz.ntmps187
  go_wp2_with fail
  refine bodyPost_ret (v := .agg #[.string o.kd, .string o.nm]) (by simp [results, Tryz.results187, go_sem]) rfl ⟨rfl, ?_⟩
  first | exact zu _ _ _ | exact ((zu _ _ _).setCell (by simp) _).setCell (by simp) _ | exact ((zu _ _ _).setCell (by show _ <= _ + 1; omega) _).setCell (by show _ <= _ + 1; omega) _
structure zb1 (f : ByteArray -> ByteArray -> Option Int) (os : List Ob) (k : Nat) : Prop where
  has : ∀ p q, (f p q).isSome = (os.take k).any (Gate.zbG p q)
  at_ : ∀ p q v, f p q = some v -> ∃ i, ∃ h : i < os.length, v = (i : Int) /\ os[i].kd = p /\ os[i].nm = q
theorem zb1.put {f : ByteArray -> ByteArray -> Option Int} {os : List Ob} {k : Nat} (h : zb1 f os k) (hlt : k < os.length) : zb1 (fun p q => if p = os[k].kd /\ q = os[k].nm then some (k : Int) else f p q) os (k + 1) := by
  refine ⟨fun p q => ?_, fun p q v hv => ?_⟩
  · rw [List.take_succ_eq_append_getElem hlt, List.any_append, <- h.has p q]
    simp only [List.any_cons, List.any_nil, Bool.or_false]
    by_cases e : p = os[k].kd /\ q = os[k].nm
    · rw [if_pos e]
      unfold Gate.zbG
      simp [e.1, e.2]
    · rw [if_neg e]
      have : Gate.zbG p q os[k] = false := by
        unfold Gate.zbG
        rw [Bool.and_eq_false_iff, decide_eq_false_iff_not, decide_eq_false_iff_not]
        by_cases e1 : os[k].kd = p
        · exact Or.inr fun e2 => e ⟨e1.symm, e2.symm⟩
        · exact Or.inl e1
      rw [this, Bool.or_false]
  · by_cases e : p = os[k].kd /\ q = os[k].nm
    · rw [if_pos e] at hv
      exact ⟨k, hlt, (Option.some.inj hv).symm, e.1.symm, e.2.symm⟩
    · rw [if_neg e] at hv
      exact h.at_ p q v hv
set_option maxHeartbeats 2000000 in
theorem zgE (a : Option Addr) (cap : Nat) (os : List Ob) (w : World) (hw : za8 w a os) (hl : os.length <= 1048576) :
    Calls Tryz.prog 142 #[.slice a os.length cap] w fun e w' => (∃ f, e = .returned (.map (some w.heap.size)) /\ yF w' w.heap.size f /\ zb1 f os os.length) /\ Below w.heap.size w w' := by
  have HW := hid hw
  have hmk : ∀ w : World, (Instr.makeMap 204 none).run Tryz.prog w = .ok (.map (some w.heap.size)) (w.alloc (.map #[] 0)) := fun w => by kernel_rfl
  clear hw
  go_enter Tryz.func142, Tryz.ntmps142
  go_wp2_with fail
  clear hmk
  go_loopw [9] (fun iv wr => ∃ k : Nat, k <= os.length /\ iv = .int .i64 k /\ Hid ((∃ f, yF wr w.heap.size f /\ zb1 f os k) /\ Below w.heap.size w wr)) (fun iv _ => os.length - (intOf iv).toNat)
  case atStart => exact ⟨0, Nat.zero_le _, rfl, ⟨_, yF.new w, ⟨fun p q => by simp, fun p q v h => by cases h⟩⟩, (Below.refl _ _).alloc (Nat.le_refl _) _⟩
  case round =>
    obtain ⟨k, hk, rfl, HX⟩ := hrel
    obtain ⟨⟨f, hf, hc⟩, hB⟩ := HX.out
    have hkn : k <= 1048576 := by omega
    by_cases hlt : k < os.length
    · obtain ⟨ob, off, v0, v1, q0, q1, rfl, hob, hsm, hl0, hl1, d0, d1, d2, d3, d4, d5, d6⟩ := HW.out.load hB k hlt
      have hltI : (k : Int) < (os.length : Int) := by omega
      have hob' := Nat.lt_of_lt_of_le hob hB.size
      have HKn := hid hsm
      have HPf := zff hf hc hB
      clear hf hc hB HX hsm hl0 hl1
      go_wp2_with fail
      refine (zis os[k] v0 v1 q0 q1 _).mono ?_
      rintro e w1 ⟨rfl, hb1⟩
      have hBa := (HPf.out.2.2.alloc HPf.out.2.2.size (.cells (oC os[k] v0 v1 q0 q1) 121))
      have hf1 : yF w1 w.heap.size f := (HPf.out.1.mono ((Below.refl _ _).alloc (Nat.le_refl _) _)).mono hb1
      obtain ⟨w2, hup, hf2, hp2⟩ := hf1.upd zhR Tryz.underlying204 os[k].kd os[k].nm HKn.out.kd HKn.out.nm (k : Int)
      have HC : Hid ((∃ f, yF w2 w.heap.size f /\ zb1 f os (k + 1)) /\ Below w.heap.size w w2) :=
        ⟨⟨_, hf2, HPf.out.2.1.put hlt⟩, hp2.below (hBa.trans (hb1.mono hBa.size)) (Nat.le_refl _)⟩
      clear hf1 hf2 hp2 hb1 hBa
      go_wp2_with fail
      exact ⟨⟨k + 1, by omega, by go_num, HC.out⟩, zm hlt⟩
    · have e : k = os.length := by omega
      subst e
      have HE : Hid (∃ f, yF wr w.heap.size f /\ zb1 f os os.length) := ⟨f, hf, hc⟩
      have HB := hid hB
      clear hf hc hB HX hlt hk
      go_wp2_with fail
      go_ret
      obtain ⟨f, h1, h2⟩ := HE.out
      exact ⟨⟨f, rfl, h1, h2⟩, HB.out⟩
theorem zfo (a : Option Addr) (cap : Nat) (os : List Ob) (w : World) (hw : za8 w a os) (hl : os.length <= 1048576) :
    Calls Tryz.prog 142 #[.slice a os.length cap] w fun e w' => (∃ f, e = .returned (.map (some w.heap.size)) /\ yF w' w.heap.size f /\ ∀ p q, (f p q).isSome = os.any (Gate.zbG p q)) /\ Below w.heap.size w w' := by
  refine (zgE a cap os w hw hl).mono ?_
  rintro e w' ⟨⟨f, he, hf, hp⟩, hb⟩
  exact ⟨⟨f, he, hf, fun p q => by rw [hp.has p q, List.take_of_length_le (Nat.le_refl _)]⟩, hb⟩
end Go.Proofs.YtfapkhgallmkdaaGreat

namespace Go.Proofs.YtfapkhgallmkdaaGreat
open Go.RowKit
theorem yF.entry {kt mt : TypeId} (K : zhb kt) (hm : Tryz.prog.underlying mt = some (.map kt 3)) {w : World} {r : Nat} {f : ByteArray -> ByteArray -> Option Int} (h : yF w r f) (a b : ByteArray) (ha : a.size <= maxLen) (hb : b.size <= maxLen) (v0 : Int) (hf : f a b = some v0) :
    ∃ st : Int, (Instr.mapEntry mt (.map (some r)) (qB a b)).run Tryz.prog w = .ok (.tuple #[.int .i64 v0, .int .i64 st]) w /\
      ∀ v : Int, ∃ w', (Instr.entryStore mt (.map (some r)) (.int .i64 st) (.int .i64 v)).run Tryz.prog w = .ok () w' /\ yF w' r (fun p q => if p = a /\ q = b then some v else f p q) /\ zfD r w w' := by
  obtain ⟨es, clock, hh, h1, h2, h3⟩ := h.ex
  obtain ⟨l, hl⟩ := K.key a b ha hb
  obtain ⟨s1, s2⟩ := h.stamps es clock hh
  have hkeys : ∀ e ∈ es.toList, ∃ l, keyOf Tryz.prog kt e.key = some l := fun e he => by
    obtain ⟨a', b', v, e1, ha', hb', _⟩ := h1 e he
    rw [e1]; exact K.key a' b' ha' hb'
  have hc := K.law.check w false hl
  have hs := K.law.stays w hl
  rcases K.law.find w hl es.toList hkeys with ⟨g1, g2⟩ | ⟨j, e, g1, g2, g3⟩
  · obtain ⟨x, hx, hk⟩ := h2 a b v0 hf
    exact absurd hk (g2 x hx)
  · have hj : es[j]? = some e := by simpa using g2
    have hv : e.val = .int .i64 v0 := by
      obtain ⟨a', b', v', e1, _, _, e2, e3⟩ := h1 e (List.mem_of_getElem? g2)
      rw [g3] at e1
      have hab : a = a' /\ b = b' := by unfold qB at e1; simpa using e1
      obtain ⟨rfl, rfl⟩ := hab
      rw [e3] at hf
      rw [e2, Option.some.inj hf]
    have hsame : es.modify j (fun e => { e with key := qB a b }) = es := by
      apply Array.ext'
      rw [Array.toList_modify]
      apply List.ext_getElem?
      intro i
      rw [List.getElem?_modify]
      by_cases e' : j = i
      · subst e'
        rw [g2]
        simp [<- g3]
      · simp [e']
    have hset : { w with heap := w.heap.setIfInBounds r (.map es clock) } = w := by
      have hr : r < w.heap.size := (Array.getElem?_eq_some_iff.1 hh).1
      have : w.heap.setIfInBounds r (.map es clock) = w.heap := by
        apply Array.ext_getElem?
        intro i
        by_cases e' : r = i
        · subst e'; rw [Array.getElem?_setIfInBounds_self_of_lt hr, hh]
        · rw [Array.getElem?_setIfInBounds_ne e']
      rw [this]
    refine ⟨(e.born : Int), ?_, fun v => ?_⟩
    · rw [hv] at g1
      simp [Instr.mapEntry, run_underlying hm, MapKept.run_getObj_map hh, hc, g1, hj, g3, hs, hsame, MapKept.run_setObj_map _ hh, Result.andThen, goInt, hset]
    · obtain ⟨w', u1, u2, u3⟩ := h.upd K hm a b ha hb v
      refine ⟨w', ?_, u2, u3⟩
      have hidx : es.findIdx? (fun e' => ((e'.born : Nat) : Int) == ((e.born : Nat) : Int)) = some j := by
        rw [WideElems.findIdx_arr]
        exact WideElems.findIdx_born s2 g2
      have hmod : es.modify j (fun e => { e with val := .int .i64 v }) = es.modify j (fun e' => { e' with key := qB a b, val := .int .i64 v }) := by
        apply Array.ext'
        rw [Array.toList_modify, Array.toList_modify]
        apply List.ext_getElem?
        intro i
        rw [List.getElem?_modify, List.getElem?_modify]
        by_cases e' : j = i
        · subst e'
          rw [g2]
          simp [<- g3]
        · simp [e']
      simp [Instr.mapUpdate, run_underlying hm, MapKept.run_getObj_map hh, hc, g1, hj, g3, hs, MapKept.run_setObj_map _ hh, Result.andThen] at u1
      simp [Instr.entryStore, MapKept.run_getObj_map hh, asInt, asIntOf, hidx, hmod, MapKept.run_setObj_map _ hh, Result.andThen]
      exact u1
end Go.Proofs.YtfapkhgallmkdaaGreat

namespace Go.Proofs.YtfapkhgallmkdaaGreat
open Go.RowKit
structure zha (b : Bk) : Prop where
  one : ∀ i j (hi : i < b.ls.length) (hj : j < b.ls.length), b.ls[i].tm = b.ls[j].tm -> b.ls[i].rs = b.ls[j].rs -> i = j
  has : ∀ k (hk : k < b.ps.length), ∃ j, ∃ hj : j < b.ls.length, b.ls[j].tm = b.ps[k].tm /\ b.ls[j].rs = b.ps[k].rs
  fr : ∀ i (hi : i < b.ls.length), 0 <= b.ls[i].fr /\ b.ls[i].fr <= 1000000
  am : ∀ i (hi : i < b.ps.length), 0 <= b.ps[i].am /\ b.ps[i].am <= 1000000
  ll : b.ls.length <= 1000
  lp : b.ps.length <= 1000
  sz : yV b.os <= 1048576
def Gate.sumTo (l : Lw) (b : Bk) (g : Lg) (k : Nat) : Int := g.fr + Gate.used l b.os g.tm g.rs + Gate.zaC b.ps g.tm g.rs k
theorem zeu (l : Lw) (b : Bk) (tm rs : ByteArray) (h : yV b.os <= 1048576) : 0 <= Gate.used l b.os tm rs /\ Gate.used l b.os tm rs <= 20000000000000 := by
  have h2 := Gate.zbi l b.os tm rs b.os.length (Nat.le_refl _)
  rw [List.take_of_length_le (Nat.le_refl _)] at h2
  unfold Gate.used
  unfold yV at h
  omega
theorem zeO {r : Nat} {w w' : World} (h : zfD r w w') {b o : Nat} (hb : b ≠ r) : w'.cell? ⟨b, o, none⟩ = w.cell? ⟨b, o, none⟩ := by
  unfold World.cell?
  rw [h.out b hb]
set_option maxRecDepth 20000 in
set_option maxHeartbeats 4000000 in
theorem zmF (l : Lw) (la lb lc : Option Addr) (lca lcb lcc : Nat) (b : Bk) (a0 a1 a2 a3 : Option Addr) (c0 c1 c2 c3 : Nat) (w : World) (hl : qH w l la lb lc) (hb : qL w b a0 a1 a2 a3) (hs : zha b) :
    Calls Tryz.prog 155 #[.agg (lC l la lb lc lca lcb lcc), .agg (bC b a0 a1 a2 a3 c0 c1 c2 c3)] w fun e w' => (∃ r f, e = .returned (.map (some r)) /\ w.heap.size <= r /\ yF w' r f /\ ∀ i (hi : i < b.ls.length), f b.ls[i].tm b.ls[i].rs = some (Gate.sumTo l b b.ls[i] b.ps.length)) /\ Below w.heap.size w w' := by
  have HH : Hid (qH w l la lb lc /\ qL w b a0 a1 a2 a3 /\ zha b) := ⟨hl, hb, hs⟩
  have hll := hs.ll
  have hlp := hs.lp
  have hmk : ∀ w : World, (Instr.makeMap 219 none).run Tryz.prog w = .ok (.map (some w.heap.size)) (w.alloc (.map #[] 0)) := fun w => by kernel_rfl
  clear hl hb hs
  go_enter Tryz.func155, Tryz.ntmps155
  go_wp2_with fail
  have HB0 : Hid (Below w.heap.size w ((w.alloc (.cells (lC l la lb lc lca lcb lcc) 43)).alloc (.cells (bC b a0 a1 a2 a3 c0 c1 c2 c3) 50))) := zu _ _ _
  have hX0 : ∀ j, ((w.alloc (.cells (lC l la lb lc lca lcb lcc) 43)).alloc (.cells (bC b a0 a1 a2 a3 c0 c1 c2 c3) 50)).cell? ⟨w.heap.size, j, none⟩ = (lC l la lb lc lca lcb lcc)[j]? := fun j => cell_of_block (zP _ _ _).1
  have hX1 : ∀ j, ((w.alloc (.cells (lC l la lb lc lca lcb lcc) 43)).alloc (.cells (bC b a0 a1 a2 a3 c0 c1 c2 c3) 50)).cell? ⟨w.heap.size + 1, j, none⟩ = (bC b a0 a1 a2 a3 c0 c1 c2 c3)[j]? := fun j => cell_of_block (zP _ _ _).2
  obtain ⟨W0, hW0⟩ : ∃ W0, W0 = (w.alloc (.cells (lC l la lb lc lca lcb lcc) 43)).alloc (.cells (bC b a0 a1 a2 a3 c0 c1 c2 c3) 50) := ⟨_, rfl⟩
  have hsz : W0.heap.size = w.heap.size + 1 + 1 := by rw [hW0]; simp
  rw [<- hW0] at HB0 hX0 hX1 ⊢
  clear hW0
  have hz0 : w.heap.size < W0.heap.size := by omega
  have hz1 : w.heap.size + 1 < W0.heap.size := by omega
  have HSZ := hid hsz
  clear hsz
  have hba := (Below.refl W0.heap.size W0).alloc (Nat.le_refl _) (.map #[] 0)
  have hY1 := za hX1 hz1 hba
  have hzm := Nat.lt_of_lt_of_le hz1 hba.size
  go_wp2_with fail
  clear hmk hY1 hzm hba
  go_loopw [14] (fun iv wr => ∃ k : Nat, k <= b.ls.length /\ iv = .int .i64 k /\ Hid ((∃ f, yF wr W0.heap.size f /\ ∀ i (hi : i < b.ls.length), i < k -> f b.ls[i].tm b.ls[i].rs = some (Gate.sumTo l b b.ls[i] 0)) /\ Below W0.heap.size W0 wr)) (fun iv _ => b.ls.length - (intOf iv).toNat)
  case atStart => exact ⟨0, Nat.zero_le _, rfl, ⟨_, yF.new W0, fun i hi h => absurd h (Nat.not_lt_zero _)⟩, (Below.refl _ _).alloc (Nat.le_refl _) _⟩
  case round =>
    obtain ⟨k, hk, rfl, HQ⟩ := hrel
    have hkn : k <= 1000 := by omega
    by_cases hlt : k < b.ls.length
    · obtain ⟨f, hf, hfk⟩ := HQ.out.1
      have hBr := HQ.out.2
      have HBw : Hid (∀ W, Below W0.heap.size W0 W -> Below w.heap.size w W) := fun W hW => HB0.out.trans (hW.mono HB0.out.size)
      obtain ⟨ob, off, rfl, hob, d0, d1, d2, d3⟩ := HH.out.2.1.ls.load (HBw.out _ hBr) k hlt
      have hsm := HH.out.2.1.ls.small k hlt
      have hltI : (k : Int) < (b.ls.length : Int) := by omega
      have hob' := Nat.lt_of_lt_of_le hob (HBw.out _ hBr).size
      have hfr := HH.out.2.2.fr k hlt
      have hus := zeu l b b.ls[k].tm b.ls[k].rs HH.out.2.2.sz
      have hwr : IntKind.i64.wrap (b.ls[k].fr + Gate.used l b.os b.ls[k].tm b.ls[k].rs) = b.ls[k].fr + Gate.used l b.os b.ls[k].tm b.ls[k].rs := by rw [IntKind.wrap_i64]; omega
      have hS0 := za hX0 hz0 hBr
      have hS1 := za hX1 hz1 hBr
      have HM := j4 hf hBr
      have HFK := hid hfk
      have hzl := Nat.lt_of_lt_of_le hz0 hBr.size
      have hzb := Nat.lt_of_lt_of_le hz1 hBr.size
      clear hf hfk hBr HQ
      go_wp2_with fail
      have hba := (Below.refl wr.heap.size wr).alloc (Nat.le_refl _) (.cells #[.string b.ls[k].tm, .string b.ls[k].rs, .int .i64 b.ls[k].mo, .int .i64 b.ls[k].fr] 126)
      have hT0 := za hS0 hzl hba
      have hT1 := za hS1 hzb hba
      have hT2 := zG wr #[.string b.ls[k].tm, .string b.ls[k].rs, .int .i64 b.ls[k].mo, .int .i64 b.ls[k].fr] 126
      have hzg : wr.heap.size < (wr.alloc (.cells #[.string b.ls[k].tm, .string b.ls[k].rs, .int .i64 b.ls[k].mo, .int .i64 b.ls[k].fr] 126)).heap.size := by simp
      obtain ⟨W2, hW2⟩ : ∃ W2, W2 = wr.alloc (.cells #[.string b.ls[k].tm, .string b.ls[k].rs, .int .i64 b.ls[k].mo, .int .i64 b.ls[k].fr] 126) := ⟨_, rfl⟩
      rw [<- hW2] at hba hT0 hT1 hT2 hzg ⊢
      clear hW2 hS0 hS1 d0 d1 d2 d3
      have hS0 := za hT0 (Nat.lt_of_lt_of_le hzl hba.size) (Below.refl W2.heap.size W2).drew
      have hS1 := za hT1 (Nat.lt_of_lt_of_le hzb hba.size) (Below.refl W2.heap.size W2).drew
      have hS2 := za hT2 hzg (Below.refl W2.heap.size W2).drew
      have hb := hba.trans ((Below.refl W2.heap.size W2).drew.mono hba.size)
      have hy0 := Nat.lt_of_lt_of_le hzl hb.size
      have hy1 := Nat.lt_of_lt_of_le hzb hb.size
      have hy2 := hzg
      have hne0 : w.heap.size ≠ W0.heap.size := by have := HSZ.out; omega
      have hne1 : w.heap.size + 1 ≠ W0.heap.size := by have := HSZ.out; omega
      have hne2 : wr.heap.size ≠ W0.heap.size := by have := HM.out.1.lt; omega
      have HNE := zff hne0 hne1 hne2
      clear hne0 hne1 hne2
      clear hT0 hT1 hT2 hba
      go_region_held3 (fun w' => (∀ j, w'.cell? ⟨w.heap.size, j, none⟩ = (lC l la lb lc lca lcb lcc)[j]?) /\ (∀ j, w'.cell? ⟨w.heap.size + 1, j, none⟩ = (bC b a0 a1 (some ⟨ob, off, none⟩) a3 c0 c1 c2 c3)[j]?) /\ (∀ j, w'.cell? ⟨wr.heap.size, j, none⟩ = (#[.string b.ls[k].tm, .string b.ls[k].rs, .int .i64 b.ls[k].mo, .int .i64 b.ls[k].fr] : Array Value)[j]?)) (first | exact ⟨fun j => by rw [hS0], fun j => by rw [hS1], fun j => by rw [hS2]⟩ | exact ⟨fun j => by rw [hU0], fun j => by rw [hU1], fun j => by rw [hU2]⟩) (first
        | (go_at_call 156; refine (zaX b.ls[k] _).mono ?_; rintro e w5 ⟨rfl, hb5⟩; unfold qB; have hS0 := za hS0 hy0 hb5; have hS1 := za hS1 hy1 hb5; have hS2 := za hS2 hy2 hb5; have hy0 := Nat.lt_of_lt_of_le hy0 hb5.size; have hy1 := Nat.lt_of_lt_of_le hy1 hb5.size; have hy2 := Nat.lt_of_lt_of_le hy2 hb5.size; have hb := hb.trans (hb5.mono hb.size); clear hb5)
        | (go_at_call 195; refine (zjM l la lb lc lca lcb lcc b a0 a1 (some ⟨ob, off, none⟩) a3 c0 c1 c2 c3 _ _ _ (by exact HH.out.1.mono ((HBw.out _ HM.out.2).trans (hb.mono (HBw.out _ HM.out.2).size))) (by exact HH.out.2.1.mono ((HBw.out _ HM.out.2).trans (hb.mono (HBw.out _ HM.out.2).size))) HH.out.2.2.sz).mono ?_; rintro e w6 ⟨rfl, hb6⟩; have hS0 := za hS0 hy0 hb6; have hS1 := za hS1 hy1 hb6; have hS2 := za hS2 hy2 hb6; have hb := hb.trans (hb6.mono hb.size); have hf6 := HM.out.1.mono hb; obtain ⟨w7, hup, hf7, hp7⟩ := hf6.upd zbU Tryz.underlying219 b.ls[k].tm b.ls[k].rs hsm.tm hsm.rs (b.ls[k].fr + Gate.used l b.os b.ls[k].tm b.ls[k].rs); unfold qB at hup; rw [HSZ.out] at hup; have hU0 := fun j => (zeO hp7 (o := j) HNE.out.1).trans (hS0 j); have hU1 := fun j => (zeO hp7 (o := j) HNE.out.2.1).trans (hS1 j); have hU2 := fun j => (zeO hp7 (o := j) HNE.out.2.2).trans (hS2 j); clear hb6))
      go_wp2_with fail
      refine ⟨⟨k + 1, by omega, by go_num, ⟨_, hf7, fun i hi hik => ?_⟩, hp7.below (HM.out.2.trans (hb.mono HM.out.2.size)) (Nat.le_refl _)⟩, zm hlt⟩
      by_cases e : i = k
      · subst e
        rw [if_pos ⟨rfl, rfl⟩]
        simp [Gate.sumTo, Gate.zaC]
      · rw [if_neg (fun h => e (HH.out.2.2.one i k hi hlt h.1 h.2))]
        exact HFK.out i hi (by omega)
    · have e : k = b.ls.length := by omega
      have hBr := HQ.out.2
      have hS1 := za hX1 hz1 hBr
      have hzb := Nat.lt_of_lt_of_le hz1 hBr.size
      have HM : Hid (∃ f, yF wr W0.heap.size f /\ ∀ i (hi : i < b.ls.length), f b.ls[i].tm b.ls[i].rs = some (Gate.sumTo l b b.ls[i] 0)) := by
        obtain ⟨f, hf, hfk⟩ := HQ.out.1
        exact ⟨f, hf, fun i hi => hfk i hi (by omega)⟩
      have HBr := hid hBr
      have HBw : Hid (∀ W, Below W0.heap.size W0 W -> Below w.heap.size w W) := fun W hW => HB0.out.trans (hW.mono HB0.out.size)
      clear hBr HQ hlt hk hkn
      subst e
      go_wp2_with fail
      clear hS1
      go_loopw [35] (fun iv ws => ∃ k : Nat, k <= b.ps.length /\ iv = .int .i64 k /\ Hid ((∃ f, yF ws W0.heap.size f /\ ∀ i (hi : i < b.ls.length), f b.ls[i].tm b.ls[i].rs = some (Gate.sumTo l b b.ls[i] k)) /\ Below W0.heap.size W0 ws)) (fun iv _ => b.ps.length - (intOf iv).toNat)
      case atStart => exact ⟨0, Nat.zero_le _, rfl, HM.out, HBr.out⟩
      case round =>
        obtain ⟨k, hk, rfl, HQ⟩ := hrel
        have hkn : k <= 1000 := by omega
        by_cases hlt : k < b.ps.length
        · obtain ⟨f, hf, hfk⟩ := HQ.out.1
          have hBr := HQ.out.2
          obtain ⟨ob, off, rfl, hob, d0, d1, d2, d3, d4⟩ := HH.out.2.1.ps.load (HBw.out _ hBr) k hlt
          have hsm := HH.out.2.1.ps.small k hlt
          have hltI : (k : Int) < (b.ps.length : Int) := by omega
          have hob' := Nat.lt_of_lt_of_le hob (HBw.out _ hBr).size
          obtain ⟨v, hv, hvb⟩ : ∃ v, f b.ps[k].tm b.ps[k].rs = some v /\ 0 <= v /\ v <= 30000000000000 := by
            obtain ⟨j, hj, e1, e2⟩ := HH.out.2.2.has k hlt
            refine ⟨_, by rw [<- e1, <- e2]; exact hfk j hj, ?_⟩
            have h1 := HH.out.2.2.fr j hj
            have h2 := zeu l b b.ls[j].tm b.ls[j].rs HH.out.2.2.sz
            have h3 := Gate.zbI b.ps b.ls[j].tm b.ls[j].rs HH.out.2.2.am k hk
            unfold Gate.sumTo
            omega
          have ham := HH.out.2.2.am k hlt
          have hwr : IntKind.i64.wrap (v + b.ps[k].am) = v + b.ps[k].am := by rw [IntKind.wrap_i64]; omega
          have HM2 := zkI hf hBr hv hfk
          clear hf hfk hBr HQ hv hvb
          have HFIN : Hid (∀ i (hi : i < b.ls.length), (if b.ls[i].tm = b.ps[k].tm /\ b.ls[i].rs = b.ps[k].rs then some (v + b.ps[k].am) else f b.ls[i].tm b.ls[i].rs) = some (Gate.sumTo l b b.ls[i] (k + 1))) := by
            intro i hi
            obtain ⟨_, _, g1, g2⟩ := HM2.out
            have g3 := g2 i hi
            by_cases e : b.ls[i].tm = b.ps[k].tm /\ b.ls[i].rs = b.ps[k].rs
            · rw [if_pos e]
              have g4 : v = Gate.sumTo l b b.ls[i] k := by
                rw [e.1, e.2, g1] at g3
                exact Option.some.inj g3
              unfold Gate.sumTo at g4 ⊢
              rw [Gate.zd1 _ _ _ _ hlt, if_pos (by unfold Gate.zmY; simp [e.1, e.2]), g4]
              congr 1
              omega
            · rw [if_neg e, g3]
              unfold Gate.sumTo
              rw [Gate.zd1 _ _ _ _ hlt, if_neg (by unfold Gate.zmY; simp only [Bool.and_eq_true, decide_eq_true_eq]; exact fun h => e ⟨h.1.symm, h.2.symm⟩)]
              congr 1
              omega
          go_wp2_with fail
          have hba := (Below.refl wr.heap.size wr).alloc (Nat.le_refl _) (.cells #[.string b.ps[k].dr, .string b.ps[k].tm, .string b.ps[k].rs, .int .i64 b.ps[k].am, .int .i64 b.ps[k].un] 128)
          have hT2 := zG wr #[.string b.ps[k].dr, .string b.ps[k].tm, .string b.ps[k].rs, .int .i64 b.ps[k].am, .int .i64 b.ps[k].un] 128
          have hzg : wr.heap.size < (wr.alloc (.cells #[.string b.ps[k].dr, .string b.ps[k].tm, .string b.ps[k].rs, .int .i64 b.ps[k].am, .int .i64 b.ps[k].un] 128)).heap.size := by simp
          obtain ⟨W2, hW2⟩ : ∃ W2, W2 = wr.alloc (.cells #[.string b.ps[k].dr, .string b.ps[k].tm, .string b.ps[k].rs, .int .i64 b.ps[k].am, .int .i64 b.ps[k].un] 128) := ⟨_, rfl⟩
          rw [<- hW2] at hba hT2 hzg ⊢
          clear hW2 d0 d1 d2 d3 d4
          have hS2 := za hT2 hzg (Below.refl W2.heap.size W2).drew
          have hb := hba.trans ((Below.refl W2.heap.size W2).drew.mono hba.size)
          have hy2 := hzg
          have HNE : Hid (wr.heap.size ≠ W0.heap.size) := by have := HM2.out.1.lt; intro h; omega
          clear hT2 hba
          go_region_held3 (fun w' => ∀ j, w'.cell? ⟨wr.heap.size, j, none⟩ = (#[.string b.ps[k].dr, .string b.ps[k].tm, .string b.ps[k].rs, .int .i64 b.ps[k].am, .int .i64 b.ps[k].un] : Array Value)[j]?) (first | exact fun j => by rw [hS2] | exact fun j => by rw [hU2]) (first
            | (go_at_call 154; refine (zcE b.ps[k] _).mono ?_; rintro e w5 ⟨rfl, hb5⟩; have hS2 := za hS2 hy2 hb5; have hb := hb.trans (hb5.mono hb.size); have hf5 := HM2.out.1.mono hb; have hlk := hf5.look zbU Tryz.underlying219 b.ps[k].tm b.ps[k].rs hsm.tm hsm.rs false; rw [HM2.out.2.2.1] at hlk; obtain ⟨st, hen, hst⟩ := hf5.entry zbU Tryz.underlying219 b.ps[k].tm b.ps[k].rs hsm.tm hsm.rs v HM2.out.2.2.1; obtain ⟨w7, hup, hf7, hp7⟩ := hst (v + b.ps[k].am); unfold qB at hlk hen ⊢; rw [HSZ.out] at hlk hen hup; simp only [Option.getD_some, Bool.false_eq_true, if_false] at hlk; have hU2 := fun j => (zeO hp7 (o := j) HNE.out).trans (hS2 j); clear hb5 hst))
          all_goals first | (go_wp2_with fail; exact ⟨⟨k + 1, by omega, by go_num, ⟨_, hf7, HFIN.out⟩, hp7.below (HM2.out.2.1.trans (hb.mono HM2.out.2.1.size)) (Nat.le_refl _)⟩, zm hlt⟩) | exact ⟨⟨k + 1, by omega, by go_num, ⟨_, hf7, HFIN.out⟩, hp7.below (HM2.out.2.1.trans (hb.mono HM2.out.2.1.size)) (Nat.le_refl _)⟩, zm hlt⟩
        · have e : k = b.ps.length := by omega
          subst e
          have HE := hid HQ.out
          clear HQ hlt hk
          go_wp2_with fail
          go_ret
          obtain ⟨⟨f, h1, h2⟩, h3⟩ := HE.out
          rw [HSZ.out] at h1
          exact ⟨⟨_, f, rfl, by omega, h1, h2⟩, HBw.out _ h3⟩
end Go.Proofs.YtfapkhgallmkdaaGreat

namespace Go.Proofs.YtfapkhgallmkdaaGreat
open Go.RowKit
namespace Gate
def za6 (l : Lw) (b : Bk) (g : Lg) : Bool := decide (sumTo l b g b.ps.length = g.mo)
def zbP (l : Lw) (b : Bk) : Bool := b.ls.all (za6 l b)
end Gate
set_option maxRecDepth 20000 in
set_option maxHeartbeats 4000000 in
theorem zlG (l : Lw) (la lb lc : Option Addr) (lca lcb lcc : Nat) (b : Bk) (a0 a1 a2 a3 : Option Addr) (c0 c1 c2 c3 : Nat) (w : World) (hl : qH w l la lb lc) (hb : qL w b a0 a1 a2 a3) (hs : zha b) :
    Calls Tryz.prog 105 #[.agg (lC l la lb lc lca lcb lcc), .agg (bC b a0 a1 a2 a3 c0 c1 c2 c3)] w fun e w' => e = .returned (.bool (Gate.zbP l b)) /\ Below w.heap.size w w' := by
  have HH := zff hl hb hs
  have hll := hs.ll
  clear hl hb hs
  have HG : Hid (Gate.zbP l b = b.ls.all (Gate.za6 l b)) := rfl
  go_enter Tryz.func105, Tryz.ntmps105
  go_wp2_with fail
  have hb2 := zu w (.cells (lC l la lb lc lca lcb lcc) 43) (.cells (bC b a0 a1 a2 a3 c0 c1 c2 c3) 50)
  refine (zmF l la lb lc lca lcb lcc b a0 a1 a2 a3 c0 c1 c2 c3 _ (HH.out.1.mono hb2) (HH.out.2.1.mono hb2) HH.out.2.2).mono ?_
  rintro e w1 ⟨⟨r, f, rfl, hr, hf, hfk⟩, hb1⟩
  have hX1 : ∀ j, w1.cell? ⟨w.heap.size + 1, j, none⟩ = (bC b a0 a1 a2 a3 c0 c1 c2 c3)[j]? := fun j => cell_of_block ((hb1.block (w.heap.size + 1) (by simp)).trans (zP _ _ _).2)
  have hz1 : w.heap.size + 1 < w1.heap.size := by have := hb1.size; simp at this; omega
  have HB1 : Hid (Below w.heap.size w w1) := hb2.trans (hb1.mono (by simp; omega))
  have HM := j4 hf hfk
  clear hb1 hb2 hf hfk hr
  go_wp2_with fail
  go_loopw [14] (fun iv wr => ∃ k : Nat, k <= b.ls.length /\ iv = .int .i64 k /\ Hid ((b.ls.take k).all (Gate.za6 l b) = true /\ Below w1.heap.size w1 wr)) (fun iv _ => b.ls.length - (intOf iv).toNat)
  case atStart => exact ⟨0, Nat.zero_le _, rfl, by simp, Below.refl _ _⟩
  case round =>
    obtain ⟨k, hk, rfl, HQ⟩ := hrel
    have hkn : k <= 1000 := by omega
    by_cases hlt : k < b.ls.length
    · have hBr := HQ.out.2
      have hBw := HB1.out.trans (hBr.mono HB1.out.size)
      obtain ⟨ob, off, rfl, hob, d0, d1, d2, d3⟩ := HH.out.2.1.ls.load hBw k hlt
      have hsm := HH.out.2.1.ls.small k hlt
      have hltI : (k : Int) < (b.ls.length : Int) := by omega
      have hob' : ob < wr.heap.size := Nat.lt_of_lt_of_le hob hBw.size
      have HSn : Hid ((b.ls.take (k + 1)).all (Gate.za6 l b) = ((b.ls.take k).all (Gate.za6 l b) && (Gate.za6 l b) b.ls[k])) := Gate.y7 _ _ _ hlt
      have HNo : Hid ((Gate.za6 l b) b.ls[k] = false -> Gate.zbP l b = false) := fun h => by rw [HG.out]; exact Gate.jT _ _ _ hlt h
      have HYes : Hid ((Gate.za6 l b) b.ls[k] = true -> (b.ls.take (k + 1)).all (Gate.za6 l b) = true) := fun h => by rw [HSn.out, HQ.out.1, h]; rfl
      obtain ⟨v, hv⟩ : ∃ v, v = Gate.sumTo l b b.ls[k] b.ps.length := ⟨_, rfl⟩
      have HM2 : Hid (yF wr r f /\ Below w1.heap.size w1 wr /\ f b.ls[k].tm b.ls[k].rs = some v) := ⟨HM.out.1.mono hBr, hBr, by rw [hv]; exact HM.out.2 k hlt⟩
      have HV := hid hv
      clear hBr hBw HQ hv
      by_cases he : v = b.ls[k].mo
      · have e2 : (v != b.ls[k].mo) = false := by simp [he]
        have HN : Hid ((b.ls.take (k + 1)).all (Gate.za6 l b) = true) := HYes.out (by unfold Gate.za6; rw [decide_eq_true_eq, <- HV.out]; exact he)
        clear he
        go_wp2_with fail
        have hba := (Below.refl wr.heap.size wr).alloc (Nat.le_refl _) (.cells #[.string b.ls[k].tm, .string b.ls[k].rs, .int .i64 b.ls[k].mo, .int .i64 b.ls[k].fr] 126)
        have hT2 := zG wr #[.string b.ls[k].tm, .string b.ls[k].rs, .int .i64 b.ls[k].mo, .int .i64 b.ls[k].fr] 126
        have hzg : wr.heap.size < (wr.alloc (.cells #[.string b.ls[k].tm, .string b.ls[k].rs, .int .i64 b.ls[k].mo, .int .i64 b.ls[k].fr] 126)).heap.size := by simp
        obtain ⟨W2, hW2⟩ : ∃ W2, W2 = wr.alloc (.cells #[.string b.ls[k].tm, .string b.ls[k].rs, .int .i64 b.ls[k].mo, .int .i64 b.ls[k].fr] 126) := ⟨_, rfl⟩
        rw [<- hW2] at hba hT2 hzg ⊢
        clear hW2 d0 d1 d2 d3
        have hS2 := za hT2 hzg (Below.refl W2.heap.size W2).drew
        have hb := hba.trans ((Below.refl W2.heap.size W2).drew.mono hba.size)
        have hy2 := hzg
        clear hT2 hba
        go_region_held3 (fun w' => ∀ j, w'.cell? ⟨wr.heap.size, j, none⟩ = (#[.string b.ls[k].tm, .string b.ls[k].rs, .int .i64 b.ls[k].mo, .int .i64 b.ls[k].fr] : Array Value)[j]?) (exact fun j => by rw [hS2]) (first
          | (go_at_call 156; refine (zaX b.ls[k] _).mono ?_; rintro e w5 ⟨rfl, hb5⟩; have hS2 := za hS2 hy2 hb5; have hb := hb.trans (hb5.mono hb.size); have hf5 := HM2.out.1.mono hb; have hlk := hf5.look zbU Tryz.underlying219 b.ls[k].tm b.ls[k].rs hsm.tm hsm.rs false; rw [HM2.out.2.2] at hlk; unfold qB at hlk ⊢; simp only [Option.getD_some, Bool.false_eq_true, if_false] at hlk; clear hb5))
        go_wp2_with fail
        exact ⟨⟨k + 1, by omega, by go_num, HN.out, HM2.out.2.1.trans (hb.mono HM2.out.2.1.size)⟩, zm hlt⟩
      · have e2 : (v != b.ls[k].mo) = true := by simp [he]
        have HN : Hid (Gate.zbP l b = false) := HNo.out (by unfold Gate.za6; rw [decide_eq_false_iff_not, <- HV.out]; exact he)
        clear he
        go_wp2_with fail
        have hba := (Below.refl wr.heap.size wr).alloc (Nat.le_refl _) (.cells #[.string b.ls[k].tm, .string b.ls[k].rs, .int .i64 b.ls[k].mo, .int .i64 b.ls[k].fr] 126)
        have hT2 := zG wr #[.string b.ls[k].tm, .string b.ls[k].rs, .int .i64 b.ls[k].mo, .int .i64 b.ls[k].fr] 126
        have hzg : wr.heap.size < (wr.alloc (.cells #[.string b.ls[k].tm, .string b.ls[k].rs, .int .i64 b.ls[k].mo, .int .i64 b.ls[k].fr] 126)).heap.size := by simp
        obtain ⟨W2, hW2⟩ : ∃ W2, W2 = wr.alloc (.cells #[.string b.ls[k].tm, .string b.ls[k].rs, .int .i64 b.ls[k].mo, .int .i64 b.ls[k].fr] 126) := ⟨_, rfl⟩
        rw [<- hW2] at hba hT2 hzg ⊢
        clear hW2 d0 d1 d2 d3
        have hS2 := za hT2 hzg (Below.refl W2.heap.size W2).drew
        have hb := hba.trans ((Below.refl W2.heap.size W2).drew.mono hba.size)
        have hy2 := hzg
        clear hT2 hba
        go_region_held3 (fun w' => ∀ j, w'.cell? ⟨wr.heap.size, j, none⟩ = (#[.string b.ls[k].tm, .string b.ls[k].rs, .int .i64 b.ls[k].mo, .int .i64 b.ls[k].fr] : Array Value)[j]?) (exact fun j => by rw [hS2]) (first
          | (go_at_call 156; refine (zaX b.ls[k] _).mono ?_; rintro e w5 ⟨rfl, hb5⟩; have hS2 := za hS2 hy2 hb5; have hb := hb.trans (hb5.mono hb.size); have hf5 := HM2.out.1.mono hb; have hlk := hf5.look zbU Tryz.underlying219 b.ls[k].tm b.ls[k].rs hsm.tm hsm.rs false; rw [HM2.out.2.2] at hlk; unfold qB at hlk ⊢; simp only [Option.getD_some, Bool.false_eq_true, if_false] at hlk; clear hb5))
        go_wp2_with fail
        go_ret
        have h9 := HM2.out.2.1.trans (hb.mono HM2.out.2.1.size)
        exact ⟨ze HN.out.symm, HB1.out.trans (h9.mono HB1.out.size)⟩
    · have e : k = b.ls.length := by omega
      subst e
      have HE : Hid (Gate.zbP l b = true) := by have := HQ.out.1; rw [List.take_of_length_le (Nat.le_refl _)] at this; unfold Hid; rw [HG.out]; exact this
      have HB := hid HQ.out.2
      clear HQ hlt hk
      go_wp2_with fail
      go_ret
      exact ⟨ze HE.out.symm, HB1.out.trans (HB.out.mono HB1.out.size)⟩
end Go.Proofs.YtfapkhgallmkdaaGreat
