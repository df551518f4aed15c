import Derived.Test.YtmfgjafdnopfbaaGreatM25
import Derived.Test.YtmfgjafdnopfbaaGreatM06
import Derived.Test.YtmfgjafdnopfbaaGreatM01
import Derived.Test.YtmfgjafdnopfbaaGreatM04
import Derived.Test.YtmfgjafdnopfbaaGreatM15
import Derived.Test.YtmfgjafdnopfbaaGreatM09
import Derived.Test.YtmfgjafdnopfbaaGreatM08
import Derived.Deep.RegionHeld3
import Derived.Laws.IdiomStrings
import Derived.Deep.OwnRows
import Derived.MapKept
import Derived.Deep.QuietTactic
import Derived.BigQuiet
import Derived.Deep.RegionWith
import Derived.Test.YtmfgjafdnopfbaaGreatM36
import Derived.Test.YtmfgjafdnopfbaaGreatM33
import Derived.Test.YtmfgjafdnopfbaaGreatM35
import Derived.Test.YtmfgjafdnopfbaaGreatM24
import Derived.Test.YtmfgjafdnopfbaaGreatM34
namespace Go.Proofs.YtmfgjafdnopfbaaGreat
open Go.RowKit
end Go.Proofs.YtmfgjafdnopfbaaGreat

namespace Go.Proofs.YtmfgjafdnopfbaaGreat
open Go.RowKit
namespace Gate
theorem zaA (ss : List Shp) (o : Ob) : (qz ss o).length = o.vs.length := by
  unfold qz
  split
  · rename_i h; unfold yL at h; simp only [Bool.and_eq_true, decide_eq_true_eq] at h; exact qo h.2
  · rfl
theorem zed {ss : List Shp} {ms : List Mnd} (h : yh ss ms = true) : zT ss = true := by
  unfold yh at h; simp only [Bool.and_eq_true] at h; exact h.1.1.2
theorem zf2 {ss : List Shp} {ms : List Mnd} {o : Ob} (h : yh ss ms = true) : zC ss ms o = yJ ss ms ⟨o.kd, o.nm, o.tm, qz ss o, o.en, o.hs, o.vr⟩ := by
  have e : zJ ss ms ⟨o.kd, o.nm, o.tm, qz ss o, o.en, o.hs, o.vr⟩ = zJ ss ms o := by
    unfold zJ; simp only [zaA]
  unfold zC yJ
  rw [e]
  by_cases hm : zJ ss ms o = true
  · rw [if_pos hm, if_pos hm]
    have hc : yL ss o = true := by rw [<- zaG h]; exact hm
    unfold qA qz
    rw [if_pos hc]
  · rw [if_neg hm, if_neg hm]
    have hc : ¬ yL ss o = true := by rw [<- zaG h]; exact hm
    show o.vs = qz ss o
    unfold qz
    rw [if_neg hc]
end Gate
theorem zgn (a0 ma : Option Addr) (cap0 mcap : Nat) (ss : List Shp) (ms : List Mnd) (o : Ob) (us : List ByteArray) (hus : us.length = o.vs.length) (b off b' off' cap cap' : Nat) (w : World) (hw : yG w a0 ss) (hm : qg w ma ms) (hsm : o.Small) (ho : zZ w (some ⟨b, off, none⟩) us) (ho' : zZ w (some ⟨b', off', none⟩) o.hs) (hl : o.vs.length <= 1048576) (hl' : o.hs.length <= 1048576) (hok : Gate.yh ss ms = true) :
    Calls Tryz.prog 38 #[.slice a0 ss.length cap0, .slice ma ms.length mcap, .agg #[.string o.kd, .string o.nm, .string o.tm, .slice (some ⟨b, off, none⟩) o.vs.length cap, .bool o.en, .slice (some ⟨b', off', none⟩) o.hs.length cap', .int .i64 o.vr]] w (jB o (Gate.yJ ss ms ⟨o.kd, o.nm, o.tm, us, o.en, o.hs, o.vr⟩) w) := by
  have h := zft a0 ma cap0 mcap ss ms ⟨o.kd, o.nm, o.tm, us, o.en, o.hs, o.vr⟩ b off b' off' cap cap' w hw hm ⟨⟨hsm.kd, hsm.nm, hsm.tm⟩, ho, ho'⟩ (by show us.length <= _; omega) hl' hok
  unfold jB at h ⊢
  simp only [hus] at h
  exact h
end Go.Proofs.YtmfgjafdnopfbaaGreat

namespace Go.Proofs.YtmfgjafdnopfbaaGreat
open Go.RowKit
set_option maxHeartbeats 2000000 in
theorem zfF (a0 : Option Addr) (cap0 : Nat) (ss : List Shp) (o : Ob) (va ha : Option Addr) (cap cap' : Nat) (w : World) (hw : yG w a0 ss) (ho : qX w o va ha) (_hA : jO va o.vs) (_hA' : jO ha o.hs) (hl : o.vs.length <= 1048576) (hl' : o.hs.length <= 1048576) :
    Calls Tryz.prog 10 #[.slice a0 ss.length cap0, .agg #[.string o.kd, .string o.nm, .string o.tm, .slice va o.vs.length cap, .bool o.en, .slice ha o.hs.length cap', .int .i64 o.vr]] w (jB o (Gate.jh ss o) w) := by
  by_cases hk : Gate.zy ss o.kd = true
  rotate_left
  · have hk : Gate.zy ss o.kd = false := by simpa using hk
    have HRES : Hid (Gate.jh ss o = o.vs) := by unfold Hid Gate.jh; rw [if_neg]; rintro ⟨h, _⟩; rw [hk] at h; cases h
    have HH : Hid (qX w o va ha) := ho
    clear ho
    go_enter Tryz.func10, Tryz.ntmps10
    go_wp2_with fail
    have h1 := qN a0 cap0 ss o.kd _ (hw.mono (yC w (.cells #[.string o.kd, .string o.nm, .string o.tm, .slice va o.vs.length cap, .bool o.en, .slice ha o.hs.length cap', .int .i64 o.vr] 27) (.cells #[.string ByteArray.empty, .string ByteArray.empty, .string ByteArray.empty, .slice none 0 0, .bool false, .slice none 0 0, .int .i64 0] 27)))
    rw [hk] at h1
    refine h1.mono ?_
    rintro e w1 ⟨fa, fcap, rfl, hfl0, hb1⟩
    have HFL : Hid (yc w1 fa (Gate.shapeOf ss o.kd).fs) := hfl0.mono hb1
    have HO1 : Hid (w1.heap[w.heap.size]? = some (.cells #[.string o.kd, .string o.nm, .string o.tm, .slice va o.vs.length cap, .bool o.en, .slice ha o.hs.length cap', .int .i64 o.vr] 27)) := (hb1.block w.heap.size (by simp; omega)).trans (zq _ _ _).1
    have HR1 : Hid (w1.heap[w.heap.size + 1]? = some (.cells #[.string ByteArray.empty, .string ByteArray.empty, .string ByteArray.empty, .slice none 0 0, .bool false, .slice none 0 0, .int .i64 0] 27)) := (hb1.block (w.heap.size + 1) (by simp)).trans (zq _ _ _).2
    have hX1 : ∀ j, w1.cell? ⟨w.heap.size, j, none⟩ = (#[.string o.kd, .string o.nm, .string o.tm, .slice va o.vs.length cap, .bool o.en, .slice ha o.hs.length cap', .int .i64 o.vr] : Array Value)[j]? := fun j => cell_of_block HO1.out
    have hz1 : w.heap.size + 1 < w1.heap.size := by have := hb1.size; simp at this; omega
    have hz0 : w.heap.size < w1.heap.size := by omega
    have hB1 : Below w.heap.size w w1 := (yC _ _ _).trans (hb1.mono (by simp; omega))
    have hlen := HFL.out.len
    unfold maxLen at hlen
    clear h1 hb1 hfl0
    go_wp2_with fail
    have hbs := (Below.refl w1.heap.size w1).alloc (Nat.le_refl _) (.cells #[.string (Gate.shapeOf ss o.kd).kd, .slice fa (Gate.shapeOf ss o.kd).fs.length fcap] 45)
    have hRW := (hbs.block _ hz1).trans HR1.out
    have hzW : w.heap.size + 1 < (w1.alloc (.cells #[.string (Gate.shapeOf ss o.kd).kd, .slice fa (Gate.shapeOf ss o.kd).fs.length fcap] 45)).heap.size := Nat.lt_of_lt_of_le hz1 hbs.size
    have hBW := hB1.trans (hbs.mono hB1.size)
    clear hbs
    refine (jF o va ha cap cap' _ (HH.out.mono hBW) hl hl').mono ?_
    rintro e w4 ⟨a, dap, a', dap', m, rfl, ht, hm, hsm, ht', hb4⟩
    have hR4 : w4.heap[w.heap.size + 1]? = some (.cells #[.string ByteArray.empty, .string ByteArray.empty, .string ByteArray.empty, .slice none 0 0, .bool false, .slice none 0 0, .int .i64 0] 27) := (hb4.block (w.heap.size + 1) hzW).trans hRW
    have hRc : ∀ j, w4.cell? ⟨w.heap.size + 1, j, none⟩ = (#[.string ByteArray.empty, .string ByteArray.empty, .string ByteArray.empty, .slice none 0 0, .bool false, .slice none 0 0, .int .i64 0] : Array Value)[j]? := fun j => cell_of_block hR4
    have hRf : ∀ j, w4.frozen? ⟨w.heap.size + 1, j, none⟩ = false := fun j => za hR4
    have HX : Hid (zk (w.heap.size + 1 + 1) w4 a (o.vs) /\ (∀ g, a = some g -> g.block < m) /\ w.heap.size + 1 + 1 <= m /\ zk m w4 a' o.hs /\ Below w.heap.size w w4) := ⟨ht.low hzW, hm, Nat.le_trans hzW hsm, ht', hBW.trans (hb4.mono hBW.size)⟩
    clear ht hm hsm ht' hb4 hR4 hBW hRW
    go_wp2_with fail
    refine bodyPost_ret (v := (.agg #[.string o.kd, .string o.nm, .string o.tm, .slice a o.vs.length dap, .bool o.en, .slice a' o.hs.length dap', .int .i64 o.vr])) (by simp [results, Tryz.results10, go_sem, hRc]) rfl ?_
    obtain ⟨ht, hm, hsm, ht', hB⟩ := HX.out
    rw [HRES.out]
    exact ⟨a, dap, a', dap', m, rfl, (yB ht _ (by omega) _ _ _ _ _ _ _).low (by omega), hm, by omega, yB ht' _ (by omega) _ _ _ _ _ _ _, qm hB _ (by omega) _ _ _ _ _ _ _⟩

  by_cases hok : Gate.zT ss = true
  rotate_left
  · have hok : Gate.zT ss = false := by simpa using hok
    have HRES : Hid (Gate.jh ss o = o.vs) := by unfold Hid Gate.jh; rw [if_neg]; rintro ⟨_, h, _⟩; rw [hok] at h; cases h
    have HH : Hid (qX w o va ha) := ho
    clear ho
    go_enter Tryz.func10, Tryz.ntmps10
    go_wp2_with fail
    have h1 := qN a0 cap0 ss o.kd _ (hw.mono (yC w (.cells #[.string o.kd, .string o.nm, .string o.tm, .slice va o.vs.length cap, .bool o.en, .slice ha o.hs.length cap', .int .i64 o.vr] 27) (.cells #[.string ByteArray.empty, .string ByteArray.empty, .string ByteArray.empty, .slice none 0 0, .bool false, .slice none 0 0, .int .i64 0] 27)))
    rw [hk] at h1
    refine h1.mono ?_
    rintro e w1 ⟨fa, fcap, rfl, hfl0, hb1⟩
    have HFL : Hid (yc w1 fa (Gate.shapeOf ss o.kd).fs) := hfl0.mono hb1
    have HO1 : Hid (w1.heap[w.heap.size]? = some (.cells #[.string o.kd, .string o.nm, .string o.tm, .slice va o.vs.length cap, .bool o.en, .slice ha o.hs.length cap', .int .i64 o.vr] 27)) := (hb1.block w.heap.size (by simp; omega)).trans (zq _ _ _).1
    have HR1 : Hid (w1.heap[w.heap.size + 1]? = some (.cells #[.string ByteArray.empty, .string ByteArray.empty, .string ByteArray.empty, .slice none 0 0, .bool false, .slice none 0 0, .int .i64 0] 27)) := (hb1.block (w.heap.size + 1) (by simp)).trans (zq _ _ _).2
    have hX1 : ∀ j, w1.cell? ⟨w.heap.size, j, none⟩ = (#[.string o.kd, .string o.nm, .string o.tm, .slice va o.vs.length cap, .bool o.en, .slice ha o.hs.length cap', .int .i64 o.vr] : Array Value)[j]? := fun j => cell_of_block HO1.out
    have hz1 : w.heap.size + 1 < w1.heap.size := by have := hb1.size; simp at this; omega
    have hz0 : w.heap.size < w1.heap.size := by omega
    have hB1 : Below w.heap.size w w1 := (yC _ _ _).trans (hb1.mono (by simp; omega))
    have hlen := HFL.out.len
    unfold maxLen at hlen
    clear h1 hb1 hfl0
    go_wp2_with fail
    have hbs := (Below.refl w1.heap.size w1).alloc (Nat.le_refl _) (.cells #[.string (Gate.shapeOf ss o.kd).kd, .slice fa (Gate.shapeOf ss o.kd).fs.length fcap] 45)
    have hBs := hB1.trans (hbs.mono hB1.size)
    have h2 := jG a0 cap0 ss _ (hw.mono hBs)
    rw [hok] at h2
    refine h2.mono ?_
    rintro e w2 ⟨rfl, hb2⟩
    have hRW := (hb2.block _ (Nat.lt_of_lt_of_le hz1 hbs.size)).trans ((hbs.block _ hz1).trans HR1.out)
    have hX2 : ∀ j, w2.cell? ⟨w.heap.size, j, none⟩ = (#[.string o.kd, .string o.nm, .string o.tm, .slice va o.vs.length cap, .bool o.en, .slice ha o.hs.length cap', .int .i64 o.vr] : Array Value)[j]? := fun j => cell_of_block ((hb2.block _ (Nat.lt_of_lt_of_le hz0 hbs.size)).trans ((hbs.block _ hz0).trans HO1.out))
    have hS2 : ∀ j, w2.cell? ⟨w1.heap.size, j, none⟩ = (#[.string (Gate.shapeOf ss o.kd).kd, .slice fa (Gate.shapeOf ss o.kd).fs.length fcap] : Array Value)[j]? := ze (zo w1 _ _) (by simp) hb2
    have hzW : w.heap.size + 1 < w2.heap.size := Nat.lt_of_lt_of_le (Nat.lt_of_lt_of_le hz1 hbs.size) hb2.size
    have HF2 : Hid (yc w2 fa (Gate.shapeOf ss o.kd).fs) := (HFL.out.mono hbs).mono hb2
    have hBW := hBs.trans (hb2.mono hBs.size)
    clear h2 hbs hBs hb2 hX1
    go_wp2_with fail
    refine (jF o va ha cap cap' _ (HH.out.mono hBW) hl hl').mono ?_
    rintro e w4 ⟨a, dap, a', dap', m, rfl, ht, hm, hsm, ht', hb4⟩
    have hR4 : w4.heap[w.heap.size + 1]? = some (.cells #[.string ByteArray.empty, .string ByteArray.empty, .string ByteArray.empty, .slice none 0 0, .bool false, .slice none 0 0, .int .i64 0] 27) := (hb4.block (w.heap.size + 1) hzW).trans hRW
    have hRc : ∀ j, w4.cell? ⟨w.heap.size + 1, j, none⟩ = (#[.string ByteArray.empty, .string ByteArray.empty, .string ByteArray.empty, .slice none 0 0, .bool false, .slice none 0 0, .int .i64 0] : Array Value)[j]? := fun j => cell_of_block hR4
    have hRf : ∀ j, w4.frozen? ⟨w.heap.size + 1, j, none⟩ = false := fun j => za hR4
    have HX : Hid (zk (w.heap.size + 1 + 1) w4 a (o.vs) /\ (∀ g, a = some g -> g.block < m) /\ w.heap.size + 1 + 1 <= m /\ zk m w4 a' o.hs /\ Below w.heap.size w w4) := ⟨ht.low hzW, hm, Nat.le_trans hzW hsm, ht', hBW.trans (hb4.mono hBW.size)⟩
    clear ht hm hsm ht' hb4 hR4 hBW hRW
    go_wp2_with fail
    refine bodyPost_ret (v := (.agg #[.string o.kd, .string o.nm, .string o.tm, .slice a o.vs.length dap, .bool o.en, .slice a' o.hs.length dap', .int .i64 o.vr])) (by simp [results, Tryz.results10, go_sem, hRc]) rfl ?_
    obtain ⟨ht, hm, hsm, ht', hB⟩ := HX.out
    rw [HRES.out]
    exact ⟨a, dap, a', dap', m, rfl, (yB ht _ (by omega) _ _ _ _ _ _ _).low (by omega), hm, by omega, yB ht' _ (by omega) _ _ _ _ _ _ _, qm hB _ (by omega) _ _ _ _ _ _ _⟩

  by_cases hc : o.vs.length = (Gate.shapeOf ss o.kd).fs.length
  rotate_left
  · have HRES : Hid (Gate.jh ss o = o.vs) := by unfold Hid Gate.jh; rw [if_neg]; rintro ⟨_, _, h⟩; exact hc h
    have hcI : ((o.vs.length : Int) != ((Gate.shapeOf ss o.kd).fs.length : Int)) = true := by rw [bne_iff_ne]; omega
    have HH : Hid (qX w o va ha) := ho
    clear ho
    go_enter Tryz.func10, Tryz.ntmps10
    go_wp2_with fail
    have h1 := qN a0 cap0 ss o.kd _ (hw.mono (yC w (.cells #[.string o.kd, .string o.nm, .string o.tm, .slice va o.vs.length cap, .bool o.en, .slice ha o.hs.length cap', .int .i64 o.vr] 27) (.cells #[.string ByteArray.empty, .string ByteArray.empty, .string ByteArray.empty, .slice none 0 0, .bool false, .slice none 0 0, .int .i64 0] 27)))
    rw [hk] at h1
    refine h1.mono ?_
    rintro e w1 ⟨fa, fcap, rfl, hfl0, hb1⟩
    have HFL : Hid (yc w1 fa (Gate.shapeOf ss o.kd).fs) := hfl0.mono hb1
    have HO1 : Hid (w1.heap[w.heap.size]? = some (.cells #[.string o.kd, .string o.nm, .string o.tm, .slice va o.vs.length cap, .bool o.en, .slice ha o.hs.length cap', .int .i64 o.vr] 27)) := (hb1.block w.heap.size (by simp; omega)).trans (zq _ _ _).1
    have HR1 : Hid (w1.heap[w.heap.size + 1]? = some (.cells #[.string ByteArray.empty, .string ByteArray.empty, .string ByteArray.empty, .slice none 0 0, .bool false, .slice none 0 0, .int .i64 0] 27)) := (hb1.block (w.heap.size + 1) (by simp)).trans (zq _ _ _).2
    have hX1 : ∀ j, w1.cell? ⟨w.heap.size, j, none⟩ = (#[.string o.kd, .string o.nm, .string o.tm, .slice va o.vs.length cap, .bool o.en, .slice ha o.hs.length cap', .int .i64 o.vr] : Array Value)[j]? := fun j => cell_of_block HO1.out
    have hz1 : w.heap.size + 1 < w1.heap.size := by have := hb1.size; simp at this; omega
    have hz0 : w.heap.size < w1.heap.size := by omega
    have hB1 : Below w.heap.size w w1 := (yC _ _ _).trans (hb1.mono (by simp; omega))
    have hlen := HFL.out.len
    unfold maxLen at hlen
    clear h1 hb1 hfl0
    go_wp2_with fail
    have hbs := (Below.refl w1.heap.size w1).alloc (Nat.le_refl _) (.cells #[.string (Gate.shapeOf ss o.kd).kd, .slice fa (Gate.shapeOf ss o.kd).fs.length fcap] 45)
    have hBs := hB1.trans (hbs.mono hB1.size)
    have h2 := jG a0 cap0 ss _ (hw.mono hBs)
    rw [hok] at h2
    refine h2.mono ?_
    rintro e w2 ⟨rfl, hb2⟩
    have hRW := (hb2.block _ (Nat.lt_of_lt_of_le hz1 hbs.size)).trans ((hbs.block _ hz1).trans HR1.out)
    have hX2 : ∀ j, w2.cell? ⟨w.heap.size, j, none⟩ = (#[.string o.kd, .string o.nm, .string o.tm, .slice va o.vs.length cap, .bool o.en, .slice ha o.hs.length cap', .int .i64 o.vr] : Array Value)[j]? := fun j => cell_of_block ((hb2.block _ (Nat.lt_of_lt_of_le hz0 hbs.size)).trans ((hbs.block _ hz0).trans HO1.out))
    have hS2 : ∀ j, w2.cell? ⟨w1.heap.size, j, none⟩ = (#[.string (Gate.shapeOf ss o.kd).kd, .slice fa (Gate.shapeOf ss o.kd).fs.length fcap] : Array Value)[j]? := ze (zo w1 _ _) (by simp) hb2
    have hzW : w.heap.size + 1 < w2.heap.size := Nat.lt_of_lt_of_le (Nat.lt_of_lt_of_le hz1 hbs.size) hb2.size
    have HF2 : Hid (yc w2 fa (Gate.shapeOf ss o.kd).fs) := (HFL.out.mono hbs).mono hb2
    have hBW := hBs.trans (hb2.mono hBs.size)
    clear h2 hbs hBs hb2 hX1
    go_wp2_with fail
    refine (jF o va ha cap cap' _ (HH.out.mono hBW) hl hl').mono ?_
    rintro e w4 ⟨a, dap, a', dap', m, rfl, ht, hm, hsm, ht', hb4⟩
    have hR4 : w4.heap[w.heap.size + 1]? = some (.cells #[.string ByteArray.empty, .string ByteArray.empty, .string ByteArray.empty, .slice none 0 0, .bool false, .slice none 0 0, .int .i64 0] 27) := (hb4.block (w.heap.size + 1) hzW).trans hRW
    have hRc : ∀ j, w4.cell? ⟨w.heap.size + 1, j, none⟩ = (#[.string ByteArray.empty, .string ByteArray.empty, .string ByteArray.empty, .slice none 0 0, .bool false, .slice none 0 0, .int .i64 0] : Array Value)[j]? := fun j => cell_of_block hR4
    have hRf : ∀ j, w4.frozen? ⟨w.heap.size + 1, j, none⟩ = false := fun j => za hR4
    have HX : Hid (zk (w.heap.size + 1 + 1) w4 a (o.vs) /\ (∀ g, a = some g -> g.block < m) /\ w.heap.size + 1 + 1 <= m /\ zk m w4 a' o.hs /\ Below w.heap.size w w4) := ⟨ht.low hzW, hm, Nat.le_trans hzW hsm, ht', hBW.trans (hb4.mono hBW.size)⟩
    clear ht hm hsm ht' hb4 hR4 hBW hRW
    go_wp2_with fail
    refine bodyPost_ret (v := (.agg #[.string o.kd, .string o.nm, .string o.tm, .slice a o.vs.length dap, .bool o.en, .slice a' o.hs.length dap', .int .i64 o.vr])) (by simp [results, Tryz.results10, go_sem, hRc]) rfl ?_
    obtain ⟨ht, hm, hsm, ht', hB⟩ := HX.out
    rw [HRES.out]
    exact ⟨a, dap, a', dap', m, rfl, (yB ht _ (by omega) _ _ _ _ _ _ _).low (by omega), hm, by omega, yB ht' _ (by omega) _ _ _ _ _ _ _, qm hB _ (by omega) _ _ _ _ _ _ _⟩

  have HRES : Hid (Gate.jh ss o = Gate.qG (Gate.shapeOf ss o.kd).fs o.vs) := by unfold Hid Gate.jh; rw [if_pos ⟨hk, hok, hc⟩]
  have HCC : Hid (o.vs.length = (Gate.shapeOf ss o.kd).fs.length) := hc
  have hcI : ((o.vs.length : Int) != ((Gate.shapeOf ss o.kd).fs.length : Int)) = false := by rw [hc]; simp
  clear hc
  have HH : Hid (qX w o va ha) := ho
  clear ho
  go_enter Tryz.func10, Tryz.ntmps10
  go_wp2_with fail
  have h1 := qN a0 cap0 ss o.kd _ (hw.mono (yC w (.cells #[.string o.kd, .string o.nm, .string o.tm, .slice va o.vs.length cap, .bool o.en, .slice ha o.hs.length cap', .int .i64 o.vr] 27) (.cells #[.string ByteArray.empty, .string ByteArray.empty, .string ByteArray.empty, .slice none 0 0, .bool false, .slice none 0 0, .int .i64 0] 27)))
  rw [hk] at h1
  refine h1.mono ?_
  rintro e w1 ⟨fa, fcap, rfl, hfl0, hb1⟩
  have HFL : Hid (yc w1 fa (Gate.shapeOf ss o.kd).fs) := hfl0.mono hb1
  have HO1 : Hid (w1.heap[w.heap.size]? = some (.cells #[.string o.kd, .string o.nm, .string o.tm, .slice va o.vs.length cap, .bool o.en, .slice ha o.hs.length cap', .int .i64 o.vr] 27)) := (hb1.block w.heap.size (by simp; omega)).trans (zq _ _ _).1
  have HR1 : Hid (w1.heap[w.heap.size + 1]? = some (.cells #[.string ByteArray.empty, .string ByteArray.empty, .string ByteArray.empty, .slice none 0 0, .bool false, .slice none 0 0, .int .i64 0] 27)) := (hb1.block (w.heap.size + 1) (by simp)).trans (zq _ _ _).2
  have hX1 : ∀ j, w1.cell? ⟨w.heap.size, j, none⟩ = (#[.string o.kd, .string o.nm, .string o.tm, .slice va o.vs.length cap, .bool o.en, .slice ha o.hs.length cap', .int .i64 o.vr] : Array Value)[j]? := fun j => cell_of_block HO1.out
  have hz1 : w.heap.size + 1 < w1.heap.size := by have := hb1.size; simp at this; omega
  have hz0 : w.heap.size < w1.heap.size := by omega
  have hB1 : Below w.heap.size w w1 := (yC _ _ _).trans (hb1.mono (by simp; omega))
  have hlen := HFL.out.len
  unfold maxLen at hlen
  clear h1 hb1 hfl0
  go_wp2_with fail
  have hbs := (Below.refl w1.heap.size w1).alloc (Nat.le_refl _) (.cells #[.string (Gate.shapeOf ss o.kd).kd, .slice fa (Gate.shapeOf ss o.kd).fs.length fcap] 45)
  have hBs := hB1.trans (hbs.mono hB1.size)
  have h2 := jG a0 cap0 ss _ (hw.mono hBs)
  rw [hok] at h2
  refine h2.mono ?_
  rintro e w2 ⟨rfl, hb2⟩
  have hRW := (hb2.block _ (Nat.lt_of_lt_of_le hz1 hbs.size)).trans ((hbs.block _ hz1).trans HR1.out)
  have hX2 : ∀ j, w2.cell? ⟨w.heap.size, j, none⟩ = (#[.string o.kd, .string o.nm, .string o.tm, .slice va o.vs.length cap, .bool o.en, .slice ha o.hs.length cap', .int .i64 o.vr] : Array Value)[j]? := fun j => cell_of_block ((hb2.block _ (Nat.lt_of_lt_of_le hz0 hbs.size)).trans ((hbs.block _ hz0).trans HO1.out))
  have hS2 : ∀ j, w2.cell? ⟨w1.heap.size, j, none⟩ = (#[.string (Gate.shapeOf ss o.kd).kd, .slice fa (Gate.shapeOf ss o.kd).fs.length fcap] : Array Value)[j]? := ze (zo w1 _ _) (by simp) hb2
  have hzW : w.heap.size + 1 < w2.heap.size := Nat.lt_of_lt_of_le (Nat.lt_of_lt_of_le hz1 hbs.size) hb2.size
  have HF2 : Hid (yc w2 fa (Gate.shapeOf ss o.kd).fs) := (HFL.out.mono hbs).mono hb2
  have hBW := hBs.trans (hb2.mono hBs.size)
  clear h2 hbs hBs hb2 hX1
  go_wp2_with fail
  refine (zeG o _ _ fa va ha fcap cap cap' _ HF2.out (HH.out.mono hBW) hl hl' HCC.out).mono ?_
  rintro e w4 ⟨a, dap, a', dap', m, rfl, ht, hm, hsm, ht', hb4⟩
  have hR4 : w4.heap[w.heap.size + 1]? = some (.cells #[.string ByteArray.empty, .string ByteArray.empty, .string ByteArray.empty, .slice none 0 0, .bool false, .slice none 0 0, .int .i64 0] 27) := (hb4.block (w.heap.size + 1) hzW).trans hRW
  have hRc : ∀ j, w4.cell? ⟨w.heap.size + 1, j, none⟩ = (#[.string ByteArray.empty, .string ByteArray.empty, .string ByteArray.empty, .slice none 0 0, .bool false, .slice none 0 0, .int .i64 0] : Array Value)[j]? := fun j => cell_of_block hR4
  have hRf : ∀ j, w4.frozen? ⟨w.heap.size + 1, j, none⟩ = false := fun j => za hR4
  have HX : Hid (zk (w.heap.size + 1 + 1) w4 a (Gate.qG (Gate.shapeOf ss o.kd).fs o.vs) /\ (∀ g, a = some g -> g.block < m) /\ w.heap.size + 1 + 1 <= m /\ zk m w4 a' o.hs /\ Below w.heap.size w w4) := ⟨ht.low hzW, hm, Nat.le_trans hzW hsm, ht', hBW.trans (hb4.mono hBW.size)⟩
  clear ht hm hsm ht' hb4 hR4 hBW hRW
  go_wp2_with fail
  refine bodyPost_ret (v := (.agg #[.string o.kd, .string o.nm, .string o.tm, .slice a o.vs.length dap, .bool o.en, .slice a' o.hs.length dap', .int .i64 o.vr])) (by simp [results, Tryz.results10, go_sem, hRc]) rfl ?_
  obtain ⟨ht, hm, hsm, ht', hB⟩ := HX.out
  rw [HRES.out]
  exact ⟨a, dap, a', dap', m, rfl, (yB ht _ (by omega) _ _ _ _ _ _ _).low (by omega), hm, by omega, yB ht' _ (by omega) _ _ _ _ _ _ _, qm hB _ (by omega) _ _ _ _ _ _ _⟩
set_option maxHeartbeats 4000000 in
theorem jE (a0 ma : Option Addr) (cap0 mcap : Nat) (ss : List Shp) (ms : List Mnd) (o : Ob) (va ha : Option Addr) (cap cap' : Nat) (w : World) (hw : yG w a0 ss) (hm : qg w ma ms) (ho : qX w o va ha) (hA : jO va o.vs) (hA' : jO ha o.hs) (hl : o.vs.length <= 1048576) (hl' : o.hs.length <= 1048576) (hml : ms.length <= 1048576) :
    Calls Tryz.prog 9 #[.slice a0 ss.length cap0, .slice ma ms.length mcap, .agg #[.string o.kd, .string o.nm, .string o.tm, .slice va o.vs.length cap, .bool o.en, .slice ha o.hs.length cap', .int .i64 o.vr]] w (jB o (Gate.yJ ss ms o) w) := by
  have HH : Hid (yG w a0 ss /\ qg w ma ms /\ qX w o va ha /\ o.vs.length <= maxLen) := ⟨hw, hm, ho, ho.vals.len⟩
  clear hw hm ho
  by_cases hmd : Gate.zJ ss ms o = true
  · have hmd : Gate.zJ ss ms o = true := hmd

    have HFA : Hid _ := Gate.je hmd
    have HRES : Hid (Gate.yJ ss ms o = Gate.jl ss ms o) := by unfold Hid Gate.yJ; rw [if_pos hmd]
    go_enter Tryz.func9, Tryz.ntmps9
    go_wp2_with fail
    have hb2 := yC w (.cells #[.string o.kd, .string o.nm, .string o.tm, .slice va o.vs.length cap, .bool o.en, .slice ha o.hs.length cap', .int .i64 o.vr] 27) (.cells #[.string ByteArray.empty, .string ByteArray.empty, .string ByteArray.empty, .slice none 0 0, .bool false, .slice none 0 0, .int .i64 0] 27)
    have h1 := zaD a0 ma cap0 mcap ss ms o va ha cap cap' _ (HH.out.1.mono hb2) (HH.out.2.1.mono hb2) hml HH.out.2.2.2
    rw [hmd] at h1
    refine h1.mono ?_
    rintro e w1 ⟨fa, fcap, rfl, hfl0, hb1⟩
    have HFL : Hid (yc w1 fa (Gate.shapeOf ss o.kd).fs) := hfl0.mono hb1
    have HO1 : Hid (w1.heap[w.heap.size]? = some (.cells #[.string o.kd, .string o.nm, .string o.tm, .slice va o.vs.length cap, .bool o.en, .slice ha o.hs.length cap', .int .i64 o.vr] 27)) := (hb1.block w.heap.size (by simp; omega)).trans (zq _ _ _).1
    have HR1 : Hid (w1.heap[w.heap.size + 1]? = some (.cells #[.string ByteArray.empty, .string ByteArray.empty, .string ByteArray.empty, .slice none 0 0, .bool false, .slice none 0 0, .int .i64 0] 27)) := (hb1.block (w.heap.size + 1) (by simp)).trans (zq _ _ _).2
    have hX1 : ∀ j, w1.cell? ⟨w.heap.size, j, none⟩ = (#[.string o.kd, .string o.nm, .string o.tm, .slice va o.vs.length cap, .bool o.en, .slice ha o.hs.length cap', .int .i64 o.vr] : Array Value)[j]? := fun j => cell_of_block HO1.out
    have hz1 : w.heap.size + 1 < w1.heap.size := by have := hb1.size; simp at this; omega
    have hz0 : w.heap.size < w1.heap.size := by omega
    have hB1 : Below w.heap.size w w1 := hb2.trans (hb1.mono (by simp; omega))
    clear h1 hb1 hfl0 hb2 hmd
    go_wp2_with fail
    have hbs := (Below.refl w1.heap.size w1).alloc (Nat.le_refl _) (.cells #[.string (Gate.shapeOf ss o.kd).kd, .slice fa (Gate.shapeOf ss o.kd).fs.length fcap] 45)
    have hRW := (hbs.block _ hz1).trans HR1.out
    have hzW : w.heap.size + 1 < (w1.alloc (.cells #[.string (Gate.shapeOf ss o.kd).kd, .slice fa (Gate.shapeOf ss o.kd).fs.length fcap] 45)).heap.size := Nat.lt_of_lt_of_le hz1 hbs.size
    have hBW := hB1.trans (hbs.mono hB1.size)
    have hFW := HFL.out.mono hbs
    clear hbs
    refine (zei o (Gate.shapeOf ss o.kd) ms fa ma va ha fcap mcap cap cap' _ hFW (HH.out.2.1.mono hBW) (HH.out.2.2.1.mono hBW) hA hA' hl hl' HFA.out.1 hml HFA.out.2.1 HFA.out.2.2.1 HFA.out.2.2.2).mono ?_
    rintro e w4 ⟨a, dap, a', dap', m, rfl, ht, hm, hsm, ht', hb4⟩
    have hR4 : w4.heap[w.heap.size + 1]? = some (.cells #[.string ByteArray.empty, .string ByteArray.empty, .string ByteArray.empty, .slice none 0 0, .bool false, .slice none 0 0, .int .i64 0] 27) := (hb4.block (w.heap.size + 1) hzW).trans hRW
    have hRc : ∀ j, w4.cell? ⟨w.heap.size + 1, j, none⟩ = (#[.string ByteArray.empty, .string ByteArray.empty, .string ByteArray.empty, .slice none 0 0, .bool false, .slice none 0 0, .int .i64 0] : Array Value)[j]? := fun j => cell_of_block hR4
    have hRf : ∀ j, w4.frozen? ⟨w.heap.size + 1, j, none⟩ = false := fun j => za hR4
    have HX : Hid (zk (w.heap.size + 1 + 1) w4 a (Gate.jl ss ms o) /\ (∀ g, a = some g -> g.block < m) /\ w.heap.size + 1 + 1 <= m /\ zk m w4 a' o.hs /\ Below w.heap.size w w4) := ⟨ht.low hzW, hm, Nat.le_trans hzW hsm, ht', hBW.trans (hb4.mono hBW.size)⟩
    clear ht hm hsm ht' hb4 hR4 hBW hRW hFW
    go_wp2_with fail
    refine bodyPost_ret (v := (.agg #[.string o.kd, .string o.nm, .string o.tm, .slice a o.vs.length dap, .bool o.en, .slice a' o.hs.length dap', .int .i64 o.vr])) (by simp [results, Tryz.results9, go_sem, hRc]) rfl ?_
    obtain ⟨ht, hm, hsm, ht', hB⟩ := HX.out
    rw [HRES.out]
    exact ⟨a, dap, a', dap', m, rfl, (yB ht _ (by omega) _ _ _ _ _ _ _).low (by omega), hm, by omega, yB ht' _ (by omega) _ _ _ _ _ _ _, qm hB _ (by omega) _ _ _ _ _ _ _⟩
  · have hmd : Gate.zJ ss ms o = false := by simpa using hmd
    have HRES : Hid (Gate.yJ ss ms o = o.vs) := by unfold Hid Gate.yJ; rw [if_neg (by rw [hmd]; simp)]
    go_enter Tryz.func9, Tryz.ntmps9
    go_wp2_with fail
    have hb2 := yC w (.cells #[.string o.kd, .string o.nm, .string o.tm, .slice va o.vs.length cap, .bool o.en, .slice ha o.hs.length cap', .int .i64 o.vr] 27) (.cells #[.string ByteArray.empty, .string ByteArray.empty, .string ByteArray.empty, .slice none 0 0, .bool false, .slice none 0 0, .int .i64 0] 27)
    have h1 := zaD a0 ma cap0 mcap ss ms o va ha cap cap' _ (HH.out.1.mono hb2) (HH.out.2.1.mono hb2) hml HH.out.2.2.2
    rw [hmd] at h1
    refine h1.mono ?_
    rintro e w1 ⟨fa, fcap, rfl, hfl0, hb1⟩
    have HFL : Hid (yc w1 fa (Gate.shapeOf ss o.kd).fs) := hfl0.mono hb1
    have HO1 : Hid (w1.heap[w.heap.size]? = some (.cells #[.string o.kd, .string o.nm, .string o.tm, .slice va o.vs.length cap, .bool o.en, .slice ha o.hs.length cap', .int .i64 o.vr] 27)) := (hb1.block w.heap.size (by simp; omega)).trans (zq _ _ _).1
    have HR1 : Hid (w1.heap[w.heap.size + 1]? = some (.cells #[.string ByteArray.empty, .string ByteArray.empty, .string ByteArray.empty, .slice none 0 0, .bool false, .slice none 0 0, .int .i64 0] 27)) := (hb1.block (w.heap.size + 1) (by simp)).trans (zq _ _ _).2
    have hX1 : ∀ j, w1.cell? ⟨w.heap.size, j, none⟩ = (#[.string o.kd, .string o.nm, .string o.tm, .slice va o.vs.length cap, .bool o.en, .slice ha o.hs.length cap', .int .i64 o.vr] : Array Value)[j]? := fun j => cell_of_block HO1.out
    have hz1 : w.heap.size + 1 < w1.heap.size := by have := hb1.size; simp at this; omega
    have hz0 : w.heap.size < w1.heap.size := by omega
    have hB1 : Below w.heap.size w w1 := hb2.trans (hb1.mono (by simp; omega))
    clear h1 hb1 hfl0 hb2 hmd
    go_wp2_with fail
    have hbs := (Below.refl w1.heap.size w1).alloc (Nat.le_refl _) (.cells #[.string (Gate.shapeOf ss o.kd).kd, .slice fa (Gate.shapeOf ss o.kd).fs.length fcap] 45)
    have hRW := (hbs.block _ hz1).trans HR1.out
    have hzW : w.heap.size + 1 < (w1.alloc (.cells #[.string (Gate.shapeOf ss o.kd).kd, .slice fa (Gate.shapeOf ss o.kd).fs.length fcap] 45)).heap.size := Nat.lt_of_lt_of_le hz1 hbs.size
    have hBW := hB1.trans (hbs.mono hB1.size)
    have hFW := HFL.out.mono hbs
    clear hbs
    refine (jF o va ha cap cap' _ (HH.out.2.2.1.mono hBW) hl hl').mono ?_
    rintro e w4 ⟨a, dap, a', dap', m, rfl, ht, hm, hsm, ht', hb4⟩
    have hR4 : w4.heap[w.heap.size + 1]? = some (.cells #[.string ByteArray.empty, .string ByteArray.empty, .string ByteArray.empty, .slice none 0 0, .bool false, .slice none 0 0, .int .i64 0] 27) := (hb4.block (w.heap.size + 1) hzW).trans hRW
    have hRc : ∀ j, w4.cell? ⟨w.heap.size + 1, j, none⟩ = (#[.string ByteArray.empty, .string ByteArray.empty, .string ByteArray.empty, .slice none 0 0, .bool false, .slice none 0 0, .int .i64 0] : Array Value)[j]? := fun j => cell_of_block hR4
    have hRf : ∀ j, w4.frozen? ⟨w.heap.size + 1, j, none⟩ = false := fun j => za hR4
    have HX : Hid (zk (w.heap.size + 1 + 1) w4 a (o.vs) /\ (∀ g, a = some g -> g.block < m) /\ w.heap.size + 1 + 1 <= m /\ zk m w4 a' o.hs /\ Below w.heap.size w w4) := ⟨ht.low hzW, hm, Nat.le_trans hzW hsm, ht', hBW.trans (hb4.mono hBW.size)⟩
    clear ht hm hsm ht' hb4 hR4 hBW hRW hFW
    go_wp2_with fail
    refine bodyPost_ret (v := (.agg #[.string o.kd, .string o.nm, .string o.tm, .slice a o.vs.length dap, .bool o.en, .slice a' o.hs.length dap', .int .i64 o.vr])) (by simp [results, Tryz.results9, go_sem, hRc]) rfl ?_
    obtain ⟨ht, hm, hsm, ht', hB⟩ := HX.out
    rw [HRES.out]
    exact ⟨a, dap, a', dap', m, rfl, (yB ht _ (by omega) _ _ _ _ _ _ _).low (by omega), hm, by omega, yB ht' _ (by omega) _ _ _ _ _ _ _, qm hB _ (by omega) _ _ _ _ _ _ _⟩
set_option maxRecDepth 20000 in
set_option maxHeartbeats 4000000 in
theorem zco (a0 ma : Option Addr) (cap0 mcap : Nat) (ss : List Shp) (ms : List Mnd) (o : Ob) (va ha : Option Addr) (cap cap' : Nat) (w : World) (hw : yG w a0 ss) (hm : qg w ma ms) (ho : qX w o va ha) (_hA : jO va o.vs) (_hA' : jO ha o.hs) (hl : o.vs.length <= 1048576) (hl' : o.hs.length <= 1048576) (hml : ms.length <= 1048576) :
    Calls Tryz.prog 5 #[.slice a0 ss.length cap0, .slice ma ms.length mcap, .agg #[.string o.kd, .string o.nm, .string o.tm, .slice va o.vs.length cap, .bool o.en, .slice ha o.hs.length cap', .int .i64 o.vr]] w (jB o (Gate.zC ss ms o) w) := by
  have HH : Hid (yG w a0 ss /\ qg w ma ms /\ qX w o va ha /\ o.vs.length <= maxLen) := ⟨hw, hm, ho, ho.vals.len⟩
  clear hw hm ho
  by_cases hmd : Gate.zJ ss ms o = true
  · have hmd : Gate.zJ ss ms o = true := hmd

    have HFA : Hid _ := Gate.je hmd
    have HRES : Hid (Gate.zC ss ms o = Gate.jl ss ms (Gate.qA ss o)) := by unfold Hid Gate.zC; rw [if_pos hmd]
    go_enter Tryz.func5, Tryz.ntmps5
    go_wp2_with fail
    have hb2 := yC w (.cells #[.string o.kd, .string o.nm, .string o.tm, .slice va o.vs.length cap, .bool o.en, .slice ha o.hs.length cap', .int .i64 o.vr] 27) (.cells #[.string ByteArray.empty, .string ByteArray.empty, .string ByteArray.empty, .slice none 0 0, .bool false, .slice none 0 0, .int .i64 0] 27)
    have h1 := zaD a0 ma cap0 mcap ss ms o va ha cap cap' _ (HH.out.1.mono hb2) (HH.out.2.1.mono hb2) hml HH.out.2.2.2
    rw [hmd] at h1
    refine h1.mono ?_
    rintro e w1 ⟨fa, fcap, rfl, hfl0, hb1⟩
    have HFL : Hid (yc w1 fa (Gate.shapeOf ss o.kd).fs) := hfl0.mono hb1
    have HO1 : Hid (w1.heap[w.heap.size]? = some (.cells #[.string o.kd, .string o.nm, .string o.tm, .slice va o.vs.length cap, .bool o.en, .slice ha o.hs.length cap', .int .i64 o.vr] 27)) := (hb1.block w.heap.size (by simp; omega)).trans (zq _ _ _).1
    have HR1 : Hid (w1.heap[w.heap.size + 1]? = some (.cells #[.string ByteArray.empty, .string ByteArray.empty, .string ByteArray.empty, .slice none 0 0, .bool false, .slice none 0 0, .int .i64 0] 27)) := (hb1.block (w.heap.size + 1) (by simp)).trans (zq _ _ _).2
    have hX1 : ∀ j, w1.cell? ⟨w.heap.size, j, none⟩ = (#[.string o.kd, .string o.nm, .string o.tm, .slice va o.vs.length cap, .bool o.en, .slice ha o.hs.length cap', .int .i64 o.vr] : Array Value)[j]? := fun j => cell_of_block HO1.out
    have hz1 : w.heap.size + 1 < w1.heap.size := by have := hb1.size; simp at this; omega
    have hz0 : w.heap.size < w1.heap.size := by omega
    have hB1 : Below w.heap.size w w1 := hb2.trans (hb1.mono (by simp; omega))
    clear h1 hb1 hfl0 hb2 hmd
    go_wp2_with fail
    have hbs := (Below.refl w1.heap.size w1).alloc (Nat.le_refl _) (.cells #[.string (Gate.shapeOf ss o.kd).kd, .slice fa (Gate.shapeOf ss o.kd).fs.length fcap] 45)
    have hRW := (hbs.block _ hz1).trans HR1.out
    have hzW : w.heap.size + 1 < (w1.alloc (.cells #[.string (Gate.shapeOf ss o.kd).kd, .slice fa (Gate.shapeOf ss o.kd).fs.length fcap] 45)).heap.size := Nat.lt_of_lt_of_le hz1 hbs.size
    have hBW := hB1.trans (hbs.mono hB1.size)
    have hFW := HFL.out.mono hbs
    clear hbs
    obtain ⟨W2, hW2⟩ : ∃ W2, W2 = (w1.alloc (.cells #[.string (Gate.shapeOf ss o.kd).kd, .slice fa (Gate.shapeOf ss o.kd).fs.length fcap] 45)) := ⟨_, rfl⟩
    have hS2 : ∀ j, W2.drew.cell? ⟨w1.heap.size, j, none⟩ = (#[.string (Gate.shapeOf ss o.kd).kd, .slice fa (Gate.shapeOf ss o.kd).fs.length fcap] : Array Value)[j]? := by rw [hW2]; exact zo w1 _ _
    have hS1 : ∀ j, W2.drew.cell? ⟨w.heap.size, j, none⟩ = (#[.string o.kd, .string o.nm, .string o.tm, .slice va o.vs.length cap, .bool o.en, .slice ha o.hs.length cap', .int .i64 o.vr] : Array Value)[j]? := by rw [hW2]; exact ze hX1 hz0 ((Below.refl _ _).alloc (Nat.le_refl _) _).drew
    have hzs : w1.heap.size < W2.drew.heap.size := by rw [hW2]; show w1.heap.size < (w1.alloc (.cells #[.string (Gate.shapeOf ss o.kd).kd, .slice fa (Gate.shapeOf ss o.kd).fs.length fcap] 45)).heap.size; simp
    rw [<- hW2] at hRW hzW hBW hFW ⊢
    clear hW2 hX1
    have hb := (Below.refl W2.heap.size W2).drew
    have hlW : W2.heap.size = W2.drew.heap.size := rfl
    have hzo : w.heap.size < W2.drew.heap.size := by omega
    go_region_held3 (fun w' => (∀ j, w'.cell? ⟨w.heap.size, j, none⟩ = (#[.string o.kd, .string o.nm, .string o.tm, .slice va o.vs.length cap, .bool o.en, .slice ha o.hs.length cap', .int .i64 o.vr] : Array Value)[j]?) /\ ∀ j, w'.cell? ⟨w1.heap.size, j, none⟩ = (#[.string (Gate.shapeOf ss o.kd).kd, .slice fa (Gate.shapeOf ss o.kd).fs.length fcap] : Array Value)[j]?) (first | exact ⟨fun j => by rw [hS1], fun j => by rw [hS2]⟩ | exact ⟨fun j => by rw [hS3], fun j => by rw [hS4]⟩) (first
      | (go_at_call 20; refine (zeG o (Gate.shapeOf ss o.kd).kd (Gate.shapeOf ss o.kd).fs _ va ha _ cap cap' _ (by exact hFW.mono hb) (by exact HH.out.2.2.1.mono (hBW.trans (hb.mono hBW.size))) hl hl' HFA.out.1).mono ?_; rintro e w5 ⟨a5, dap5, a5', dap5', m5, rfl, ht5, hm5, hsm5, ht5', hb5⟩; have hS1 := ze hS1 hzo hb5; have hS2 := ze hS2 hzs hb5; have hb := hb.trans (hb5.mono hb.size); have hO5 : zZ w5 a5 (Gate.qG (Gate.shapeOf ss o.kd).fs o.vs) := ht5.at (by rw [Gate.qo HFA.out.1]; exact HH.out.2.2.2) (zfV hFW.smalls HH.out.2.2.1.vals.small HFA.out.1); have hO5' : zZ w5 a5' o.hs := ht5'.at HH.out.2.2.1.holds.len HH.out.2.2.1.holds.small; have hA5 := ht5.ziN; have hA5' := ht5'.ziN; clear ht5 hm5 hsm5 ht5' hb5)
      | (go_at_call 19; refine (zhn o (Gate.qG (Gate.shapeOf ss o.kd).fs o.vs) (Gate.qo HFA.out.1) (Gate.shapeOf ss o.kd) ms _ _ _ _ _ _ _ _ _ (by exact hFW.mono hb) (by exact HH.out.2.1.mono (hBW.trans (hb.mono hBW.size))) HH.out.2.2.1.small (by exact hO5) (by exact hO5') hA5 hA5' hl hl' HFA.out.1 hml HFA.out.2.1 HFA.out.2.2.1 HFA.out.2.2.2).mono ?_; rintro e w6 ⟨a, dap, a', dap', m, rfl, ht, hm, hsm, ht', hb6⟩; have hR6 : w6.heap[w.heap.size + 1]? = some (.cells #[.string ByteArray.empty, .string ByteArray.empty, .string ByteArray.empty, .slice none 0 0, .bool false, .slice none 0 0, .int .i64 0] 27) := ((hb.trans (hb6.mono hb.size)).block (w.heap.size + 1) hzW).trans hRW; have hS1 := fun j => (hb6.cell (p := ⟨w.heap.size, j, none⟩) (Nat.lt_of_lt_of_le hzo hb.size)).trans (hS1 j); have hS2 := fun j => (hb6.cell (p := ⟨w1.heap.size, j, none⟩) (Nat.lt_of_lt_of_le hzs hb.size)).trans (hS2 j); have hS3 := fun j => (zfs (g := w.heap.size + 1) (by omega : w.heap.size ≠ w.heap.size + 1) (v0 := .string o.kd) (v1 := .string o.nm) (v2 := .string o.tm) (v3 := .slice a o.vs.length dap) (v4 := .bool o.en) (v5 := .slice a' o.hs.length dap') (v6 := .int .i64 o.vr)).trans (hS1 j); have hS4 := fun j => (zfs (g := w.heap.size + 1) (by omega : w1.heap.size ≠ w.heap.size + 1) (v0 := .string o.kd) (v1 := .string o.nm) (v2 := .string o.tm) (v3 := .slice a o.vs.length dap) (v4 := .bool o.en) (v5 := .slice a' o.hs.length dap') (v6 := .int .i64 o.vr)).trans (hS2 j); have hRc := zhQ hR6; have hRf := zgM hR6; have hsz5 := hb.size; have hb := hb.trans (hb6.mono hb.size); clear hb6))
    go_wp2_with fail
    refine bodyPost_ret (v := (.agg #[.string o.kd, .string o.nm, .string o.tm, .slice a o.vs.length dap, .bool o.en, .slice a' o.hs.length dap', .int .i64 o.vr])) (by simp [results, Tryz.results5, go_sem, hRc]) rfl ?_
    rw [HRES.out]
    have hB := hBW.trans (hb.mono hBW.size)
    have h2 : w.heap.size + 1 + 1 <= W2.drew.heap.size := hzW
    exact ⟨a, dap, a', dap', m, rfl, (yB (ht.low (lo' := w.heap.size + 1 + 1) (by omega)) _ (by omega) _ _ _ _ _ _ _).low (by omega), hm, by omega, yB ht' _ (by omega) _ _ _ _ _ _ _, qm hB _ (by omega) _ _ _ _ _ _ _⟩
  · have hmd : Gate.zJ ss ms o = false := by simpa using hmd
    have HRES : Hid (Gate.zC ss ms o = o.vs) := by unfold Hid Gate.zC; rw [if_neg (by rw [hmd]; simp)]
    go_enter Tryz.func5, Tryz.ntmps5
    go_wp2_with fail
    have hb2 := yC w (.cells #[.string o.kd, .string o.nm, .string o.tm, .slice va o.vs.length cap, .bool o.en, .slice ha o.hs.length cap', .int .i64 o.vr] 27) (.cells #[.string ByteArray.empty, .string ByteArray.empty, .string ByteArray.empty, .slice none 0 0, .bool false, .slice none 0 0, .int .i64 0] 27)
    have h1 := zaD a0 ma cap0 mcap ss ms o va ha cap cap' _ (HH.out.1.mono hb2) (HH.out.2.1.mono hb2) hml HH.out.2.2.2
    rw [hmd] at h1
    refine h1.mono ?_
    rintro e w1 ⟨fa, fcap, rfl, hfl0, hb1⟩
    have HFL : Hid (yc w1 fa (Gate.shapeOf ss o.kd).fs) := hfl0.mono hb1
    have HO1 : Hid (w1.heap[w.heap.size]? = some (.cells #[.string o.kd, .string o.nm, .string o.tm, .slice va o.vs.length cap, .bool o.en, .slice ha o.hs.length cap', .int .i64 o.vr] 27)) := (hb1.block w.heap.size (by simp; omega)).trans (zq _ _ _).1
    have HR1 : Hid (w1.heap[w.heap.size + 1]? = some (.cells #[.string ByteArray.empty, .string ByteArray.empty, .string ByteArray.empty, .slice none 0 0, .bool false, .slice none 0 0, .int .i64 0] 27)) := (hb1.block (w.heap.size + 1) (by simp)).trans (zq _ _ _).2
    have hX1 : ∀ j, w1.cell? ⟨w.heap.size, j, none⟩ = (#[.string o.kd, .string o.nm, .string o.tm, .slice va o.vs.length cap, .bool o.en, .slice ha o.hs.length cap', .int .i64 o.vr] : Array Value)[j]? := fun j => cell_of_block HO1.out
    have hz1 : w.heap.size + 1 < w1.heap.size := by have := hb1.size; simp at this; omega
    have hz0 : w.heap.size < w1.heap.size := by omega
    have hB1 : Below w.heap.size w w1 := hb2.trans (hb1.mono (by simp; omega))
    clear h1 hb1 hfl0 hb2 hmd
    go_wp2_with fail
    have hbs := (Below.refl w1.heap.size w1).alloc (Nat.le_refl _) (.cells #[.string (Gate.shapeOf ss o.kd).kd, .slice fa (Gate.shapeOf ss o.kd).fs.length fcap] 45)
    have hRW := (hbs.block _ hz1).trans HR1.out
    have hzW : w.heap.size + 1 < (w1.alloc (.cells #[.string (Gate.shapeOf ss o.kd).kd, .slice fa (Gate.shapeOf ss o.kd).fs.length fcap] 45)).heap.size := Nat.lt_of_lt_of_le hz1 hbs.size
    have hBW := hB1.trans (hbs.mono hB1.size)
    have hFW := HFL.out.mono hbs
    clear hbs
    refine (jF o va ha cap cap' _ (HH.out.2.2.1.mono hBW) hl hl').mono ?_
    rintro e w4 ⟨a, dap, a', dap', m, rfl, ht, hm, hsm, ht', hb4⟩
    have hR4 : w4.heap[w.heap.size + 1]? = some (.cells #[.string ByteArray.empty, .string ByteArray.empty, .string ByteArray.empty, .slice none 0 0, .bool false, .slice none 0 0, .int .i64 0] 27) := (hb4.block (w.heap.size + 1) hzW).trans hRW
    have hRc : ∀ j, w4.cell? ⟨w.heap.size + 1, j, none⟩ = (#[.string ByteArray.empty, .string ByteArray.empty, .string ByteArray.empty, .slice none 0 0, .bool false, .slice none 0 0, .int .i64 0] : Array Value)[j]? := fun j => cell_of_block hR4
    have hRf : ∀ j, w4.frozen? ⟨w.heap.size + 1, j, none⟩ = false := fun j => za hR4
    have HX : Hid (zk (w.heap.size + 1 + 1) w4 a (o.vs) /\ (∀ g, a = some g -> g.block < m) /\ w.heap.size + 1 + 1 <= m /\ zk m w4 a' o.hs /\ Below w.heap.size w w4) := ⟨ht.low hzW, hm, Nat.le_trans hzW hsm, ht', hBW.trans (hb4.mono hBW.size)⟩
    clear ht hm hsm ht' hb4 hR4 hBW hRW hFW
    go_wp2_with fail
    refine bodyPost_ret (v := (.agg #[.string o.kd, .string o.nm, .string o.tm, .slice a o.vs.length dap, .bool o.en, .slice a' o.hs.length dap', .int .i64 o.vr])) (by simp [results, Tryz.results5, go_sem, hRc]) rfl ?_
    obtain ⟨ht, hm, hsm, ht', hB⟩ := HX.out
    rw [HRES.out]
    exact ⟨a, dap, a', dap', m, rfl, (yB ht _ (by omega) _ _ _ _ _ _ _).low (by omega), hm, by omega, yB ht' _ (by omega) _ _ _ _ _ _ _, qm hB _ (by omega) _ _ _ _ _ _ _⟩
end Go.Proofs.YtmfgjafdnopfbaaGreat

namespace Go.Proofs.YtmfgjafdnopfbaaGreat
open Go.RowKit
end Go.Proofs.YtmfgjafdnopfbaaGreat
