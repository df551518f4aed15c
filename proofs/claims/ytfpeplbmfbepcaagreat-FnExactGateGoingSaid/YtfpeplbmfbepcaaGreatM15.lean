import Derived.Test.YtfpeplbmfbepcaaGreatM06
import Derived.Test.YtfpeplbmfbepcaaGreatM12
import Derived.Test.YtfpeplbmfbepcaaGreatM05
import Derived.Test.YtfpeplbmfbepcaaGreatM09
import Derived.Test.YtfpeplbmfbepcaaGreatM11
import Derived.Test.YtfpeplbmfbepcaaGreatM07
import Derived.Test.YtfpeplbmfbepcaaGreatM10
import Derived.Test.YtfpeplbmfbepcaaGreatM03
import Derived.Deep.QuietTactic
import Derived.BigQuiet
import Derived.WalkKit
import Derived.WalkSpells
import Derived.WalkLawsBesides
import Derived.Deep.RegionWith
namespace Go.Proofs.YtfpeplbmfbepcaaGreat
open Go.RowKit
theorem zpi {ss : List Shp} (h : (zao ss : Int) <= 1048576) : ss.length <= 1048576 /\ ∀ i (h : i < ss.length), ss[i].fs.length <= 1048576 /\ ∀ j (h' : j < ss[i].fs.length), ss[i].fs[j].ws.length <= 1048576 := by
  unfold zao at h
  refine ⟨by omega, fun i hi => ?_⟩
  have h1 : Shp.sz ss[i] <= zgG ss := zh0 Shp.sz ss i hi
  unfold Shp.sz zal at h1
  refine ⟨by omega, fun j hj => ?_⟩
  have h2 : Fld.sz ss[i].fs[j] <= zgm ss[i].fs := zh0 Fld.sz ss[i].fs j hj
  unfold Fld.sz jY qm at h2
  omega
end Go.Proofs.YtfpeplbmfbepcaaGreat

namespace Go.Proofs.YtfpeplbmfbepcaaGreat
open Go.RowKit
def zqj (w : World) (b o : Nat) (v0 v1 v2 v3 v4 v5 : Value) : World := (((((w.setCell ⟨b, o, none⟩ v0).setCell ⟨b, o + 1, none⟩ v1).setCell ⟨b, o + 2, none⟩ v2).setCell ⟨b, o + 3, none⟩ v3).setCell ⟨b, o + 4, none⟩ v4).setCell ⟨b, o + 5, none⟩ v5
def znl (C : Array Value) (o : Nat) (v0 v1 v2 v3 v4 v5 : Value) : Array Value := (((((C.setIfInBounds o v0).setIfInBounds (o + 1) v1).setIfInBounds (o + 2) v2).setIfInBounds (o + 3) v3).setIfInBounds (o + 4) v4).setIfInBounds (o + 5) v5
theorem znU {w : World} {b o : Nat} {C : Array Value} {t : TypeId} (h : w.heap[b]? = some (.cells C t)) (v0 v1 v2 v3 v4 v5 : Value) : (zqj w b o v0 v1 v2 v3 v4 v5).heap[b]? = some (.cells (znl C o v0 v1 v2 v3 v4 v5) t) :=
  zf (zf (zf (zf (zf (zf h v0) v1) v2) v3) v4) v5
theorem znd {B : Nat} {a w : World} (h : Below B a w) {b : Nat} (hb : B <= b) (o : Nat) (v0 v1 v2 v3 v4 v5 : Value) : Below B a (zqj w b o v0 v1 v2 v3 v4 v5) :=
  (((((h.setCell hb v0).setCell hb v1).setCell hb v2).setCell hb v3).setCell hb v4).setCell hb v5
theorem zoU (C : Array Value) (o : Nat) (v0 v1 v2 v3 v4 v5 : Value) : (znl C o v0 v1 v2 v3 v4 v5).size = C.size := by simp [znl]
theorem zpx (C : Array Value) (o i : Nat) (v0 v1 v2 v3 v4 v5 : Value) (h : i < o \/ o + 6 <= i) : (znl C o v0 v1 v2 v3 v4 v5)[i]? = C[i]? := by
  unfold znl
  iterate 6 rw [Array.getElem?_setIfInBounds, if_neg (by omega)]
theorem zp0 (C : Array Value) (o j : Nat) (v0 v1 v2 v3 v4 v5 : Value) (hj : j < 6) (ho : o + 6 <= C.size) : (znl C o v0 v1 v2 v3 v4 v5)[o + j]? = (#[v0, v1, v2, v3, v4, v5] : Array Value)[j]? := by
  have hc : j = 0 \/ j = 1 \/ j = 2 \/ j = 3 \/ j = 4 \/ j = 5 := by omega
  unfold znl
  rcases hc with h | h | h | h | h | h <;> subst h <;> simp [Array.getElem?_setIfInBounds] <;> omega
theorem qF.put {lo : Nat} {w : World} {bo : Nat} {ms : List Mnd} {k : Nat} (h : qF lo w bo ms k) (hk : k < ms.length) :
    qF lo (zqj w bo (k * 6) (.string ms[k].kd) (.string ms[k].fd) (.string ms[k].wh) (.string ms[k].wi) (.string ms[k].pt) (.string ms[k].fr)) bo ms (k + 1) := by
  obtain ⟨C, hC, hsz, hr⟩ := h.rows
  refine ⟨h.low, _, znU hC _ _ _ _ _ _, by rw [zoU]; exact hsz, fun i hi hik j hj => ?_⟩
  rcases Nat.lt_or_ge i k with hlt | hge
  · rw [zpx _ _ _ _ _ _ _ _ _ (by omega)]
    exact hr i hi hlt j hj
  · have e : i = k := by omega
    subst e
    rw [zp0 _ _ _ _ _ _ _ _ _ hj (by omega)]
    rfl
set_option maxHeartbeats 1000000 in
theorem zin (m : Mnd) (w : World) :
    Calls Tryz.prog 65 #[.agg m.cells] w fun e w' => e = .returned (.agg m.cells) /\ Below w.heap.size w w' := by
  unfold Mnd.cells
  go_enter Tryz.func65, Tryz.ntmps65
  go_wp2_with fail
  refine bodyPost_ret (v := .agg #[.string m.kd, .string m.fd, .string m.wh, .string m.wi, .string m.pt, .string m.fr]) (by simp [results, Tryz.results65, go_sem]) rfl ⟨rfl, ?_⟩
  exact ((((Below.refl _ _).alloc (Nat.le_refl _) _).alloc (by simp) _).alloc (by simp; omega) _)
def zoh : Array Value := #[.string ByteArray.empty, .string ByteArray.empty, .string ByteArray.empty, .string ByteArray.empty, .string ByteArray.empty, .string ByteArray.empty]
def zms (n : Nat) : Array Value := madeCells zoh (n * 6)
set_option maxHeartbeats 2000000 in
theorem zhH (a : Option Addr) (cap : Nat) (ms : List Mnd) (w : World) (hw : qy w a ms) (hl : ms.length <= 1048576) :
    Calls Tryz.prog 29 #[.slice a ms.length cap] w fun e w' => e = .returned (.slice (some ⟨w.heap.size, 0, none⟩) ms.length ms.length) /\ qF w.heap.size w' w.heap.size ms ms.length /\ Below w.heap.size w w' := by
  have hmk : ∀ w : World, (Instr.makeSlice 38 (.int .i64 ms.length) (.int .i64 ms.length)).run Tryz.prog w = .ok (.slice (some ⟨w.heap.size, 0, none⟩) ms.length ms.length) (w.alloc (.cells (zms ms.length) 125)) :=
    fun w => qP (P := Tryz.prog) 38 125 (.agg zoh) 6 96 Tryz.underlying38 (by kernel_rfl) ms.length (by omega) (by omega) w
  go_enter Tryz.func29, Tryz.ntmps29
  go_wp2_with fail
  clear hmk
  go_loopw [4] (fun i wr => ∃ k : Nat, k <= ms.length /\ i = .int .i64 k /\ qF w.heap.size wr w.heap.size ms k /\ Below w.heap.size w wr) (fun i _ => ms.length - (intOf i).toNat)
  case atStart => exact ⟨0, Nat.zero_le _, rfl, ⟨Nat.le_refl _, zms ms.length, (MapKept.heap_alloc w _).1, size_madeCells _ _, fun i _ h => absurd h (by omega)⟩, (Below.refl _ _).alloc (Nat.le_refl _) _⟩
  case round =>
    obtain ⟨k, hk, rfl, hown, hB⟩ := hrel
    by_cases hlt : k < ms.length
    · obtain ⟨b, off, rfl, hb, c0, c1, c2, c3, c4, c5⟩ := hw.load hB k hlt
      have hltI : (k : Int) < (ms.length : Int) := by omega
      clear hw
      go_wp2_with fail
      refine (zin ms[k] _).mono ?_
      rintro e w1 ⟨rfl, hb1⟩
      have hB1 := hB.trans (hb1.mono hB.size)
      have hown1 := hown.later hb1
      have hbo : w.heap.size < wr.heap.size := by
        obtain ⟨C', hC', _⟩ := hown.rows
        exact (Array.getElem?_eq_some_iff.1 hC').1
      obtain ⟨C, hC, hsz, _⟩ := hown1.rows
      have hfz : ∀ o, w1.frozen? ⟨w.heap.size, o, none⟩ = false := fun o => zh hC
      have hex : ∀ o, o < ms.length * 6 -> ∃ v, w1.cell? ⟨w.heap.size, o, none⟩ = some v := fun o ho => ⟨C[o]'(by omega), by rw [cell_of_block hC]; exact Array.getElem?_eq_getElem (by omega)⟩
      obtain ⟨v0, hv0⟩ := hex (k * 6) (by omega)
      obtain ⟨v1, hv1⟩ := hex (k * 6 + 1) (by omega)
      obtain ⟨v2, hv2⟩ := hex (k * 6 + 2) (by omega)
      obtain ⟨v3, hv3⟩ := hex (k * 6 + 3) (by omega)
      obtain ⟨v4, hv4⟩ := hex (k * 6 + 4) (by omega)
      obtain ⟨v5, hv5⟩ := hex (k * 6 + 5) (by omega)
      have HP : Hid (qF w.heap.size w1 w.heap.size ms k) := hown1
      clear hex hC hsz c0 c1 c2 c3 c4 c5 hown hown1
      unfold Mnd.cells
      go_wp2_with fail
      exact ⟨⟨k + 1, by omega, by go_num, HP.out.put hlt, znd hB1 (Nat.le_refl _) _ _ _ _ _ _ _⟩, by simp [intOf]; omega⟩
    · have HF : Hid (qF w.heap.size wr w.heap.size ms ms.length) := by
        have e : k = ms.length := by omega
        subst e; exact hown
      clear hw hown
      go_wp2_with fail
      go_ret
      exact ⟨rfl, HF.out, hB⟩
end Go.Proofs.YtfpeplbmfbepcaaGreat

namespace Go.Proofs.YtfpeplbmfbepcaaGreat
open Go.RowKit
structure Lw where
  ss : List Shp
  ms : List Mnd
  ts : List Tm
abbrev lC (l : Lw) (a b c : Option Addr) (ca cb cc : Nat) : Array Value := #[.slice a l.ss.length ca, .slice b l.ms.length cb, .slice c l.ts.length cc]
def Lw.cells (l : Lw) (a b c : Option Addr) (ca cb cc : Nat) : Array Value := #[.slice a l.ss.length ca, .slice b l.ms.length cb, .slice c l.ts.length cc]
structure qB (w : World) (l : Lw) (a b c : Option Addr) : Prop where
  ss : yI w a l.ss
  ms : qy w b l.ms
  ts : jh w c l.ts
theorem qB.mono {w w' : World} {l : Lw} {a b c : Option Addr} (h : qB w l a b c) (hb : Below w.heap.size w w') : qB w' l a b c := ⟨h.ss.mono hb, h.ms.mono hb, h.ts.mono hb⟩
def Lw.sz (l : Lw) : Nat := zao l.ss + zaV l.ms + zcv l.ts
structure Lw.Few (l : Lw) : Prop where
  ss : l.ss.length <= 1048576 /\ ∀ i (h : i < l.ss.length), l.ss[i].fs.length <= 1048576 /\ ∀ j (h' : j < l.ss[i].fs.length), l.ss[i].fs[j].ws.length <= 1048576
  ms : l.ms.length <= 1048576
  ts : l.ts.length <= 1048576
theorem Lw.few {l : Lw} (h : (l.sz : Int) <= 1048576) : l.Few := by
  unfold Lw.sz at h
  refine ⟨zpi (by omega), ?_, ?_⟩
  · unfold zaV at h; omega
  · unfold zcv at h; omega
set_option maxHeartbeats 2000000 in
theorem zjz (l : Lw) (a b c : Option Addr) (ca cb cc : Nat) (left : Int) (w : World) (hl : qB w l a b c) (h0 : 0 <= left) (h1 : left <= 1048576) :
    Calls Tryz.prog 4 #[.agg (l.cells a b c ca cb cc), .int .i64 left] w fun e w' => e = .returned (.int .i64 (zF l.sz left)) /\ Below w.heap.size w w' := by
  have HL : Hid (qB w l a b c) := hl
  clear hl
  unfold Lw.cells
  go_enter Tryz.func4, Tryz.ntmps4
  go_wp2_with fail
  refine (zgo _ _ l.ss _ _ (HL.out.ss.mono ((Below.refl _ _).alloc (Nat.le_refl _) _)) h0 h1).mono ?_
  rintro e w1 ⟨rfl, hb⟩
  have hX1 := za (zG w (lC l a b c ca cb cc) 26) (by simp) hb
  have hz1 : w.heap.size < w1.heap.size := by have := hb.size; simp at this; omega
  have hB1 : Below w.heap.size w w1 := ((Below.refl _ _).alloc (Nat.le_refl _) _).trans (hb.mono (by simp))
  clear hb
  by_cases c1 : (zao l.ss : Int) <= left
  rotate_left
  · have HF : Hid (zF l.sz left = -1) := zx (by unfold Lw.sz; omega)
    rw [zx c1]
    go_wp2_with fail
    go_ret
    exact ⟨zl HF.out.symm, hB1⟩
  rw [zH c1]
  go_wp2_with fail
  refine (zhC _ _ l.ms _ _ (HL.out.ms.mono hB1) (by omega) (by omega)).mono ?_
  rintro e w2 ⟨rfl, hb⟩
  have hX2 := za hX1 hz1 hb
  have hz2 := Nat.lt_of_lt_of_le hz1 hb.size
  have hB2 := hB1.trans (hb.mono hB1.size)
  clear hb hX1 hz1 hB1
  by_cases c2 : (zaV l.ms : Int) <= left - zao l.ss
  rotate_left
  · have HF : Hid (zF l.sz left = -1) := zx (by unfold Lw.sz; omega)
    rw [zx c2]
    go_wp2_with fail
    go_ret
    exact ⟨zl HF.out.symm, hB2⟩
  rw [zH c2]
  go_wp2_with fail
  refine (zht _ _ l.ts _ _ (HL.out.ts.mono hB2) (by omega) (by omega)).mono ?_
  rintro e w3 ⟨rfl, hb⟩
  have hB3 := hB2.trans (hb.mono hB2.size)
  clear hb hX2 hz2 hB2
  by_cases c3 : (zcv l.ts : Int) <= left - zao l.ss - zaV l.ms
  rotate_left
  · have HF : Hid (zF l.sz left = -1) := zx (by unfold Lw.sz; omega)
    rw [zx c3]
    go_wp2_with fail
    go_ret
    exact ⟨zl HF.out.symm, hB3⟩
  have HF : Hid (zF l.sz left = left - zao l.ss - zaV l.ms - zcv l.ts) := by
    unfold Hid; rw [zH (by unfold Lw.sz; omega)]; unfold Lw.sz; omega
  rw [zH c3]
  go_wp2_with fail
  go_ret
  exact ⟨zl HF.out.symm, hB3⟩
set_option maxHeartbeats 1000000 in
theorem zj2 (l : Lw) (a b c a' b' c' : Option Addr) (ca cb cc ca' cb' cc' : Nat) (w : World) (hl : qB w l a b c) (hl' : qB w l a' b' c') :
    Calls Tryz.prog 11 #[.agg (l.cells a b c ca cb cc), .agg (l.cells a' b' c' ca' cb' cc')] w fun e w' => e = .returned (.bool true) /\ Below w.heap.size w w' := by
  unfold Lw.cells
  go_enter Tryz.func11, Tryz.ntmps11
  go_wp2_with fail
  refine (zgH _ _ _ _ l.ss _ (hl.ss.mono (zn _ _ _)) (hl'.ss.mono (zn _ _ _))).mono ?_
  rintro e w1 ⟨rfl, hb⟩
  have hX1 := za (za (zG w _ _) (by simp) ((Below.refl _ _).alloc (Nat.le_refl _) _)) (by simp; omega) hb
  have hY1 := za (zG (w.alloc (.cells (lC l a b c ca cb cc) 41)) (lC l a' b' c' ca' cb' cc') 41) (by simp) hb
  have hz1 : w.heap.size + 1 < w1.heap.size := by have := hb.size; simp at this; omega
  have hB1 := (zn w _ _).trans (hb.mono (by simp; omega))
  rw [World.size_alloc] at hY1
  clear hb
  go_wp2_with fail
  refine (zho _ _ _ _ l.ms _ (hl.ms.mono hB1) (hl'.ms.mono hB1)).mono ?_
  rintro e w2 ⟨rfl, hb⟩
  have hX2 := za hX1 (Nat.lt_of_succ_lt hz1) hb
  have hY2 := za hY1 hz1 hb
  have hz2 := Nat.lt_of_lt_of_le hz1 hb.size
  have hB2 := hB1.trans (hb.mono hB1.size)
  clear hb hX1 hY1 hz1 hB1
  go_wp2_with fail
  refine (zhz _ _ _ _ l.ts _ (hl.ts.mono hB2) (hl'.ts.mono hB2)).mono ?_
  rintro e w3 ⟨rfl, hb⟩
  have hB3 := hB2.trans (hb.mono hB2.size)
  clear hb hX2 hY2 hz2 hB2
  go_wp2_with fail
  go_ret
  exact ⟨rfl, hB3⟩
theorem below3' (w : World) (o o' o'' : Obj) : Below w.heap.size w (((w.alloc o).alloc o').alloc o'') := (((Below.refl _ _).alloc (Nat.le_refl _) _).alloc (by simp) _).alloc (by simp; omega) _
theorem zo7 (w : World) (o1 o2 o3 : Obj) : (((w.alloc o1).alloc o2).alloc o3).heap[w.heap.size]? = some o1 /\ (((w.alloc o1).alloc o2).alloc o3).heap[w.heap.size + 1]? = some o2 /\ (((w.alloc o1).alloc o2).alloc o3).heap[w.heap.size + 1 + 1]? = some o3 := by
  have h1 := (MapKept.heap_alloc w o1).1
  have h2 := (MapKept.heap_alloc (w.alloc o1) o2).1
  have h3 := (MapKept.heap_alloc ((w.alloc o1).alloc o2) o3).1
  simp only [World.size_alloc] at h2 h3
  exact ⟨(Below.heap_alloc _ _ _ (by simp; omega)).trans ((Below.heap_alloc _ _ _ (by simp)).trans h1), (Below.heap_alloc _ _ _ (by simp)).trans h2, h3⟩
structure yt (lo : Nat) (w w' : World) : Prop where
  size : w.heap.size <= w'.heap.size
  same : ∀ b, lo <= b -> b < w.heap.size -> w'.heap[b]? = w.heap[b]?
theorem yt.refl (lo : Nat) (w : World) : yt lo w w := ⟨Nat.le_refl _, fun _ _ _ => rfl⟩
theorem yt.trans {lo : Nat} {w w1 w2 : World} (h : yt lo w w1) (h' : yt lo w1 w2) : yt lo w w2 :=
  ⟨Nat.le_trans h.size h'.size, fun b h1 h2 => (h'.same b h1 (Nat.lt_of_lt_of_le h2 h.size)).trans (h.same b h1 h2)⟩
theorem yt.mono {lo lo' : Nat} {w w' : World} (h : yt lo w w') (hl : lo <= lo') : yt lo' w w' := ⟨h.size, fun b h1 h2 => h.same b (Nat.le_trans hl h1) h2⟩
theorem yt.below {lo : Nat} {w w' : World} (h : Below w.heap.size w w') : yt lo w w' := ⟨h.size, fun b _ h2 => h.block b h2⟩
theorem yt.setCell {lo : Nat} {w : World} {p : Addr} (hp : p.block < lo) (v : Value) : yt lo w (w.setCell p v) :=
  ⟨by rw [World.size_setCell]; exact Nat.le_refl _, fun b h1 _ => Below.heap_setCell _ _ _ _ (by omega)⟩
theorem yY.above {lo : Nat} {w w' : World} {bf : Nat} {fs : List Fld} {k : Nat} (h : yY lo w bf fs k) (ha : yt lo w w') : yY lo w' bf fs k := by
  obtain ⟨C, hC, hsz, hr⟩ := h.rows
  refine ⟨h.low, C, (ha.same _ h.low (Array.getElem?_eq_some_iff.1 hC).1).trans hC, hsz, fun i hi hk => ?_⟩
  obtain ⟨bk, h1, h2, h3, h4⟩ := hr i hi hk
  exact ⟨bk, h1, h2, (ha.same _ h1 (Array.getElem?_eq_some_iff.1 h3).1).trans h3, h4⟩
theorem je.above {lo : Nat} {w w' : World} {bo : Nat} {ss : List Shp} {k : Nat} (h : je lo w bo ss k) (ha : yt lo w w') : je lo w' bo ss k := by
  obtain ⟨C, hC, hsz, hr⟩ := h.rows
  refine ⟨h.low, C, (ha.same _ h.low (Array.getElem?_eq_some_iff.1 hC).1).trans hC, hsz, fun i hi hk => ?_⟩
  obtain ⟨bf, h1, h2, h3, h4⟩ := hr i hi hk
  exact ⟨bf, h1, h2, h3.above (ha.mono (Nat.le_succ_of_le h.low)), h4⟩
theorem qF.above {lo : Nat} {w w' : World} {bo : Nat} {ms : List Mnd} {k : Nat} (h : qF lo w bo ms k) (ha : yt lo w w') : qF lo w' bo ms k := by
  obtain ⟨C, hC, hr⟩ := h.rows
  exact ⟨h.low, C, (ha.same _ h.low (Array.getElem?_eq_some_iff.1 hC).1).trans hC, hr⟩
theorem jP.above {ty : TypeId} {lo : Nat} {w w' : World} {bo : Nat} {ts : List Tm} {k : Nat} (h : jP ty lo w bo ts k) (ha : yt lo w w') : jP ty lo w' bo ts k := by
  obtain ⟨C, hC, hr⟩ := h.rows
  exact ⟨h.low, C, (ha.same _ h.low (Array.getElem?_eq_some_iff.1 hC).1).trans hC, hr⟩
structure zg1 (lo : Nat) (w : World) (l : Lw) (a b c : Nat) : Prop where
  ss : je lo w a l.ss l.ss.length
  ms : qF lo w b l.ms l.ms.length
  ts : jP 127 lo w c l.ts l.ts.length
theorem zg1.above {lo : Nat} {w w' : World} {l : Lw} {a b c : Nat} (h : zg1 lo w l a b c) (ha : yt lo w w') : zg1 lo w' l a b c := ⟨h.ss.above ha, h.ms.above ha, h.ts.above ha⟩
structure Lw.Small (l : Lw) : Prop where
  ss : zc2 l.ss
  ls : l.ss.length <= maxLen
  ms : ∀ i (h : i < l.ms.length), l.ms[i].Small
  lm : l.ms.length <= maxLen
  ts : ∀ i (h : i < l.ts.length), l.ts[i].Small
  lt : l.ts.length <= maxLen
theorem qB.small {w : World} {l : Lw} {a b c : Option Addr} (h : qB w l a b c) : l.Small := ⟨h.ss.smalls, h.ss.len, h.ms.small, h.ms.len, h.ts.small, h.ts.len⟩
theorem zg1.at {lo : Nat} {w : World} {l : Lw} {a b c : Nat} (h : zg1 lo w l a b c) (hs : l.Small) : qB w l (some ⟨a, 0, none⟩) (some ⟨b, 0, none⟩) (some ⟨c, 0, none⟩) := ⟨h.ss.at hs.ss hs.ls, h.ms.at hs.ms hs.lm, h.ts.at hs.ts hs.lt⟩
end Go.Proofs.YtfpeplbmfbepcaaGreat

namespace Go.Proofs.YtfpeplbmfbepcaaGreat
open Go.RowKit
theorem zqm {o : Ob} {l : Int} (h : (zcY o : Int) <= l) (hl : l <= 1048576) : o.vs.length <= 1048576 /\ o.hs.length <= 1048576 := by
  unfold zcY qm at h
  omega
end Go.Proofs.YtfpeplbmfbepcaaGreat

namespace Go.Proofs.YtfpeplbmfbepcaaGreat
open Go.RowKit
theorem lt_of_some {w : World} {b : Nat} {o : Obj} (h : w.heap[b]? = some o) : b < w.heap.size := (Array.getElem?_eq_some_iff.1 h).1
theorem zlo {lo lo' : Nat} {w : World} {bo : Nat} {ms : List Mnd} {k : Nat} (h : qF lo w bo ms k) (hl : lo' <= lo) : qF lo' w bo ms k := ⟨Nat.le_trans hl h.low, h.rows⟩
theorem zlj {ty : TypeId} {lo lo' : Nat} {w : World} {bo : Nat} {ts : List Tm} {k : Nat} (h : jP ty lo w bo ts k) (hl : lo' <= lo) : jP ty lo' w bo ts k := ⟨Nat.le_trans hl h.low, h.rows⟩
set_option maxHeartbeats 2000000 in
theorem zeS (l : Lw) (a b c : Option Addr) (ca cb cc : Nat) (w : World) (hl : qB w l a b c) (hf : l.Few) :
    Calls Tryz.prog 7 #[.agg (l.cells a b c ca cb cc)] w fun e w' => ∃ lo a' b' c', e = .returned (.agg (l.cells (some ⟨a', 0, none⟩) (some ⟨b', 0, none⟩) (some ⟨c', 0, none⟩) l.ss.length l.ms.length l.ts.length)) /\ w.heap.size <= lo /\ zg1 lo w' l a' b' c' /\ Below w.heap.size w w' := by
  have HL : Hid (qB w l a b c) := hl
  have HF : Hid l.Few := hf
  clear hl hf
  unfold Lw.cells
  go_enter Tryz.func7, Tryz.ntmps7
  go_wp2_with fail
  have k0 := zo7 w (.cells (lC l a b c ca cb cc) 26) (.cells #[.slice none 0 0, .slice none 0 0, .slice none 0 0] 41) (.cells #[.slice none 0 0, .slice none 0 0, .slice none 0 0] 41)
  have hB0 := below3' w (.cells (lC l a b c ca cb cc) 26) (.cells #[.slice none 0 0, .slice none 0 0, .slice none 0 0] 41) (.cells #[.slice none 0 0, .slice none 0 0, .slice none 0 0] 41)
  obtain ⟨W0, hW0⟩ : ∃ W0, W0 = ((w.alloc (.cells (lC l a b c ca cb cc) 26)).alloc (.cells #[.slice none 0 0, .slice none 0 0, .slice none 0 0] 41)).alloc (.cells #[.slice none 0 0, .slice none 0 0, .slice none 0 0] 41) := ⟨_, rfl⟩
  have hz0 : w.heap.size + 1 + 1 < W0.heap.size := by rw [hW0]; simp
  rw [<- hW0] at k0 hB0 ⊢
  clear hW0
  have HLO : Hid (w.heap.size + 1 + 1 < W0.heap.size) := hz0
  refine (zgv _ _ l.ss _ (HL.out.ss.mono hB0) HF.out.ss.1 HF.out.ss.2).mono ?_
  rintro e w1 ⟨rfl, hown, hb⟩
  obtain ⟨a', ha'⟩ : ∃ a', a' = W0.heap.size := ⟨_, rfl⟩
  have HO1 : Hid (je W0.heap.size w1 a' l.ss l.ss.length) := by rw [ha']; exact hown
  have hX1 := (hb.block _ (by omega)).trans k0.1
  have hR1 := (hb.block _ (by omega)).trans k0.2.1
  have hO1 := (hb.block _ hz0).trans k0.2.2
  have HZ1 : Hid (W0.heap.size <= w1.heap.size) := hb.size
  have HB1 : Hid (Below w.heap.size w w1) := hB0.trans (hb.mono hB0.size)
  rw [<- ha']
  clear hown hb k0 hB0 hz0 ha'
  have cO1 := fun j => cell_of_block (o := j) hO1
  have fO1 := fun j => zh (o := j) hO1
  have HX1' : Hid ((w1.setCell ⟨w.heap.size + 1 + 1, 0, none⟩ (.slice (some ⟨a', 0, none⟩) l.ss.length l.ss.length)).heap[w.heap.size]? = some (.cells (lC l a b c ca cb cc) 26)) := (zB (by omega)).trans hX1
  have HR1' : Hid ((w1.setCell ⟨w.heap.size + 1 + 1, 0, none⟩ (.slice (some ⟨a', 0, none⟩) l.ss.length l.ss.length)).heap[w.heap.size + 1]? = some (.cells #[.slice none 0 0, .slice none 0 0, .slice none 0 0] 41)) := (zB (by omega)).trans hR1
  have HO1' : Hid ((w1.setCell ⟨w.heap.size + 1 + 1, 0, none⟩ (.slice (some ⟨a', 0, none⟩) l.ss.length l.ss.length)).heap[w.heap.size + 1 + 1]? = some (.cells #[.slice (some ⟨a', 0, none⟩) l.ss.length l.ss.length, .slice none 0 0, .slice none 0 0] 41)) := zf hO1 _
  have HAB1 : Hid (yt W0.heap.size w1 (w1.setCell ⟨w.heap.size + 1 + 1, 0, none⟩ (.slice (some ⟨a', 0, none⟩) l.ss.length l.ss.length))) := yt.setCell HLO.out _
  have HBB1 : Hid (Below w.heap.size w (w1.setCell ⟨w.heap.size + 1 + 1, 0, none⟩ (.slice (some ⟨a', 0, none⟩) l.ss.length l.ss.length))) := HB1.out.setCell (by show w.heap.size <= w.heap.size + 1 + 1; omega) _
  have HZZ1 : Hid (W0.heap.size <= (w1.setCell ⟨w.heap.size + 1 + 1, 0, none⟩ (.slice (some ⟨a', 0, none⟩) l.ss.length l.ss.length)).heap.size) := by unfold Hid; rw [World.size_setCell]; exact HZ1.out
  clear hX1 hR1 hO1
  have cX1 := fun j => cell_of_block (o := j) HX1'.out
  have cR1 := fun j => cell_of_block (o := j) HR1'.out
  have fR1 := fun j => zh (o := j) HR1'.out
  have cOO1 := fun j => cell_of_block (o := j) HO1'.out
  go_wp2_with fail
  refine (zhH _ _ l.ms _ (HL.out.ms.mono HBB1.out) HF.out.ms).mono ?_
  rintro e w2 ⟨rfl, hown, hb⟩
  obtain ⟨b', hp'⟩ : ∃ b', b' = (w1.setCell ⟨w.heap.size + 1 + 1, 0, none⟩ (.slice (some ⟨a', 0, none⟩) l.ss.length l.ss.length)).heap.size := ⟨_, rfl⟩
  have HN2 : Hid (qF W0.heap.size w2 b' l.ms l.ms.length) := by rw [hp']; exact zlo hown HZZ1.out
  have HAA2 : Hid (yt W0.heap.size w1 w2) := HAB1.out.trans (yt.below hb)
  have hX2 := (hb.block _ (lt_of_some HX1'.out)).trans HX1'.out
  have hR2 := (hb.block _ (lt_of_some HR1'.out)).trans HR1'.out
  have hO2 := (hb.block _ (lt_of_some HO1'.out)).trans HO1'.out
  have HZ2 : Hid (W0.heap.size <= w2.heap.size) := Nat.le_trans HZZ1.out hb.size
  have HB2 : Hid (Below w.heap.size w w2) := HBB1.out.trans (hb.mono HBB1.out.size)
  rw [<- hp']
  clear hown hb hp' cX1 cR1 fR1 cOO1
  have cO2 := fun j => cell_of_block (o := j) hO2
  have fO2 := fun j => zh (o := j) hO2
  have HX2' : Hid ((w2.setCell ⟨w.heap.size + 1 + 1, 1, none⟩ (.slice (some ⟨b', 0, none⟩) l.ms.length l.ms.length)).heap[w.heap.size]? = some (.cells (lC l a b c ca cb cc) 26)) := (zB (by omega)).trans hX2
  have HR2' : Hid ((w2.setCell ⟨w.heap.size + 1 + 1, 1, none⟩ (.slice (some ⟨b', 0, none⟩) l.ms.length l.ms.length)).heap[w.heap.size + 1]? = some (.cells #[.slice none 0 0, .slice none 0 0, .slice none 0 0] 41)) := (zB (by omega)).trans hR2
  have HO2' : Hid ((w2.setCell ⟨w.heap.size + 1 + 1, 1, none⟩ (.slice (some ⟨b', 0, none⟩) l.ms.length l.ms.length)).heap[w.heap.size + 1 + 1]? = some (.cells #[.slice (some ⟨a', 0, none⟩) l.ss.length l.ss.length, .slice (some ⟨b', 0, none⟩) l.ms.length l.ms.length, .slice none 0 0] 41)) := zf hO2 _
  have HAB2 : Hid (yt W0.heap.size w2 (w2.setCell ⟨w.heap.size + 1 + 1, 1, none⟩ (.slice (some ⟨b', 0, none⟩) l.ms.length l.ms.length))) := yt.setCell HLO.out _
  have HBB2 : Hid (Below w.heap.size w (w2.setCell ⟨w.heap.size + 1 + 1, 1, none⟩ (.slice (some ⟨b', 0, none⟩) l.ms.length l.ms.length))) := HB2.out.setCell (by show w.heap.size <= w.heap.size + 1 + 1; omega) _
  have HZZ2 : Hid (W0.heap.size <= (w2.setCell ⟨w.heap.size + 1 + 1, 1, none⟩ (.slice (some ⟨b', 0, none⟩) l.ms.length l.ms.length)).heap.size) := by unfold Hid; rw [World.size_setCell]; exact HZ2.out
  clear hX2 hR2 hO2
  have cX2 := fun j => cell_of_block (o := j) HX2'.out
  have cR2 := fun j => cell_of_block (o := j) HR2'.out
  have fR2 := fun j => zh (o := j) HR2'.out
  have cOO2 := fun j => cell_of_block (o := j) HO2'.out
  go_wp2_with fail
  refine (zhq _ _ l.ts _ (HL.out.ts.mono HBB2.out) HF.out.ts).mono ?_
  rintro e w3 ⟨rfl, hown, hb⟩
  obtain ⟨c', hp'⟩ : ∃ c', c' = (w2.setCell ⟨w.heap.size + 1 + 1, 1, none⟩ (.slice (some ⟨b', 0, none⟩) l.ms.length l.ms.length)).heap.size := ⟨_, rfl⟩
  have HN3 : Hid (jP 127 W0.heap.size w3 c' l.ts l.ts.length) := by rw [hp']; exact zlj hown HZZ2.out
  have HAA3 : Hid (yt W0.heap.size w2 w3) := HAB2.out.trans (yt.below hb)
  have hX3 := (hb.block _ (lt_of_some HX2'.out)).trans HX2'.out
  have hR3 := (hb.block _ (lt_of_some HR2'.out)).trans HR2'.out
  have hO3 := (hb.block _ (lt_of_some HO2'.out)).trans HO2'.out
  have HZ3 : Hid (W0.heap.size <= w3.heap.size) := Nat.le_trans HZZ2.out hb.size
  have HB3 : Hid (Below w.heap.size w w3) := HBB2.out.trans (hb.mono HBB2.out.size)
  rw [<- hp']
  clear hown hb hp' cX2 cR2 fR2 cOO2
  have cO3 := fun j => cell_of_block (o := j) hO3
  have fO3 := fun j => zh (o := j) hO3
  have HX3' : Hid ((w3.setCell ⟨w.heap.size + 1 + 1, 2, none⟩ (.slice (some ⟨c', 0, none⟩) l.ts.length l.ts.length)).heap[w.heap.size]? = some (.cells (lC l a b c ca cb cc) 26)) := (zB (by omega)).trans hX3
  have HR3' : Hid ((w3.setCell ⟨w.heap.size + 1 + 1, 2, none⟩ (.slice (some ⟨c', 0, none⟩) l.ts.length l.ts.length)).heap[w.heap.size + 1]? = some (.cells #[.slice none 0 0, .slice none 0 0, .slice none 0 0] 41)) := (zB (by omega)).trans hR3
  have HO3' : Hid ((w3.setCell ⟨w.heap.size + 1 + 1, 2, none⟩ (.slice (some ⟨c', 0, none⟩) l.ts.length l.ts.length)).heap[w.heap.size + 1 + 1]? = some (.cells #[.slice (some ⟨a', 0, none⟩) l.ss.length l.ss.length, .slice (some ⟨b', 0, none⟩) l.ms.length l.ms.length, .slice (some ⟨c', 0, none⟩) l.ts.length l.ts.length] 41)) := zf hO3 _
  have HAB3 : Hid (yt W0.heap.size w3 (w3.setCell ⟨w.heap.size + 1 + 1, 2, none⟩ (.slice (some ⟨c', 0, none⟩) l.ts.length l.ts.length))) := yt.setCell HLO.out _
  have HBB3 : Hid (Below w.heap.size w (w3.setCell ⟨w.heap.size + 1 + 1, 2, none⟩ (.slice (some ⟨c', 0, none⟩) l.ts.length l.ts.length))) := HB3.out.setCell (by show w.heap.size <= w.heap.size + 1 + 1; omega) _
  have HZZ3 : Hid (W0.heap.size <= (w3.setCell ⟨w.heap.size + 1 + 1, 2, none⟩ (.slice (some ⟨c', 0, none⟩) l.ts.length l.ts.length)).heap.size) := by unfold Hid; rw [World.size_setCell]; exact HZ3.out
  clear hX3 hR3 hO3
  have cX3 := fun j => cell_of_block (o := j) HX3'.out
  have cR3 := fun j => cell_of_block (o := j) HR3'.out
  have fR3 := fun j => zh (o := j) HR3'.out
  have cOO3 := fun j => cell_of_block (o := j) HO3'.out
  go_wp2_with fail
  refine bodyPost_ret (v := .agg #[.slice (some ⟨a', 0, none⟩) l.ss.length l.ss.length, .slice (some ⟨b', 0, none⟩) l.ms.length l.ms.length, .slice (some ⟨c', 0, none⟩) l.ts.length l.ts.length]) (by simp [results, Tryz.results7, go_sem, cR3]) rfl ⟨W0.heap.size, a', b', c', rfl, by have := HLO.out; omega, ?_, ?_⟩
  · have hlt1 : w.heap.size + 1 < W0.heap.size := by have := HLO.out; omega
    have hA3 : ∀ v0 v1 v2, yt W0.heap.size w3 ((((w3.setCell ⟨w.heap.size + 1 + 1, 2, none⟩ (.slice (some ⟨c', 0, none⟩) l.ts.length l.ts.length)).setCell ⟨w.heap.size + 1, 0, none⟩ v0).setCell ⟨w.heap.size + 1, 1, none⟩ v1).setCell ⟨w.heap.size + 1, 2, none⟩ v2) := fun v0 v1 v2 => HAB3.out.trans (((yt.setCell (p := ⟨w.heap.size + 1, 0, none⟩) hlt1 v0).trans (yt.setCell (p := ⟨w.heap.size + 1, 1, none⟩) hlt1 v1)).trans (yt.setCell (p := ⟨w.heap.size + 1, 2, none⟩) hlt1 v2))
    exact ⟨HO1.out.above ((HAA2.out.trans HAA3.out).trans (hA3 _ _ _)), HN2.out.above (HAA3.out.trans (hA3 _ _ _)), HN3.out.above (hA3 _ _ _)⟩
  · exact ((HBB3.out.setCell (Nat.le_succ _) _).setCell (Nat.le_succ _) _).setCell (Nat.le_succ _) _
theorem zcN (l : Lw) (a b c : Option Addr) (ca cb cc : Nat) (w : World) (hl : qB w l a b c) (hf : l.Few) :
    Calls Tryz.prog 7 #[.agg (l.cells a b c ca cb cc)] w fun e w' => ∃ a' b' c', e = .returned (.agg (l.cells a' b' c' l.ss.length l.ms.length l.ts.length)) /\ qB w' l a' b' c' /\ Below w.heap.size w w' := by
  refine (zeS l a b c ca cb cc w hl hf).mono ?_
  rintro e w' ⟨lo, a', b', c', he, _, ho, hb⟩
  exact ⟨_, _, _, he, ho.at hl.small, hb⟩
end Go.Proofs.YtfpeplbmfbepcaaGreat

namespace Go.Proofs.YtfpeplbmfbepcaaGreat
open Go.RowKit
namespace Gate
def yx (f : Fld) (v res : ByteArray) : Int := if f.kd = 1 /\ f.wg = res then zad v else 0
def zdi (fs : List Fld) (vs : List ByteArray) (res : ByteArray) : Nat -> Int
  | 0 => 0
  | k + 1 => zdi fs vs res k + yx (fs.getD k za9) (vs.getD k ByteArray.empty) res
def qp (ss : List Shp) (o : Ob) (res : ByteArray) : Int :=
  if zo ss o = true /\ res.toList.isEmpty = false then (if res = o.kd then 1 else 0) + zdi (shapeOf ss o.kd).fs o.vs res (shapeOf ss o.kd).fs.length else 0
theorem zdg (s : ByteArray) : 0 <= zad s /\ zad s <= 10000000 := by
  unfold zad
  split
  · rename_i h
    refine ⟨zcq s h, ?_⟩
    unfold jZ at h
    simp only [Bool.and_eq_true, decide_eq_true_eq] at h
    have := (zeu s.data.toList h.2 7 (by have := h.1.1.2; simpa using this)).2
    unfold zfj
    omega
  · omega
theorem zfT (f : Fld) (v res : ByteArray) : 0 <= yx f v res /\ yx f v res <= 10000000 := by
  unfold yx
  split
  · exact zdg v
  · omega
theorem zcn (fs : List Fld) (vs : List ByteArray) (res : ByteArray) : ∀ k, 0 <= zdi fs vs res k /\ zdi fs vs res k <= k * 10000000
  | 0 => by simp [zdi]
  | k + 1 => by
    have h1 := zcn fs vs res k
    have h2 := zfT (fs.getD k za9) (vs.getD k ByteArray.empty) res
    simp only [zdi]
    omega
theorem zfU (ss : List Shp) (o : Ob) (res : ByteArray) (h : o.vs.length <= 1048576) : 0 <= qp ss o res /\ qp ss o res <= 20000000000000 := by
  unfold qp
  split
  · rename_i hc
    have hc1 := hc.1
    unfold zo at hc1
    simp only [Bool.and_eq_true, decide_eq_true_eq] at hc1
    have := zcn (shapeOf ss o.kd).fs o.vs res (shapeOf ss o.kd).fs.length
    have h3 := hc1.2
    split <;> omega
  · omega
theorem zof (fs : List Fld) (vs : List ByteArray) (res : ByteArray) (k : Nat) (h : k < fs.length) (h' : k < vs.length) : zdi fs vs res (k + 1) = zdi fs vs res k + yx fs[k] vs[k] res := by
  have e1 : fs.getD k za9 = fs[k] := by simp [List.getD, h]
  have e2 : vs.getD k ByteArray.empty = vs[k] := by simp [List.getD, h']
  simp only [zdi]
  rw [e1, e2]
end Gate
end Go.Proofs.YtfpeplbmfbepcaaGreat

namespace Go.Proofs.YtfpeplbmfbepcaaGreat
open Go.RowKit
set_option maxHeartbeats 400000 in
theorem zct (v : Int) (w : World) :
    Calls Tryz.prog 217 #[.int .i64 v] w fun e w' => e = .returned (.bool (Gate.zcF v)) /\ w' = w := by
  go_enter Tryz.func217, Tryz.ntmps217
  go_wp2
  all_goals
    go_ret
    refine ⟨ze ?_, rfl⟩
    rw [Bool.eq_iff_iff]; simp [Gate.zcF]; try omega
theorem Gate.zkr {vs : List Int} {k : Nat} (h : k < vs.length) (hn : Gate.zcF vs[k] = false) : Gate.zab vs k = false := by
  unfold Gate.zab; rw [Gate.getD_at vs k _ h, hn]; rfl
theorem Gate.zfd {vs : List Int} (h : 0 < vs.length) (hn : Gate.zcF vs[0] = true) : Gate.zab vs 0 = true := by
  unfold Gate.zab; rw [Gate.getD_at vs 0 _ h, hn]; rfl
theorem Gate.zgU {vs : List Int} {k : Nat} (h : k + 1 < vs.length) (hn : Gate.zcF vs[k + 1] = true) : Gate.zab vs (k + 1) = decide (vs[k] < vs[k + 1]) := by
  unfold Gate.zab; rw [Gate.getD_at vs (k + 1) _ h, Nat.add_sub_cancel, Gate.getD_at vs k _ (by omega), hn]; simp
set_option maxHeartbeats 1000000 in
theorem zkY (a : Option Addr) (cap : Nat) (vs : List Int) (w : World) (hw : yM w a vs) :
    Calls Tryz.prog 199 #[.slice a vs.length cap] w fun e w' => e = .returned (.bool (Gate.zbF vs)) /\ w' = w := by
  have hl := hw.len
  unfold maxLen at hl
  have HG : Hid (Gate.up (Gate.zab vs) vs.length = false -> Gate.zbF vs = false) := fun h => by unfold Gate.zbF; rw [h, Bool.and_false]
  go_enter Tryz.func199, Tryz.ntmps199
  go_wp2_with fail
  go_loop [7] (fun i => ∃ k : Nat, k <= vs.length /\ i = .int .i64 k /\ Gate.up (Gate.zab vs) k = true) (fun i => vs.length - (intOf i).toNat)
  case atStart => exact ⟨0, Nat.zero_le _, rfl, rfl⟩
  case round =>
    obtain ⟨k, hk, rfl, hup⟩ := hrel
    by_cases hlt : k < vs.length
    · obtain ⟨b, off, rfl, hb, hck⟩ := hw.load (Below.refl _ _) k hlt
      have hltI : (k : Int) < (vs.length : Int) := by omega
      by_cases hn : Gate.zcF vs[k] = true
      · by_cases hk0 : k = 0
        · have HF : Hid (Gate.up (Gate.zab vs) (k + 1) = true) := by subst hk0; unfold Hid; rw [Gate.jG, Gate.zfd hlt hn]; rfl
          have hg : decide (0 < k) = false := by simp; omega
          have HN := hid hn
          clear hn hup hk0 hw
          go_wp2_with (go_at_call 217; refine (zw HN.out (zct _ _)).mono ?_; rintro e w' ⟨rfl, rfl⟩)
          go_round
          case rel => exact ⟨k + 1, by omega, by go_num, HF.out⟩
          case measure => simp [intOf]; omega
        · obtain ⟨m, rfl⟩ : ∃ m, k = m + 1 := ⟨k - 1, by omega⟩
          obtain ⟨b', off', e', hb', hcm⟩ := hw.load (Below.refl _ _) m (by omega)
          simp only [Option.some.injEq, Addr.mk.injEq] at e'
          obtain ⟨rfl, rfl, _⟩ := e'
          have HU : Hid (Gate.up (Gate.zab vs) (m + 1 + 1) = decide (vs[m] < vs[m + 1])) := by unfold Hid; rw [Gate.jG, hup, Gate.zgU hlt hn]; rfl
          have HNN : Hid (¬ vs[m] < vs[m + 1] -> Gate.zbF vs = false) := fun h => HG.out (Gate.zbg hlt (by rw [Gate.zgU hlt hn]; simpa using h))
          have HN := hid hn
          clear hn hup hk0 hw
          by_cases hls : vs[m] < vs[m + 1]
          · have hls' : decide (vs[m + 1] <= vs[m]) = false := by simp; omega
            have HLS := hid hls
            clear hls
            go_wp2_with (go_at_call 217; refine (zw HN.out (zct _ _)).mono ?_; rintro e w' ⟨rfl, rfl⟩)
            go_round
            case rel => exact ⟨m + 1 + 1, by omega, by go_num, by rw [HU.out]; simpa using HLS.out⟩
            case measure => simp [intOf]; omega
          · have hls' : vs[m + 1] <= vs[m] := by omega
            have HLS := hid hls
            clear hls
            go_wp2_with (go_at_call 217; refine (zw HN.out (zct _ _)).mono ?_; rintro e w' ⟨rfl, rfl⟩)
            go_ret
            exact ⟨ze (HNN.out HLS.out).symm, rfl⟩
      · have hn' : Gate.zcF vs[k] = false := by simpa using hn
        have HF := hid (HG.out (Gate.zbg hlt (Gate.zkr hlt hn')))
        have HN := hid hn'
        clear hn hn' hup hw
        go_wp2_with (go_at_call 217; refine (zw HN.out (zct _ _)).mono ?_; rintro e w' ⟨rfl, rfl⟩)
        go_ret
        exact ⟨ze HF.out.symm, rfl⟩
    · have HF : Hid (Gate.zbF vs = decide (0 < vs.length)) := by
        have e : k = vs.length := by omega
        subst e; unfold Hid Gate.zbF; rw [hup, Bool.and_true]
      clear hw hup
      go_wp2_with fail
      go_ret
      exact ⟨ze (by rw [HF.out]), rfl⟩
end Go.Proofs.YtfpeplbmfbepcaaGreat

namespace Go.Proofs.YtfpeplbmfbepcaaGreat
open Go.RowKit
set_option maxHeartbeats 800000 in
theorem zjC (a : Option Addr) (cap : Nat) (ts : List Tm) (x y : ByteArray) (w : World) (hw : jh w a ts) :
    Calls Tryz.prog 136 #[.slice a ts.length cap, .string x, .string y] w fun e w' => e = .returned (.bool (Gate.under ts 4 x y)) /\ w' = w := by
  by_cases hxy : x = y
  · have HF := hid (Gate.zdC ts 4 x y hxy)
    have hbe : (x.toList == y.toList) = true := by rw [Gate.beq_toList]; simpa using hxy
    clear hxy
    go_enter Tryz.func136, Tryz.ntmps136
    go_wp2_with fail
    go_ret
    exact ⟨ze HF.out.symm, rfl⟩
  have hbe : (x.toList == y.toList) = false := by rw [Gate.beq_toList]; simpa using hxy
  have HXY := hid hxy
  clear hxy
  go_enter Tryz.func136, Tryz.ntmps136
  go_wp2_with fail
  go_loop [1, 7] (fun p i => ∃ (k : Nat) (z : ByteArray), k <= 4 /\ p = .string z /\ i = .int .i64 k /\ ¬ z = y /\ Gate.under ts 4 x y = Gate.under ts (4 - k) z y) (fun _ i => 4 - (intOf i).toNat)
  case atStart => exact ⟨0, x, Nat.zero_le _, rfl, rfl, HXY.out, rfl⟩
  case round =>
    obtain ⟨k, z, hk, rfl, rfl, hz, hu⟩ := hrel
    have HZ := qJ hz hu
    clear hz hu hbe
    by_cases hlt : k < 4
    · have hltI : (k : Int) < 4 := by omega
      obtain ⟨m, hm⟩ : ∃ m, 4 - k = m + 1 := ⟨3 - k, by omega⟩
      by_cases h0 : (Gate.over ts z).size = 0
      · have HF : Hid (Gate.under ts 4 x y = false) := by rw [HZ.out.2, hm]; exact Gate.ziu ts m HZ.out.1 h0
        have h0' : (Gate.over ts z).toList.isEmpty = true := by rw [Gate.zu]; simpa using h0
        clear h0 hm
        go_wp2_with (go_at_call 128; refine (zb7 _ _ _ _ _ hw).mono ?_; rintro e w' ⟨rfl, rfl⟩)
        go_ret
        exact ⟨ze HF.out.symm, rfl⟩
      · have HO : Hid (Gate.under ts 4 x y = Gate.under ts m (Gate.over ts z) y) := by rw [Hid, HZ.out.2, hm]; exact Gate.zmi ts m HZ.out.1 h0
        have h0' : (Gate.over ts z).toList.isEmpty = false := by rw [Gate.zu]; simpa using h0
        clear h0
        by_cases hy : Gate.over ts z = y
        · have HF : Hid (Gate.under ts 4 x y = true) := by rw [Hid, HO.out]; exact Gate.zdC ts m _ _ hy
          have hy' : ((Gate.over ts z).toList == y.toList) = true := by rw [Gate.beq_toList]; simpa using hy
          clear hy
          go_wp2_with (go_at_call 128; refine (zb7 _ _ _ _ _ hw).mono ?_; rintro e w' ⟨rfl, rfl⟩)
          go_ret
          exact ⟨ze HF.out.symm, rfl⟩
        · have hy' : ((Gate.over ts z).toList == y.toList) = false := by rw [Gate.beq_toList]; simpa using hy
          have HY := hid hy
          clear hy
          go_wp2_with (go_at_call 128; refine (zb7 _ _ _ _ _ hw).mono ?_; rintro e w' ⟨rfl, rfl⟩)
          go_round
          case rel => exact ⟨k + 1, Gate.over ts z, by omega, rfl, by go_num, HY.out, by rw [HO.out, show 4 - (k + 1) = m by omega]⟩
          case measure => simp [intOf]; omega
    · have HF : Hid (Gate.under ts 4 x y = false) := by
        have e : 4 - k = 0 := by omega
        rw [Hid, HZ.out.2, e]; exact Gate.zkh ts HZ.out.1
      go_wp2_with fail
      go_ret
      exact ⟨ze HF.out.symm, rfl⟩
set_option maxHeartbeats 800000 in
theorem zju (a : Option Addr) (cap : Nat) (ts : List Tm) (x y : ByteArray) (w : World) (hw : jh w a ts) :
    Calls Tryz.prog 218 #[.slice a ts.length cap, .string x, .string y] w fun e w' => e = .returned (.bool (Gate.under ts 4 x y)) /\ Below w.heap.size w w' := by
  by_cases hxy : x = y
  · have HF := hid (Gate.zdC ts 4 x y hxy)
    have hbe : (x.toList == y.toList) = true := by rw [Gate.beq_toList]; simpa using hxy
    clear hxy
    go_enter Tryz.func218, Tryz.ntmps218
    go_wp2_with fail
    go_ret
    exact ⟨ze HF.out.symm, Below.refl _ _⟩
  have hbe : (x.toList == y.toList) = false := by rw [Gate.beq_toList]; simpa using hxy
  have HXY := hid hxy
  clear hxy
  go_enter Tryz.func218, Tryz.ntmps218
  go_wp2_with fail
  go_loopw [1, 10] (fun p i wr => ∃ (k : Nat) (z : ByteArray), k <= 4 /\ p = .string z /\ i = .int .i64 k /\ ¬ z = y /\ Gate.under ts 4 x y = Gate.under ts (4 - k) z y /\ Below w.heap.size w wr) (fun _ i _ => 4 - (intOf i).toNat)
  case atStart => exact ⟨0, x, Nat.zero_le _, rfl, rfl, HXY.out, rfl, Below.refl _ _⟩
  case round =>
    obtain ⟨k, z, hk, rfl, rfl, hz, hu, hB⟩ := hrel
    have HZ := qJ hz hu
    clear hz hu hbe
    by_cases hlt : k < 4
    · have hltI : (k : Int) < 4 := by omega
      obtain ⟨m, hm⟩ : ∃ m, 4 - k = m + 1 := ⟨3 - k, by omega⟩
      by_cases h0 : (Gate.over ts z).size = 0
      · have HF : Hid (Gate.under ts 4 x y = false) := by rw [HZ.out.2, hm]; exact Gate.ziu ts m HZ.out.1 h0
        have h0' : (Gate.over ts z).toList.isEmpty = true := by rw [Gate.zu]; simpa using h0
        clear h0 hm
        go_wp2_with fail
        refine (zdj _ _ _ _ _ (hw.mono hB)).mono ?_
        rintro e w1 ⟨rfl, hb1⟩
        have hB1 := hB.trans (hb1.mono hB.size)
        clear hb1
        go_wp2_with fail
        go_ret
        exact ⟨ze HF.out.symm, hB1⟩
      · have HO : Hid (Gate.under ts 4 x y = Gate.under ts m (Gate.over ts z) y) := by rw [Hid, HZ.out.2, hm]; exact Gate.zmi ts m HZ.out.1 h0
        have h0' : (Gate.over ts z).toList.isEmpty = false := by rw [Gate.zu]; simpa using h0
        clear h0
        by_cases hy : Gate.over ts z = y
        · have HF : Hid (Gate.under ts 4 x y = true) := by rw [Hid, HO.out]; exact Gate.zdC ts m _ _ hy
          have hy' : ((Gate.over ts z).toList == y.toList) = true := by rw [Gate.beq_toList]; simpa using hy
          clear hy
          go_wp2_with fail
          refine (zdj _ _ _ _ _ (hw.mono hB)).mono ?_
          rintro e w1 ⟨rfl, hb1⟩
          have hB1 := hB.trans (hb1.mono hB.size)
          clear hb1
          go_wp2_with fail
          go_ret
          exact ⟨ze HF.out.symm, hB1⟩
        · have hy' : ((Gate.over ts z).toList == y.toList) = false := by rw [Gate.beq_toList]; simpa using hy
          have HY := hid hy
          clear hy
          go_wp2_with fail
          refine (zdj _ _ _ _ _ (hw.mono hB)).mono ?_
          rintro e w1 ⟨rfl, hb1⟩
          have hB1 := hB.trans (hb1.mono hB.size)
          clear hb1
          go_wp2_with fail
          exact ⟨⟨k + 1, Gate.over ts z, by omega, rfl, by go_num, HY.out, by rw [HO.out, show 4 - (k + 1) = m by omega], hB1⟩, by simp [intOf]; omega⟩
    · have HF : Hid (Gate.under ts 4 x y = false) := by
        have e : 4 - k = 0 := by omega
        rw [Hid, HZ.out.2, e]; exact Gate.zkh ts HZ.out.1
      go_wp2_with fail
      go_ret
      exact ⟨ze HF.out.symm, hB⟩
end Go.Proofs.YtfpeplbmfbepcaaGreat

namespace Go.Proofs.YtfpeplbmfbepcaaGreat
open Go.ChangeShapes Go.WideShapes Go.ChangeAt Go.RowKit
theorem Tryz.zpm : Tryz.prog.cellsOf 26 = 3 := by kernel_rfl
theorem Tryz.zmr : Tryz.prog.cellsOf 22 = 1 := by kernel_rfl
theorem Tryz.znJ : Tryz.prog.cellsOf 23 = 1 := by kernel_rfl
theorem Tryz.znL : Tryz.prog.cellsOf 24 = 1 := by kernel_rfl
theorem zpd {H : Type} {enc : TypeId × Value -> H} {w : World} {base : Nat} {spare : Nat -> Bool} {held : Bool} {fuel : Nat} {cs : List Value} {x : DataW H × List MemPlace}
    (h : DataW.trod enc Tryz.prog w base spare held fuel 26 cs = some x) :
    ∃ (l : Lw) (a b c : Option Addr) (ca cb cc : Nat), cs = (l.cells a b c ca cb cc).toList /\ qB w l a b c := by
  have hlen : cs.length = 3 := by
    obtain ⟨_, _, _, _, hl, _, _⟩ := DataW.trod_struct Tryz.underlying26 h
    rw [hl]; exact Tryz.zpm
  match cs, hlen with
  | [c0, c1, c2], _ =>
    have hf := jL Tryz.underlying26 h
    obtain ⟨_, _, f0⟩ := hf 0 22 0 c0 rfl Tryz.zmr rfl
    obtain ⟨_, _, f1⟩ := hf 1 23 1 c1 rfl Tryz.znJ rfl
    obtain ⟨_, _, f2⟩ := hf 2 24 2 c2 rfl Tryz.znL rfl
    obtain ⟨a, ca, ss, e0, hS⟩ := zmP f0
    obtain ⟨b, cb, ms, e1, hM⟩ := zna f1
    obtain ⟨c, cc, ts, e2, hT⟩ := znW f2
    simp only [List.cons.injEq, and_true] at e0 e1 e2
    subst e0 e1 e2
    exact ⟨⟨ss, ms, ts⟩, a, b, c, ca, cb, cc, rfl, ⟨hS, hM, hT⟩⟩
end Go.Proofs.YtfpeplbmfbepcaaGreat
