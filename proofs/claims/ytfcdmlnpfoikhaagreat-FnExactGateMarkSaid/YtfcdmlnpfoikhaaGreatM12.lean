import Derived.Test.YtfcdmlnpfoikhaaGreatM04
import Derived.Test.YtfcdmlnpfoikhaaGreatM08
import Derived.Test.YtfcdmlnpfoikhaaGreatM06
import Derived.Test.YtfcdmlnpfoikhaaGreatM11
import Derived.Test.YtfcdmlnpfoikhaaGreatM07
import Derived.Test.YtfcdmlnpfoikhaaGreatM03
import Derived.Test.YtfcdmlnpfoikhaaGreatM02
import Derived.Deep.QuietTactic
import Derived.BigQuiet
namespace Go.Proofs.YtfcdmlnpfoikhaaGreat
open Go.RowKit
theorem zok {ss : List Shp} (h : (zai ss : Int) <= 1048576) : ss.length <= 1048576 /\ ∀ i (h : i < ss.length), ss[i].fs.length <= 1048576 /\ ∀ j (h' : j < ss[i].fs.length), ss[i].fs[j].ws.length <= 1048576 := by
  unfold zai at h
  refine ⟨by omega, fun i hi => ?_⟩
  have h1 : Shp.sz ss[i] <= zgf ss := zhv Shp.sz ss i hi
  unfold Shp.sz zaf at h1
  refine ⟨by omega, fun j hj => ?_⟩
  have h2 : Fld.sz ss[i].fs[j] <= zfW ss[i].fs := zhv Fld.sz ss[i].fs j hj
  unfold Fld.sz jV qj at h2
  omega
end Go.Proofs.YtfcdmlnpfoikhaaGreat

namespace Go.Proofs.YtfcdmlnpfoikhaaGreat
open Go.RowKit
def zpi (w : World) (b o : Nat) (v0 v1 v2 v3 v4 v5 : Value) : World := (((((w.setCell ⟨b, o, none⟩ v0).setCell ⟨b, o + 1, none⟩ v1).setCell ⟨b, o + 2, none⟩ v2).setCell ⟨b, o + 3, none⟩ v3).setCell ⟨b, o + 4, none⟩ v4).setCell ⟨b, o + 5, none⟩ v5
def zml (C : Array Value) (o : Nat) (v0 v1 v2 v3 v4 v5 : Value) : Array Value := (((((C.setIfInBounds o v0).setIfInBounds (o + 1) v1).setIfInBounds (o + 2) v2).setIfInBounds (o + 3) v3).setIfInBounds (o + 4) v4).setIfInBounds (o + 5) v5
theorem zmZ {w : World} {b o : Nat} {C : Array Value} {t : TypeId} (h : w.heap[b]? = some (.cells C t)) (v0 v1 v2 v3 v4 v5 : Value) : (zpi w b o v0 v1 v2 v3 v4 v5).heap[b]? = some (.cells (zml C o v0 v1 v2 v3 v4 v5) t) :=
  zf (zf (zf (zf (zf (zf h v0) v1) v2) v3) v4) v5
theorem zmf {B : Nat} {a w : World} (h : Below B a w) {b : Nat} (hb : B <= b) (o : Nat) (v0 v1 v2 v3 v4 v5 : Value) : Below B a (zpi w b o v0 v1 v2 v3 v4 v5) :=
  (((((h.setCell hb v0).setCell hb v1).setCell hb v2).setCell hb v3).setCell hb v4).setCell hb v5
theorem znZ (C : Array Value) (o : Nat) (v0 v1 v2 v3 v4 v5 : Value) : (zml C o v0 v1 v2 v3 v4 v5).size = C.size := by simp [zml]
theorem zow (C : Array Value) (o i : Nat) (v0 v1 v2 v3 v4 v5 : Value) (h : i < o \/ o + 6 <= i) : (zml C o v0 v1 v2 v3 v4 v5)[i]? = C[i]? := by
  unfold zml
  iterate 6 rw [Array.getElem?_setIfInBounds, if_neg (by omega)]
theorem zo0 (C : Array Value) (o j : Nat) (v0 v1 v2 v3 v4 v5 : Value) (hj : j < 6) (ho : o + 6 <= C.size) : (zml C o v0 v1 v2 v3 v4 v5)[o + j]? = (#[v0, v1, v2, v3, v4, v5] : Array Value)[j]? := by
  have hc : j = 0 \/ j = 1 \/ j = 2 \/ j = 3 \/ j = 4 \/ j = 5 := by omega
  unfold zml
  rcases hc with h | h | h | h | h | h <;> subst h <;> simp [Array.getElem?_setIfInBounds] <;> omega
theorem qF.put {lo : Nat} {w : World} {bo : Nat} {ms : List Mnd} {k : Nat} (h : qF lo w bo ms k) (hk : k < ms.length) :
    qF lo (zpi w bo (k * 6) (.string ms[k].kd) (.string ms[k].fd) (.string ms[k].wh) (.string ms[k].wi) (.string ms[k].pt) (.string ms[k].fr)) bo ms (k + 1) := by
  obtain ⟨C, hC, hsz, hr⟩ := h.rows
  refine ⟨h.low, _, zmZ hC _ _ _ _ _ _, by rw [znZ]; exact hsz, fun i hi hik j hj => ?_⟩
  rcases Nat.lt_or_ge i k with hlt | hge
  · rw [zow _ _ _ _ _ _ _ _ _ (by omega)]
    exact hr i hi hlt j hj
  · have e : i = k := by omega
    subst e
    rw [zo0 _ _ _ _ _ _ _ _ _ hj (by omega)]
    rfl
set_option maxHeartbeats 1000000 in
theorem zhO (m : Mnd) (w : World) :
    Calls Tryz.prog 63 #[.agg m.cells] w fun e w' => e = .returned (.agg m.cells) /\ Below w.heap.size w w' := by
  unfold Mnd.cells
  go_enter Tryz.func63, Tryz.ntmps63
  go_wp2_with fail
  refine bodyPost_ret (v := .agg #[.string m.kd, .string m.fd, .string m.wh, .string m.wi, .string m.pt, .string m.fr]) (by simp [results, Tryz.results63, go_sem]) rfl ⟨rfl, ?_⟩
  exact ((((Below.refl _ _).alloc (Nat.le_refl _) _).alloc (by simp) _).alloc (by simp; omega) _)
def zno : Array Value := #[.string ByteArray.empty, .string ByteArray.empty, .string ByteArray.empty, .string ByteArray.empty, .string ByteArray.empty, .string ByteArray.empty]
def zlz (n : Nat) : Array Value := madeCells zno (n * 6)
set_option maxHeartbeats 2000000 in
theorem zhd (a : Option Addr) (cap : Nat) (ms : List Mnd) (w : World) (hw : qw w a ms) (hl : ms.length <= 1048576) :
    Calls Tryz.prog 27 #[.slice a ms.length cap] w fun e w' => e = .returned (.slice (some ⟨w.heap.size, 0, none⟩) ms.length ms.length) /\ qF w.heap.size w' w.heap.size ms ms.length /\ Below w.heap.size w w' := by
  have hmk : ∀ w : World, (Instr.makeSlice 38 (.int .i64 ms.length) (.int .i64 ms.length)).run Tryz.prog w = .ok (.slice (some ⟨w.heap.size, 0, none⟩) ms.length ms.length) (w.alloc (.cells (zlz ms.length) 121)) :=
    fun w => qQ (P := Tryz.prog) 38 121 (.agg zno) 6 96 Tryz.underlying38 (by kernel_rfl) ms.length (by omega) (by omega) w
  go_enter Tryz.func27, Tryz.ntmps27
  go_wp2_with fail
  clear hmk
  go_loopw [4] (fun i wr => ∃ k : Nat, k <= ms.length /\ i = .int .i64 k /\ qF w.heap.size wr w.heap.size ms k /\ Below w.heap.size w wr) (fun i _ => ms.length - (intOf i).toNat)
  case atStart => exact ⟨0, Nat.zero_le _, rfl, ⟨Nat.le_refl _, zlz ms.length, (MapKept.heap_alloc w _).1, size_madeCells _ _, fun i _ h => absurd h (by omega)⟩, (Below.refl _ _).alloc (Nat.le_refl _) _⟩
  case round =>
    obtain ⟨k, hk, rfl, hown, hB⟩ := hrel
    by_cases hlt : k < ms.length
    · obtain ⟨b, off, rfl, hb, c0, c1, c2, c3, c4, c5⟩ := hw.load hB k hlt
      have hltI : (k : Int) < (ms.length : Int) := by omega
      clear hw
      go_wp2_with fail
      refine (zhO ms[k] _).mono ?_
      rintro e w1 ⟨rfl, hb1⟩
      have hB1 := hB.trans (hb1.mono hB.size)
      have hown1 := hown.later hb1
      have hbo : w.heap.size < wr.heap.size := by
        obtain ⟨C', hC', _⟩ := hown.rows
        exact (Array.getElem?_eq_some_iff.1 hC').1
      obtain ⟨C, hC, hsz, _⟩ := hown1.rows
      have hfz : ∀ o, w1.frozen? ⟨w.heap.size, o, none⟩ = false := fun o => zh hC
      have hex : ∀ o, o < ms.length * 6 -> ∃ v, w1.cell? ⟨w.heap.size, o, none⟩ = some v := fun o ho => ⟨C[o]'(by omega), by rw [cell_of_block hC]; exact Array.getElem?_eq_getElem (by omega)⟩
      obtain ⟨v0, hv0⟩ := hex (k * 6) (by omega)
      obtain ⟨v1, hv1⟩ := hex (k * 6 + 1) (by omega)
      obtain ⟨v2, hv2⟩ := hex (k * 6 + 2) (by omega)
      obtain ⟨v3, hv3⟩ := hex (k * 6 + 3) (by omega)
      obtain ⟨v4, hv4⟩ := hex (k * 6 + 4) (by omega)
      obtain ⟨v5, hv5⟩ := hex (k * 6 + 5) (by omega)
      have HP : Hid (qF w.heap.size w1 w.heap.size ms k) := hown1
      clear hex hC hsz c0 c1 c2 c3 c4 c5 hown hown1
      unfold Mnd.cells
      go_wp2_with fail
      exact ⟨⟨k + 1, by omega, by go_num, HP.out.put hlt, zmf hB1 (Nat.le_refl _) _ _ _ _ _ _ _⟩, by simp [intOf]; omega⟩
    · have HF : Hid (qF w.heap.size wr w.heap.size ms ms.length) := by
        have e : k = ms.length := by omega
        subst e; exact hown
      clear hw hown
      go_wp2_with fail
      go_ret
      exact ⟨rfl, HF.out, hB⟩
end Go.Proofs.YtfcdmlnpfoikhaaGreat

namespace Go.Proofs.YtfcdmlnpfoikhaaGreat
open Go.RowKit
structure Lw where
  ss : List Shp
  ms : List Mnd
  ts : List Tm
abbrev lC (l : Lw) (a b c : Option Addr) (ca cb cc : Nat) : Array Value := #[.slice a l.ss.length ca, .slice b l.ms.length cb, .slice c l.ts.length cc]
def Lw.cells (l : Lw) (a b c : Option Addr) (ca cb cc : Nat) : Array Value := #[.slice a l.ss.length ca, .slice b l.ms.length cb, .slice c l.ts.length cc]
structure qA (w : World) (l : Lw) (a b c : Option Addr) : Prop where
  ss : yE w a l.ss
  ms : qw w b l.ms
  ts : jg w c l.ts
theorem qA.mono {w w' : World} {l : Lw} {a b c : Option Addr} (h : qA w l a b c) (hb : Below w.heap.size w w') : qA w' l a b c := ⟨h.ss.mono hb, h.ms.mono hb, h.ts.mono hb⟩
def Lw.sz (l : Lw) : Nat := zai l.ss + zaJ l.ms + zcg l.ts
structure Lw.Few (l : Lw) : Prop where
  ss : l.ss.length <= 1048576 /\ ∀ i (h : i < l.ss.length), l.ss[i].fs.length <= 1048576 /\ ∀ j (h' : j < l.ss[i].fs.length), l.ss[i].fs[j].ws.length <= 1048576
  ms : l.ms.length <= 1048576
  ts : l.ts.length <= 1048576
theorem Lw.few {l : Lw} (h : (l.sz : Int) <= 1048576) : l.Few := by
  unfold Lw.sz at h
  refine ⟨zok (by omega), ?_, ?_⟩
  · unfold zaJ at h; omega
  · unfold zcg at h; omega
set_option maxHeartbeats 2000000 in
theorem ziZ (l : Lw) (a b c : Option Addr) (ca cb cc : Nat) (left : Int) (w : World) (hl : qA w l a b c) (h0 : 0 <= left) (h1 : left <= 1048576) :
    Calls Tryz.prog 4 #[.agg (l.cells a b c ca cb cc), .int .i64 left] w fun e w' => e = .returned (.int .i64 (zF l.sz left)) /\ Below w.heap.size w w' := by
  have HL : Hid (qA w l a b c) := hl
  clear hl
  unfold Lw.cells
  go_enter Tryz.func4, Tryz.ntmps4
  go_wp2_with fail
  refine (zfY _ _ l.ss _ _ (HL.out.ss.mono ((Below.refl _ _).alloc (Nat.le_refl _) _)) h0 h1).mono ?_
  rintro e w1 ⟨rfl, hb⟩
  have hX1 := za (zH w (lC l a b c ca cb cc) 26) (by simp) hb
  have hz1 : w.heap.size < w1.heap.size := by have := hb.size; simp at this; omega
  have hB1 : Below w.heap.size w w1 := ((Below.refl _ _).alloc (Nat.le_refl _) _).trans (hb.mono (by simp))
  clear hb
  by_cases c1 : (zai l.ss : Int) <= left
  rotate_left
  · have HF : Hid (zF l.sz left = -1) := zx (by unfold Lw.sz; omega)
    rw [zx c1]
    go_wp2_with fail
    go_ret
    exact ⟨zl HF.out.symm, hB1⟩
  rw [zG c1]
  go_wp2_with fail
  refine (zg8 _ _ l.ms _ _ (HL.out.ms.mono hB1) (by omega) (by omega)).mono ?_
  rintro e w2 ⟨rfl, hb⟩
  have hX2 := za hX1 hz1 hb
  have hz2 := Nat.lt_of_lt_of_le hz1 hb.size
  have hB2 := hB1.trans (hb.mono hB1.size)
  clear hb hX1 hz1 hB1
  by_cases c2 : (zaJ l.ms : Int) <= left - zai l.ss
  rotate_left
  · have HF : Hid (zF l.sz left = -1) := zx (by unfold Lw.sz; omega)
    rw [zx c2]
    go_wp2_with fail
    go_ret
    exact ⟨zl HF.out.symm, hB2⟩
  rw [zG c2]
  go_wp2_with fail
  refine (zgZ _ _ l.ts _ _ (HL.out.ts.mono hB2) (by omega) (by omega)).mono ?_
  rintro e w3 ⟨rfl, hb⟩
  have hB3 := hB2.trans (hb.mono hB2.size)
  clear hb hX2 hz2 hB2
  by_cases c3 : (zcg l.ts : Int) <= left - zai l.ss - zaJ l.ms
  rotate_left
  · have HF : Hid (zF l.sz left = -1) := zx (by unfold Lw.sz; omega)
    rw [zx c3]
    go_wp2_with fail
    go_ret
    exact ⟨zl HF.out.symm, hB3⟩
  have HF : Hid (zF l.sz left = left - zai l.ss - zaJ l.ms - zcg l.ts) := by
    unfold Hid; rw [zG (by unfold Lw.sz; omega)]; unfold Lw.sz; omega
  rw [zG c3]
  go_wp2_with fail
  go_ret
  exact ⟨zl HF.out.symm, hB3⟩
set_option maxHeartbeats 1000000 in
theorem zjs (l : Lw) (a b c a' b' c' : Option Addr) (ca cb cc ca' cb' cc' : Nat) (w : World) (hl : qA w l a b c) (hl' : qA w l a' b' c') :
    Calls Tryz.prog 11 #[.agg (l.cells a b c ca cb cc), .agg (l.cells a' b' c' ca' cb' cc')] w fun e w' => e = .returned (.bool true) /\ Below w.heap.size w w' := by
  unfold Lw.cells
  go_enter Tryz.func11, Tryz.ntmps11
  go_wp2_with fail
  refine (zgg _ _ _ _ l.ss _ (hl.ss.mono (zq _ _ _)) (hl'.ss.mono (zq _ _ _))).mono ?_
  rintro e w1 ⟨rfl, hb⟩
  have hX1 := za (za (zH w _ _) (by simp) ((Below.refl _ _).alloc (Nat.le_refl _) _)) (by simp; omega) hb
  have hY1 := za (zH (w.alloc (.cells (lC l a b c ca cb cc) 41)) (lC l a' b' c' ca' cb' cc') 41) (by simp) hb
  have hz1 : w.heap.size + 1 < w1.heap.size := by have := hb.size; simp at this; omega
  have hB1 := (zq w _ _).trans (hb.mono (by simp; omega))
  rw [World.size_alloc] at hY1
  clear hb
  go_wp2_with fail
  refine (zgT _ _ _ _ l.ms _ (hl.ms.mono hB1) (hl'.ms.mono hB1)).mono ?_
  rintro e w2 ⟨rfl, hb⟩
  have hX2 := za hX1 (Nat.lt_of_succ_lt hz1) hb
  have hY2 := za hY1 hz1 hb
  have hz2 := Nat.lt_of_lt_of_le hz1 hb.size
  have hB2 := hB1.trans (hb.mono hB1.size)
  clear hb hX1 hY1 hz1 hB1
  go_wp2_with fail
  refine (zg5 _ _ _ _ l.ts _ (hl.ts.mono hB2) (hl'.ts.mono hB2)).mono ?_
  rintro e w3 ⟨rfl, hb⟩
  have hB3 := hB2.trans (hb.mono hB2.size)
  clear hb hX2 hY2 hz2 hB2
  go_wp2_with fail
  go_ret
  exact ⟨rfl, hB3⟩
theorem below3' (w : World) (o o' o'' : Obj) : Below w.heap.size w (((w.alloc o).alloc o').alloc o'') := (((Below.refl _ _).alloc (Nat.le_refl _) _).alloc (by simp) _).alloc (by simp; omega) _
theorem zoK (w : World) (o1 o2 o3 : Obj) : (((w.alloc o1).alloc o2).alloc o3).heap[w.heap.size]? = some o1 /\ (((w.alloc o1).alloc o2).alloc o3).heap[w.heap.size + 1]? = some o2 /\ (((w.alloc o1).alloc o2).alloc o3).heap[w.heap.size + 1 + 1]? = some o3 := by
  have h1 := (MapKept.heap_alloc w o1).1
  have h2 := (MapKept.heap_alloc (w.alloc o1) o2).1
  have h3 := (MapKept.heap_alloc ((w.alloc o1).alloc o2) o3).1
  simp only [World.size_alloc] at h2 h3
  exact ⟨(Below.heap_alloc _ _ _ (by simp; omega)).trans ((Below.heap_alloc _ _ _ (by simp)).trans h1), (Below.heap_alloc _ _ _ (by simp)).trans h2, h3⟩
structure yt (lo : Nat) (w w' : World) : Prop where
  size : w.heap.size <= w'.heap.size
  same : ∀ b, lo <= b -> b < w.heap.size -> w'.heap[b]? = w.heap[b]?
theorem yt.refl (lo : Nat) (w : World) : yt lo w w := ⟨Nat.le_refl _, fun _ _ _ => rfl⟩
theorem yt.trans {lo : Nat} {w w1 w2 : World} (h : yt lo w w1) (h' : yt lo w1 w2) : yt lo w w2 :=
  ⟨Nat.le_trans h.size h'.size, fun b h1 h2 => (h'.same b h1 (Nat.lt_of_lt_of_le h2 h.size)).trans (h.same b h1 h2)⟩
theorem yt.mono {lo lo' : Nat} {w w' : World} (h : yt lo w w') (hl : lo <= lo') : yt lo' w w' := ⟨h.size, fun b h1 h2 => h.same b (Nat.le_trans hl h1) h2⟩
theorem yt.below {lo : Nat} {w w' : World} (h : Below w.heap.size w w') : yt lo w w' := ⟨h.size, fun b _ h2 => h.block b h2⟩
theorem yt.setCell {lo : Nat} {w : World} {p : Addr} (hp : p.block < lo) (v : Value) : yt lo w (w.setCell p v) :=
  ⟨by rw [World.size_setCell]; exact Nat.le_refl _, fun b h1 _ => Below.heap_setCell _ _ _ _ (by omega)⟩
theorem yV.above {lo : Nat} {w w' : World} {bf : Nat} {fs : List Fld} {k : Nat} (h : yV lo w bf fs k) (ha : yt lo w w') : yV lo w' bf fs k := by
  obtain ⟨C, hC, hsz, hr⟩ := h.rows
  refine ⟨h.low, C, (ha.same _ h.low (Array.getElem?_eq_some_iff.1 hC).1).trans hC, hsz, fun i hi hk => ?_⟩
  obtain ⟨bk, h1, h2, h3, h4⟩ := hr i hi hk
  exact ⟨bk, h1, h2, (ha.same _ h1 (Array.getElem?_eq_some_iff.1 h3).1).trans h3, h4⟩
theorem je.above {lo : Nat} {w w' : World} {bo : Nat} {ss : List Shp} {k : Nat} (h : je lo w bo ss k) (ha : yt lo w w') : je lo w' bo ss k := by
  obtain ⟨C, hC, hsz, hr⟩ := h.rows
  refine ⟨h.low, C, (ha.same _ h.low (Array.getElem?_eq_some_iff.1 hC).1).trans hC, hsz, fun i hi hk => ?_⟩
  obtain ⟨bf, h1, h2, h3, h4⟩ := hr i hi hk
  exact ⟨bf, h1, h2, h3.above (ha.mono (Nat.le_succ_of_le h.low)), h4⟩
theorem qF.above {lo : Nat} {w w' : World} {bo : Nat} {ms : List Mnd} {k : Nat} (h : qF lo w bo ms k) (ha : yt lo w w') : qF lo w' bo ms k := by
  obtain ⟨C, hC, hr⟩ := h.rows
  exact ⟨h.low, C, (ha.same _ h.low (Array.getElem?_eq_some_iff.1 hC).1).trans hC, hr⟩
theorem jM.above {ty : TypeId} {lo : Nat} {w w' : World} {bo : Nat} {ts : List Tm} {k : Nat} (h : jM ty lo w bo ts k) (ha : yt lo w w') : jM ty lo w' bo ts k := by
  obtain ⟨C, hC, hr⟩ := h.rows
  exact ⟨h.low, C, (ha.same _ h.low (Array.getElem?_eq_some_iff.1 hC).1).trans hC, hr⟩
structure zgy (lo : Nat) (w : World) (l : Lw) (a b c : Nat) : Prop where
  ss : je lo w a l.ss l.ss.length
  ms : qF lo w b l.ms l.ms.length
  ts : jM 123 lo w c l.ts l.ts.length
theorem zgy.above {lo : Nat} {w w' : World} {l : Lw} {a b c : Nat} (h : zgy lo w l a b c) (ha : yt lo w w') : zgy lo w' l a b c := ⟨h.ss.above ha, h.ms.above ha, h.ts.above ha⟩
structure Lw.Small (l : Lw) : Prop where
  ss : zcM l.ss
  ls : l.ss.length <= maxLen
  ms : ∀ i (h : i < l.ms.length), l.ms[i].Small
  lm : l.ms.length <= maxLen
  ts : ∀ i (h : i < l.ts.length), l.ts[i].Small
  lt : l.ts.length <= maxLen
theorem qA.small {w : World} {l : Lw} {a b c : Option Addr} (h : qA w l a b c) : l.Small := ⟨h.ss.smalls, h.ss.len, h.ms.small, h.ms.len, h.ts.small, h.ts.len⟩
theorem zgy.at {lo : Nat} {w : World} {l : Lw} {a b c : Nat} (h : zgy lo w l a b c) (hs : l.Small) : qA w l (some ⟨a, 0, none⟩) (some ⟨b, 0, none⟩) (some ⟨c, 0, none⟩) := ⟨h.ss.at hs.ss hs.ls, h.ms.at hs.ms hs.lm, h.ts.at hs.ts hs.lt⟩
end Go.Proofs.YtfcdmlnpfoikhaaGreat

namespace Go.Proofs.YtfcdmlnpfoikhaaGreat
open Go.RowKit
theorem zpl {o : Ob} {l : Int} (h : (zcH o : Int) <= l) (hl : l <= 1048576) : o.vs.length <= 1048576 /\ o.hs.length <= 1048576 := by
  unfold zcH qj at h
  omega
end Go.Proofs.YtfcdmlnpfoikhaaGreat

namespace Go.Proofs.YtfcdmlnpfoikhaaGreat
open Go.RowKit
theorem lt_of_some {w : World} {b : Nat} {o : Obj} (h : w.heap[b]? = some o) : b < w.heap.size := (Array.getElem?_eq_some_iff.1 h).1
theorem zkB {lo lo' : Nat} {w : World} {bo : Nat} {ms : List Mnd} {k : Nat} (h : qF lo w bo ms k) (hl : lo' <= lo) : qF lo' w bo ms k := ⟨Nat.le_trans hl h.low, h.rows⟩
theorem zky {ty : TypeId} {lo lo' : Nat} {w : World} {bo : Nat} {ts : List Tm} {k : Nat} (h : jM ty lo w bo ts k) (hl : lo' <= lo) : jM ty lo' w bo ts k := ⟨Nat.le_trans hl h.low, h.rows⟩
set_option maxHeartbeats 2000000 in
theorem zet (l : Lw) (a b c : Option Addr) (ca cb cc : Nat) (w : World) (hl : qA w l a b c) (hf : l.Few) :
    Calls Tryz.prog 7 #[.agg (l.cells a b c ca cb cc)] w fun e w' => ∃ lo a' b' c', e = .returned (.agg (l.cells (some ⟨a', 0, none⟩) (some ⟨b', 0, none⟩) (some ⟨c', 0, none⟩) l.ss.length l.ms.length l.ts.length)) /\ w.heap.size <= lo /\ zgy lo w' l a' b' c' /\ Below w.heap.size w w' := by
  have HL : Hid (qA w l a b c) := hl
  have HF : Hid l.Few := hf
  clear hl hf
  unfold Lw.cells
  go_enter Tryz.func7, Tryz.ntmps7
  go_wp2_with fail
  have k0 := zoK w (.cells (lC l a b c ca cb cc) 26) (.cells #[.slice none 0 0, .slice none 0 0, .slice none 0 0] 41) (.cells #[.slice none 0 0, .slice none 0 0, .slice none 0 0] 41)
  have hB0 := below3' w (.cells (lC l a b c ca cb cc) 26) (.cells #[.slice none 0 0, .slice none 0 0, .slice none 0 0] 41) (.cells #[.slice none 0 0, .slice none 0 0, .slice none 0 0] 41)
  obtain ⟨W0, hW0⟩ : ∃ W0, W0 = ((w.alloc (.cells (lC l a b c ca cb cc) 26)).alloc (.cells #[.slice none 0 0, .slice none 0 0, .slice none 0 0] 41)).alloc (.cells #[.slice none 0 0, .slice none 0 0, .slice none 0 0] 41) := ⟨_, rfl⟩
  have hz0 : w.heap.size + 1 + 1 < W0.heap.size := by rw [hW0]; simp
  rw [<- hW0] at k0 hB0 ⊢
  clear hW0
  have HLO : Hid (w.heap.size + 1 + 1 < W0.heap.size) := hz0
  refine (zf6 _ _ l.ss _ (HL.out.ss.mono hB0) HF.out.ss.1 HF.out.ss.2).mono ?_
  rintro e w1 ⟨rfl, hown, hb⟩
  obtain ⟨a', ha'⟩ : ∃ a', a' = W0.heap.size := ⟨_, rfl⟩
  have HO1 : Hid (je W0.heap.size w1 a' l.ss l.ss.length) := by rw [ha']; exact hown
  have hX1 := (hb.block _ (by omega)).trans k0.1
  have hR1 := (hb.block _ (by omega)).trans k0.2.1
  have hO1 := (hb.block _ hz0).trans k0.2.2
  have HZ1 : Hid (W0.heap.size <= w1.heap.size) := hb.size
  have HB1 : Hid (Below w.heap.size w w1) := hB0.trans (hb.mono hB0.size)
  rw [<- ha']
  clear hown hb k0 hB0 hz0 ha'
  have cO1 := fun j => cell_of_block (o := j) hO1
  have fO1 := fun j => zh (o := j) hO1
  have HX1' : Hid ((w1.setCell ⟨w.heap.size + 1 + 1, 0, none⟩ (.slice (some ⟨a', 0, none⟩) l.ss.length l.ss.length)).heap[w.heap.size]? = some (.cells (lC l a b c ca cb cc) 26)) := (zA (by omega)).trans hX1
  have HR1' : Hid ((w1.setCell ⟨w.heap.size + 1 + 1, 0, none⟩ (.slice (some ⟨a', 0, none⟩) l.ss.length l.ss.length)).heap[w.heap.size + 1]? = some (.cells #[.slice none 0 0, .slice none 0 0, .slice none 0 0] 41)) := (zA (by omega)).trans hR1
  have HO1' : Hid ((w1.setCell ⟨w.heap.size + 1 + 1, 0, none⟩ (.slice (some ⟨a', 0, none⟩) l.ss.length l.ss.length)).heap[w.heap.size + 1 + 1]? = some (.cells #[.slice (some ⟨a', 0, none⟩) l.ss.length l.ss.length, .slice none 0 0, .slice none 0 0] 41)) := zf hO1 _
  have HAB1 : Hid (yt W0.heap.size w1 (w1.setCell ⟨w.heap.size + 1 + 1, 0, none⟩ (.slice (some ⟨a', 0, none⟩) l.ss.length l.ss.length))) := yt.setCell HLO.out _
  have HBB1 : Hid (Below w.heap.size w (w1.setCell ⟨w.heap.size + 1 + 1, 0, none⟩ (.slice (some ⟨a', 0, none⟩) l.ss.length l.ss.length))) := HB1.out.setCell (by show w.heap.size <= w.heap.size + 1 + 1; omega) _
  have HZZ1 : Hid (W0.heap.size <= (w1.setCell ⟨w.heap.size + 1 + 1, 0, none⟩ (.slice (some ⟨a', 0, none⟩) l.ss.length l.ss.length)).heap.size) := by unfold Hid; rw [World.size_setCell]; exact HZ1.out
  clear hX1 hR1 hO1
  have cX1 := fun j => cell_of_block (o := j) HX1'.out
  have cR1 := fun j => cell_of_block (o := j) HR1'.out
  have fR1 := fun j => zh (o := j) HR1'.out
  have cOO1 := fun j => cell_of_block (o := j) HO1'.out
  go_wp2_with fail
  refine (zhd _ _ l.ms _ (HL.out.ms.mono HBB1.out) HF.out.ms).mono ?_
  rintro e w2 ⟨rfl, hown, hb⟩
  obtain ⟨b', hp'⟩ : ∃ b', b' = (w1.setCell ⟨w.heap.size + 1 + 1, 0, none⟩ (.slice (some ⟨a', 0, none⟩) l.ss.length l.ss.length)).heap.size := ⟨_, rfl⟩
  have HN2 : Hid (qF W0.heap.size w2 b' l.ms l.ms.length) := by rw [hp']; exact zkB hown HZZ1.out
  have HAA2 : Hid (yt W0.heap.size w1 w2) := HAB1.out.trans (yt.below hb)
  have hX2 := (hb.block _ (lt_of_some HX1'.out)).trans HX1'.out
  have hR2 := (hb.block _ (lt_of_some HR1'.out)).trans HR1'.out
  have hO2 := (hb.block _ (lt_of_some HO1'.out)).trans HO1'.out
  have HZ2 : Hid (W0.heap.size <= w2.heap.size) := Nat.le_trans HZZ1.out hb.size
  have HB2 : Hid (Below w.heap.size w w2) := HBB1.out.trans (hb.mono HBB1.out.size)
  rw [<- hp']
  clear hown hb hp' cX1 cR1 fR1 cOO1
  have cO2 := fun j => cell_of_block (o := j) hO2
  have fO2 := fun j => zh (o := j) hO2
  have HX2' : Hid ((w2.setCell ⟨w.heap.size + 1 + 1, 1, none⟩ (.slice (some ⟨b', 0, none⟩) l.ms.length l.ms.length)).heap[w.heap.size]? = some (.cells (lC l a b c ca cb cc) 26)) := (zA (by omega)).trans hX2
  have HR2' : Hid ((w2.setCell ⟨w.heap.size + 1 + 1, 1, none⟩ (.slice (some ⟨b', 0, none⟩) l.ms.length l.ms.length)).heap[w.heap.size + 1]? = some (.cells #[.slice none 0 0, .slice none 0 0, .slice none 0 0] 41)) := (zA (by omega)).trans hR2
  have HO2' : Hid ((w2.setCell ⟨w.heap.size + 1 + 1, 1, none⟩ (.slice (some ⟨b', 0, none⟩) l.ms.length l.ms.length)).heap[w.heap.size + 1 + 1]? = some (.cells #[.slice (some ⟨a', 0, none⟩) l.ss.length l.ss.length, .slice (some ⟨b', 0, none⟩) l.ms.length l.ms.length, .slice none 0 0] 41)) := zf hO2 _
  have HAB2 : Hid (yt W0.heap.size w2 (w2.setCell ⟨w.heap.size + 1 + 1, 1, none⟩ (.slice (some ⟨b', 0, none⟩) l.ms.length l.ms.length))) := yt.setCell HLO.out _
  have HBB2 : Hid (Below w.heap.size w (w2.setCell ⟨w.heap.size + 1 + 1, 1, none⟩ (.slice (some ⟨b', 0, none⟩) l.ms.length l.ms.length))) := HB2.out.setCell (by show w.heap.size <= w.heap.size + 1 + 1; omega) _
  have HZZ2 : Hid (W0.heap.size <= (w2.setCell ⟨w.heap.size + 1 + 1, 1, none⟩ (.slice (some ⟨b', 0, none⟩) l.ms.length l.ms.length)).heap.size) := by unfold Hid; rw [World.size_setCell]; exact HZ2.out
  clear hX2 hR2 hO2
  have cX2 := fun j => cell_of_block (o := j) HX2'.out
  have cR2 := fun j => cell_of_block (o := j) HR2'.out
  have fR2 := fun j => zh (o := j) HR2'.out
  have cOO2 := fun j => cell_of_block (o := j) HO2'.out
  go_wp2_with fail
  refine (zgV _ _ l.ts _ (HL.out.ts.mono HBB2.out) HF.out.ts).mono ?_
  rintro e w3 ⟨rfl, hown, hb⟩
  obtain ⟨c', hp'⟩ : ∃ c', c' = (w2.setCell ⟨w.heap.size + 1 + 1, 1, none⟩ (.slice (some ⟨b', 0, none⟩) l.ms.length l.ms.length)).heap.size := ⟨_, rfl⟩
  have HN3 : Hid (jM 123 W0.heap.size w3 c' l.ts l.ts.length) := by rw [hp']; exact zky hown HZZ2.out
  have HAA3 : Hid (yt W0.heap.size w2 w3) := HAB2.out.trans (yt.below hb)
  have hX3 := (hb.block _ (lt_of_some HX2'.out)).trans HX2'.out
  have hR3 := (hb.block _ (lt_of_some HR2'.out)).trans HR2'.out
  have hO3 := (hb.block _ (lt_of_some HO2'.out)).trans HO2'.out
  have HZ3 : Hid (W0.heap.size <= w3.heap.size) := Nat.le_trans HZZ2.out hb.size
  have HB3 : Hid (Below w.heap.size w w3) := HBB2.out.trans (hb.mono HBB2.out.size)
  rw [<- hp']
  clear hown hb hp' cX2 cR2 fR2 cOO2
  have cO3 := fun j => cell_of_block (o := j) hO3
  have fO3 := fun j => zh (o := j) hO3
  have HX3' : Hid ((w3.setCell ⟨w.heap.size + 1 + 1, 2, none⟩ (.slice (some ⟨c', 0, none⟩) l.ts.length l.ts.length)).heap[w.heap.size]? = some (.cells (lC l a b c ca cb cc) 26)) := (zA (by omega)).trans hX3
  have HR3' : Hid ((w3.setCell ⟨w.heap.size + 1 + 1, 2, none⟩ (.slice (some ⟨c', 0, none⟩) l.ts.length l.ts.length)).heap[w.heap.size + 1]? = some (.cells #[.slice none 0 0, .slice none 0 0, .slice none 0 0] 41)) := (zA (by omega)).trans hR3
  have HO3' : Hid ((w3.setCell ⟨w.heap.size + 1 + 1, 2, none⟩ (.slice (some ⟨c', 0, none⟩) l.ts.length l.ts.length)).heap[w.heap.size + 1 + 1]? = some (.cells #[.slice (some ⟨a', 0, none⟩) l.ss.length l.ss.length, .slice (some ⟨b', 0, none⟩) l.ms.length l.ms.length, .slice (some ⟨c', 0, none⟩) l.ts.length l.ts.length] 41)) := zf hO3 _
  have HAB3 : Hid (yt W0.heap.size w3 (w3.setCell ⟨w.heap.size + 1 + 1, 2, none⟩ (.slice (some ⟨c', 0, none⟩) l.ts.length l.ts.length))) := yt.setCell HLO.out _
  have HBB3 : Hid (Below w.heap.size w (w3.setCell ⟨w.heap.size + 1 + 1, 2, none⟩ (.slice (some ⟨c', 0, none⟩) l.ts.length l.ts.length))) := HB3.out.setCell (by show w.heap.size <= w.heap.size + 1 + 1; omega) _
  have HZZ3 : Hid (W0.heap.size <= (w3.setCell ⟨w.heap.size + 1 + 1, 2, none⟩ (.slice (some ⟨c', 0, none⟩) l.ts.length l.ts.length)).heap.size) := by unfold Hid; rw [World.size_setCell]; exact HZ3.out
  clear hX3 hR3 hO3
  have cX3 := fun j => cell_of_block (o := j) HX3'.out
  have cR3 := fun j => cell_of_block (o := j) HR3'.out
  have fR3 := fun j => zh (o := j) HR3'.out
  have cOO3 := fun j => cell_of_block (o := j) HO3'.out
  go_wp2_with fail
  refine bodyPost_ret (v := .agg #[.slice (some ⟨a', 0, none⟩) l.ss.length l.ss.length, .slice (some ⟨b', 0, none⟩) l.ms.length l.ms.length, .slice (some ⟨c', 0, none⟩) l.ts.length l.ts.length]) (by simp [results, Tryz.results7, go_sem, cR3]) rfl ⟨W0.heap.size, a', b', c', rfl, by have := HLO.out; omega, ?_, ?_⟩
  · have hlt1 : w.heap.size + 1 < W0.heap.size := by have := HLO.out; omega
    have hA3 : ∀ v0 v1 v2, yt W0.heap.size w3 ((((w3.setCell ⟨w.heap.size + 1 + 1, 2, none⟩ (.slice (some ⟨c', 0, none⟩) l.ts.length l.ts.length)).setCell ⟨w.heap.size + 1, 0, none⟩ v0).setCell ⟨w.heap.size + 1, 1, none⟩ v1).setCell ⟨w.heap.size + 1, 2, none⟩ v2) := fun v0 v1 v2 => HAB3.out.trans (((yt.setCell (p := ⟨w.heap.size + 1, 0, none⟩) hlt1 v0).trans (yt.setCell (p := ⟨w.heap.size + 1, 1, none⟩) hlt1 v1)).trans (yt.setCell (p := ⟨w.heap.size + 1, 2, none⟩) hlt1 v2))
    exact ⟨HO1.out.above ((HAA2.out.trans HAA3.out).trans (hA3 _ _ _)), HN2.out.above (HAA3.out.trans (hA3 _ _ _)), HN3.out.above (hA3 _ _ _)⟩
  · exact ((HBB3.out.setCell (Nat.le_succ _) _).setCell (Nat.le_succ _) _).setCell (Nat.le_succ _) _
theorem zcv (l : Lw) (a b c : Option Addr) (ca cb cc : Nat) (w : World) (hl : qA w l a b c) (hf : l.Few) :
    Calls Tryz.prog 7 #[.agg (l.cells a b c ca cb cc)] w fun e w' => ∃ a' b' c', e = .returned (.agg (l.cells a' b' c' l.ss.length l.ms.length l.ts.length)) /\ qA w' l a' b' c' /\ Below w.heap.size w w' := by
  refine (zet l a b c ca cb cc w hl hf).mono ?_
  rintro e w' ⟨lo, a', b', c', he, _, ho, hb⟩
  exact ⟨_, _, _, he, ho.at hl.small, hb⟩
end Go.Proofs.YtfcdmlnpfoikhaaGreat

namespace Go.Proofs.YtfcdmlnpfoikhaaGreat
open Go.RowKit
namespace Gate
def yx (f : Fld) (v res : ByteArray) : Int := if f.kd = 1 /\ f.wg = res then j4 v else 0
def zc1 (fs : List Fld) (vs : List ByteArray) (res : ByteArray) : Nat -> Int
  | 0 => 0
  | k + 1 => zc1 fs vs res k + yx (fs.getD k zaZ) (vs.getD k ByteArray.empty) res
def ql (ss : List Shp) (o : Ob) (res : ByteArray) : Int :=
  if zu ss o = true /\ res.toList.isEmpty = false then (if res = o.kd then 1 else 0) + zc1 (shapeOf ss o.kd).fs o.vs res (shapeOf ss o.kd).fs.length else 0
theorem zcZ (s : ByteArray) : 0 <= j4 s /\ j4 s <= 10000000 := by
  unfold j4
  split
  · rename_i h
    refine ⟨zcc s h, ?_⟩
    unfold jW at h
    simp only [Bool.and_eq_true, decide_eq_true_eq] at h
    have := (zd9 s.data.toList h.2 7 (by have := h.1.1.2; simpa using this)).2
    unfold zeU
    omega
  · omega
theorem zfr (f : Fld) (v res : ByteArray) : 0 <= yx f v res /\ yx f v res <= 10000000 := by
  unfold yx
  split
  · exact zcZ v
  · omega
theorem zca (fs : List Fld) (vs : List ByteArray) (res : ByteArray) : ∀ k, 0 <= zc1 fs vs res k /\ zc1 fs vs res k <= k * 10000000
  | 0 => by simp [zc1]
  | k + 1 => by
    have h1 := zca fs vs res k
    have h2 := zfr (fs.getD k zaZ) (vs.getD k ByteArray.empty) res
    simp only [zc1]
    omega
theorem zft (ss : List Shp) (o : Ob) (res : ByteArray) (h : o.vs.length <= 1048576) : 0 <= ql ss o res /\ ql ss o res <= 20000000000000 := by
  unfold ql
  split
  · rename_i hc
    have hc1 := hc.1
    unfold zu at hc1
    simp only [Bool.and_eq_true, decide_eq_true_eq] at hc1
    have := zca (shapeOf ss o.kd).fs o.vs res (shapeOf ss o.kd).fs.length
    have h3 := hc1.2
    split <;> omega
  · omega
theorem znm (fs : List Fld) (vs : List ByteArray) (res : ByteArray) (k : Nat) (h : k < fs.length) (h' : k < vs.length) : zc1 fs vs res (k + 1) = zc1 fs vs res k + yx fs[k] vs[k] res := by
  have e1 : fs.getD k zaZ = fs[k] := by simp [List.getD, h]
  have e2 : vs.getD k ByteArray.empty = vs[k] := by simp [List.getD, h']
  simp only [zc1]
  rw [e1, e2]
end Gate
end Go.Proofs.YtfcdmlnpfoikhaaGreat

namespace Go.Proofs.YtfcdmlnpfoikhaaGreat
open Go.ChangeShapes Go.WideShapes Go.ChangeAt Go.RowKit
theorem Tryz.zop : Tryz.prog.cellsOf 26 = 3 := by kernel_rfl
theorem Tryz.zly : Tryz.prog.cellsOf 22 = 1 := by kernel_rfl
theorem Tryz.zmM : Tryz.prog.cellsOf 23 = 1 := by kernel_rfl
theorem Tryz.zmO : Tryz.prog.cellsOf 24 = 1 := by kernel_rfl
theorem zof {H : Type} {enc : TypeId × Value -> H} {w : World} {base : Nat} {spare : Nat -> Bool} {held : Bool} {fuel : Nat} {cs : List Value} {x : DataW H × List MemPlace}
    (h : DataW.trod enc Tryz.prog w base spare held fuel 26 cs = some x) :
    ∃ (l : Lw) (a b c : Option Addr) (ca cb cc : Nat), cs = (l.cells a b c ca cb cc).toList /\ qA w l a b c := by
  have hlen : cs.length = 3 := by
    obtain ⟨_, _, _, _, hl, _, _⟩ := DataW.trod_struct Tryz.underlying26 h
    rw [hl]; exact Tryz.zop
  match cs, hlen with
  | [c0, c1, c2], _ =>
    have hf := jJ Tryz.underlying26 h
    obtain ⟨_, _, f0⟩ := hf 0 22 0 c0 rfl Tryz.zly rfl
    obtain ⟨_, _, f1⟩ := hf 1 23 1 c1 rfl Tryz.zmM rfl
    obtain ⟨_, _, f2⟩ := hf 2 24 2 c2 rfl Tryz.zmO rfl
    obtain ⟨a, ca, ss, e0, hS⟩ := zlU f0
    obtain ⟨b, cb, ms, e1, hM⟩ := zmd f1
    obtain ⟨c, cc, ts, e2, hT⟩ := zm1 f2
    simp only [List.cons.injEq, and_true] at e0 e1 e2
    subst e0 e1 e2
    exact ⟨⟨ss, ms, ts⟩, a, b, c, ca, cb, cc, rfl, ⟨hS, hM, hT⟩⟩
end Go.Proofs.YtfcdmlnpfoikhaaGreat
