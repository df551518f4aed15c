import Derived.Test.YtfapkhgallmkdaaGreatM13
import Derived.Test.YtfapkhgallmkdaaGreatM05
import Derived.Test.YtfapkhgallmkdaaGreatM12
import Derived.Test.YtfapkhgallmkdaaGreatM06
import Derived.Test.YtfapkhgallmkdaaGreatM09
import Derived.Test.YtfapkhgallmkdaaGreatM11
import Derived.Test.YtfapkhgallmkdaaGreatM07
import Derived.Test.YtfapkhgallmkdaaGreatM10
import Derived.Test.YtfapkhgallmkdaaGreatM04
import Derived.Deep.QuietTactic
import Derived.BigQuiet
namespace Go.Proofs.YtfapkhgallmkdaaGreat
open Go.RowKit
set_option maxHeartbeats 400000 in
theorem zoP (f : Int -> Bool) (v : Int) (w : World) :
    Calls Tryz.prog 66 #[.int .u8 (Gate.bitsOf f), .int .i64 v] w fun e w' => e = .returned (.bool (Gate.jM v && f v)) /\ w' = w := by
  by_cases hv : Gate.jM v = true
  · have HV : Hid (Gate.jM v = true) := hv
    have hv' : 1 <= v /\ v <= 5 := by simpa [Gate.jM] using hv
    have HB : Hid ((Gate.zkE (Gate.bitsOf f) (Gate.zbB v) != 0) = f v) := Gate.zow f v hv'
    obtain ⟨hv1, hv5⟩ := hv'
    have hv0 : ¬ v < 0 := by omega
    clear hv
    go_enter Tryz.func66, Tryz.ntmps66
    go_wp2_with (go_at_call 109; refine (zk HV.out (zaN _ _)).mono ?_; rintro e w' ⟨rfl, rfl⟩)
    go_ret
    exact ⟨ze (by rw [HV.out, Bool.true_and, <- HB.out]; rfl), rfl⟩
  · have HV : Hid (Gate.jM v = false) := by simpa [Hid] using hv
    clear hv
    go_enter Tryz.func66, Tryz.ntmps66
    go_wp2_with (go_at_call 109; refine (zk HV.out (zaN _ _)).mono ?_; rintro e w' ⟨rfl, rfl⟩)
    go_ret
    exact ⟨ze (by rw [HV.out]; rfl), rfl⟩
end Go.Proofs.YtfapkhgallmkdaaGreat

namespace Go.Proofs.YtfapkhgallmkdaaGreat
open Go.RowKit
theorem znY {ss : List Shp} (h : (zaa ss : Int) <= 1048576) : ss.length <= 1048576 /\ ∀ i (h : i < ss.length), ss[i].fs.length <= 1048576 /\ ∀ j (h' : j < ss[i].fs.length), ss[i].fs[j].ws.length <= 1048576 := by
  unfold zaa at h
  refine ⟨by omega, fun i hi => ?_⟩
  have h1 : Shp.sz ss[i] <= zfX ss := zg8 Shp.sz ss i hi
  unfold Shp.sz j5 at h1
  refine ⟨by omega, fun j hj => ?_⟩
  have h2 : Fld.sz ss[i].fs[j] <= zfF ss[i].fs := zg8 Fld.sz ss[i].fs j hj
  unfold Fld.sz jR y8 at h2
  omega
end Go.Proofs.YtfapkhgallmkdaaGreat

namespace Go.Proofs.YtfapkhgallmkdaaGreat
open Go.RowKit
def zo2 (w : World) (b o : Nat) (v0 v1 v2 v3 v4 v5 : Value) : World := (((((w.setCell ⟨b, o, none⟩ v0).setCell ⟨b, o + 1, none⟩ v1).setCell ⟨b, o + 2, none⟩ v2).setCell ⟨b, o + 3, none⟩ v3).setCell ⟨b, o + 4, none⟩ v4).setCell ⟨b, o + 5, none⟩ v5
def zl3 (C : Array Value) (o : Nat) (v0 v1 v2 v3 v4 v5 : Value) : Array Value := (((((C.setIfInBounds o v0).setIfInBounds (o + 1) v1).setIfInBounds (o + 2) v2).setIfInBounds (o + 3) v3).setIfInBounds (o + 4) v4).setIfInBounds (o + 5) v5
theorem zmE {w : World} {b o : Nat} {C : Array Value} {t : TypeId} (h : w.heap[b]? = some (.cells C t)) (v0 v1 v2 v3 v4 v5 : Value) : (zo2 w b o v0 v1 v2 v3 v4 v5).heap[b]? = some (.cells (zl3 C o v0 v1 v2 v3 v4 v5) t) :=
  zf (zf (zf (zf (zf (zf h v0) v1) v2) v3) v4) v5
theorem zlY {B : Nat} {a w : World} (h : Below B a w) {b : Nat} (hb : B <= b) (o : Nat) (v0 v1 v2 v3 v4 v5 : Value) : Below B a (zo2 w b o v0 v1 v2 v3 v4 v5) :=
  (((((h.setCell hb v0).setCell hb v1).setCell hb v2).setCell hb v3).setCell hb v4).setCell hb v5
theorem znF (C : Array Value) (o : Nat) (v0 v1 v2 v3 v4 v5 : Value) : (zl3 C o v0 v1 v2 v3 v4 v5).size = C.size := by simp [zl3]
theorem zoa (C : Array Value) (o i : Nat) (v0 v1 v2 v3 v4 v5 : Value) (h : i < o \/ o + 6 <= i) : (zl3 C o v0 v1 v2 v3 v4 v5)[i]? = C[i]? := by
  unfold zl3
  iterate 6 rw [Array.getElem?_setIfInBounds, if_neg (by omega)]
theorem zoF (C : Array Value) (o j : Nat) (v0 v1 v2 v3 v4 v5 : Value) (hj : j < 6) (ho : o + 6 <= C.size) : (zl3 C o v0 v1 v2 v3 v4 v5)[o + j]? = (#[v0, v1, v2, v3, v4, v5] : Array Value)[j]? := by
  have hc : j = 0 \/ j = 1 \/ j = 2 \/ j = 3 \/ j = 4 \/ j = 5 := by omega
  unfold zl3
  rcases hc with h | h | h | h | h | h <;> subst h <;> simp [Array.getElem?_setIfInBounds] <;> omega
theorem qQ.put {lo : Nat} {w : World} {bo : Nat} {ms : List Mnd} {k : Nat} (h : qQ lo w bo ms k) (hk : k < ms.length) :
    qQ lo (zo2 w bo (k * 6) (.string ms[k].kd) (.string ms[k].fd) (.string ms[k].wh) (.string ms[k].wi) (.string ms[k].pt) (.string ms[k].fr)) bo ms (k + 1) := by
  obtain ⟨C, hC, hsz, hr⟩ := h.rows
  refine ⟨h.low, _, zmE hC _ _ _ _ _ _, by rw [znF]; exact hsz, fun i hi hik j hj => ?_⟩
  rcases Nat.lt_or_ge i k with hlt | hge
  · rw [zoa _ _ _ _ _ _ _ _ _ (by omega)]
    exact hr i hi hlt j hj
  · have e : i = k := by omega
    subst e
    rw [zoF _ _ _ _ _ _ _ _ _ hj (by omega)]
    rfl
set_option maxHeartbeats 1000000 in
theorem zhr (m : Mnd) (w : World) :
    Calls Tryz.prog 54 #[.agg m.cells] w fun e w' => e = .returned (.agg m.cells) /\ Below w.heap.size w w' := by
  unfold Mnd.cells
  go_enter Tryz.func54, Tryz.ntmps54
  go_wp2_with fail
  refine bodyPost_ret (v := .agg #[.string m.kd, .string m.fd, .string m.wh, .string m.wi, .string m.pt, .string m.fr]) (by simp [results, Tryz.results54, go_sem]) rfl ⟨rfl, ?_⟩
  exact ((((Below.refl _ _).alloc (Nat.le_refl _) _).alloc (by simp) _).alloc (by simp; omega) _)
def zm3 : Array Value := #[.string ByteArray.empty, .string ByteArray.empty, .string ByteArray.empty, .string ByteArray.empty, .string ByteArray.empty, .string ByteArray.empty]
def zlh (n : Nat) : Array Value := madeCells zm3 (n * 6)
set_option maxHeartbeats 2000000 in
theorem zgQ (a : Option Addr) (cap : Nat) (ms : List Mnd) (w : World) (hw : qp w a ms) (hl : ms.length <= 1048576) :
    Calls Tryz.prog 24 #[.slice a ms.length cap] w fun e w' => e = .returned (.slice (some ⟨w.heap.size, 0, none⟩) ms.length ms.length) /\ qQ w.heap.size w' w.heap.size ms ms.length /\ Below w.heap.size w w' := by
  have hmk : ∀ w : World, (Instr.makeSlice 40 (.int .i64 ms.length) (.int .i64 ms.length)).run Tryz.prog w = .ok (.slice (some ⟨w.heap.size, 0, none⟩) ms.length ms.length) (w.alloc (.cells (zlh ms.length) 117)) :=
    fun w => qR (P := Tryz.prog) 40 117 (.agg zm3) 6 96 Tryz.underlying40 (by kernel_rfl) ms.length (by omega) (by omega) w
  go_enter Tryz.func24, Tryz.ntmps24
  go_wp2_with fail
  clear hmk
  go_loopw [4] (fun i wr => ∃ k : Nat, k <= ms.length /\ i = .int .i64 k /\ qQ w.heap.size wr w.heap.size ms k /\ Below w.heap.size w wr) (fun i _ => ms.length - (intOf i).toNat)
  case atStart => exact ⟨0, Nat.zero_le _, rfl, ⟨Nat.le_refl _, zlh ms.length, (MapKept.heap_alloc w _).1, size_madeCells _ _, fun i _ h => absurd h (by omega)⟩, (Below.refl _ _).alloc (Nat.le_refl _) _⟩
  case round =>
    obtain ⟨k, hk, rfl, hown, hB⟩ := hrel
    by_cases hlt : k < ms.length
    · obtain ⟨b, off, rfl, hb, c0, c1, c2, c3, c4, c5⟩ := hw.load hB k hlt
      have hltI : (k : Int) < (ms.length : Int) := by omega
      clear hw
      go_wp2_with fail
      refine (zhr ms[k] _).mono ?_
      rintro e w1 ⟨rfl, hb1⟩
      have hB1 := hB.trans (hb1.mono hB.size)
      have hown1 := hown.later hb1
      have hbo : w.heap.size < wr.heap.size := by
        obtain ⟨C', hC', _⟩ := hown.rows
        exact (Array.getElem?_eq_some_iff.1 hC').1
      obtain ⟨C, hC, hsz, _⟩ := hown1.rows
      have hfz : ∀ o, w1.frozen? ⟨w.heap.size, o, none⟩ = false := fun o => zl hC
      have hex : ∀ o, o < ms.length * 6 -> ∃ v, w1.cell? ⟨w.heap.size, o, none⟩ = some v := fun o ho => ⟨C[o]'(by omega), by rw [cell_of_block hC]; exact Array.getElem?_eq_getElem (by omega)⟩
      obtain ⟨v0, hv0⟩ := hex (k * 6) (by omega)
      obtain ⟨v1, hv1⟩ := hex (k * 6 + 1) (by omega)
      obtain ⟨v2, hv2⟩ := hex (k * 6 + 2) (by omega)
      obtain ⟨v3, hv3⟩ := hex (k * 6 + 3) (by omega)
      obtain ⟨v4, hv4⟩ := hex (k * 6 + 4) (by omega)
      obtain ⟨v5, hv5⟩ := hex (k * 6 + 5) (by omega)
      have HP : Hid (qQ w.heap.size w1 w.heap.size ms k) := hown1
      clear hex hC hsz c0 c1 c2 c3 c4 c5 hown hown1
      unfold Mnd.cells
      go_wp2_with fail
      exact ⟨⟨k + 1, by omega, by go_num, HP.out.put hlt, zlY hB1 (Nat.le_refl _) _ _ _ _ _ _ _⟩, by simp [intOf]; omega⟩
    · have HF : Hid (qQ w.heap.size wr w.heap.size ms ms.length) := by
        have e : k = ms.length := by omega
        subst e; exact hown
      clear hw hown
      go_wp2_with fail
      go_ret
      exact ⟨rfl, HF.out, hB⟩
end Go.Proofs.YtfapkhgallmkdaaGreat

namespace Go.Proofs.YtfapkhgallmkdaaGreat
open Go.RowKit
structure Lw where
  ss : List Shp
  ms : List Mnd
  ts : List Tm
abbrev lC (l : Lw) (a b c : Option Addr) (ca cb cc : Nat) : Array Value := #[.slice a l.ss.length ca, .slice b l.ms.length cb, .slice c l.ts.length cc]
def Lw.cells (l : Lw) (a b c : Option Addr) (ca cb cc : Nat) : Array Value := #[.slice a l.ss.length ca, .slice b l.ms.length cb, .slice c l.ts.length cc]
structure qH (w : World) (l : Lw) (a b c : Option Addr) : Prop where
  ss : yH w a l.ss
  ms : qp w b l.ms
  ts : qF w c l.ts
theorem qH.mono {w w' : World} {l : Lw} {a b c : Option Addr} (h : qH w l a b c) (hb : Below w.heap.size w w') : qH w' l a b c := ⟨h.ss.mono hb, h.ms.mono hb, h.ts.mono hb⟩
def Lw.sz (l : Lw) : Nat := zaa l.ss + zaA l.ms + zcd l.ts
structure Lw.Few (l : Lw) : Prop where
  ss : l.ss.length <= 1048576 /\ ∀ i (h : i < l.ss.length), l.ss[i].fs.length <= 1048576 /\ ∀ j (h' : j < l.ss[i].fs.length), l.ss[i].fs[j].ws.length <= 1048576
  ms : l.ms.length <= 1048576
  ts : l.ts.length <= 1048576
theorem Lw.few {l : Lw} (h : (l.sz : Int) <= 1048576) : l.Few := by
  unfold Lw.sz at h
  refine ⟨znY (by omega), ?_, ?_⟩
  · unfold zaA at h; omega
  · unfold zcd at h; omega
set_option maxHeartbeats 2000000 in
theorem ziA (l : Lw) (a b c : Option Addr) (ca cb cc : Nat) (left : Int) (w : World) (hl : qH w l a b c) (h0 : 0 <= left) (h1 : left <= 1048576) :
    Calls Tryz.prog 4 #[.agg (l.cells a b c ca cb cc), .int .i64 left] w fun e w' => e = .returned (.int .i64 (zH l.sz left)) /\ Below w.heap.size w w' := by
  have HL : Hid (qH w l a b c) := hl
  clear hl
  unfold Lw.cells
  go_enter Tryz.func4, Tryz.ntmps4
  go_wp2_with fail
  refine (zfH _ _ l.ss _ _ (HL.out.ss.mono ((Below.refl _ _).alloc (Nat.le_refl _) _)) h0 h1).mono ?_
  rintro e w1 ⟨rfl, hb⟩
  have hX1 := za (zG w (lC l a b c ca cb cc) 26) (by simp) hb
  have hz1 : w.heap.size < w1.heap.size := by have := hb.size; simp at this; omega
  have hB1 : Below w.heap.size w w1 := ((Below.refl _ _).alloc (Nat.le_refl _) _).trans (hb.mono (by simp))
  clear hb
  by_cases c1 : (zaa l.ss : Int) <= left
  rotate_left
  · have HF : Hid (zH l.sz left = -1) := zw (by unfold Lw.sz; omega)
    rw [zw c1]
    go_wp2_with fail
    go_ret
    exact ⟨zh HF.out.symm, hB1⟩
  rw [zI c1]
  go_wp2_with fail
  refine (zgL _ _ l.ms _ _ (HL.out.ms.mono hB1) (by omega) (by omega)).mono ?_
  rintro e w2 ⟨rfl, hb⟩
  have hX2 := za hX1 hz1 hb
  have hz2 := Nat.lt_of_lt_of_le hz1 hb.size
  have hB2 := hB1.trans (hb.mono hB1.size)
  clear hb hX1 hz1 hB1
  by_cases c2 : (zaA l.ms : Int) <= left - zaa l.ss
  rotate_left
  · have HF : Hid (zH l.sz left = -1) := zw (by unfold Lw.sz; omega)
    rw [zw c2]
    go_wp2_with fail
    go_ret
    exact ⟨zh HF.out.symm, hB2⟩
  rw [zI c2]
  go_wp2_with fail
  refine (zgC _ _ l.ts _ _ (HL.out.ts.mono hB2) (by omega) (by omega)).mono ?_
  rintro e w3 ⟨rfl, hb⟩
  have hB3 := hB2.trans (hb.mono hB2.size)
  clear hb hX2 hz2 hB2
  by_cases c3 : (zcd l.ts : Int) <= left - zaa l.ss - zaA l.ms
  rotate_left
  · have HF : Hid (zH l.sz left = -1) := zw (by unfold Lw.sz; omega)
    rw [zw c3]
    go_wp2_with fail
    go_ret
    exact ⟨zh HF.out.symm, hB3⟩
  have HF : Hid (zH l.sz left = left - zaa l.ss - zaA l.ms - zcd l.ts) := by
    unfold Hid; rw [zI (by unfold Lw.sz; omega)]; unfold Lw.sz; omega
  rw [zI c3]
  go_wp2_with fail
  go_ret
  exact ⟨zh HF.out.symm, hB3⟩
set_option maxHeartbeats 1000000 in
theorem zi0 (l : Lw) (a b c a' b' c' : Option Addr) (ca cb cc ca' cb' cc' : Nat) (w : World) (hl : qH w l a b c) (hl' : qH w l a' b' c') :
    Calls Tryz.prog 12 #[.agg (l.cells a b c ca cb cc), .agg (l.cells a' b' c' ca' cb' cc')] w fun e w' => e = .returned (.bool true) /\ Below w.heap.size w w' := by
  unfold Lw.cells
  go_enter Tryz.func12, Tryz.ntmps12
  go_wp2_with fail
  refine (zfY _ _ _ _ l.ss _ (hl.ss.mono (zu _ _ _)) (hl'.ss.mono (zu _ _ _))).mono ?_
  rintro e w1 ⟨rfl, hb⟩
  have hX1 := za (za (zG w _ _) (by simp) ((Below.refl _ _).alloc (Nat.le_refl _) _)) (by simp; omega) hb
  have hY1 := za (zG (w.alloc (.cells (lC l a b c ca cb cc) 43)) (lC l a' b' c' ca' cb' cc') 43) (by simp) hb
  have hz1 : w.heap.size + 1 < w1.heap.size := by have := hb.size; simp at this; omega
  have hB1 := (zu w _ _).trans (hb.mono (by simp; omega))
  rw [World.size_alloc] at hY1
  clear hb
  go_wp2_with fail
  refine (zgx _ _ _ _ l.ms _ (hl.ms.mono hB1) (hl'.ms.mono hB1)).mono ?_
  rintro e w2 ⟨rfl, hb⟩
  have hX2 := za hX1 (Nat.lt_of_succ_lt hz1) hb
  have hY2 := za hY1 hz1 hb
  have hz2 := Nat.lt_of_lt_of_le hz1 hb.size
  have hB2 := hB1.trans (hb.mono hB1.size)
  clear hb hX1 hY1 hz1 hB1
  go_wp2_with fail
  refine (zgI _ _ _ _ l.ts _ (hl.ts.mono hB2) (hl'.ts.mono hB2)).mono ?_
  rintro e w3 ⟨rfl, hb⟩
  have hB3 := hB2.trans (hb.mono hB2.size)
  clear hb hX2 hY2 hz2 hB2
  go_wp2_with fail
  go_ret
  exact ⟨rfl, hB3⟩
theorem below3' (w : World) (o o' o'' : Obj) : Below w.heap.size w (((w.alloc o).alloc o').alloc o'') := (((Below.refl _ _).alloc (Nat.le_refl _) _).alloc (by simp) _).alloc (by simp; omega) _
theorem zoQ (w : World) (o1 o2 o3 : Obj) : (((w.alloc o1).alloc o2).alloc o3).heap[w.heap.size]? = some o1 /\ (((w.alloc o1).alloc o2).alloc o3).heap[w.heap.size + 1]? = some o2 /\ (((w.alloc o1).alloc o2).alloc o3).heap[w.heap.size + 1 + 1]? = some o3 := by
  have h1 := (MapKept.heap_alloc w o1).1
  have h2 := (MapKept.heap_alloc (w.alloc o1) o2).1
  have h3 := (MapKept.heap_alloc ((w.alloc o1).alloc o2) o3).1
  simp only [World.size_alloc] at h2 h3
  exact ⟨(Below.heap_alloc _ _ _ (by simp; omega)).trans ((Below.heap_alloc _ _ _ (by simp)).trans h1), (Below.heap_alloc _ _ _ (by simp)).trans h2, h3⟩
structure yx (lo : Nat) (w w' : World) : Prop where
  size : w.heap.size <= w'.heap.size
  same : ∀ b, lo <= b -> b < w.heap.size -> w'.heap[b]? = w.heap[b]?
theorem yx.refl (lo : Nat) (w : World) : yx lo w w := ⟨Nat.le_refl _, fun _ _ _ => rfl⟩
theorem yx.trans {lo : Nat} {w w1 w2 : World} (h : yx lo w w1) (h' : yx lo w1 w2) : yx lo w w2 :=
  ⟨Nat.le_trans h.size h'.size, fun b h1 h2 => (h'.same b h1 (Nat.lt_of_lt_of_le h2 h.size)).trans (h.same b h1 h2)⟩
theorem yx.mono {lo lo' : Nat} {w w' : World} (h : yx lo w w') (hl : lo <= lo') : yx lo' w w' := ⟨h.size, fun b h1 h2 => h.same b (Nat.le_trans hl h1) h2⟩
theorem yx.below {lo : Nat} {w w' : World} (h : Below w.heap.size w w') : yx lo w w' := ⟨h.size, fun b _ h2 => h.block b h2⟩
theorem yx.setCell {lo : Nat} {w : World} {p : Addr} (hp : p.block < lo) (v : Value) : yx lo w (w.setCell p v) :=
  ⟨by rw [World.size_setCell]; exact Nat.le_refl _, fun b h1 _ => Below.heap_setCell _ _ _ _ (by omega)⟩
theorem qj.above {lo : Nat} {w w' : World} {bf : Nat} {fs : List Fld} {k : Nat} (h : qj lo w bf fs k) (ha : yx lo w w') : qj lo w' bf fs k := by
  obtain ⟨C, hC, hsz, hr⟩ := h.rows
  refine ⟨h.low, C, (ha.same _ h.low (Array.getElem?_eq_some_iff.1 hC).1).trans hC, hsz, fun i hi hk => ?_⟩
  obtain ⟨bk, h1, h2, h3, h4⟩ := hr i hi hk
  exact ⟨bk, h1, h2, (ha.same _ h1 (Array.getElem?_eq_some_iff.1 h3).1).trans h3, h4⟩
theorem jB.above {lo : Nat} {w w' : World} {bo : Nat} {ss : List Shp} {k : Nat} (h : jB lo w bo ss k) (ha : yx lo w w') : jB lo w' bo ss k := by
  obtain ⟨C, hC, hsz, hr⟩ := h.rows
  refine ⟨h.low, C, (ha.same _ h.low (Array.getElem?_eq_some_iff.1 hC).1).trans hC, hsz, fun i hi hk => ?_⟩
  obtain ⟨bf, h1, h2, h3, h4⟩ := hr i hi hk
  exact ⟨bf, h1, h2, h3.above (ha.mono (Nat.le_succ_of_le h.low)), h4⟩
theorem qQ.above {lo : Nat} {w w' : World} {bo : Nat} {ms : List Mnd} {k : Nat} (h : qQ lo w bo ms k) (ha : yx lo w w') : qQ lo w' bo ms k := by
  obtain ⟨C, hC, hr⟩ := h.rows
  exact ⟨h.low, C, (ha.same _ h.low (Array.getElem?_eq_some_iff.1 hC).1).trans hC, hr⟩
theorem jW.above {ty : TypeId} {lo : Nat} {w w' : World} {bo : Nat} {ts : List Tm} {k : Nat} (h : jW ty lo w bo ts k) (ha : yx lo w w') : jW ty lo w' bo ts k := by
  obtain ⟨C, hC, hr⟩ := h.rows
  exact ⟨h.low, C, (ha.same _ h.low (Array.getElem?_eq_some_iff.1 hC).1).trans hC, hr⟩
structure zjm (lo : Nat) (w : World) (l : Lw) (a b c : Nat) : Prop where
  ss : jB lo w a l.ss l.ss.length
  ms : qQ lo w b l.ms l.ms.length
  ts : jW 119 lo w c l.ts l.ts.length
theorem zjm.above {lo : Nat} {w w' : World} {l : Lw} {a b c : Nat} (h : zjm lo w l a b c) (ha : yx lo w w') : zjm lo w' l a b c := ⟨h.ss.above ha, h.ms.above ha, h.ts.above ha⟩
structure Lw.Small (l : Lw) : Prop where
  ss : zcF l.ss
  ls : l.ss.length <= maxLen
  ms : ∀ i (h : i < l.ms.length), l.ms[i].Small
  lm : l.ms.length <= maxLen
  ts : ∀ i (h : i < l.ts.length), l.ts[i].Small
  lt : l.ts.length <= maxLen
theorem qH.small {w : World} {l : Lw} {a b c : Option Addr} (h : qH w l a b c) : l.Small := ⟨h.ss.smalls, h.ss.len, h.ms.small, h.ms.len, h.ts.small, h.ts.len⟩
theorem zjm.at {lo : Nat} {w : World} {l : Lw} {a b c : Nat} (h : zjm lo w l a b c) (hs : l.Small) : qH w l (some ⟨a, 0, none⟩) (some ⟨b, 0, none⟩) (some ⟨c, 0, none⟩) := ⟨h.ss.at hs.ss hs.ls, h.ms.at hs.ms hs.lm, h.ts.at hs.ts hs.lt⟩
end Go.Proofs.YtfapkhgallmkdaaGreat

namespace Go.Proofs.YtfapkhgallmkdaaGreat
open Go.RowKit
theorem zo5 {o : Ob} {l : Int} (h : (zcA o : Int) <= l) (hl : l <= 1048576) : o.vs.length <= 1048576 /\ o.hs.length <= 1048576 := by
  unfold zcA y8 at h
  omega
end Go.Proofs.YtfapkhgallmkdaaGreat

namespace Go.Proofs.YtfapkhgallmkdaaGreat
open Go.RowKit
namespace Gate
def yC (f : Fld) (v res : ByteArray) : Int := if f.kd = 1 /\ f.wg = res then jV v else 0
def zcU (fs : List Fld) (vs : List ByteArray) (res : ByteArray) : Nat -> Int
  | 0 => 0
  | k + 1 => zcU fs vs res k + yC (fs.getD k zaQ) (vs.getD k ByteArray.empty) res
def y9 (ss : List Shp) (o : Ob) (res : ByteArray) : Int :=
  if zx ss o = true /\ res.toList.isEmpty = false then (if res = o.kd then 1 else 0) + zcU (shapeOf ss o.kd).fs o.vs res (shapeOf ss o.kd).fs.length else 0
theorem zcS (s : ByteArray) : 0 <= jV s /\ jV s <= 10000000 := by
  unfold jV
  split
  · rename_i h
    refine ⟨zb8 s h, ?_⟩
    unfold jS at h
    simp only [Bool.and_eq_true, decide_eq_true_eq] at h
    have := (zd0 s.data.toList h.2 7 (by have := h.1.1.2; simpa using this)).2
    unfold zeE
    omega
  · omega
theorem ze9 (f : Fld) (v res : ByteArray) : 0 <= yC f v res /\ yC f v res <= 10000000 := by
  unfold yC
  split
  · exact zcS v
  · omega
theorem zb6 (fs : List Fld) (vs : List ByteArray) (res : ByteArray) : ∀ k, 0 <= zcU fs vs res k /\ zcU fs vs res k <= k * 10000000
  | 0 => by simp [zcU]
  | k + 1 => by
    have h1 := zb6 fs vs res k
    have h2 := ze9 (fs.getD k zaQ) (vs.getD k ByteArray.empty) res
    simp only [zcU]
    omega
theorem zfc (ss : List Shp) (o : Ob) (res : ByteArray) (h : o.vs.length <= 1048576) : 0 <= y9 ss o res /\ y9 ss o res <= 20000000000000 := by
  unfold y9
  split
  · rename_i hc
    have hc1 := hc.1
    unfold zx at hc1
    simp only [Bool.and_eq_true, decide_eq_true_eq] at hc1
    have := zb6 (shapeOf ss o.kd).fs o.vs res (shapeOf ss o.kd).fs.length
    have h3 := hc1.2
    split <;> omega
  · omega
theorem zm1 (fs : List Fld) (vs : List ByteArray) (res : ByteArray) (k : Nat) (h : k < fs.length) (h' : k < vs.length) : zcU fs vs res (k + 1) = zcU fs vs res k + yC fs[k] vs[k] res := by
  have e1 : fs.getD k zaQ = fs[k] := by simp [List.getD, h]
  have e2 : vs.getD k ByteArray.empty = vs[k] := by simp [List.getD, h']
  simp only [zcU]
  rw [e1, e2]
end Gate
end Go.Proofs.YtfapkhgallmkdaaGreat

namespace Go.Proofs.YtfapkhgallmkdaaGreat
open Go.RowKit
set_option maxHeartbeats 1000000 in
theorem ziw (r : Ac) (left : Int) (w : World) (hm : r.Small) (h0 : 0 <= left) (h1 : left <= 1048576) :
    Calls Tryz.prog 6 #[.agg r.cells, .int .i64 left] w fun e w' => e = .returned (.int .i64 (zH r.sz left)) /\ Below w.heap.size w w' := by
  have k1 := hm.kd
  have k2 := hm.tm
  have k3 := hm.nm
  unfold maxLen at k1 k2 k3
  unfold Ac.cells
  have hB : ∀ ob, Below w.heap.size w (w.alloc ob) := fun ob => (Below.refl _ _).alloc (Nat.le_refl _) _
  by_cases hf : (r.sz : Int) <= left
  · have HF : Hid (zH r.sz left = left - r.kd.size - r.tm.size - r.nm.size) := by
      unfold Hid; rw [zI hf]; unfold Ac.sz; omega
    unfold Ac.sz at hf
    go_enter Tryz.func6, Tryz.ntmps6
    go_wp2_with fail
    go_ret
    exact ⟨zh HF.out.symm, hB _⟩
  · have HF : Hid (zH r.sz left = -1) := zw hf
    have HN : Hid (¬ ((r.kd.size + r.tm.size + r.nm.size : Nat) : Int) <= left) := hf
    clear hf
    go_enter Tryz.func6, Tryz.ntmps6
    go_wp2_with fail
    all_goals go_ret
    all_goals first | exact ⟨zh HF.out.symm, hB _⟩ | (exfalso; have := HN.out; simp at *; omega)
set_option maxHeartbeats 1000000 in
theorem zeh (x : Ac) (w : World) :
    Calls Tryz.prog 10 #[.agg x.cells] w fun e w' => e = .returned (.agg x.cells) /\ Below w.heap.size w w' := by
  unfold Ac.cells
  go_enter Tryz.func10, Tryz.ntmps10
  go_wp2_with fail
  refine bodyPost_ret (v := .agg #[.int .i64 x.vb, .string x.kd, .string x.tm, .string x.nm]) (by simp [results, Tryz.results10, go_sem]) rfl ⟨rfl, ?_⟩
  exact ((((Below.refl _ _).alloc (Nat.le_refl _) _).alloc (by simp) _).alloc (by simp; omega) _)
end Go.Proofs.YtfapkhgallmkdaaGreat

namespace Go.Proofs.YtfapkhgallmkdaaGreat
open Go.ChangeShapes Go.WideShapes Go.ChangeAt Go.RowKit
theorem Tryz.zn3 : Tryz.prog.cellsOf 26 = 3 := by kernel_rfl
theorem Tryz.zlg : Tryz.prog.cellsOf 22 = 1 := by kernel_rfl
theorem Tryz.zmt : Tryz.prog.cellsOf 23 = 1 := by kernel_rfl
theorem Tryz.zmv : Tryz.prog.cellsOf 24 = 1 := by kernel_rfl
theorem znV {H : Type} {enc : TypeId × Value -> H} {w : World} {base : Nat} {spare : Nat -> Bool} {held : Bool} {fuel : Nat} {cs : List Value} {x : DataW H × List MemPlace}
    (h : DataW.trod enc Tryz.prog w base spare held fuel 26 cs = some x) :
    ∃ (l : Lw) (a b c : Option Addr) (ca cb cc : Nat), cs = (l.cells a b c ca cb cc).toList /\ qH w l a b c := by
  have hlen : cs.length = 3 := by
    obtain ⟨_, _, _, _, hl, _, _⟩ := DataW.trod_struct Tryz.underlying26 h
    rw [hl]; exact Tryz.zn3
  match cs, hlen with
  | [c0, c1, c2], _ =>
    have hf := jh Tryz.underlying26 h
    obtain ⟨_, _, f0⟩ := hf 0 22 0 c0 rfl Tryz.zlg rfl
    obtain ⟨_, _, f1⟩ := hf 1 23 1 c1 rfl Tryz.zmt rfl
    obtain ⟨_, _, f2⟩ := hf 2 24 2 c2 rfl Tryz.zmv rfl
    obtain ⟨a, ca, ss, e0, hS⟩ := zlC f0
    obtain ⟨b, cb, ms, e1, hM⟩ := zlW f1
    obtain ⟨c, cc, ts, e2, hT⟩ := zmH f2
    simp only [List.cons.injEq, and_true] at e0 e1 e2
    subst e0 e1 e2
    exact ⟨⟨ss, ms, ts⟩, a, b, c, ca, cb, cc, rfl, ⟨hS, hM, hT⟩⟩
end Go.Proofs.YtfapkhgallmkdaaGreat
