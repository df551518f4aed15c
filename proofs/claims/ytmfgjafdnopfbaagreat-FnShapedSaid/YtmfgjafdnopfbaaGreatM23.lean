import Derived.Test.YtmfgjafdnopfbaaGreatM20
import Derived.Test.YtmfgjafdnopfbaaGreatM22
import Derived.Laws.EntriesVeiled
import Derived.Test.YtmfgjafdnopfbaaGreatM15
import Derived.Test.YtmfgjafdnopfbaaGreatM01
import Derived.Test.YtmfgjafdnopfbaaGreatM09
import Derived.Test.YtmfgjafdnopfbaaGreatM06
namespace Go.Proofs.YtmfgjafdnopfbaaGreat
open Go.RowKit
theorem zhC (n S : Nat) : n * S = n / 2 * (S + S) + n % 2 * S := by
  have h := Nat.div_add_mod n 2
  calc n * S = (2 * (n / 2) + n % 2) * S := by rw [h]
    _ = n / 2 * (S + S) + n % 2 * S := by rw [Nat.add_mul, Nat.mul_comm 2 (n / 2), Nat.mul_assoc, Nat.two_mul]
end Go.Proofs.YtmfgjafdnopfbaaGreat

namespace Go.Proofs.YtmfgjafdnopfbaaGreat
open Go.RowKit
def zf0 (w : World) (a : Option Addr) (n : Nat) : Prop := 0 < n -> ∃ g, a = some ⟨g, 0, none⟩ /\ g < w.heap.size /\ ∀ q, q < n -> w.cell? ⟨g, q, none⟩ = some (.int .i64 (q : Int))
set_option maxRecDepth 20000 in
set_option maxHeartbeats 4000000 in
theorem zhJ (s : Shp) (ms : List Mnd) (w0 : World) (ma fa ia : Option Addr) (mcap fcap icap bm bs : Nat) (w : World) (hm : qg w0 ma ms) (hf : yc w0 fa s.fs) (hl : ms.length <= 1048576) (hn : s.fs.length <= 6)
    (hrd : ∀ q, q < s.fs.length -> ∀ x ∈ Gate.yg s ms q, 0 <= x /\ x < s.fs.length) (hB : Below w0.heap.size w0 w) (hbm : bm < w.heap.size) (hbs : bs < w.heap.size) (hcm : w.cell? ⟨bm, 0, none⟩ = some (.slice ma ms.length mcap)) (hcs : ∀ j, w.cell? ⟨bs, j, none⟩ = (#[.string s.kd, .slice fa s.fs.length fcap] : Array Value)[j]?)
    (hit : zf0 w ia s.fs.length) :
    Calls Tryz.prog 50 #[.slice ia s.fs.length icap, .func (.func 51) #[] #[.pointer (some ⟨bm, 0, none⟩), .pointer (some ⟨bs, 0, none⟩)]] w
      fun e w' => ∃ v, e = .returned (.tuple #[v, .bool (Gate.zA (Gate.zi s ms) s.fs.length).1]) /\ Below w0.heap.size w0 w' /\ ((Gate.zA (Gate.zi s ms) s.fs.length).1 = true -> w'.ownsRow w.heap.size 3 1 v (Gate.zA (Gate.zi s ms) s.fs.length).2.row.length (zcc (Gate.zA (Gate.zi s ms) s.fs.length).2.row)) := by
  have hmk : ∀ w : World, (Instr.makeMap 117 none).run Tryz.prog w = .ok (.map (some w.heap.size)) (w.alloc (.map #[] 0)) := fun w => by kernel_rfl
  go_enter Tryz.func50, Tryz.ntmps50
  go_wp2_with fail
  have hb2 : Below w.heap.size w ((w.alloc (.map #[] 0)).alloc (.cells #[(.func (.func 51) #[] #[.pointer (some ⟨bm, 0, none⟩), .pointer (some ⟨bs, 0, none⟩)]), .map (some w.heap.size), .slice none 0 0] 119)) := yC _ _ _
  have hs0 := hB.size
  obtain ⟨c, hceq⟩ : ∃ c, c = (⟨s, ms, w0, ma, fa, mcap, fcap, bm, bs, w.heap.size + 1, w.heap.size, w.heap.size + 2⟩ : WalkC) := ⟨_, rfl⟩
  have hc : c.Ok := by
    subst hceq
    exact ⟨hm, hf, hl, hn, hrd, by show w0.heap.size <= w.heap.size + 1; omega, hs0, by show w.heap.size + 1 < w.heap.size + 2; omega, by show w.heap.size < w.heap.size + 2; omega, by show bm < w.heap.size + 2; omega, by show bs < w.heap.size + 2; omega, by show w.heap.size + 1 ≠ w.heap.size; omega, by show bm ≠ w.heap.size + 1; omega, by show bm ≠ w.heap.size; omega, by show bs ≠ w.heap.size + 1; omega, by show bs ≠ w.heap.size; omega⟩
  have hW : jM c ((w.alloc (.map #[] 0)).alloc (.cells #[(.func (.func 51) #[] #[.pointer (some ⟨bm, 0, none⟩), .pointer (some ⟨bs, 0, none⟩)]), .map (some w.heap.size), .slice none 0 0] 119)) Gate.jg (.slice none 0 0) := by
    subst hceq
    refine ⟨hB.trans (hb2.mono hs0), (hb2.cell (p := ⟨bm, 0, none⟩) hbm).trans hcm, ze hcs hbs hb2, by show w.heap.size + 2 <= _; simp, (zq _ _ _).2, World.ownsRow_nil _ _ _ _, ⟨#[], 0, (zq _ _ _).1, fun x hx => by simp at hx, fun k v hk => ?_, fun i j x y hx => by simp at hx⟩⟩
    unfold Gate.zc6 Gate.jg at hk
    simp at hk
  have HC : Hid (c.Ok /\ c.s = s /\ c.ms = ms /\ c.w0 = w0 /\ c.p = w.heap.size + 1 /\ c.mr = w.heap.size /\ c.lo = w.heap.size + 2) := ⟨hc, by rw [hceq], by rw [hceq], by rw [hceq], by rw [hceq], by rw [hceq], by rw [hceq]⟩
  have HW := hid hW
  have HRD : Hid (∀ p, p < s.fs.length -> ∀ q ∈ Gate.zi s ms p, q < s.fs.length) := by have h := hc.rd; rw [hceq] at h; exact h
  have HIT := hid hit
  have HN := hid hn
  have HOP : Hid (∀ T, Gate.open' s.fs.length T <= s.fs.length) := by
    intro T
    unfold Gate.open'
    exact Nat.le_trans (List.length_filter_le _ _) (by simp)
  have HW2 : Hid (∃ W, W = ((w.alloc (.map #[] 0)).alloc (.cells #[(.func (.func 51) #[] #[.pointer (some ⟨bm, 0, none⟩), .pointer (some ⟨bs, 0, none⟩)]), .map (some w.heap.size), .slice none 0 0] 119))) := ⟨_, rfl⟩
  clear hW hc hceq hmk hB hcm hcs hrd hit hs0
  go_loopw [14] (fun iv wr => ∃ (j : Nat) (v : Value), j <= s.fs.length /\ iv = .int .i64 j /\ (Gate.zm (Gate.down (Gate.zi s ms) (s.fs.length + 1)) ((List.range s.fs.length).take j) Gate.jg).1 = true /\ jM c wr (Gate.zm (Gate.down (Gate.zi s ms) (s.fs.length + 1)) ((List.range s.fs.length).take j) Gate.jg).2 v /\ Moves c (.slice none 0 0) ((w.alloc (.map #[] 0)).alloc (.cells #[(.func (.func 51) #[] #[.pointer (some ⟨bm, 0, none⟩), .pointer (some ⟨bs, 0, none⟩)]), .map (some w.heap.size), .slice none 0 0] 119)) v wr) (fun iv _ => s.fs.length - (intOf iv).toNat)
  case atStart => exact ⟨0, _, Nat.zero_le _, rfl, rfl, HW.out, Moves.refl _ _ _⟩
  case round =>
    obtain ⟨j, v, hj, rfl, hD, hWr, hMr⟩ := hrel
    have HWr := qO hWr hMr
    have HD := hid hD
    clear hWr hMr hD
    by_cases hjl : j < s.fs.length
    · have HTK : Hid ((List.range s.fs.length).take (j + 1) = (List.range s.fs.length).take j ++ [j]) := by
        unfold Hid
        rw [List.take_succ_eq_append_getElem (by simpa using hjl)]
        simp
      obtain ⟨g, rfl, hgl, hgc⟩ := HIT.out (by omega)
      have hcell : wr.cell? ⟨g, j, none⟩ = some (.int .i64 (j : Int)) := by
        rw [zdM (HWr.out.2.out g (by have := hb2.size; omega) (by rw [HC.out.2.2.2.2.1]; omega) (by rw [HC.out.2.2.2.2.2.1]; omega) (by simp [Value.ownBlock]))]
        exact (hb2.cell (p := ⟨g, j, none⟩) hgl).trans (hgc j hjl)
      have hjI : (j : Int) < (s.fs.length : Int) := by omega
      have HSX : Hid ((Gate.zm (Gate.down (Gate.zi s ms) (s.fs.length + 1)) ((List.range s.fs.length).take j) Gate.jg).2.row.length + Gate.open' s.fs.length (Gate.zm (Gate.down (Gate.zi s ms) (s.fs.length + 1)) ((List.range s.fs.length).take j) Gate.jg).2 <= 6) := by
        have h1 := Gate.zcR HRD.out (s.fs.length + 1) _ Gate.jg (fun a ha => List.mem_range.1 (List.mem_of_mem_take ha)) HD.out
        have h2 := HOP.out Gate.jg
        have h3 : Gate.jg.row.length = 0 := rfl
        have h4 := HN.out
        show _ <= _
        omega
      have HDA : Hid (Calls Tryz.prog 77 #[.pointer (some ⟨w.heap.size + 1, 0, none⟩), .int .i64 (j : Int)] wr fun e w' => ∃ v', e = .returned (.bool (Gate.down (Gate.zi s ms) (s.fs.length + 1) j (Gate.zm (Gate.down (Gate.zi s ms) (s.fs.length + 1)) ((List.range s.fs.length).take j) Gate.jg).2).1) /\ Below w0.heap.size w0 w' /\ ((Gate.down (Gate.zi s ms) (s.fs.length + 1) j (Gate.zm (Gate.down (Gate.zi s ms) (s.fs.length + 1)) ((List.range s.fs.length).take j) Gate.jg).2).1 = true -> jM c w' (Gate.down (Gate.zi s ms) (s.fs.length + 1) j (Gate.zm (Gate.down (Gate.zi s ms) (s.fs.length + 1)) ((List.range s.fs.length).take j) Gate.jg).2).2 v' /\ Moves c v wr v' w')) := by
        have h := ziy c HC.out.1 (s.fs.length + 1) j (Gate.zm (Gate.down (Gate.zi s ms) (s.fs.length + 1)) ((List.range s.fs.length).take j) Gate.jg).2 v wr (by rw [HC.out.2.1]; exact hjl) (by rw [HC.out.2.1]; have := HOP.out (Gate.zm (Gate.down (Gate.zi s ms) (s.fs.length + 1)) ((List.range s.fs.length).take j) Gate.jg).2; omega) (by rw [HC.out.2.1]; exact HSX.out) HWr.out.1
        rw [HC.out.2.1, HC.out.2.2.1, HC.out.2.2.2.1, HC.out.2.2.2.2.1] at h
        exact h
      go_wp2_with fail
      refine HDA.out.mono ?_
      rintro e w3 ⟨v3, rfl, hb3, hyes⟩
      by_cases hd : (Gate.down (Gate.zi s ms) (s.fs.length + 1) j (Gate.zm (Gate.down (Gate.zi s ms) (s.fs.length + 1)) ((List.range s.fs.length).take j) Gate.jg).2).1 = true
      · have HS : Hid ((Gate.zm (Gate.down (Gate.zi s ms) (s.fs.length + 1)) ((List.range s.fs.length).take (j + 1)) Gate.jg) = Gate.down (Gate.zi s ms) (s.fs.length + 1) j (Gate.zm (Gate.down (Gate.zi s ms) (s.fs.length + 1)) ((List.range s.fs.length).take j) Gate.jg).2) := by unfold Hid; rw [HTK.out, Gate.j5, if_pos HD.out]
        have HY := hid (hyes hd)
        have HDD := hid hd
        rw [hd]
        clear hyes hb3 hd hcell hgc HDA
        go_wp2_with fail
        exact ⟨⟨j + 1, v3, by omega, by go_num, by rw [HS.out]; exact HDD.out, by rw [HS.out]; exact HY.out.1, HWr.out.2.trans HY.out.2⟩, z8 hjl⟩
      · have hdf : (Gate.down (Gate.zi s ms) (s.fs.length + 1) j (Gate.zm (Gate.down (Gate.zi s ms) (s.fs.length + 1)) ((List.range s.fs.length).take j) Gate.jg).2).1 = false := by simpa using hd
        have HF : Hid ((Gate.zA (Gate.zi s ms) s.fs.length).1 = false) := by
          have h1 : (Gate.zm (Gate.down (Gate.zi s ms) (s.fs.length + 1)) ((List.range s.fs.length).take (j + 1)) Gate.jg).1 = false := by rw [HTK.out, Gate.j5, if_pos HD.out]; exact hdf
          have h2 := Gate.zba (Gate.down (Gate.zi s ms) (s.fs.length + 1)) ((List.range s.fs.length).take (j + 1)) ((List.range s.fs.length).drop (j + 1)) Gate.jg h1
          rw [List.take_append_drop] at h2
          exact h2
        have HB3 : Hid (Below w0.heap.size w0 w3) := hb3
        rw [hdf]
        clear hyes hb3 hd hdf hcell hgc HDA
        go_wp2_with fail
        go_ret2
        exact ⟨_, by rw [HF.out]; rfl, HB3.out, fun h => by rw [HF.out] at h; cases h⟩
    · have e : j = s.fs.length := by omega
      have hall : (List.range s.fs.length).take j = List.range s.fs.length := List.take_of_length_le (by simp; omega)
      rw [hall] at HWr HD
      have HY : Hid ((Gate.zA (Gate.zi s ms) s.fs.length).1 = true) := HD.out
      have HWW : Hid (jM c wr (Gate.zA (Gate.zi s ms) s.fs.length).2 v) := HWr.out.1
      have hpc : ∀ k, wr.cell? ⟨w.heap.size + 1, k, none⟩ = (#[c.fn, .map (some c.mr), v] : Array Value)[k]? := by have h := zak HWW.out.cells; rw [HC.out.2.2.2.2.1] at h; exact h
      obtain ⟨va, vcap, hve⟩ := qB HWW.out.row
      subst hve
      subst e
      clear HWr HD hall
      go_wp2_with fail
      go_ret2
      refine ⟨_, by rw [HY.out]; rfl, by have h := HWW.out.base; rw [HC.out.2.2.2.1] at h; exact h, fun _ => ?_⟩
      have h := HWW.out.row
      rw [HC.out.2.2.2.2.2.2] at h
      exact zbn h (by omega)
end Go.Proofs.YtmfgjafdnopfbaaGreat

namespace Go.Proofs.YtmfgjafdnopfbaaGreat
open Go.RowKit
namespace Gate
def qY (f : Fld) (v : ByteArray) : ByteArray := if v.toList.isEmpty = true then f.df else v
def qG (fs : List Fld) (vs : List ByteArray) : List ByteArray := List.zipWith qY fs vs
def qP (fs : List Fld) (vs : List ByteArray) (k : Nat) : List ByteArray := (qG fs vs).take k ++ vs.drop k
theorem qo {fs : List Fld} {vs : List ByteArray} (h : vs.length = fs.length) : (qG fs vs).length = vs.length := by simp [qG]; omega
theorem jN {fs : List Fld} {vs : List ByteArray} (h : vs.length = fs.length) (k : Nat) : (qP fs vs k).length = vs.length := by
  simp [qP, qo h]; omega
theorem zdU (fs : List Fld) (vs : List ByteArray) : qP fs vs 0 = vs := by simp [qP]
theorem zek {fs : List Fld} {vs : List ByteArray} (h : vs.length = fs.length) : qP fs vs fs.length = qG fs vs := by
  unfold qP
  rw [List.take_of_length_le (by rw [qo h]; omega), List.drop_of_length_le (by omega), List.append_nil]
theorem zcL {fs : List Fld} {vs : List ByteArray} (h : vs.length = fs.length) (k : Nat) (hk : k < fs.length) : (qP fs vs k)[k]? = vs[k]? := by
  unfold qP
  rw [List.getElem?_append_right (by simp; omega)]
  simp [qo h, Nat.min_eq_left (show k <= vs.length by omega)]
theorem zbq {fs : List Fld} {vs : List ByteArray} (h : vs.length = fs.length) (k : Nat) (hk : k < fs.length) : qP fs vs (k + 1) = (qP fs vs k).set k (qY fs[k] (vs[k]'(by omega))) := by
  have hl := qo h
  have hv : (qG fs vs)[k]'(by omega) = qY fs[k] (vs[k]'(by omega)) := by simp [qG]
  unfold qP
  rw [List.set_append_right _ _ (by simp; omega)]
  have e : k - ((qG fs vs).take k).length = 0 := by simp; omega
  rw [e, List.drop_eq_getElem_cons (show k < vs.length by omega), List.set_cons_zero, List.take_succ_eq_append_getElem (by omega), hv]
  simp
end Gate
theorem zk.set {lo : Nat} {w : World} {g : Nat} {ws : List ByteArray} (h : zk lo w (some ⟨g, 0, none⟩) ws) (k : Nat) (s : ByteArray) : zk lo (w.setCell ⟨g, k, none⟩ (.string s)) (some ⟨g, 0, none⟩) (ws.set k s) := by
  rcases h with ⟨h0, _⟩ | ⟨b, C, h0, hg, hh, hc⟩
  · cases h0
  · cases h0
    refine Or.inr ⟨g, _, rfl, hg, zu hh _, fun i hi => ?_⟩
    have hi' : i < ws.length := by rw [List.length_set] at hi; exact hi
    by_cases e : i = k
    · subst e
      have hsz : i < C.size := by
        rcases Nat.lt_or_ge i C.size with h1 | h1
        · exact h1
        · have := hc i hi'; rw [Array.getElem?_eq_none h1] at this; cases this
      rw [Array.getElem?_setIfInBounds_self_of_lt hsz, List.getElem_set_self]
    · rw [Array.getElem?_setIfInBounds_ne (fun h => e h.symm), hc i hi', List.getElem_set_ne (fun h => e h.symm)]
def zje (w : World) (b : Nat) (v0 v1 v2 v3 v4 v5 v6 : Value) : World := ((((((w.setCell ⟨b, 0, none⟩ v0).setCell ⟨b, 1, none⟩ v1).setCell ⟨b, 2, none⟩ v2).setCell ⟨b, 3, none⟩ v3).setCell ⟨b, 4, none⟩ v4).setCell ⟨b, 5, none⟩ v5).setCell ⟨b, 6, none⟩ v6
theorem yB {lo : Nat} {w : World} {a : Option Addr} {ws : List ByteArray} (h : zk lo w a ws) (b : Nat) (hb : b < lo) (v0 v1 v2 v3 v4 v5 v6 : Value) : zk lo (zje w b v0 v1 v2 v3 v4 v5 v6) a ws :=
  ((((((h.setCell _ hb _).setCell _ hb _).setCell _ hb _).setCell _ hb _).setCell _ hb _).setCell _ hb _).setCell _ hb _
theorem qm {B : Nat} {w0 w : World} (h : Below B w0 w) (b : Nat) (hb : B <= b) (v0 v1 v2 v3 v4 v5 v6 : Value) : Below B w0 (zje w b v0 v1 v2 v3 v4 v5 v6) :=
  ((((((h.setCell (p := ⟨b, 0, none⟩) hb _).setCell (p := ⟨b, 1, none⟩) hb _).setCell (p := ⟨b, 2, none⟩) hb _).setCell (p := ⟨b, 3, none⟩) hb _).setCell (p := ⟨b, 4, none⟩) hb _).setCell (p := ⟨b, 5, none⟩) hb _).setCell (p := ⟨b, 6, none⟩) hb _
end Go.Proofs.YtmfgjafdnopfbaaGreat

namespace Go.Proofs.YtmfgjafdnopfbaaGreat
open Go.RowKit
def zbM (v : Value) : Prop := ∃ s : ByteArray, v = .string s /\ s.size <= 4000000
def ze2 (b : Nat) (v : Value) : Prop := ∃ x : Int, v = .int .i64 x /\ -(b : Int) <= x /\ x <= b
def zhg (v : Value) : Prop := ∃ x, v = .bool x
def qE (lo b : Nat) (P : Nat -> Value -> Prop) (t : TypeId) (sz : Nat) (w : World) (v : Value) : Prop :=
  v = .slice none 0 0 \/ ∃ g n cap C, v = .slice (some ⟨g, 0, none⟩) n cap /\ lo <= g /\ w.heap[g]? = some (.cells C t) /\ C.size = cap * sz /\ n <= cap /\ cap <= maxLen /\ n <= b /\ ∀ j x, C[j]? = some x -> P (j % sz) x
theorem qE.imp {lo b : Nat} {P Q : Nat -> Value -> Prop} {t : TypeId} {sz : Nat} {w : World} {v : Value} (h : qE lo b P t sz w v) (hi : ∀ j x, P j x -> Q j x) : qE lo b Q t sz w v := by
  rcases h with h | ⟨g, n, cap, C, h1, h2, h3, h4, h5, h6, h7, h8⟩
  · exact Or.inl h
  · exact Or.inr ⟨g, n, cap, C, h1, h2, h3, h4, h5, h6, h7, fun j x hx => hi _ _ (h8 j x hx)⟩
theorem qE.more {lo b b' : Nat} {P : Nat -> Value -> Prop} {t : TypeId} {sz : Nat} {w : World} {v : Value} (h : qE lo b P t sz w v) (hb : b <= b') : qE lo b' P t sz w v := by
  rcases h with h | ⟨g, n, cap, C, h1, h2, h3, h4, h5, h6, h7, h8⟩
  · exact Or.inl h
  · exact Or.inr ⟨g, n, cap, C, h1, h2, h3, h4, h5, h6, by omega, h8⟩
theorem qE.slice {lo b : Nat} {P : Nat -> Value -> Prop} {t : TypeId} {sz : Nat} {w : World} {v : Value} (h : qE lo b P t sz w v) : ∃ a n cap, v = .slice a n cap /\ n <= b /\ n <= cap /\ cap <= maxLen := by
  rcases h with h | ⟨g, n, cap, C, h1, h2, h3, h4, h5, h6, h7, h8⟩
  · exact ⟨none, 0, 0, h, Nat.zero_le _, Nat.zero_le _, Nat.zero_le _⟩
  · exact ⟨_, n, cap, h1, h7, h5, h6⟩
theorem qE.cell {lo b : Nat} {P : Nat -> Value -> Prop} {t : TypeId} {sz : Nat} {w : World} {a : Option Addr} {n cap : Nat} (h : qE lo b P t sz w (.slice a n cap)) {i : Nat} (hi : i < n) : ∃ g C, a = some ⟨g, 0, none⟩ /\ lo <= g /\ w.heap[g]? = some (.cells C t) /\ i * sz + sz <= C.size /\ ∀ j, j < sz -> ∃ x, w.cell? ⟨g, i * sz + j, none⟩ = some x /\ P j x := by
  rcases h with h | ⟨g, n', cap', C, h1, h2, h3, h4, h5, h6, h7, h8⟩
  · cases h; omega
  · cases h1
    have hm : (i + 1) * sz <= cap * sz := Nat.mul_le_mul_right sz (by omega)
    have e : (i + 1) * sz = i * sz + sz := Nat.succ_mul i sz
    refine ⟨g, C, rfl, h2, h3, by omega, fun j hj => ?_⟩
    have hl : i * sz + j < C.size := by omega
    refine ⟨C[i * sz + j], by rw [cell_of_block h3]; exact Array.getElem?_eq_getElem hl, ?_⟩
    have e2 : (i * sz + j) % sz = j := by rw [Nat.add_comm, Nat.add_mul_mod_self_right, Nat.mod_eq_of_lt hj]
    have h9 := h8 _ _ (Array.getElem?_eq_getElem hl)
    generalize C[i * sz + j] = y at h9
    rw [e2] at h9
    exact h9
abbrev yR (lo _b : Nat) (w : World) (v : Value) : Prop := qE lo 1000 (fun _ => zbM) 9 1 w v
def zcd (lo b : Nat) (w : World) : Nat -> Value -> Prop
  | 0, v => zbM v
  | 1, v => ze2 b v
  | 2, v => ze2 b v
  | 3, v => ze2 b v
  | 4, v => yR lo b w v
  | 5, v => zbM v
  | 6, v => ze2 b v
  | 7, v => zhg v
  | 8, v => zhg v
  | 9, v => zbM v
  | 10, v => zbM v
  | _, _ => True
abbrev qp (lo b : Nat) (w : World) (v : Value) : Prop := qE lo 900 (zcd lo b w) 63 11 w v
def zd3 (lo b : Nat) (w : World) : Nat -> Value -> Prop
  | 0, v => zbM v
  | 1, v => qp lo b w v
  | _, _ => True
abbrev qM (lo b : Nat) (w : World) (v : Value) : Prop := qE lo 1000 (zd3 lo b w) 45 2 w v
abbrev yE (lo _b : Nat) (w : World) (v : Value) : Prop := qE lo 1000 (fun _ => zbM) 56 6 w v
def ObC (lo b : Nat) (w : World) : Nat -> Value -> Prop
  | 0, v => zbM v
  | 1, v => zbM v
  | 2, v => zbM v
  | 3, v => yR lo b w v
  | 4, v => zhg v
  | 5, v => yR lo b w v
  | 6, v => ze2 b v
  | _, _ => True
abbrev zh4 (lo b : Nat) (w : World) (v : Value) : Prop := qE lo 1000 (ObC lo b w) 27 7 w v
abbrev zfa (lo b : Nat) (w : World) (v : Value) : Prop := qE lo 1000 (fun _ => yR lo b w) 25 1 w v
structure zey (lo b : Nat) (w : World) (t : TypeId) (j : Nat) (x : Value) : Prop where
  s : t = 9 -> zbM x
  f : t = 63 -> zcd lo b w (j % 11) x
  k : t = 45 -> zd3 lo b w (j % 2) x
  m : t = 56 -> zbM x
  o : t = 27 -> ObC lo b w (j % 7) x
  l : t = 25 -> yR lo b w x
def Chg (lo b : Nat) (w w' : World) : Prop :=
  ∀ k C t, lo <= k -> w.heap[k]? = some (.cells C t) -> ∃ C', w'.heap[k]? = some (.cells C' t) /\ C'.size = C.size /\ ∀ j x, C'[j]? = some x -> C[j]? = some x \/ zey lo b w t j x
structure Keep (lo b : Nat) (w w' : World) : Prop where
  s : ∀ v, yR lo b w v -> yR lo b w' v
  f : ∀ v, qp lo b w v -> qp lo b w' v
  k : ∀ v, qM lo b w v -> qM lo b w' v
  m : ∀ v, yE lo b w v -> yE lo b w' v
  o : ∀ v, zh4 lo b w v -> zh4 lo b w' v
  l : ∀ v, zfa lo b w v -> zfa lo b w' v
theorem Keep.trans {lo b : Nat} {w w' w2 : World} (h : Keep lo b w w') (k : Keep lo b w' w2) : Keep lo b w w2 :=
  ⟨fun v x => k.s v (h.s v x), fun v x => k.f v (h.f v x), fun v x => k.k v (h.k v x), fun v x => k.m v (h.m v x), fun v x => k.o v (h.o v x), fun v x => k.l v (h.l v x)⟩
theorem zcN {lo b l : Nat} {w w' : World} (h : Chg lo b w w') {P P' : Nat -> Value -> Prop} {t : TypeId} {sz : Nat} {v : Value} (hv : qE lo l P t sz w v) (hp : ∀ j x, P j x -> P' j x) (hg : ∀ j x, zey lo b w t j x -> P' (j % sz) x) : qE lo l P' t sz w' v := by
  rcases hv with hv | ⟨g, n, cap, C, h1, h2, h3, h4, h5, h6, h7, h8⟩
  · exact Or.inl hv
  · obtain ⟨C', k1, k2, k3⟩ := h g C t h2 h3
    refine Or.inr ⟨g, n, cap, C', h1, h2, k1, k2.trans h4, h5, h6, h7, fun j x hx => ?_⟩
    rcases k3 j x hx with h9 | h9
    · exact hp _ _ (h8 j x h9)
    · exact hg j x h9
theorem zdf {lo b : Nat} {w w' : World} (hs : ∀ v, yR lo b w v -> yR lo b w' v) (j : Nat) (x : Value) (h : zcd lo b w j x) : zcd lo b w' j x := by
  rcases j with _ | _ | _ | _ | _ | _ | _ | _ | _ | _ | _ | j <;> first | exact h | exact hs _ h
theorem zeB {lo b : Nat} {w w' : World} (hf : ∀ v, qp lo b w v -> qp lo b w' v) (j : Nat) (x : Value) (h : zd3 lo b w j x) : zd3 lo b w' j x := by
  rcases j with _ | _ | j <;> first | exact h | exact hf _ h
theorem zhh {lo b : Nat} {w w' : World} (hs : ∀ v, yR lo b w v -> yR lo b w' v) (j : Nat) (x : Value) (h : ObC lo b w j x) : ObC lo b w' j x := by
  rcases j with _ | _ | _ | _ | _ | _ | _ | j <;> first | exact h | exact hs _ h
theorem Chg.keep {lo b : Nat} {w w' : World} (h : Chg lo b w w') : Keep lo b w w' := by
  have hs : ∀ v, yR lo b w v -> yR lo b w' v := fun v hv => zcN h hv (fun _ _ p => p) (fun _ _ g => g.s rfl)
  have hf : ∀ v, qp lo b w v -> qp lo b w' v := fun v hv => zcN h hv (zdf hs) (fun _ _ g => zdf hs _ _ (g.f rfl))
  exact ⟨hs, hf, fun v hv => zcN h hv (zeB hf) (fun _ _ g => zeB hf _ _ (g.k rfl)), fun v hv => zcN h hv (fun _ _ p => p) (fun _ _ g => g.m rfl), fun v hv => zcN h hv (zhh hs) (fun _ _ g => zhh hs _ _ (g.o rfl)), fun v hv => zcN h hv (fun _ _ p => hs _ p) (fun _ _ g => hs _ (g.l rfl))⟩
theorem zaH {lo b : Nat} {w w' : World} (h : ∀ k, lo <= k -> k < w.heap.size -> w'.heap[k]? = w.heap[k]?) : Chg lo b w w' := fun k C _ hk hC =>
  ⟨C, (h k hk (Array.getElem?_eq_some_iff.1 hC).1).trans hC, rfl, fun _ _ hx => Or.inl hx⟩
theorem yO {lo b : Nat} {w w' : World} (h : Below w.heap.size w w') : Keep lo b w w' := (zaH fun k _ hk => h.block k hk).keep
theorem zN {lo b r : Nat} {w w' : World} (hr : r < lo) (h : Dr r w w') : Keep lo b w w' := (zaH fun k hk hl => zH h hl (by omega)).keep
theorem zf (lo b : Nat) (w : World) (o : Obj) : Keep lo b w (w.alloc o) := yO ((Below.refl _ _).alloc (Nat.le_refl _) _)
theorem yY (lo b : Nat) (w : World) : Keep lo b w w.drew := yO (Below.refl _ _).drew
theorem ziT {lo b : Nat} {w : World} {k o : Nat} {v : Value} (h : ∀ C t, w.heap[k]? = some (.cells C t) -> zey lo b w t o v) : Chg lo b w (w.setCell ⟨k, o, none⟩ v) := fun k' C t _ hC => by
  by_cases e : k' = k
  · subst e
    refine ⟨_, zu hC v, by simp, fun j x hx => ?_⟩
    rw [Array.getElem?_setIfInBounds] at hx
    split at hx
    · rename_i e; subst e
      split at hx
      · cases hx; exact Or.inr (h C t hC)
      · cases hx
    · exact Or.inl hx
  · exact ⟨C, (yt e).trans hC, rfl, fun _ _ hx => Or.inl hx⟩
theorem zaO {lo b : Nat} {w : World} {k o : Nat} {v : Value} {C : Array Value} {t : TypeId} (hk : w.heap[k]? = some (.cells C t)) (h : zey lo b w t o v) : Keep lo b w (w.setCell ⟨k, o, none⟩ v) :=
  (ziT fun C' t' h' => by rw [hk] at h'; cases h'; exact h).keep
theorem ze2.more {b b' : Nat} {v : Value} (h : ze2 b v) (hb : b <= b') : ze2 b' v := by
  obtain ⟨x, h1, h2, h3⟩ := h
  exact ⟨x, h1, by omega, by omega⟩
theorem zfr {lo b b' : Nat} {w : World} (hb : b <= b') (j : Nat) (x : Value) (h : zcd lo b w j x) : zcd lo b' w j x := by
  rcases j with _ | _ | _ | _ | _ | _ | _ | _ | _ | _ | _ | j <;> first | exact h | exact ze2.more h hb
theorem zhq {lo b b' : Nat} {w : World} {v : Value} (hb : b <= b') (h : qp lo b w v) : qp lo b' w v := qE.imp h (zfr hb)
theorem zhN {lo b b' : Nat} {w : World} (hb : b <= b') (j : Nat) (x : Value) (h : zd3 lo b w j x) : zd3 lo b' w j x := by
  rcases j with _ | _ | j <;> first | exact h | exact zhq hb h
theorem zaB {lo b b' : Nat} {w : World} {v : Value} (hb : b <= b') (h : qM lo b w v) : qM lo b' w v := qE.imp h (zhN hb)
theorem jy (lo b : Nat) (P : Nat -> Value -> Prop) (t : TypeId) (sz n : Nat) (w : World) (C : Array Value) (hlo : lo <= w.heap.size) (hs : C.size = n * sz) (hm : n <= maxLen) (hn : n <= b) (hp : ∀ j x, C[j]? = some x -> P (j % sz) x) : qE lo b P t sz (w.alloc (.cells C t)) (.slice (some ⟨w.heap.size, 0, none⟩) n n) :=
  Or.inr ⟨_, n, n, C, rfl, hlo, (MapKept.heap_alloc w _).1, hs, Nat.le_refl _, hm, hn, hp⟩
theorem yH (lo b : Nat) (w : World) (ss : List ByteArray) (hlo : lo <= w.heap.size) (hl : ss.length <= 1000) (hm : ss.length <= maxLen) (hsm : ∀ s ∈ ss, s.size <= 4000000) : yR lo b (w.alloc (.cells (jJ ss) 9)) (.slice (some ⟨w.heap.size, 0, none⟩) ss.length ss.length) :=
  jy lo 1000 _ _ 1 ss.length w _ hlo (by simp [jJ]) hm hl fun j x hx => by
    simp only [jJ, List.getElem?_toArray, List.getElem?_map] at hx
    cases h : ss[j]? with
    | none => rw [h] at hx; cases hx
    | some s => rw [h] at hx; cases hx; exact ⟨s, rfl, hsm s (List.mem_of_getElem? h)⟩
end Go.Proofs.YtmfgjafdnopfbaaGreat
