import Derived.Test.YtkfigdbbncjojaaGreatM31
import Derived.Laws.EntriesVeiled
import Derived.Test.YtkfigdbbncjojaaGreatM20
import Derived.Test.YtkfigdbbncjojaaGreatM01
import Derived.Test.YtkfigdbbncjojaaGreatM11
import Derived.Deep.RegionHeld3
namespace Go.Proofs.YtkfigdbbncjojaaGreat
open Go.RowKit
def zkR (w : World) (a : Option Addr) (n : Nat) : Prop := 0 < n -> ∃ g, a = some ⟨g, 0, none⟩ /\ g < w.heap.size /\ ∀ q, q < n -> w.cell? ⟨g, q, none⟩ = some (.int .i64 (q : Int))
set_option maxRecDepth 20000 in
set_option maxHeartbeats 4000000 in
theorem zmp (s : Shp) (ms : List Mnd) (w0 : World) (ma fa ia : Option Addr) (mcap fcap icap bm bs : Nat) (w : World) (hm : y5 w0 ma ms) (hf : zW w0 fa s.fs) (hl : ms.length <= 1048576) (hn : s.fs.length <= 6)
    (hrd : ∀ q, q < s.fs.length -> ∀ x ∈ Gate.zZ s ms q, 0 <= x /\ x < s.fs.length) (hB : Below w0.heap.size w0 w) (hbm : bm < w.heap.size) (hbs : bs < w.heap.size) (hcm : w.cell? ⟨bm, 0, none⟩ = some (.slice ma ms.length mcap)) (hcs : ∀ j, w.cell? ⟨bs, j, none⟩ = (#[.string s.kd, .slice fa s.fs.length fcap] : Array Value)[j]?)
    (hit : zkR w ia s.fs.length) :
    Calls Tryz.prog 155 #[.slice ia s.fs.length icap, .func (.func 156) #[] #[.pointer (some ⟨bm, 0, none⟩), .pointer (some ⟨bs, 0, none⟩)]] w
      fun e w' => ∃ v, e = .returned (.tuple #[v, .bool (Gate.zD (Gate.zh s ms) s.fs.length).1]) /\ Below w0.heap.size w0 w' /\ ((Gate.zD (Gate.zh s ms) s.fs.length).1 = true -> w'.ownsRow w.heap.size 3 1 v (Gate.zD (Gate.zh s ms) s.fs.length).2.row.length (zcZ (Gate.zD (Gate.zh s ms) s.fs.length).2.row)) := by
  have hmk : ∀ w : World, (Instr.makeMap 240 none).run Tryz.prog w = .ok (.map (some w.heap.size)) (w.alloc (.map #[] 0)) := fun w => by kernel_rfl
  go_enter Tryz.func155, Tryz.ntmps155
  go_wp2_with fail
  have hb2 : Below w.heap.size w ((w.alloc (.map #[] 0)).alloc (.cells #[(.func (.func 156) #[] #[.pointer (some ⟨bm, 0, none⟩), .pointer (some ⟨bs, 0, none⟩)]), .map (some w.heap.size), .slice none 0 0] 242)) := zq _ _ _
  have hs0 := hB.size
  obtain ⟨c, hceq⟩ : ∃ c, c = (⟨s, ms, w0, ma, fa, mcap, fcap, bm, bs, w.heap.size + 1, w.heap.size, w.heap.size + 2⟩ : WalkC) := ⟨_, rfl⟩
  have hc : c.Ok := by
    subst hceq
    exact ⟨hm, hf, hl, hn, hrd, by show w0.heap.size <= w.heap.size + 1; omega, hs0, by show w.heap.size + 1 < w.heap.size + 2; omega, by show w.heap.size < w.heap.size + 2; omega, by show bm < w.heap.size + 2; omega, by show bs < w.heap.size + 2; omega, by show w.heap.size + 1 ≠ w.heap.size; omega, by show bm ≠ w.heap.size + 1; omega, by show bm ≠ w.heap.size; omega, by show bs ≠ w.heap.size + 1; omega, by show bs ≠ w.heap.size; omega⟩
  have hW : jo c ((w.alloc (.map #[] 0)).alloc (.cells #[(.func (.func 156) #[] #[.pointer (some ⟨bm, 0, none⟩), .pointer (some ⟨bs, 0, none⟩)]), .map (some w.heap.size), .slice none 0 0] 242)) Gate.qI (.slice none 0 0) := by
    subst hceq
    refine ⟨hB.trans (hb2.mono hs0), (hb2.cell (p := ⟨bm, 0, none⟩) hbm).trans hcm, za hcs hbs hb2, by show w.heap.size + 2 <= _; simp, (zP _ _ _).2, World.ownsRow_nil _ _ _ _, ⟨#[], 0, (zP _ _ _).1, fun x hx => by simp at hx, fun k v hk => ?_, fun i j x y hx => by simp at hx⟩⟩
    unfold Gate.zdX Gate.qI at hk
    simp at hk
  have HC : Hid (c.Ok /\ c.s = s /\ c.ms = ms /\ c.w0 = w0 /\ c.p = w.heap.size + 1 /\ c.mr = w.heap.size /\ c.lo = w.heap.size + 2) := ⟨hc, by rw [hceq], by rw [hceq], by rw [hceq], by rw [hceq], by rw [hceq], by rw [hceq]⟩
  have HW := hid hW
  have HRD : Hid (∀ p, p < s.fs.length -> ∀ q ∈ Gate.zh s ms p, q < s.fs.length) := by have h := hc.rd; rw [hceq] at h; exact h
  have HIT := hid hit
  have HN := hid hn
  have HOP : Hid (∀ T, Gate.open' s.fs.length T <= s.fs.length) := by
    intro T
    unfold Gate.open'
    exact Nat.le_trans (List.length_filter_le _ _) (by simp)
  have HW2 : Hid (∃ W, W = ((w.alloc (.map #[] 0)).alloc (.cells #[(.func (.func 156) #[] #[.pointer (some ⟨bm, 0, none⟩), .pointer (some ⟨bs, 0, none⟩)]), .map (some w.heap.size), .slice none 0 0] 242))) := ⟨_, rfl⟩
  clear hW hc hceq hmk hB hcm hcs hrd hit hs0
  go_loopw [14] (fun iv wr => ∃ (j : Nat) (v : Value), j <= s.fs.length /\ iv = .int .i64 j /\ (Gate.zl (Gate.down (Gate.zh s ms) (s.fs.length + 1)) ((List.range s.fs.length).take j) Gate.qI).1 = true /\ jo c wr (Gate.zl (Gate.down (Gate.zh s ms) (s.fs.length + 1)) ((List.range s.fs.length).take j) Gate.qI).2 v /\ Moves c (.slice none 0 0) ((w.alloc (.map #[] 0)).alloc (.cells #[(.func (.func 156) #[] #[.pointer (some ⟨bm, 0, none⟩), .pointer (some ⟨bs, 0, none⟩)]), .map (some w.heap.size), .slice none 0 0] 242)) v wr) (fun iv _ => s.fs.length - (intOf iv).toNat)
  case atStart => exact ⟨0, _, Nat.zero_le _, rfl, rfl, HW.out, Moves.refl _ _ _⟩
  case round =>
    obtain ⟨j, v, hj, rfl, hD, hWr, hMr⟩ := hrel
    have HWr := jO hWr hMr
    have HD := hid hD
    clear hWr hMr hD
    by_cases hjl : j < s.fs.length
    · have HTK : Hid ((List.range s.fs.length).take (j + 1) = (List.range s.fs.length).take j ++ [j]) := by
        unfold Hid
        rw [List.take_succ_eq_append_getElem (by simpa using hjl)]
        simp
      obtain ⟨g, rfl, hgl, hgc⟩ := HIT.out (by omega)
      have hcell : wr.cell? ⟨g, j, none⟩ = some (.int .i64 (j : Int)) := by
        rw [ze5 (HWr.out.2.out g (by have := hb2.size; omega) (by rw [HC.out.2.2.2.2.1]; omega) (by rw [HC.out.2.2.2.2.2.1]; omega) (by simp [Value.ownBlock]))]
        exact (hb2.cell (p := ⟨g, j, none⟩) hgl).trans (hgc j hjl)
      have hjI : (j : Int) < (s.fs.length : Int) := by omega
      have HSX : Hid ((Gate.zl (Gate.down (Gate.zh s ms) (s.fs.length + 1)) ((List.range s.fs.length).take j) Gate.qI).2.row.length + Gate.open' s.fs.length (Gate.zl (Gate.down (Gate.zh s ms) (s.fs.length + 1)) ((List.range s.fs.length).take j) Gate.qI).2 <= 6) := by
        have h1 := Gate.zdR HRD.out (s.fs.length + 1) _ Gate.qI (fun a ha => List.mem_range.1 (List.mem_of_mem_take ha)) HD.out
        have h2 := HOP.out Gate.qI
        have h3 : Gate.qI.row.length = 0 := rfl
        have h4 := HN.out
        show _ <= _
        omega
      have HDA : Hid (Calls Tryz.prog 179 #[.pointer (some ⟨w.heap.size + 1, 0, none⟩), .int .i64 (j : Int)] wr fun e w' => ∃ v', e = .returned (.bool (Gate.down (Gate.zh s ms) (s.fs.length + 1) j (Gate.zl (Gate.down (Gate.zh s ms) (s.fs.length + 1)) ((List.range s.fs.length).take j) Gate.qI).2).1) /\ Below w0.heap.size w0 w' /\ ((Gate.down (Gate.zh s ms) (s.fs.length + 1) j (Gate.zl (Gate.down (Gate.zh s ms) (s.fs.length + 1)) ((List.range s.fs.length).take j) Gate.qI).2).1 = true -> jo c w' (Gate.down (Gate.zh s ms) (s.fs.length + 1) j (Gate.zl (Gate.down (Gate.zh s ms) (s.fs.length + 1)) ((List.range s.fs.length).take j) Gate.qI).2).2 v' /\ Moves c v wr v' w')) := by
        have h := znx c HC.out.1 (s.fs.length + 1) j (Gate.zl (Gate.down (Gate.zh s ms) (s.fs.length + 1)) ((List.range s.fs.length).take j) Gate.qI).2 v wr (by rw [HC.out.2.1]; exact hjl) (by rw [HC.out.2.1]; have := HOP.out (Gate.zl (Gate.down (Gate.zh s ms) (s.fs.length + 1)) ((List.range s.fs.length).take j) Gate.qI).2; omega) (by rw [HC.out.2.1]; exact HSX.out) HWr.out.1
        rw [HC.out.2.1, HC.out.2.2.1, HC.out.2.2.2.1, HC.out.2.2.2.2.1] at h
        exact h
      go_wp2_with fail
      refine HDA.out.mono ?_
      rintro e w3 ⟨v3, rfl, hb3, hyes⟩
      by_cases hd : (Gate.down (Gate.zh s ms) (s.fs.length + 1) j (Gate.zl (Gate.down (Gate.zh s ms) (s.fs.length + 1)) ((List.range s.fs.length).take j) Gate.qI).2).1 = true
      · have HS : Hid ((Gate.zl (Gate.down (Gate.zh s ms) (s.fs.length + 1)) ((List.range s.fs.length).take (j + 1)) Gate.qI) = Gate.down (Gate.zh s ms) (s.fs.length + 1) j (Gate.zl (Gate.down (Gate.zh s ms) (s.fs.length + 1)) ((List.range s.fs.length).take j) Gate.qI).2) := by unfold Hid; rw [HTK.out, Gate.zae, if_pos HD.out]
        have HY := hid (hyes hd)
        have HDD := hid hd
        rw [hd]
        clear hyes hb3 hd hcell hgc HDA
        go_wp2_with fail
        exact ⟨⟨j + 1, v3, by omega, by go_num, by rw [HS.out]; exact HDD.out, by rw [HS.out]; exact HY.out.1, HWr.out.2.trans HY.out.2⟩, zm hjl⟩
      · have hdf : (Gate.down (Gate.zh s ms) (s.fs.length + 1) j (Gate.zl (Gate.down (Gate.zh s ms) (s.fs.length + 1)) ((List.range s.fs.length).take j) Gate.qI).2).1 = false := by simpa using hd
        have HF : Hid ((Gate.zD (Gate.zh s ms) s.fs.length).1 = false) := by
          have h1 : (Gate.zl (Gate.down (Gate.zh s ms) (s.fs.length + 1)) ((List.range s.fs.length).take (j + 1)) Gate.qI).1 = false := by rw [HTK.out, Gate.zae, if_pos HD.out]; exact hdf
          have h2 := Gate.zbI (Gate.down (Gate.zh s ms) (s.fs.length + 1)) ((List.range s.fs.length).take (j + 1)) ((List.range s.fs.length).drop (j + 1)) Gate.qI h1
          rw [List.take_append_drop] at h2
          exact h2
        have HB3 : Hid (Below w0.heap.size w0 w3) := hb3
        rw [hdf]
        clear hyes hb3 hd hdf hcell hgc HDA
        go_wp2_with fail
        go_ret2
        exact ⟨_, by rw [HF.out]; rfl, HB3.out, fun h => by rw [HF.out] at h; cases h⟩
    · have e : j = s.fs.length := by omega
      have hall : (List.range s.fs.length).take j = List.range s.fs.length := List.take_of_length_le (by simp; omega)
      rw [hall] at HWr HD
      have HY : Hid ((Gate.zD (Gate.zh s ms) s.fs.length).1 = true) := HD.out
      have HWW : Hid (jo c wr (Gate.zD (Gate.zh s ms) s.fs.length).2 v) := HWr.out.1
      have hpc : ∀ k, wr.cell? ⟨w.heap.size + 1, k, none⟩ = (#[c.fn, .map (some c.mr), v] : Array Value)[k]? := by have h := zay HWW.out.cells; rw [HC.out.2.2.2.2.1] at h; exact h
      obtain ⟨va, vcap, hve⟩ := yM HWW.out.row
      subst hve
      subst e
      clear HWr HD hall
      go_wp2_with fail
      go_ret2
      refine ⟨_, by rw [HY.out]; rfl, by have h := HWW.out.base; rw [HC.out.2.2.2.1] at h; exact h, fun _ => ?_⟩
      have h := HWW.out.row
      rw [HC.out.2.2.2.2.2.2] at h
      exact zbK h (by omega)
end Go.Proofs.YtkfigdbbncjojaaGreat

namespace Go.Proofs.YtkfigdbbncjojaaGreat
open Go.RowKit
namespace Gate
def jy (f : Fld) (v : ByteArray) : ByteArray := if v.toList.isEmpty = true then f.df else v
def jg (fs : List Fld) (vs : List ByteArray) : List ByteArray := List.zipWith jy fs vs
def qz (fs : List Fld) (vs : List ByteArray) (k : Nat) : List ByteArray := (jg fs vs).take k ++ vs.drop k
theorem yR {fs : List Fld} {vs : List ByteArray} (h : vs.length = fs.length) : (jg fs vs).length = vs.length := by simp [jg]; omega
theorem jE {fs : List Fld} {vs : List ByteArray} (h : vs.length = fs.length) (k : Nat) : (qz fs vs k).length = vs.length := by
  simp [qz, yR h]; omega
theorem zfA (fs : List Fld) (vs : List ByteArray) : qz fs vs 0 = vs := by simp [qz]
theorem zgQ {fs : List Fld} {vs : List ByteArray} (h : vs.length = fs.length) : qz fs vs fs.length = jg fs vs := by
  unfold qz
  rw [List.take_of_length_le (by rw [yR h]; omega), List.drop_of_length_le (by omega), List.append_nil]
theorem zdx {fs : List Fld} {vs : List ByteArray} (h : vs.length = fs.length) (k : Nat) (hk : k < fs.length) : (qz fs vs k)[k]? = vs[k]? := by
  unfold qz
  rw [List.getElem?_append_right (by simp; omega)]
  simp [yR h, Nat.min_eq_left (show k <= vs.length by omega)]
theorem zbR {fs : List Fld} {vs : List ByteArray} (h : vs.length = fs.length) (k : Nat) (hk : k < fs.length) : qz fs vs (k + 1) = (qz fs vs k).set k (jy fs[k] (vs[k]'(by omega))) := by
  have hl := yR h
  have hv : (jg fs vs)[k]'(by omega) = jy fs[k] (vs[k]'(by omega)) := by simp [jg]
  unfold qz
  rw [List.set_append_right _ _ (by simp; omega)]
  have e : k - ((jg fs vs).take k).length = 0 := by simp; omega
  rw [e, List.drop_eq_getElem_cons (show k < vs.length by omega), List.set_cons_zero, List.take_succ_eq_append_getElem (by omega), hv]
  simp
end Gate
theorem zn.set {lo : Nat} {w : World} {g : Nat} {ws : List ByteArray} (h : zn lo w (some ⟨g, 0, none⟩) ws) (k : Nat) (s : ByteArray) : zn lo (w.setCell ⟨g, k, none⟩ (.string s)) (some ⟨g, 0, none⟩) (ws.set k s) := by
  rcases h with ⟨h0, _⟩ | ⟨b, C, h0, hg, hh, hc⟩
  · cases h0
  · cases h0
    refine Or.inr ⟨g, _, rfl, hg, zf hh _, fun i hi => ?_⟩
    have hi' : i < ws.length := by rw [List.length_set] at hi; exact hi
    by_cases e : i = k
    · subst e
      have hsz : i < C.size := by
        rcases Nat.lt_or_ge i C.size with h1 | h1
        · exact h1
        · have := hc i hi'; rw [Array.getElem?_eq_none h1] at this; cases this
      rw [Array.getElem?_setIfInBounds_self_of_lt hsz, List.getElem_set_self]
    · rw [Array.getElem?_setIfInBounds_ne (fun h => e h.symm), hc i hi', List.getElem_set_ne (fun h => e h.symm)]
def zn7 (w : World) (b : Nat) (v0 v1 v2 v3 v4 v5 v6 : Value) : World := ((((((w.setCell ⟨b, 0, none⟩ v0).setCell ⟨b, 1, none⟩ v1).setCell ⟨b, 2, none⟩ v2).setCell ⟨b, 3, none⟩ v3).setCell ⟨b, 4, none⟩ v4).setCell ⟨b, 5, none⟩ v5).setCell ⟨b, 6, none⟩ v6
theorem qK {lo : Nat} {w : World} {a : Option Addr} {ws : List ByteArray} (h : zn lo w a ws) (b : Nat) (hb : b < lo) (v0 v1 v2 v3 v4 v5 v6 : Value) : zn lo (zn7 w b v0 v1 v2 v3 v4 v5 v6) a ws :=
  ((((((h.setCell _ hb _).setCell _ hb _).setCell _ hb _).setCell _ hb _).setCell _ hb _).setCell _ hb _).setCell _ hb _
theorem jU {B : Nat} {w0 w : World} (h : Below B w0 w) (b : Nat) (hb : B <= b) (v0 v1 v2 v3 v4 v5 v6 : Value) : Below B w0 (zn7 w b v0 v1 v2 v3 v4 v5 v6) :=
  ((((((h.setCell (p := ⟨b, 0, none⟩) hb _).setCell (p := ⟨b, 1, none⟩) hb _).setCell (p := ⟨b, 2, none⟩) hb _).setCell (p := ⟨b, 3, none⟩) hb _).setCell (p := ⟨b, 4, none⟩) hb _).setCell (p := ⟨b, 5, none⟩) hb _).setCell (p := ⟨b, 6, none⟩) hb _
end Go.Proofs.YtkfigdbbncjojaaGreat

namespace Go.Proofs.YtkfigdbbncjojaaGreat
open Go.RowKit
def zjj (c p : Int) : Value := if c = 0 then .nilIface else .iface 254 (.agg #[.int .i64 c, .int .i64 p])
set_option maxHeartbeats 400000 in
theorem zgl (w : World) : Calls Tryz.prog 195 #[.bool true] w fun e w' => e = .returned .nilIface /\ w' = w := by
  go_enter Tryz.func195, Tryz.ntmps195
  go_wp2
  go_ret
  exact ⟨rfl, rfl⟩
set_option maxHeartbeats 400000 in
theorem zgG (w : World) : Calls Tryz.prog 195 #[.bool false] w fun e w' => e = .returned (.iface 254 (.agg #[.int .i64 1, .int .i64 0])) /\ w' = w := by
  go_enter Tryz.func195, Tryz.ntmps195
  go_wp2
  go_ret
  exact ⟨rfl, rfl⟩
def qM (b : Bool) : Value := if b then .nilIface else .iface 254 (.agg #[.int .i64 1, .int .i64 0])
theorem qC (b : Bool) (w : World) : Calls Tryz.prog 195 #[.bool b] w fun e w' => e = .returned (qM b) /\ w' = w := by
  cases b
  · exact zgG w
  · exact zgl w
theorem zbP {a b : Bool} (h : a = b) : Ending.returned (qM a) = .returned (qM b) := by rw [h]
set_option maxHeartbeats 1000000 in
theorem zdj (a0 : Option Addr) (cap0 : Nat) (ss : List Shp) (o : Ob) (a a' : Option Addr) (cap cap' : Nat) (w : World) (ho : qQ w o a a') :
    Calls Tryz.prog 182 #[.slice a0 ss.length cap0, .agg (oC o a a' cap cap')] w fun e w' => e = .returned (qM (Gate.yO o)) /\ Below w.heap.size w w' := by
  have h1 := ho.small.nm
  have h2 := ho.small.tm
  by_cases hn : Gate.zy o.nm = true
  · have HN : Hid (Gate.zy o.nm = true) := hn
    clear hn ho
    go_enter Tryz.func182, Tryz.ntmps182
    go_wp2_with fail
    refine (zu HN.out (zL _ _ h1)).mono ?_
    rintro e w1 ⟨rfl, rfl⟩
    go_wp2_with fail
    refine (zL _ _ h2).mono ?_
    rintro e w1 ⟨rfl, rfl⟩
    go_wp2_with fail
    refine (qC _ _).mono ?_
    rintro e w1 ⟨rfl, rfl⟩
    go_wp2_with fail
    go_ret
    exact ⟨zbP (by unfold Gate.yO; rw [HN.out]; rfl), (Below.refl _ _).alloc (Nat.le_refl _) _⟩
  · have HN : Hid (Gate.zy o.nm = false) := by simpa [Hid] using hn
    clear hn ho
    go_enter Tryz.func182, Tryz.ntmps182
    go_wp2_with fail
    refine (zu HN.out (zL _ _ h1)).mono ?_
    rintro e w1 ⟨rfl, rfl⟩
    go_wp2_with fail
    refine (qC _ _).mono ?_
    rintro e w1 ⟨rfl, rfl⟩
    go_wp2_with fail
    go_ret
    exact ⟨zbP (a := false) (b := Gate.yO o) (by unfold Gate.yO; rw [HN.out]; rfl), (Below.refl _ _).alloc (Nat.le_refl _) _⟩
set_option maxHeartbeats 1000000 in
theorem zde (a0 : Option Addr) (cap0 : Nat) (ss : List Shp) (o : Ob) (a a' : Option Addr) (cap cap' : Nat) (w : World) (ho : qQ w o a a') :
    Calls Tryz.prog 183 #[.slice a0 ss.length cap0, .agg (oC o a a' cap cap')] w fun e w' => e = .returned (qM (Gate.yV o)) /\ Below w.heap.size w w' := by
  have hl := ho.holds.len
  unfold maxLen at hl
  by_cases h3 : o.hs.length <= 3
  · go_enter Tryz.func183, Tryz.ntmps183
    go_wp2_with fail
    refine (zhv _ _ _ _ (ho.holds.mono ((Below.refl _ _).alloc (Nat.le_refl _) _))).mono ?_
    rintro e w1 ⟨rfl, rfl⟩
    go_wp2_with fail
    refine (qC _ _).mono ?_
    rintro e w1 ⟨rfl, rfl⟩
    go_wp2_with fail
    go_ret
    exact ⟨zbP (by unfold Gate.yV; rw [decide_eq_true h3]; rfl), (Below.refl _ _).alloc (Nat.le_refl _) _⟩
  · go_enter Tryz.func183, Tryz.ntmps183
    go_wp2_with fail
    refine (qC _ _).mono ?_
    rintro e w1 ⟨rfl, rfl⟩
    go_wp2_with fail
    go_ret
    exact ⟨zbP (a := false) (b := Gate.yV o) (by unfold Gate.yV; rw [decide_eq_false (show ¬ o.hs.length <= 3 by omega)]; rfl), (Below.refl _ _).alloc (Nat.le_refl _) _⟩
set_option maxHeartbeats 1000000 in
theorem zch (a0 : Option Addr) (cap0 : Nat) (ss : List Shp) (o : Ob) (a a' : Option Addr) (cap cap' : Nat) (w : World) :
    Calls Tryz.prog 184 #[.slice a0 ss.length cap0, .agg (oC o a a' cap cap')] w fun e w' => e = .returned (qM (Gate.yH o)) /\ Below w.heap.size w w' := by
  by_cases h0 : 0 <= o.vr
  · have HV : Hid (Gate.yH o = decide (o.vr <= 1000000)) := by unfold Hid Gate.yH; rw [decide_eq_true h0]; rfl
    go_enter Tryz.func184, Tryz.ntmps184
    go_wp2_with (go_at_call 195; refine (qC _ _).mono ?_; rintro e w1 ⟨rfl, rfl⟩)
    go_ret
    exact ⟨zbP HV.out.symm, (Below.refl _ _).alloc (Nat.le_refl _) _⟩
  · have HV : Hid (Gate.yH o = false) := by unfold Hid Gate.yH; rw [decide_eq_false h0]; rfl
    go_enter Tryz.func184, Tryz.ntmps184
    go_wp2_with (go_at_call 195; refine (qC _ _).mono ?_; rintro e w1 ⟨rfl, rfl⟩)
    go_ret
    exact ⟨zbP HV.out.symm, (Below.refl _ _).alloc (Nat.le_refl _) _⟩
set_option maxHeartbeats 1000000 in
theorem zdd (a0 : Option Addr) (cap0 : Nat) (ss : List Shp) (o : Ob) (a a' : Option Addr) (cap cap' : Nat) (w : World) (hw : yB w a0 ss) (_ho : qQ w o a a') :
    Calls Tryz.prog 185 #[.slice a0 ss.length cap0, .agg (oC o a a' cap cap')] w fun e w' => e = .returned (qM (Gate.zw ss o)) /\ Below w.heap.size w w' := by
  by_cases hk : Gate.zC ss o.kd = true
  all_goals
    first
      | (have HK : Hid (Gate.zC ss o.kd = true) := hk)
      | (have HK : Hid (Gate.zC ss o.kd = false) := by simpa [Hid] using hk)
    clear hk
    go_enter Tryz.func185, Tryz.ntmps185
    go_wp2_with fail
    refine (qj _ _ _ _ _ (hw.mono ((Below.refl _ _).alloc (Nat.le_refl _) _))).mono ?_
    rintro e w1 ⟨fa, fcap, rfl, _, hb1⟩
    rw [HK.out]
    have hX1 := za (zH w _ _) (by simp) hb1
    have hz1 : w.heap.size < w1.heap.size := by have := hb1.size; simp at this; omega
    have hB1 : Below w.heap.size w w1 := ((Below.refl _ _).alloc (Nat.le_refl _) _).trans (hb1.mono (by simp))
    clear hb1
    go_wp2_with (go_at_call 195; refine (qC _ _).mono ?_; rintro e w2 ⟨rfl, rfl⟩)
    go_ret
  · refine ⟨zbP ?_, hB1.alloc (by omega) _⟩
    unfold Gate.zw; rw [HK.out]
    rw [Bool.eq_iff_iff]; simp; omega
  · refine ⟨zbP (a := false) (b := Gate.zw ss o) ?_, hB1.alloc (by omega) _⟩
    unfold Gate.zw; rw [HK.out]; rfl
end Go.Proofs.YtkfigdbbncjojaaGreat

namespace Go.Proofs.YtkfigdbbncjojaaGreat
open Go.RowKit
namespace Gate
def jZ {α : Type} (key : α -> α -> Int) (ms : List α) (k : Nat) : Prop := ∀ i (h : i + 1 < ms.length), i + 1 < k -> key ms[i] ms[i + 1] < 0
def rising {α : Type} (key : α -> α -> Int) (ms : List α) : Prop := ∀ i (h : i + 1 < ms.length), key ms[i] ms[i + 1] < 0
noncomputable def zaP {α : Type} (key : α -> α -> Int) (ms : List α) : Bool := @decide (rising key ms) (Classical.propDecidable _)
theorem zcC {α : Type} {key : α -> α -> Int} {ms : List α} {m : Nat} (h : jZ key ms (m + 1)) (hl : m + 1 < ms.length) (hk : key ms[m] ms[m + 1] < 0) : jZ key ms (m + 1 + 1) := by
  intro i hi hik
  rcases Nat.lt_or_ge i m with hlt | hge
  · exact h i hi (by omega)
  · have e : i = m := by omega
    subst e
    exact hk
theorem zei {α : Type} {key : α -> α -> Int} {ms : List α} {m : Nat} (hl : m + 1 < ms.length) (hk : ¬ key ms[m] ms[m + 1] < 0) : zaP key ms = false := by
  unfold zaP
  simp only [decide_eq_false_iff_not]
  exact fun h => hk (h m hl)
theorem zed {α : Type} {key : α -> α -> Int} {ms : List α} {m : Nat} (h : jZ key ms (m + 1)) (hl : ms.length <= m + 1) : zaP key ms = true := by
  unfold zaP
  simp only [decide_eq_true_eq]
  exact fun i hi => h i hi (by omega)
theorem zko {α : Type} (key : α -> α -> Int) (ms : List α) : zaP key ms = true ↔ rising key ms := by
  unfold zaP
  simp only [decide_eq_true_eq]
def zb1 (a b : Int) : Int := if a < b then -1 else if b < a then 1 else 0
def zbp (a b : Gr) : Int := zb1 a.no b.no
end Gate
theorem zev {n m : Nat} (h : m + 1 < n) : n + 1 - (intOf (Value.int IntKind.i64 ((m : Int) + 1 + 1))).toNat < n + 1 - (intOf (Value.int IntKind.i64 ((m : Int) + 1))).toNat := by
  show n + 1 - ((m : Int) + 1 + 1).toNat < n + 1 - ((m : Int) + 1).toNat
  omega
theorem zmH (x : Int) (w : World) : Calls Tryz.prog 190 #[.int .i64 x] w fun e w' => e = .returned (.bool false) /\ w' = w := by
  have h : (x != x) = false := by simp
  go_enter Tryz.func190, Tryz.ntmps190
  go_wp2_with fail
  go_ret
  exact ⟨rfl, rfl⟩
set_option maxHeartbeats 1000000 in
theorem zhJ (x y : Int) (w : World) : Calls Tryz.prog 169 #[.int .i64 x, .int .i64 y] w fun e w' => e = .returned (.int .i64 (Gate.zb1 x y)) /\ w' = w := by
  have HN := hid zmH
  by_cases h1 : x < y
  · have HF : Hid (Gate.zb1 x y = -1) := by unfold Hid Gate.zb1; rw [if_pos h1]
    go_enter Tryz.func169, Tryz.ntmps169
    go_wp2_with (go_at_call 190; refine (HN.out _ _).mono ?_; rintro e w2 ⟨rfl, rfl⟩)
    go_ret
    exact ⟨zk HF.out.symm, rfl⟩
  · by_cases h2 : y < x
    · have HF : Hid (Gate.zb1 x y = 1) := by unfold Hid Gate.zb1; rw [if_neg h1, if_pos h2]
      go_enter Tryz.func169, Tryz.ntmps169
      go_wp2_with (go_at_call 190; refine (HN.out _ _).mono ?_; rintro e w2 ⟨rfl, rfl⟩)
      go_ret
      exact ⟨zk HF.out.symm, rfl⟩
    · have HF : Hid (Gate.zb1 x y = 0) := by unfold Hid Gate.zb1; rw [if_neg h1, if_neg h2]
      go_enter Tryz.func169, Tryz.ntmps169
      go_wp2_with (go_at_call 190; refine (HN.out _ _).mono ?_; rintro e w2 ⟨rfl, rfl⟩)
      go_ret
      exact ⟨zk HF.out.symm, rfl⟩
set_option maxHeartbeats 1000000 in
theorem zhI (g h : Gr) (a b : Option Addr) (c d : Nat) (w : World) :
    Calls Tryz.prog 120 #[.agg (g.cells a c), .agg (h.cells b d)] w fun e w' => e = .returned (.int .i64 (Gate.zbp g h)) /\ Below w.heap.size w w' := by
  unfold Gr.cells
  go_enter Tryz.func120, Tryz.ntmps120
  go_wp2_with (go_at_call 169; refine (zhJ _ _ _).mono ?_; rintro e w2 ⟨rfl, rfl⟩)
  go_ret
  exact ⟨rfl, zq _ _ _⟩
set_option maxHeartbeats 4000000 in
theorem zgo (a : Option Addr) (cap : Nat) (ms : List Ob) (w : World) (hw : zaQ w a ms) :
    Calls Tryz.prog 114 #[.slice a ms.length cap, .func (.func 115) #[] #[]] w fun e w' => e = .returned (.bool (Gate.zaP Gate.zbf ms)) /\ Below w.heap.size w w' := by
  have hl := hw.len
  unfold maxLen at hl
  have HW := hid hw
  clear hw
  go_enter Tryz.func114, Tryz.ntmps114
  go_wp2_with fail
  go_loopw [5] (fun iv wr => ∃ m : Nat, iv = .int .i64 ((m : Int) + 1) /\ m <= ms.length /\ Hid (Gate.jZ Gate.zbf ms (m + 1) /\ Below w.heap.size w wr)) (fun iv _ => ms.length + 1 - (intOf iv).toNat)
  case atStart => exact ⟨0, rfl, Nat.zero_le _, fun i h h' => by omega, Below.refl _ _⟩
  case round =>
    obtain ⟨m, rfl, hml, HQ⟩ := hrel
    by_cases hlt : m + 1 < ms.length
    · have hm : m < ms.length := by omega
      obtain ⟨b, off, p0, p1, p2, p3, rfl, hb, _, _, _, d0, d1, d2, d3, d4, d5, d6⟩ := HW.out.load HQ.out.2 m hm
      obtain ⟨b2, off2, q0, q1, q2, q3, ha2, hbq, _, _, _, e0, e1, e2, e3, e4, e5, e6⟩ := HW.out.load HQ.out.2 (m + 1) hlt
      obtain ⟨rfl, rfl⟩ : b = b2 /\ off = off2 := by
        have h := ha2
        simpa using h
      have hb' := Nat.lt_of_lt_of_le hb HQ.out.2.size
      have hltI : (m : Int) + 1 < (ms.length : Int) := by omega
      have h0m : (0 : Int) <= (m : Int) := by omega
      have h01 : (0 : Int) <= (m : Int) + 1 := by omega
      have hsub : IntKind.i64.wrap ((m : Int) + 1 - 1) = (m : Int) := by rw [IntKind.wrap_i64]; omega
      have hsub2 : IntKind.i64.wrap (m : Int) = (m : Int) := by rw [IntKind.wrap_i64]; omega
      have hsub3 : wrap64 (m : Int) = (m : Int) := by unfold wrap64; omega
      have htn : ((m : Int) + 1).toNat = m + 1 := by omega
      have hlmI : (m : Int) < (ms.length : Int) := by omega
      have HBr := hid HQ.out.2
      have hS : wr.drew.cell? ⟨b, off + m * 7, none⟩ = some (.string ms[m].kd) /\ wr.drew.cell? ⟨b, off + m * 7 + 1, none⟩ = some (.string ms[m].nm) /\ wr.drew.cell? ⟨b, off + m * 7 + 2, none⟩ = some (.string ms[m].tm) /\ wr.drew.cell? ⟨b, off + m * 7 + 3, none⟩ = some (.slice p0 ms[m].vs.length p2) /\ wr.drew.cell? ⟨b, off + m * 7 + 4, none⟩ = some (.bool ms[m].en) /\ wr.drew.cell? ⟨b, off + m * 7 + 5, none⟩ = some (.slice p1 ms[m].hs.length p3) /\ wr.drew.cell? ⟨b, off + m * 7 + 6, none⟩ = some (.int .i64 ms[m].vr) /\ wr.drew.cell? ⟨b, off + (m + 1) * 7, none⟩ = some (.string ms[m + 1].kd) /\ wr.drew.cell? ⟨b, off + (m + 1) * 7 + 1, none⟩ = some (.string ms[m + 1].nm) /\ wr.drew.cell? ⟨b, off + (m + 1) * 7 + 2, none⟩ = some (.string ms[m + 1].tm) /\ wr.drew.cell? ⟨b, off + (m + 1) * 7 + 3, none⟩ = some (.slice q0 ms[m + 1].vs.length q2) /\ wr.drew.cell? ⟨b, off + (m + 1) * 7 + 4, none⟩ = some (.bool ms[m + 1].en) /\ wr.drew.cell? ⟨b, off + (m + 1) * 7 + 5, none⟩ = some (.slice q1 ms[m + 1].hs.length q3) /\ wr.drew.cell? ⟨b, off + (m + 1) * 7 + 6, none⟩ = some (.int .i64 ms[m + 1].vr) := ⟨d0, d1, d2, d3, d4, d5, d6, e0, e1, e2, e3, e4, e5, e6⟩
      clear d0 d1 d2 d3 d4 d5 d6 e0 e1 e2 e3 e4 e5 e6
      have HM := hid HQ.out.1
      clear HQ
      go_wp2_with fail
      go_region_held3 (fun w' => w'.cell? ⟨b, off + m * 7, none⟩ = some (.string ms[m].kd) /\ w'.cell? ⟨b, off + m * 7 + 1, none⟩ = some (.string ms[m].nm) /\ w'.cell? ⟨b, off + m * 7 + 2, none⟩ = some (.string ms[m].tm) /\ w'.cell? ⟨b, off + m * 7 + 3, none⟩ = some (.slice p0 ms[m].vs.length p2) /\ w'.cell? ⟨b, off + m * 7 + 4, none⟩ = some (.bool ms[m].en) /\ w'.cell? ⟨b, off + m * 7 + 5, none⟩ = some (.slice p1 ms[m].hs.length p3) /\ w'.cell? ⟨b, off + m * 7 + 6, none⟩ = some (.int .i64 ms[m].vr) /\ w'.cell? ⟨b, off + (m + 1) * 7, none⟩ = some (.string ms[m + 1].kd) /\ w'.cell? ⟨b, off + (m + 1) * 7 + 1, none⟩ = some (.string ms[m + 1].nm) /\ w'.cell? ⟨b, off + (m + 1) * 7 + 2, none⟩ = some (.string ms[m + 1].tm) /\ w'.cell? ⟨b, off + (m + 1) * 7 + 3, none⟩ = some (.slice q0 ms[m + 1].vs.length q2) /\ w'.cell? ⟨b, off + (m + 1) * 7 + 4, none⟩ = some (.bool ms[m + 1].en) /\ w'.cell? ⟨b, off + (m + 1) * 7 + 5, none⟩ = some (.slice q1 ms[m + 1].hs.length q3) /\ w'.cell? ⟨b, off + (m + 1) * 7 + 6, none⟩ = some (.int .i64 ms[m + 1].vr)) (exact hS) (first | (go_at_call 115; refine (zfV ms[m] ms[m + 1] p0 p1 q0 q1 p2 p3 q2 q3 _).mono ?_; rintro e w2 ⟨rfl, hb2⟩; have hS := (⟨(hb2.cell (p := ⟨b, _, none⟩) hb').trans hS.1, (hb2.cell (p := ⟨b, _, none⟩) hb').trans hS.2.1, (hb2.cell (p := ⟨b, _, none⟩) hb').trans hS.2.2.1, (hb2.cell (p := ⟨b, _, none⟩) hb').trans hS.2.2.2.1, (hb2.cell (p := ⟨b, _, none⟩) hb').trans hS.2.2.2.2.1, (hb2.cell (p := ⟨b, _, none⟩) hb').trans hS.2.2.2.2.2.1, (hb2.cell (p := ⟨b, _, none⟩) hb').trans hS.2.2.2.2.2.2.1, (hb2.cell (p := ⟨b, _, none⟩) hb').trans hS.2.2.2.2.2.2.2.1, (hb2.cell (p := ⟨b, _, none⟩) hb').trans hS.2.2.2.2.2.2.2.2.1, (hb2.cell (p := ⟨b, _, none⟩) hb').trans hS.2.2.2.2.2.2.2.2.2.1, (hb2.cell (p := ⟨b, _, none⟩) hb').trans hS.2.2.2.2.2.2.2.2.2.2.1, (hb2.cell (p := ⟨b, _, none⟩) hb').trans hS.2.2.2.2.2.2.2.2.2.2.2.1, (hb2.cell (p := ⟨b, _, none⟩) hb').trans hS.2.2.2.2.2.2.2.2.2.2.2.2.1, (hb2.cell (p := ⟨b, _, none⟩) hb').trans hS.2.2.2.2.2.2.2.2.2.2.2.2.2⟩ : _ /\ _ /\ _ /\ _ /\ _ /\ _ /\ _ /\ _ /\ _ /\ _ /\ _ /\ _ /\ _ /\ _); have hB2 := HBr.out.drew.trans (hb2.mono HBr.out.drew.size); clear hb2))
      by_cases hk : Gate.zbf ms[m] ms[m + 1] < 0
      · have HA := hid (Gate.zcC HM.out hlt hk)
        have hd : decide (0 <= Gate.zbf ms[m] ms[m + 1]) = false := by simp; omega
        rw [hd]
        clear hk hd
        go_wp2_with fail
        exact ⟨⟨m + 1, by go_num, by omega, HA.out, hB2⟩, zev (by omega)⟩
      · have HA := hid (Gate.zei hlt hk)
        have hd : decide (0 <= Gate.zbf ms[m] ms[m + 1]) = true := by simp; omega
        rw [hd]
        clear hk hd
        go_wp2_with fail
        go_ret
        exact ⟨ze HA.out.symm, hB2⟩
    · have HA : Hid (Gate.zaP Gate.zbf ms = true) := Gate.zed HQ.out.1 (by omega)
      have HB := hid HQ.out.2
      clear HQ
      go_wp2_with fail
      go_ret
      exact ⟨ze HA.out.symm, HB.out⟩
set_option maxHeartbeats 4000000 in
theorem zfW (a : Option Addr) (cap : Nat) (ms : List Gr) (w : World) (hw : zbD w a ms) :
    Calls Tryz.prog 119 #[.slice a ms.length cap, .func (.func 120) #[] #[]] w fun e w' => e = .returned (.bool (Gate.zaP Gate.zbp ms)) /\ Below w.heap.size w w' := by
  have hl := hw.len
  unfold maxLen at hl
  have HW := hid hw
  clear hw
  go_enter Tryz.func119, Tryz.ntmps119
  go_wp2_with fail
  go_loopw [5] (fun iv wr => ∃ m : Nat, iv = .int .i64 ((m : Int) + 1) /\ m <= ms.length /\ Hid (Gate.jZ Gate.zbp ms (m + 1) /\ Below w.heap.size w wr)) (fun iv _ => ms.length + 1 - (intOf iv).toNat)
  case atStart => exact ⟨0, rfl, Nat.zero_le _, fun i h h' => by omega, Below.refl _ _⟩
  case round =>
    obtain ⟨m, rfl, hml, HQ⟩ := hrel
    by_cases hlt : m + 1 < ms.length
    · have hm : m < ms.length := by omega
      obtain ⟨b, off, p0, p1, rfl, hb, _, _, d0, d1, d2, d3, d4, d5, d6⟩ := HW.out.load HQ.out.2 m hm
      obtain ⟨b2, off2, q0, q1, ha2, hbq, _, _, e0, e1, e2, e3, e4, e5, e6⟩ := HW.out.load HQ.out.2 (m + 1) hlt
      obtain ⟨rfl, rfl⟩ : b = b2 /\ off = off2 := by
        have h := ha2
        simpa using h
      have hb' := Nat.lt_of_lt_of_le hb HQ.out.2.size
      have hltI : (m : Int) + 1 < (ms.length : Int) := by omega
      have h0m : (0 : Int) <= (m : Int) := by omega
      have h01 : (0 : Int) <= (m : Int) + 1 := by omega
      have hsub : IntKind.i64.wrap ((m : Int) + 1 - 1) = (m : Int) := by rw [IntKind.wrap_i64]; omega
      have hsub2 : IntKind.i64.wrap (m : Int) = (m : Int) := by rw [IntKind.wrap_i64]; omega
      have hsub3 : wrap64 (m : Int) = (m : Int) := by unfold wrap64; omega
      have htn : ((m : Int) + 1).toNat = m + 1 := by omega
      have hlmI : (m : Int) < (ms.length : Int) := by omega
      have HBr := hid HQ.out.2
      have hS : wr.drew.cell? ⟨b, off + m * 7, none⟩ = some (.int .i64 ms[m].no) /\ wr.drew.cell? ⟨b, off + m * 7 + 1, none⟩ = some (.string ms[m].to) /\ wr.drew.cell? ⟨b, off + m * 7 + 2, none⟩ = some (.string ms[m].gb) /\ wr.drew.cell? ⟨b, off + m * 7 + 3, none⟩ = some (.slice p0 ms[m].r.vs.length p1) /\ wr.drew.cell? ⟨b, off + m * 7 + 4, none⟩ = some (.string ms[m].r.kd) /\ wr.drew.cell? ⟨b, off + m * 7 + 5, none⟩ = some (.string ms[m].r.tm) /\ wr.drew.cell? ⟨b, off + m * 7 + 6, none⟩ = some (.string ms[m].r.px) /\ wr.drew.cell? ⟨b, off + (m + 1) * 7, none⟩ = some (.int .i64 ms[m + 1].no) /\ wr.drew.cell? ⟨b, off + (m + 1) * 7 + 1, none⟩ = some (.string ms[m + 1].to) /\ wr.drew.cell? ⟨b, off + (m + 1) * 7 + 2, none⟩ = some (.string ms[m + 1].gb) /\ wr.drew.cell? ⟨b, off + (m + 1) * 7 + 3, none⟩ = some (.slice q0 ms[m + 1].r.vs.length q1) /\ wr.drew.cell? ⟨b, off + (m + 1) * 7 + 4, none⟩ = some (.string ms[m + 1].r.kd) /\ wr.drew.cell? ⟨b, off + (m + 1) * 7 + 5, none⟩ = some (.string ms[m + 1].r.tm) /\ wr.drew.cell? ⟨b, off + (m + 1) * 7 + 6, none⟩ = some (.string ms[m + 1].r.px) := ⟨d0, d1, d2, d3, d4, d5, d6, e0, e1, e2, e3, e4, e5, e6⟩
      clear d0 d1 d2 d3 d4 d5 d6 e0 e1 e2 e3 e4 e5 e6
      have HM := hid HQ.out.1
      clear HQ
      go_wp2_with fail
      go_region_held3 (fun w' => w'.cell? ⟨b, off + m * 7, none⟩ = some (.int .i64 ms[m].no) /\ w'.cell? ⟨b, off + m * 7 + 1, none⟩ = some (.string ms[m].to) /\ w'.cell? ⟨b, off + m * 7 + 2, none⟩ = some (.string ms[m].gb) /\ w'.cell? ⟨b, off + m * 7 + 3, none⟩ = some (.slice p0 ms[m].r.vs.length p1) /\ w'.cell? ⟨b, off + m * 7 + 4, none⟩ = some (.string ms[m].r.kd) /\ w'.cell? ⟨b, off + m * 7 + 5, none⟩ = some (.string ms[m].r.tm) /\ w'.cell? ⟨b, off + m * 7 + 6, none⟩ = some (.string ms[m].r.px) /\ w'.cell? ⟨b, off + (m + 1) * 7, none⟩ = some (.int .i64 ms[m + 1].no) /\ w'.cell? ⟨b, off + (m + 1) * 7 + 1, none⟩ = some (.string ms[m + 1].to) /\ w'.cell? ⟨b, off + (m + 1) * 7 + 2, none⟩ = some (.string ms[m + 1].gb) /\ w'.cell? ⟨b, off + (m + 1) * 7 + 3, none⟩ = some (.slice q0 ms[m + 1].r.vs.length q1) /\ w'.cell? ⟨b, off + (m + 1) * 7 + 4, none⟩ = some (.string ms[m + 1].r.kd) /\ w'.cell? ⟨b, off + (m + 1) * 7 + 5, none⟩ = some (.string ms[m + 1].r.tm) /\ w'.cell? ⟨b, off + (m + 1) * 7 + 6, none⟩ = some (.string ms[m + 1].r.px)) (exact hS) (first | (go_at_call 120; refine (zhI ms[m] ms[m + 1] p0 q0 p1 q1 _).mono ?_; rintro e w2 ⟨rfl, hb2⟩; have hS := (⟨(hb2.cell (p := ⟨b, _, none⟩) hb').trans hS.1, (hb2.cell (p := ⟨b, _, none⟩) hb').trans hS.2.1, (hb2.cell (p := ⟨b, _, none⟩) hb').trans hS.2.2.1, (hb2.cell (p := ⟨b, _, none⟩) hb').trans hS.2.2.2.1, (hb2.cell (p := ⟨b, _, none⟩) hb').trans hS.2.2.2.2.1, (hb2.cell (p := ⟨b, _, none⟩) hb').trans hS.2.2.2.2.2.1, (hb2.cell (p := ⟨b, _, none⟩) hb').trans hS.2.2.2.2.2.2.1, (hb2.cell (p := ⟨b, _, none⟩) hb').trans hS.2.2.2.2.2.2.2.1, (hb2.cell (p := ⟨b, _, none⟩) hb').trans hS.2.2.2.2.2.2.2.2.1, (hb2.cell (p := ⟨b, _, none⟩) hb').trans hS.2.2.2.2.2.2.2.2.2.1, (hb2.cell (p := ⟨b, _, none⟩) hb').trans hS.2.2.2.2.2.2.2.2.2.2.1, (hb2.cell (p := ⟨b, _, none⟩) hb').trans hS.2.2.2.2.2.2.2.2.2.2.2.1, (hb2.cell (p := ⟨b, _, none⟩) hb').trans hS.2.2.2.2.2.2.2.2.2.2.2.2.1, (hb2.cell (p := ⟨b, _, none⟩) hb').trans hS.2.2.2.2.2.2.2.2.2.2.2.2.2⟩ : _ /\ _ /\ _ /\ _ /\ _ /\ _ /\ _ /\ _ /\ _ /\ _ /\ _ /\ _ /\ _ /\ _); have hB2 := HBr.out.drew.trans (hb2.mono HBr.out.drew.size); clear hb2))
      by_cases hk : Gate.zbp ms[m] ms[m + 1] < 0
      · have HA := hid (Gate.zcC HM.out hlt hk)
        have hd : decide (0 <= Gate.zbp ms[m] ms[m + 1]) = false := by simp; omega
        rw [hd]
        clear hk hd
        go_wp2_with fail
        exact ⟨⟨m + 1, by go_num, by omega, HA.out, hB2⟩, zev (by omega)⟩
      · have HA := hid (Gate.zei hlt hk)
        have hd : decide (0 <= Gate.zbp ms[m] ms[m + 1]) = true := by simp; omega
        rw [hd]
        clear hk hd
        go_wp2_with fail
        go_ret
        exact ⟨ze HA.out.symm, hB2⟩
    · have HA : Hid (Gate.zaP Gate.zbp ms = true) := Gate.zed HQ.out.1 (by omega)
      have HB := hid HQ.out.2
      clear HQ
      go_wp2_with fail
      go_ret
      exact ⟨ze HA.out.symm, HB.out⟩
set_option maxHeartbeats 4000000 in
theorem zgu (a : Option Addr) (cap : Nat) (ms : List Lg) (w : World) (hw : zbo w a ms) :
    Calls Tryz.prog 122 #[.slice a ms.length cap, .func (.func 123) #[] #[]] w fun e w' => e = .returned (.bool (Gate.zaP Gate.yL ms)) /\ Below w.heap.size w w' := by
  have hl := hw.len
  unfold maxLen at hl
  have HW := hid hw
  clear hw
  go_enter Tryz.func122, Tryz.ntmps122
  go_wp2_with fail
  go_loopw [5] (fun iv wr => ∃ m : Nat, iv = .int .i64 ((m : Int) + 1) /\ m <= ms.length /\ Hid (Gate.jZ Gate.yL ms (m + 1) /\ Below w.heap.size w wr)) (fun iv _ => ms.length + 1 - (intOf iv).toNat)
  case atStart => exact ⟨0, rfl, Nat.zero_le _, fun i h h' => by omega, Below.refl _ _⟩
  case round =>
    obtain ⟨m, rfl, hml, HQ⟩ := hrel
    by_cases hlt : m + 1 < ms.length
    · have hm : m < ms.length := by omega
      obtain ⟨b, off, rfl, hb, d0, d1, d2, d3⟩ := HW.out.load HQ.out.2 m hm
      obtain ⟨b2, off2, ha2, hbq, e0, e1, e2, e3⟩ := HW.out.load HQ.out.2 (m + 1) hlt
      obtain ⟨rfl, rfl⟩ : b = b2 /\ off = off2 := by
        have h := ha2
        simpa using h
      have hb' := Nat.lt_of_lt_of_le hb HQ.out.2.size
      have hltI : (m : Int) + 1 < (ms.length : Int) := by omega
      have h0m : (0 : Int) <= (m : Int) := by omega
      have h01 : (0 : Int) <= (m : Int) + 1 := by omega
      have hsub : IntKind.i64.wrap ((m : Int) + 1 - 1) = (m : Int) := by rw [IntKind.wrap_i64]; omega
      have hsub2 : IntKind.i64.wrap (m : Int) = (m : Int) := by rw [IntKind.wrap_i64]; omega
      have hsub3 : wrap64 (m : Int) = (m : Int) := by unfold wrap64; omega
      have htn : ((m : Int) + 1).toNat = m + 1 := by omega
      have hlmI : (m : Int) < (ms.length : Int) := by omega
      have HBr := hid HQ.out.2
      have hS : wr.drew.cell? ⟨b, off + m * 4, none⟩ = some (.string ms[m].tm) /\ wr.drew.cell? ⟨b, off + m * 4 + 1, none⟩ = some (.string ms[m].rs) /\ wr.drew.cell? ⟨b, off + m * 4 + 2, none⟩ = some (.int .i64 ms[m].mo) /\ wr.drew.cell? ⟨b, off + m * 4 + 3, none⟩ = some (.int .i64 ms[m].fr) /\ wr.drew.cell? ⟨b, off + (m + 1) * 4, none⟩ = some (.string ms[m + 1].tm) /\ wr.drew.cell? ⟨b, off + (m + 1) * 4 + 1, none⟩ = some (.string ms[m + 1].rs) /\ wr.drew.cell? ⟨b, off + (m + 1) * 4 + 2, none⟩ = some (.int .i64 ms[m + 1].mo) /\ wr.drew.cell? ⟨b, off + (m + 1) * 4 + 3, none⟩ = some (.int .i64 ms[m + 1].fr) := ⟨d0, d1, d2, d3, e0, e1, e2, e3⟩
      clear d0 d1 d2 d3 e0 e1 e2 e3
      have HM := hid HQ.out.1
      clear HQ
      go_wp2_with fail
      go_region_held3 (fun w' => w'.cell? ⟨b, off + m * 4, none⟩ = some (.string ms[m].tm) /\ w'.cell? ⟨b, off + m * 4 + 1, none⟩ = some (.string ms[m].rs) /\ w'.cell? ⟨b, off + m * 4 + 2, none⟩ = some (.int .i64 ms[m].mo) /\ w'.cell? ⟨b, off + m * 4 + 3, none⟩ = some (.int .i64 ms[m].fr) /\ w'.cell? ⟨b, off + (m + 1) * 4, none⟩ = some (.string ms[m + 1].tm) /\ w'.cell? ⟨b, off + (m + 1) * 4 + 1, none⟩ = some (.string ms[m + 1].rs) /\ w'.cell? ⟨b, off + (m + 1) * 4 + 2, none⟩ = some (.int .i64 ms[m + 1].mo) /\ w'.cell? ⟨b, off + (m + 1) * 4 + 3, none⟩ = some (.int .i64 ms[m + 1].fr)) (exact hS) (first | (go_at_call 123; refine (zbd ms[m] ms[m + 1] _).mono ?_; rintro e w2 ⟨rfl, hb2⟩; have hS := (⟨(hb2.cell (p := ⟨b, _, none⟩) hb').trans hS.1, (hb2.cell (p := ⟨b, _, none⟩) hb').trans hS.2.1, (hb2.cell (p := ⟨b, _, none⟩) hb').trans hS.2.2.1, (hb2.cell (p := ⟨b, _, none⟩) hb').trans hS.2.2.2.1, (hb2.cell (p := ⟨b, _, none⟩) hb').trans hS.2.2.2.2.1, (hb2.cell (p := ⟨b, _, none⟩) hb').trans hS.2.2.2.2.2.1, (hb2.cell (p := ⟨b, _, none⟩) hb').trans hS.2.2.2.2.2.2.1, (hb2.cell (p := ⟨b, _, none⟩) hb').trans hS.2.2.2.2.2.2.2⟩ : _ /\ _ /\ _ /\ _ /\ _ /\ _ /\ _ /\ _); have hB2 := HBr.out.drew.trans (hb2.mono HBr.out.drew.size); clear hb2))
      by_cases hk : Gate.yL ms[m] ms[m + 1] < 0
      · have HA := hid (Gate.zcC HM.out hlt hk)
        have hd : decide (0 <= Gate.yL ms[m] ms[m + 1]) = false := by simp; omega
        rw [hd]
        clear hk hd
        go_wp2_with fail
        exact ⟨⟨m + 1, by go_num, by omega, HA.out, hB2⟩, zev (by omega)⟩
      · have HA := hid (Gate.zei hlt hk)
        have hd : decide (0 <= Gate.yL ms[m] ms[m + 1]) = true := by simp; omega
        rw [hd]
        clear hk hd
        go_wp2_with fail
        go_ret
        exact ⟨ze HA.out.symm, hB2⟩
    · have HA : Hid (Gate.zaP Gate.yL ms = true) := Gate.zed HQ.out.1 (by omega)
      have HB := hid HQ.out.2
      clear HQ
      go_wp2_with fail
      go_ret
      exact ⟨ze HA.out.symm, HB.out⟩
set_option maxHeartbeats 4000000 in
theorem zf6 (a : Option Addr) (cap : Nat) (ms : List Pu) (w : World) (hw : zb8 w a ms) :
    Calls Tryz.prog 125 #[.slice a ms.length cap, .func (.func 126) #[] #[]] w fun e w' => e = .returned (.bool (Gate.zaP Gate.jl ms)) /\ Below w.heap.size w w' := by
  have hl := hw.len
  unfold maxLen at hl
  have HW := hid hw
  clear hw
  go_enter Tryz.func125, Tryz.ntmps125
  go_wp2_with fail
  go_loopw [5] (fun iv wr => ∃ m : Nat, iv = .int .i64 ((m : Int) + 1) /\ m <= ms.length /\ Hid (Gate.jZ Gate.jl ms (m + 1) /\ Below w.heap.size w wr)) (fun iv _ => ms.length + 1 - (intOf iv).toNat)
  case atStart => exact ⟨0, rfl, Nat.zero_le _, fun i h h' => by omega, Below.refl _ _⟩
  case round =>
    obtain ⟨m, rfl, hml, HQ⟩ := hrel
    by_cases hlt : m + 1 < ms.length
    · have hm : m < ms.length := by omega
      obtain ⟨b, off, rfl, hb, d0, d1, d2, d3, d4⟩ := HW.out.load HQ.out.2 m hm
      obtain ⟨b2, off2, ha2, hbq, e0, e1, e2, e3, e4⟩ := HW.out.load HQ.out.2 (m + 1) hlt
      obtain ⟨rfl, rfl⟩ : b = b2 /\ off = off2 := by
        have h := ha2
        simpa using h
      have hb' := Nat.lt_of_lt_of_le hb HQ.out.2.size
      have hltI : (m : Int) + 1 < (ms.length : Int) := by omega
      have h0m : (0 : Int) <= (m : Int) := by omega
      have h01 : (0 : Int) <= (m : Int) + 1 := by omega
      have hsub : IntKind.i64.wrap ((m : Int) + 1 - 1) = (m : Int) := by rw [IntKind.wrap_i64]; omega
      have hsub2 : IntKind.i64.wrap (m : Int) = (m : Int) := by rw [IntKind.wrap_i64]; omega
      have hsub3 : wrap64 (m : Int) = (m : Int) := by unfold wrap64; omega
      have htn : ((m : Int) + 1).toNat = m + 1 := by omega
      have hlmI : (m : Int) < (ms.length : Int) := by omega
      have HBr := hid HQ.out.2
      have hS : wr.drew.cell? ⟨b, off + m * 5, none⟩ = some (.string ms[m].dr) /\ wr.drew.cell? ⟨b, off + m * 5 + 1, none⟩ = some (.string ms[m].tm) /\ wr.drew.cell? ⟨b, off + m * 5 + 2, none⟩ = some (.string ms[m].rs) /\ wr.drew.cell? ⟨b, off + m * 5 + 3, none⟩ = some (.int .i64 ms[m].am) /\ wr.drew.cell? ⟨b, off + m * 5 + 4, none⟩ = some (.int .i64 ms[m].un) /\ wr.drew.cell? ⟨b, off + (m + 1) * 5, none⟩ = some (.string ms[m + 1].dr) /\ wr.drew.cell? ⟨b, off + (m + 1) * 5 + 1, none⟩ = some (.string ms[m + 1].tm) /\ wr.drew.cell? ⟨b, off + (m + 1) * 5 + 2, none⟩ = some (.string ms[m + 1].rs) /\ wr.drew.cell? ⟨b, off + (m + 1) * 5 + 3, none⟩ = some (.int .i64 ms[m + 1].am) /\ wr.drew.cell? ⟨b, off + (m + 1) * 5 + 4, none⟩ = some (.int .i64 ms[m + 1].un) := ⟨d0, d1, d2, d3, d4, e0, e1, e2, e3, e4⟩
      clear d0 d1 d2 d3 d4 e0 e1 e2 e3 e4
      have HM := hid HQ.out.1
      clear HQ
      go_wp2_with fail
      go_region_held3 (fun w' => w'.cell? ⟨b, off + m * 5, none⟩ = some (.string ms[m].dr) /\ w'.cell? ⟨b, off + m * 5 + 1, none⟩ = some (.string ms[m].tm) /\ w'.cell? ⟨b, off + m * 5 + 2, none⟩ = some (.string ms[m].rs) /\ w'.cell? ⟨b, off + m * 5 + 3, none⟩ = some (.int .i64 ms[m].am) /\ w'.cell? ⟨b, off + m * 5 + 4, none⟩ = some (.int .i64 ms[m].un) /\ w'.cell? ⟨b, off + (m + 1) * 5, none⟩ = some (.string ms[m + 1].dr) /\ w'.cell? ⟨b, off + (m + 1) * 5 + 1, none⟩ = some (.string ms[m + 1].tm) /\ w'.cell? ⟨b, off + (m + 1) * 5 + 2, none⟩ = some (.string ms[m + 1].rs) /\ w'.cell? ⟨b, off + (m + 1) * 5 + 3, none⟩ = some (.int .i64 ms[m + 1].am) /\ w'.cell? ⟨b, off + (m + 1) * 5 + 4, none⟩ = some (.int .i64 ms[m + 1].un)) (exact hS) (first | (go_at_call 126; refine (zgZ ms[m] ms[m + 1] _).mono ?_; rintro e w2 ⟨rfl, hb2⟩; have hS := (⟨(hb2.cell (p := ⟨b, _, none⟩) hb').trans hS.1, (hb2.cell (p := ⟨b, _, none⟩) hb').trans hS.2.1, (hb2.cell (p := ⟨b, _, none⟩) hb').trans hS.2.2.1, (hb2.cell (p := ⟨b, _, none⟩) hb').trans hS.2.2.2.1, (hb2.cell (p := ⟨b, _, none⟩) hb').trans hS.2.2.2.2.1, (hb2.cell (p := ⟨b, _, none⟩) hb').trans hS.2.2.2.2.2.1, (hb2.cell (p := ⟨b, _, none⟩) hb').trans hS.2.2.2.2.2.2.1, (hb2.cell (p := ⟨b, _, none⟩) hb').trans hS.2.2.2.2.2.2.2.1, (hb2.cell (p := ⟨b, _, none⟩) hb').trans hS.2.2.2.2.2.2.2.2.1, (hb2.cell (p := ⟨b, _, none⟩) hb').trans hS.2.2.2.2.2.2.2.2.2⟩ : _ /\ _ /\ _ /\ _ /\ _ /\ _ /\ _ /\ _ /\ _ /\ _); have hB2 := HBr.out.drew.trans (hb2.mono HBr.out.drew.size); clear hb2))
      by_cases hk : Gate.jl ms[m] ms[m + 1] < 0
      · have HA := hid (Gate.zcC HM.out hlt hk)
        have hd : decide (0 <= Gate.jl ms[m] ms[m + 1]) = false := by simp; omega
        rw [hd]
        clear hk hd
        go_wp2_with fail
        exact ⟨⟨m + 1, by go_num, by omega, HA.out, hB2⟩, zev (by omega)⟩
      · have HA := hid (Gate.zei hlt hk)
        have hd : decide (0 <= Gate.jl ms[m] ms[m + 1]) = true := by simp; omega
        rw [hd]
        clear hk hd
        go_wp2_with fail
        go_ret
        exact ⟨ze HA.out.symm, hB2⟩
    · have HA : Hid (Gate.zaP Gate.jl ms = true) := Gate.zed HQ.out.1 (by omega)
      have HB := hid HQ.out.2
      clear HQ
      go_wp2_with fail
      go_ret
      exact ⟨ze HA.out.symm, HB.out⟩
end Go.Proofs.YtkfigdbbncjojaaGreat

namespace Go.Proofs.YtkfigdbbncjojaaGreat
open Go.RowKit
set_option maxHeartbeats 4000000 in
theorem zjO (l : Lw) (la lb lc : Option Addr) (lca lcb lcc : Nat) (b : Bk) (a0 a1 a2 a3 : Option Addr) (c0 c1 c2 c3 : Nat) (team res : ByteArray) (w : World) (hl : qO w l la lb lc) (hb : qY w b a0 a1 a2 a3) (hz : ql b.os <= 1048576) :
    Calls Tryz.prog 60 #[.agg (l.cells la lb lc lca lcb lcc), .agg (b.cells a0 a1 a2 a3 c0 c1 c2 c3), .string team, .string res] w fun e w' => e = .returned (.int .i64 (Gate.used l b.os team res)) /\ Below w.heap.size w w' := by
  have HL : Hid (qO w l la lb lc) := hl
  have HK : Hid (qY w b a0 a1 a2 a3) := hb
  have HZ : Hid (ql b.os <= 1048576 /\ b.os.length <= 1048576) := ⟨hz, by unfold ql at hz; omega⟩
  clear hl hb hz
  unfold Lw.cells Bk.cells
  go_enter Tryz.func60, Tryz.ntmps60
  go_wp2_with fail
  obtain ⟨hX0, hY0⟩ := qw w (lC l la lb lc lca lcb lcc) (bC b a0 a1 a2 a3 c0 c1 c2 c3) 40 47
  have HB0 : Hid (Below w.heap.size w ((w.alloc (.cells (lC l la lb lc lca lcb lcc) 40)).alloc (.cells (bC b a0 a1 a2 a3 c0 c1 c2 c3) 47))) := zq w _ _
  obtain ⟨W0, hW0⟩ : ∃ W0, W0 = (w.alloc (.cells (lC l la lb lc lca lcb lcc) 40)).alloc (.cells (bC b a0 a1 a2 a3 c0 c1 c2 c3) 47) := ⟨_, rfl⟩
  have hz0 : w.heap.size + 1 < W0.heap.size := by rw [hW0]; simp
  rw [<- hW0] at HB0 hX0 hY0 ⊢
  clear hW0
  go_loopw [9, 10] (fun nv iv wr => ∃ (k : Nat) (s : Int), k <= b.os.length /\ iv = .int .i64 k /\ nv = .int .i64 s /\ Hid (s = Gate.jK l b.os team res k /\ Below W0.heap.size W0 wr)) (fun _ iv _ => b.os.length - (intOf iv).toNat)
  case atStart => exact ⟨0, 0, Nat.zero_le _, rfl, rfl, by simp [Gate.jK], Below.refl _ _⟩
  case round =>
    obtain ⟨k, s, hk, rfl, rfl, HQ⟩ := hrel
    have hsb : 0 <= s /\ s <= 20000000000000 := by
      have h1 := HQ.out.1; have h2 := Gate.za0 l b.os team res k hk; have h3 := HZ.out
      have h4 : zaa (b.os.take k) <= zaa b.os := zbE Ob.sz b.os k
      unfold ql at h3
      omega
    have hX := za hX0 (Nat.lt_of_succ_lt hz0) HQ.out.2
    have hY := za hY0 hz0 HQ.out.2
    have hz := Nat.lt_of_lt_of_le hz0 HQ.out.2.size
    have hzX := Nat.lt_of_succ_lt hz
    have hkn : k <= 1048576 := by have := HZ.out.2; omega
    by_cases hlt : k < b.os.length
    · obtain ⟨ob, off, v0, v1, q0, q1, rfl, hob, hsm, hl0, hl1, d0, d1, d2, d3, d4, d5, d6⟩ := HK.out.os.load (HB0.out.trans (HQ.out.2.mono HB0.out.size)) k hlt
      have hob' := Nat.lt_of_lt_of_le hob (HB0.out.trans (HQ.out.2.mono HB0.out.size)).size
      have hltI : (k : Int) < (b.os.length : Int) := by omega
      have HSt : Hid (Gate.jK l b.os team res (k + 1) = Gate.jK l b.os team res k + Gate.zaL l team res b.os[k]) := Gate.zdZ l b.os team res k hlt
      have HOo : Hid (qQ wr b.os[k] v0 v1) := ⟨hsm, hl0, hl1⟩
      have HOl : Hid (b.os[k].vs.length <= 1048576) := by
        have h3 := HZ.out.1
        have := (zjh (left := 1048576) (ms := b.os) (by omega) (by omega)).2 k hlt
        exact this.1
      have hwb := Gate.zd4 l.ss b.os[k] res HOl.out
      have HBr : Hid (Below w.heap.size w wr) := HB0.out.trans (HQ.out.2.mono HB0.out.size)
      clear hsm hl0 hl1
      go_wp2_with fail
      have HS : Hid ((∀ j, wr.cell? ⟨w.heap.size, j, none⟩ = (lC l la lb lc lca lcb lcc)[j]?) /\ (∀ j, wr.cell? ⟨w.heap.size + 1, j, none⟩ = (bC b (some ⟨ob, off, none⟩) a1 a2 a3 c0 c1 c2 c3)[j]?) /\ wr.cell? ⟨ob, off + k * 7, none⟩ = some (.string b.os[k].kd) /\ wr.cell? ⟨ob, off + k * 7 + 1, none⟩ = some (.string b.os[k].nm) /\ wr.cell? ⟨ob, off + k * 7 + 2, none⟩ = some (.string b.os[k].tm) /\ wr.cell? ⟨ob, off + k * 7 + 3, none⟩ = some (.slice v0 b.os[k].vs.length q0) /\ wr.cell? ⟨ob, off + k * 7 + 4, none⟩ = some (.bool b.os[k].en) /\ wr.cell? ⟨ob, off + k * 7 + 5, none⟩ = some (.slice v1 b.os[k].hs.length q1) /\ wr.cell? ⟨ob, off + k * 7 + 6, none⟩ = some (.int .i64 b.os[k].vr)) := ⟨hX, hY, d0, d1, d2, d3, d4, d5, d6⟩
      have hS : (∀ j, wr.drew.cell? ⟨w.heap.size, j, none⟩ = (lC l la lb lc lca lcb lcc)[j]?) /\ (∀ j, wr.drew.cell? ⟨w.heap.size + 1, j, none⟩ = (bC b (some ⟨ob, off, none⟩) a1 a2 a3 c0 c1 c2 c3)[j]?) /\ wr.drew.cell? ⟨ob, off + k * 7, none⟩ = some (.string b.os[k].kd) /\ wr.drew.cell? ⟨ob, off + k * 7 + 1, none⟩ = some (.string b.os[k].nm) /\ wr.drew.cell? ⟨ob, off + k * 7 + 2, none⟩ = some (.string b.os[k].tm) /\ wr.drew.cell? ⟨ob, off + k * 7 + 3, none⟩ = some (.slice v0 b.os[k].vs.length q0) /\ wr.drew.cell? ⟨ob, off + k * 7 + 4, none⟩ = some (.bool b.os[k].en) /\ wr.drew.cell? ⟨ob, off + k * 7 + 5, none⟩ = some (.slice v1 b.os[k].hs.length q1) /\ wr.drew.cell? ⟨ob, off + k * 7 + 6, none⟩ = some (.int .i64 b.os[k].vr) := HS.out
      clear hX hY d0 d1 d2 d3 d4 d5 d6
      go_region_held3 (fun w' => (∀ j, w'.cell? ⟨w.heap.size, j, none⟩ = (lC l la lb lc lca lcb lcc)[j]?) /\ (∀ j, w'.cell? ⟨w.heap.size + 1, j, none⟩ = (bC b (some ⟨ob, off, none⟩) a1 a2 a3 c0 c1 c2 c3)[j]?) /\ w'.cell? ⟨ob, off + k * 7, none⟩ = some (.string b.os[k].kd) /\ w'.cell? ⟨ob, off + k * 7 + 1, none⟩ = some (.string b.os[k].nm) /\ w'.cell? ⟨ob, off + k * 7 + 2, none⟩ = some (.string b.os[k].tm) /\ w'.cell? ⟨ob, off + k * 7 + 3, none⟩ = some (.slice v0 b.os[k].vs.length q0) /\ w'.cell? ⟨ob, off + k * 7 + 4, none⟩ = some (.bool b.os[k].en) /\ w'.cell? ⟨ob, off + k * 7 + 5, none⟩ = some (.slice v1 b.os[k].hs.length q1) /\ w'.cell? ⟨ob, off + k * 7 + 6, none⟩ = some (.int .i64 b.os[k].vr)) (exact hS) (first | (go_at_call 98; refine (zit _ _ l.ts b.os[k].tm team _ (by exact HL.out.ts.mono HBr.out.drew)).mono ?_; rintro e w1 ⟨rfl, rfl⟩))
      obtain ⟨w2, hw2⟩ : ∃ w2, w2 = wr.drew := ⟨_, rfl⟩
      have hB2 : Below W0.heap.size W0 w2 := by rw [hw2]; exact HQ.out.2.drew
      have HBr2 : Hid (Below w.heap.size w w2) := by unfold Hid; rw [hw2]; exact HBr.out.drew
      have HO2 : Hid (qQ w2 b.os[k] v0 v1) := by unfold Hid; rw [hw2]; exact HOo.out.mono (Below.refl _ _).drew
      have hS2 : (∀ j, w2.cell? ⟨w.heap.size, j, none⟩ = (lC l la lb lc lca lcb lcc)[j]?) /\ (∀ j, w2.cell? ⟨w.heap.size + 1, j, none⟩ = (bC b (some ⟨ob, off, none⟩) a1 a2 a3 c0 c1 c2 c3)[j]?) /\ w2.cell? ⟨ob, off + k * 7, none⟩ = some (.string b.os[k].kd) /\ w2.cell? ⟨ob, off + k * 7 + 1, none⟩ = some (.string b.os[k].nm) /\ w2.cell? ⟨ob, off + k * 7 + 2, none⟩ = some (.string b.os[k].tm) /\ w2.cell? ⟨ob, off + k * 7 + 3, none⟩ = some (.slice v0 b.os[k].vs.length q0) /\ w2.cell? ⟨ob, off + k * 7 + 4, none⟩ = some (.bool b.os[k].en) /\ w2.cell? ⟨ob, off + k * 7 + 5, none⟩ = some (.slice v1 b.os[k].hs.length q1) /\ w2.cell? ⟨ob, off + k * 7 + 6, none⟩ = some (.int .i64 b.os[k].vr) := by rw [hw2]; exact hS
      have hz2 : w.heap.size + 1 < w2.heap.size := by rw [hw2]; exact hz
      have hzX2 := Nat.lt_of_succ_lt hz2
      have hob2 : ob < w2.heap.size := by rw [hw2]; exact hob'
      have HB2 : Hid (Below W0.heap.size W0 w2) := hB2
      rw [<- hw2]
      clear hw2 hS HS hB2 hz hzX hob'
      by_cases hu : Gate.under l.ts 4 b.os[k].tm team = true
      · have HU : Hid (Gate.zaL l team res b.os[k] = Gate.yY l.ss b.os[k] res) := by unfold Hid Gate.zaL; rw [if_pos hu]
        rw [hu]
        clear hu
        have hS : (∀ j, w2.drew.cell? ⟨w.heap.size, j, none⟩ = (lC l la lb lc lca lcb lcc)[j]?) /\ (∀ j, w2.drew.cell? ⟨w.heap.size + 1, j, none⟩ = (bC b (some ⟨ob, off, none⟩) a1 a2 a3 c0 c1 c2 c3)[j]?) /\ w2.drew.cell? ⟨ob, off + k * 7, none⟩ = some (.string b.os[k].kd) /\ w2.drew.cell? ⟨ob, off + k * 7 + 1, none⟩ = some (.string b.os[k].nm) /\ w2.drew.cell? ⟨ob, off + k * 7 + 2, none⟩ = some (.string b.os[k].tm) /\ w2.drew.cell? ⟨ob, off + k * 7 + 3, none⟩ = some (.slice v0 b.os[k].vs.length q0) /\ w2.drew.cell? ⟨ob, off + k * 7 + 4, none⟩ = some (.bool b.os[k].en) /\ w2.drew.cell? ⟨ob, off + k * 7 + 5, none⟩ = some (.slice v1 b.os[k].hs.length q1) /\ w2.drew.cell? ⟨ob, off + k * 7 + 6, none⟩ = some (.int .i64 b.os[k].vr) := hS2
        clear hS2
        go_wp2_with fail
        go_region_held3 (fun w' => (∀ j, w'.cell? ⟨w.heap.size, j, none⟩ = (lC l la lb lc lca lcb lcc)[j]?) /\ (∀ j, w'.cell? ⟨w.heap.size + 1, j, none⟩ = (bC b (some ⟨ob, off, none⟩) a1 a2 a3 c0 c1 c2 c3)[j]?) /\ w'.cell? ⟨ob, off + k * 7, none⟩ = some (.string b.os[k].kd) /\ w'.cell? ⟨ob, off + k * 7 + 1, none⟩ = some (.string b.os[k].nm) /\ w'.cell? ⟨ob, off + k * 7 + 2, none⟩ = some (.string b.os[k].tm) /\ w'.cell? ⟨ob, off + k * 7 + 3, none⟩ = some (.slice v0 b.os[k].vs.length q0) /\ w'.cell? ⟨ob, off + k * 7 + 4, none⟩ = some (.bool b.os[k].en) /\ w'.cell? ⟨ob, off + k * 7 + 5, none⟩ = some (.slice v1 b.os[k].hs.length q1) /\ w'.cell? ⟨ob, off + k * 7 + 6, none⟩ = some (.int .i64 b.os[k].vr)) (exact hS) (first | (go_at_call 99; refine (zhg l _ _ _ _ _ _ b.os[k] _ _ _ _ res _ (by exact HL.out.mono HBr2.out.drew) (by exact HO2.out.mono (Below.refl _ _).drew) HOl.out).mono ?_; rintro e w3 ⟨rfl, hb3⟩; have hS := (⟨za hS.1 hzX2 hb3, za hS.2.1 hz2 hb3, (hb3.cell (p := ⟨ob, _, none⟩) hob2).trans hS.2.2.1, (hb3.cell (p := ⟨ob, _, none⟩) hob2).trans hS.2.2.2.1, (hb3.cell (p := ⟨ob, _, none⟩) hob2).trans hS.2.2.2.2.1, (hb3.cell (p := ⟨ob, _, none⟩) hob2).trans hS.2.2.2.2.2.1, (hb3.cell (p := ⟨ob, _, none⟩) hob2).trans hS.2.2.2.2.2.2.1, (hb3.cell (p := ⟨ob, _, none⟩) hob2).trans hS.2.2.2.2.2.2.2.1, (hb3.cell (p := ⟨ob, _, none⟩) hob2).trans hS.2.2.2.2.2.2.2.2⟩ : _ /\ _ /\ _ /\ _ /\ _ /\ _ /\ _ /\ _ /\ _); have hB3 := HB2.out.drew.trans (hb3.mono HB2.out.drew.size); clear hb3))
        go_wp2_with fail
        refine ⟨⟨k + 1, s + Gate.yY l.ss b.os[k] res, by omega, by go_num, ?_, by rw [HSt.out, HU.out, HQ.out.1], hB3⟩, zm hlt⟩
        have hw : IntKind.i64.wrap (s + Gate.yY l.ss b.os[k] res) = s + Gate.yY l.ss b.os[k] res := by
          rw [IntKind.wrap_i64]
          omega
        rw [hw]
      · have hu' : Gate.under l.ts 4 b.os[k].tm team = false := by simpa using hu
        have HU : Hid (Gate.zaL l team res b.os[k] = 0) := by unfold Hid Gate.zaL; rw [if_neg hu]
        rw [hu']
        clear hu hu'
        go_wp2_with fail
        exact ⟨⟨k + 1, s, by omega, by go_num, rfl, by rw [HSt.out, HU.out, HQ.out.1]; omega, HB2.out⟩, zm hlt⟩
    · have e : k = b.os.length := by omega
      subst e
      have HE : Hid (Gate.used l b.os team res = s) := by unfold Hid Gate.used; rw [HQ.out.1]
      clear hlt hk
      go_wp2_with fail
      go_ret
      exact ⟨zk HE.out.symm, HB0.out.trans (HQ.out.2.mono HB0.out.size)⟩
end Go.Proofs.YtkfigdbbncjojaaGreat
