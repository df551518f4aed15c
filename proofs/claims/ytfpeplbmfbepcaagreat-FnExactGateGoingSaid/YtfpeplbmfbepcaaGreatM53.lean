import Derived.Test.YtfpeplbmfbepcaaGreatM48
import Derived.Test.YtfpeplbmfbepcaaGreatM52
import Derived.Test.YtfpeplbmfbepcaaGreatM45
import Derived.Test.YtfpeplbmfbepcaaGreatM51
import Derived.Test.YtfpeplbmfbepcaaGreatM20
import Derived.Test.YtfpeplbmfbepcaaGreatM44
import Derived.Test.YtfpeplbmfbepcaaGreatM50
import Derived.Test.YtfpeplbmfbepcaaGreatM43
import Derived.Test.YtfpeplbmfbepcaaGreatM01
import Derived.Test.YtfpeplbmfbepcaaGreatM03
namespace Go.Proofs.YtfpeplbmfbepcaaGreat
open Go.RowKit
theorem za0 (l : Lw) (b : Bk) : Gate.jI l b = (Gate.zbN l && ((Gate.within b.now 0 1000000 && (Gate.within b.tick 0 1000000 && Gate.within b.given 0 b.now)) && (Gate.zK l b && (Gate.yB b && Gate.jc l b)))) := rfl
theorem zee (n lo hi : Int) (w : World) : Calls Tryz.prog 59 #[.int .i64 n, .int .i64 lo, .int .i64 hi] w fun e w' => e = .returned (.bool (Gate.within n lo hi)) /\ w' = w := jJ n lo hi w
theorem zow {n lo hi : Int} (h : Gate.within n lo hi = true) : lo <= n /\ n <= hi := by unfold Gate.within at h; simpa using h
set_option maxRecDepth 20000 in
set_option maxHeartbeats 4000000 in
theorem zi2 (l : Lw) (la lb lc : Option Addr) (lca lcb lcc : Nat) (b : Bk) (a0 a1 a2 a3 : Option Addr) (c0 c1 c2 c3 : Nat) (w : World) (hl : qB w l la lb lc) (hb : y9 w b a0 a1 a2 a3) (hh : zbu w a0 b.os) (hbf : b.Few) (hz : yZ b.os <= 1048576) :
    Calls Tryz.prog 24 #[.agg (l.cells la lb lc lca lcb lcc), .agg (b.cells a0 a1 a2 a3 c0 c1 c2 c3)] w fun e w' => e = .returned (.bool (Gate.jI l b)) /\ Below w.heap.size w w' := by
  have HK := hid hb
  have HL := hid hl
  have HH := hid hh
  have HF : Hid (b.Few /\ yZ b.os <= 1048576) := ⟨hbf, hz⟩
  clear hb hl hh hbf hz
  unfold Lw.cells Bk.cells
  go_enter Tryz.func24, Tryz.ntmps24
  go_wp2_with fail
  obtain ⟨hL0, hX0⟩ := yP w (lC l la lb lc lca lcb lcc) (bC b a0 a1 a2 a3 c0 c1 c2 c3) 41 48
  have HBi : Hid (Below w.heap.size w ((w.alloc (.cells (lC l la lb lc lca lcb lcc) 41)).alloc (.cells (bC b a0 a1 a2 a3 c0 c1 c2 c3) 48))) := zn w _ _
  obtain ⟨W0, hW0⟩ : ∃ W0, W0 = (w.alloc (.cells (lC l la lb lc lca lcb lcc) 41)).alloc (.cells (bC b a0 a1 a2 a3 c0 c1 c2 c3) 48) := ⟨_, rfl⟩
  have hz0 : w.heap.size + 1 < W0.heap.size := by rw [hW0]; simp
  rw [<- hW0] at HBi hX0 hL0 ⊢
  clear hW0
  refine (zjv l la lb lc lca lcb lcc _ (HL.out.mono HBi.out)).mono ?_
  rintro e w1 ⟨rfl, hb0⟩
  have hX1 := za hX0 hz0 hb0
  have hL1 := za hL0 (Nat.lt_of_succ_lt hz0) hb0
  have hz1 := Nat.lt_of_lt_of_le hz0 hb0.size
  have HBi := hid (HBi.out.trans (hb0.mono HBi.out.size))
  clear hb0 hX0 hL0 hz0
  have hy1 := Nat.lt_of_succ_lt hz1
  by_cases t : Gate.zbN l = true
  rotate_left
  · have HN : Hid (Gate.jI l b = false) := by rw [Hid, za0, Bool.eq_false_iff.2 t]; simp
    rw [Bool.eq_false_iff.2 t]
    clear t
    go_wp2_with fail
    go_ret
    exact ⟨ze HN.out.symm, HBi.out⟩
  have HT0 := hid t
  rw [t]
  clear t
  go_wp2_with fail
  have HM : Hid (Gate.yc l.ss l.ms = true) := by have t := HT0.out; unfold Gate.zbN at t; simp only [Bool.and_eq_true] at t; exact t.1
  refine (zee b.now (0) (1000000) _).mono ?_
  rintro e w2 ⟨rfl, rfl⟩
  have hX2 := hX1
  have hL2 := hL1
  have hz2 := hz1
  clear hX1 hL1 hz1
  have hy2 := Nat.lt_of_succ_lt hz2
  have hcv : Gate.within b.now 0 1000000 = Gate.within b.now 0 1000000 := rfl
  clear hcv
  by_cases t : Gate.within b.now 0 1000000 = true
  rotate_left
  · have HN : Hid (Gate.jI l b = false) := by rw [Hid, za0, HT0.out, Bool.eq_false_iff.2 t]; simp
    rw [Bool.eq_false_iff.2 t]
    clear t
    go_wp2_with fail
    go_ret
    exact ⟨ze HN.out.symm, HBi.out⟩
  have HT1 := hid t
  rw [t]
  clear t
  go_wp2_with fail
  refine (zee b.tick (0) (1000000) _).mono ?_
  rintro e w3 ⟨rfl, rfl⟩
  have hX3 := hX2
  have hL3 := hL2
  have hz3 := hz2
  clear hX2 hL2 hz2
  have hy3 := Nat.lt_of_succ_lt hz3
  have hcv : Gate.within b.tick 0 1000000 = Gate.within b.tick 0 1000000 := rfl
  clear hcv
  by_cases t : Gate.within b.tick 0 1000000 = true
  rotate_left
  · have HN : Hid (Gate.jI l b = false) := by rw [Hid, za0, HT0.out, HT1.out, Bool.eq_false_iff.2 t]; simp
    rw [Bool.eq_false_iff.2 t]
    clear t
    go_wp2_with fail
    go_ret
    exact ⟨ze HN.out.symm, HBi.out⟩
  have HT2 := hid t
  rw [t]
  clear t
  go_wp2_with fail
  refine (zee b.given (0) (b.now) _).mono ?_
  rintro e w4 ⟨rfl, rfl⟩
  have hX4 := hX3
  have hL4 := hL3
  have hz4 := hz3
  clear hX3 hL3 hz3
  have hy4 := Nat.lt_of_succ_lt hz4
  have hcv : Gate.within b.given 0 b.now = Gate.within b.given 0 b.now := rfl
  clear hcv
  by_cases t : Gate.within b.given 0 b.now = true
  rotate_left
  · have HN : Hid (Gate.jI l b = false) := by rw [Hid, za0, HT0.out, HT1.out, HT2.out, Bool.eq_false_iff.2 t]; simp
    rw [Bool.eq_false_iff.2 t]
    clear t
    go_wp2_with fail
    go_ret
    exact ⟨ze HN.out.symm, HBi.out⟩
  have HT3 := hid t
  rw [t]
  clear t
  go_wp2_with fail
  refine (zhh l la lb lc lca lcb lcc b a0 a1 a2 a3 c0 c1 c2 c3 _ (HL.out.mono HBi.out) (HK.out.mono HBi.out) (HH.out.mono HBi.out) HM.out HF.out.1.os.2).mono ?_
  rintro e w5 ⟨rfl, hb4⟩
  have hX5 := za hX4 hz4 hb4
  have hL5 := za hL4 (Nat.lt_of_succ_lt hz4) hb4
  have hz5 := Nat.lt_of_lt_of_le hz4 hb4.size
  have HBi := hid (HBi.out.trans (hb4.mono HBi.out.size))
  clear hb4 hX4 hL4 hz4
  have hy5 := Nat.lt_of_succ_lt hz5
  by_cases t : Gate.zK l b = true
  rotate_left
  · have HN : Hid (Gate.jI l b = false) := by rw [Hid, za0, HT0.out, HT1.out, HT2.out, HT3.out, Bool.eq_false_iff.2 t]; simp
    rw [Bool.eq_false_iff.2 t]
    clear t
    go_wp2_with fail
    go_ret
    exact ⟨ze HN.out.symm, HBi.out⟩
  have HT4 := hid t
  rw [t]
  clear t
  go_wp2_with fail
  refine (zi4 b a0 a1 a2 a3 c0 c1 c2 c3 _ (HK.out.mono HBi.out)).mono ?_
  rintro e w6 ⟨rfl, hb5⟩
  have hX6 := za hX5 hz5 hb5
  have hL6 := za hL5 (Nat.lt_of_succ_lt hz5) hb5
  have hz6 := Nat.lt_of_lt_of_le hz5 hb5.size
  have HBi := hid (HBi.out.trans (hb5.mono HBi.out.size))
  clear hb5 hX5 hL5 hz5
  have hy6 := Nat.lt_of_succ_lt hz6
  by_cases t : Gate.yB b = true
  rotate_left
  · have HN : Hid (Gate.jI l b = false) := by rw [Hid, za0, HT0.out, HT1.out, HT2.out, HT3.out, HT4.out, Bool.eq_false_iff.2 t]; simp
    rw [Bool.eq_false_iff.2 t]
    clear t
    go_wp2_with fail
    go_ret
    exact ⟨ze HN.out.symm, HBi.out⟩
  have HT5 := hid t
  rw [t]
  clear t
  go_wp2_with fail
  refine (zlg l la lb lc lca lcb lcc b a0 a1 a2 a3 c0 c1 c2 c3 _ (HL.out.mono HBi.out) (HK.out.mono HBi.out) (zow HT2.out) HF.out.2).mono ?_
  rintro e w7 ⟨rfl, hb6⟩
  have hX7 := za hX6 hz6 hb6
  have hL7 := za hL6 (Nat.lt_of_succ_lt hz6) hb6
  have hz7 := Nat.lt_of_lt_of_le hz6 hb6.size
  have HBi := hid (HBi.out.trans (hb6.mono HBi.out.size))
  clear hb6 hX6 hL6 hz6
  have hy7 := Nat.lt_of_succ_lt hz7
  have HN : Hid (Gate.jc l b = Gate.jI l b) := by rw [Hid, za0, HT0.out, HT1.out, HT2.out, HT3.out, HT4.out, HT5.out]; rfl
  rw [HN.out]
  go_wp2_with fail
  go_ret
  exact ⟨rfl, HBi.out⟩
end Go.Proofs.YtfpeplbmfbepcaaGreat

namespace Go.Proofs.YtfpeplbmfbepcaaGreat
open Go.RowKit
structure zbH (w : World) (a : Option Addr) (s : List Bool) : Prop where
  len : s.length <= maxLen
  cells : s ≠ [] -> ∃ b off, a = some ⟨b, off, none⟩ /\ b < w.heap.size /\ ∀ i (h : i < s.length), w.cell? ⟨b, off + i, none⟩ = some (.bool s[i])
theorem zbH.mono {w w' : World} {a : Option Addr} {s : List Bool} (h : zbH w a s) (hb : Below w.heap.size w w') : zbH w' a s :=
  ⟨h.len, fun hne => by
    obtain ⟨b, off, ha, hbs, hc⟩ := h.cells hne
    exact ⟨b, off, ha, Nat.lt_of_lt_of_le hbs hb.size, fun i hi => (hb.cell (p := ⟨b, off + i, none⟩) hbs).trans (hc i hi)⟩⟩
def bls (s : List Bool) : List Value := s.map Value.bool
theorem zej {w : World} {lo : Nat} {v : Value} {s : List Bool} (h : w.ownsRow lo 4 1 v s.length (bls s)) (hl : s.length <= maxLen) : ∃ a cap, v = .slice a s.length cap /\ zbH w a s := by
  obtain ⟨a, cap, rfl⟩ := yE h
  refine ⟨a, cap, rfl, hl, fun hne => ?_⟩
  obtain ⟨_, ⟨h0, h1⟩ | ⟨g, cp, cur, h0, h1⟩⟩ := id h
  · exact absurd (List.length_eq_zero_iff.1 h1) hne
  · cases h0
    refine ⟨g, 0, rfl, (h.lt g rfl).2, fun i hi => ?_⟩
    rw [Nat.zero_add, h.cellAt i (by omega)]
    simp [bls, hi]
namespace Gate
noncomputable def tied (l : Lw) (o p : Ob) : Bool := names l o p 1 || names l o p 3
noncomputable def ze0 (l : Lw) (os : List Ob) (s : List Bool) (p : Ob) (k : Nat) : Bool := match os[k]? with | some o => !(s.getD k false) && tied l o p | none => false
noncomputable def zaQ (l : Lw) (os : List Ob) (s : List Bool) (p : Ob) (k : Nat) : Bool := (List.range k).any (ze0 l os s p)
noncomputable def stays (l : Lw) (os : List Ob) (s : List Bool) (p : Ob) : Bool := zaQ l os s p os.length
theorem zkI (l : Lw) (os : List Ob) (s : List Bool) (p : Ob) (k : Nat) : zaQ l os s p (k + 1) = (zaQ l os s p k || ze0 l os s p k) := by
  unfold zaQ; rw [List.range_succ, List.any_append]; simp
theorem zkj {l : Lw} {os : List Ob} {s : List Bool} {p : Ob} {k : Nat} (h : k < os.length) (h' : k < s.length) : ze0 l os s p k = (!s[k] && tied l os[k] p) := by
  unfold ze0; rw [List.getElem?_eq_getElem h]; simp [List.getElem?_eq_getElem h']
theorem zm6 {l : Lw} {os : List Ob} {s : List Bool} {p : Ob} {k : Nat} (h : k < os.length) (hs : ze0 l os s p k = true) : stays l os s p = true := by
  unfold stays zaQ
  exact List.any_eq_true.2 ⟨k, List.mem_range.2 h, hs⟩
def endings (os : List Ob) : List Bool := os.map Ob.en
def zcy (s : List Bool) (k : Nat) : List Int := if s.getD k false = true then [(k : Int)] else []
def y7 (s : List Bool) : Nat -> List Int
  | 0 => []
  | k + 1 => y7 s k ++ zcy s k
def places (s : List Bool) : List Int := y7 s s.length
theorem zcB (s : List Bool) : ∀ k, (y7 s k).length <= k
  | 0 => Nat.le_refl _
  | k + 1 => by
    have h := zcB s k
    show (y7 s k ++ zcy s k).length <= _
    have h2 : (zcy s k).length <= 1 := by unfold zcy; split <;> simp
    rw [List.length_append]; omega
theorem zfN {s : List Bool} {k : Nat} (h : k < s.length) (hs : s[k] = true) : y7 s (k + 1) = y7 s k ++ [(k : Int)] := by
  show y7 s k ++ zcy s k = _
  unfold zcy; simp [List.getElem?_eq_getElem h, hs]
theorem zgX {s : List Bool} {k : Nat} (h : k < s.length) (hs : s[k] = false) : y7 s (k + 1) = y7 s k := by
  show y7 s k ++ zcy s k = _
  unfold zcy; simp [List.getElem?_eq_getElem h, hs]
end Gate
set_option maxRecDepth 20000 in
set_option maxHeartbeats 4000000 in
theorem zm5 (l : Lw) (la lb lc : Option Addr) (lca lcb lcc : Nat) (b : Bk) (a0 a1 a2 a3 : Option Addr) (c0 c1 c2 c3 : Nat) (sa : Option Addr) (scap : Nat) (s : List Bool) (i : Nat) (w : World) (hl : qB w l la lb lc) (hb : y9 w b a0 a1 a2 a3) (hs : zbH w sa s) (hsl : s.length = b.os.length) (hi : i < b.os.length) (hw : b.os.length <= 40 /\ ∀ k (h : k < b.os.length), Gate.zo l.ss b.os[k] = true) (hfw : ∀ i (h : i < b.os.length), b.os[i].vs.length <= 1048576) :
    Calls Tryz.prog 63 #[.agg (lC l la lb lc lca lcb lcc), .agg (bC b a0 a1 a2 a3 c0 c1 c2 c3), .slice sa s.length scap, .int .i64 (i : Int)] w fun e w' => e = .returned (.bool (Gate.stays l b.os s b.os[i])) /\ Below w.heap.size w w' := by
  have HK := hid hb
  have HL := hid hl
  have HO := hid hw
  have HW := hid hfw
  have HS : Hid (zbH w sa s /\ s.length = b.os.length) := ⟨hs, hsl⟩
  clear hb hl hw hfw hs hsl
  go_enter Tryz.func63, Tryz.ntmps63
  go_wp2_with fail
  obtain ⟨hL0, hX0⟩ := yP w (lC l la lb lc lca lcb lcc) (bC b a0 a1 a2 a3 c0 c1 c2 c3) 41 48
  have HBi : Hid (Below w.heap.size w ((w.alloc (.cells (lC l la lb lc lca lcb lcc) 41)).alloc (.cells (bC b a0 a1 a2 a3 c0 c1 c2 c3) 48))) := zn w _ _
  obtain ⟨W0, hW0⟩ : ∃ W0, W0 = (w.alloc (.cells (lC l la lb lc lca lcb lcc) 41)).alloc (.cells (bC b a0 a1 a2 a3 c0 c1 c2 c3) 48) := ⟨_, rfl⟩
  have hz0 : w.heap.size + 1 < W0.heap.size := by rw [hW0]; simp
  rw [<- hW0] at HBi hX0 hL0 ⊢
  clear hW0
  have hq0 := Nat.lt_of_succ_lt hz0
  go_loopw [9] (fun iv wr => ∃ k : Nat, k <= b.os.length /\ iv = .int .i64 k /\ Hid (Gate.zaQ l b.os s b.os[i] k = false /\ Below W0.heap.size W0 wr)) (fun iv _ => b.os.length - (intOf iv).toNat)
  case atStart => exact ⟨0, Nat.zero_le _, rfl, by simp [Gate.zaQ], Below.refl _ _⟩
  case round =>
    obtain ⟨k, hk, rfl, HQ⟩ := hrel
    have hkn : k <= 40 := by have := HO.out.1; omega
    have hX1 := za hX0 hz0 HQ.out.2
    have hL1 := za hL0 hq0 HQ.out.2
    have hz1 := Nat.lt_of_lt_of_le hz0 HQ.out.2.size
    have hq1 := Nat.lt_of_lt_of_le hq0 HQ.out.2.size
    have HBr := hid (HBi.out.trans (HQ.out.2.mono HBi.out.size))
    by_cases hlt : k < b.os.length
    · have hls : k < s.length := by rw [HS.out.2]; exact hlt
      obtain ⟨sb, off, rfl, hsb, hc⟩ := HS.out.1.cells (by rintro rfl; simp at hls)
      have hltI : (k : Int) < (b.os.length : Int) := by omega
      have hltS : (k : Int) < (s.length : Int) := by omega
      have hck := (HBr.out.cell (p := ⟨sb, off + k, none⟩) hsb).trans (hc k hls)
      have hsb' := Nat.lt_of_lt_of_le hsb HBr.out.size
      have HSu : Hid (Gate.zaQ l b.os s b.os[i] (k + 1) = (Gate.zaQ l b.os s b.os[i] k || (!s[k] && Gate.tied l b.os[k] b.os[i]))) := by rw [Hid, Gate.zkI, Gate.zkj hlt hls]
      have HFo : Hid ((!s[k] && Gate.tied l b.os[k] b.os[i]) = true -> Gate.stays l b.os s b.os[i] = true) := fun h => Gate.zm6 hlt (by rw [Gate.zkj hlt hls]; exact h)
      clear hc
      cases he : s[k] with
      | true =>
        rw [he] at hck
        have HN : Hid (Gate.zaQ l b.os s b.os[i] (k + 1) = false) := by rw [Hid, HSu.out, HQ.out.1, he]; simp
        go_wp2_with fail
        exact ⟨⟨k + 1, by omega, by go_num, HN.out, HQ.out.2⟩, zi hlt⟩
      | false =>
        rw [he] at hck
        go_wp2_with fail
        refine (zg7 l la lb lc lca lcb lcc b a0 a1 a2 a3 c0 c1 c2 c3 k i 1 wr (HL.out.mono HBr.out) (HK.out.mono HBr.out) hlt hi (HO.out.2 k hlt) (HW.out k hlt)).mono ?_
        rintro e w2 ⟨rfl, hb2⟩
        have hX2 := za hX1 hz1 hb2
        have hL2 := za hL1 hq1 hb2
        have hz2 := Nat.lt_of_lt_of_le hz1 hb2.size
        have hq2 := Nat.lt_of_lt_of_le hq1 hb2.size
        have HB2 := hid (HQ.out.2.trans (hb2.mono HQ.out.2.size))
        have HBw2 := hid (HBi.out.trans (HB2.out.mono HBi.out.size))
        clear hb2 hX1 hL1 hz1 hq1 hck hsb'
        cases h1 : Gate.names l b.os[k] b.os[i] 1 with
        | true =>
          have HF : Hid (Gate.stays l b.os s b.os[i] = true) := HFo.out (by unfold Gate.tied; rw [he, h1]; rfl)
          go_wp2_with fail
          go_ret
          exact ⟨ze HF.out.symm, HBw2.out⟩
        | false =>
          go_wp2_with fail
          refine (zg7 l la lb lc lca lcb lcc b a0 a1 a2 a3 c0 c1 c2 c3 k i 3 w2 (HL.out.mono HBw2.out) (HK.out.mono HBw2.out) hlt hi (HO.out.2 k hlt) (HW.out k hlt)).mono ?_
          rintro e w3 ⟨rfl, hb3⟩
          have HB3 := hid (HB2.out.trans (hb3.mono HB2.out.size))
          have HBw3 := hid (HBi.out.trans (HB3.out.mono HBi.out.size))
          clear hb3
          cases h3 : Gate.names l b.os[k] b.os[i] 3 with
          | true =>
            have HF : Hid (Gate.stays l b.os s b.os[i] = true) := HFo.out (by unfold Gate.tied; rw [he, h3]; simp)
            go_wp2_with fail
            go_ret
            exact ⟨ze HF.out.symm, HBw3.out⟩
          | false =>
            have HN : Hid (Gate.zaQ l b.os s b.os[i] (k + 1) = false) := by rw [Hid, HSu.out, HQ.out.1, he]; unfold Gate.tied; rw [h1, h3]; rfl
            go_wp2_with fail
            exact ⟨⟨k + 1, by omega, by go_num, HN.out, HB3.out⟩, zi hlt⟩
    · have e : k = b.os.length := by omega
      subst e
      have HN := hid HQ.out.1
      clear HQ hlt hk
      go_wp2_with fail
      go_ret
      exact ⟨ze HN.out.symm, HBr.out⟩
end Go.Proofs.YtfpeplbmfbepcaaGreat

namespace Go.Proofs.YtfpeplbmfbepcaaGreat
open Go.RowKit
theorem Tryz.zmC : (Tryz.prog.info? 4).map (fun i => (i.zero, i.size, i.bytes)) = some (some (.bool false), 1, 1) := by kernel_rfl
theorem zhQ {w : World} {lo : Nat} {g n cap : Nat} {s : List Bool} (h : w.ownsRow lo 4 1 (.slice (some ⟨g, 0, none⟩) n cap) n (bls s)) (i : Nat) (_hi : i < n) (v : Bool) : (w.setCell ⟨g, i, none⟩ (.bool v)).ownsRow lo 4 1 (.slice (some ⟨g, 0, none⟩) n cap) n (bls (s.set i v)) := by
  obtain ⟨hl, ⟨h0, _⟩ | ⟨g', cp, cur, h0, h2, h3, h4, h5, h6, h7⟩⟩ := h
  · cases h0
  · cases h0
    refine ⟨by simpa [bls] using hl, .inr ⟨g, cap, cur.setIfInBounds i (.bool v), rfl, h2, zf h3 _, h4, h5, by simpa using h6, ?_⟩⟩
    rw [Array.toList_setIfInBounds, Nat.mul_one, List.take_set]
    rw [Nat.mul_one] at h7
    rw [h7]
    simp [bls]
theorem zfn {w : World} {lo n : Nat} {e : TypeId} {v : Value} {xs : List Value} (h : w.ownsRow lo e 1 v n xs) (hn : 0 < n) : ∃ g, v.ownBlock = some g := by
  obtain ⟨_, ⟨rfl, h0⟩ | ⟨g, cap, cur, rfl, _⟩⟩ := h
  · omega
  · exact ⟨g, rfl⟩
theorem zeb {w : World} {lo n g : Nat} {e : TypeId} {v : Value} {xs : List Value} (h : w.ownsRow lo e 1 v n xs) (hg : v.ownBlock = some g) : ∃ g cap, v = .slice (some ⟨g, 0, none⟩) n cap := by
  obtain ⟨_, ⟨rfl, h0⟩ | ⟨g', cap, cur, rfl, _⟩⟩ := h
  · cases hg
  · exact ⟨g', cap, rfl⟩
namespace Gate
noncomputable def zar (l : Lw) (os : List Ob) (t : List Bool) (i : Nat) : List Bool := match os[i]? with | some o => if (t.getD i false && (decide (0 < o.hs.length) || stays l os t o)) = true then t.set i false else t | none => t
noncomputable def yN (l : Lw) (os : List Ob) (s : List Bool) : Nat -> List Bool
  | 0 => s
  | i + 1 => zar l os (yN l os s i) i
noncomputable def passes (l : Lw) (os : List Ob) (s : List Bool) : Nat -> List Bool
  | 0 => s
  | n + 1 => yN l os (passes l os s n) s.length
noncomputable def greatest (l : Lw) (os : List Ob) (s : List Bool) : List Bool := passes l os s (s.length + 1)
theorem zjL (l : Lw) (os : List Ob) (t : List Bool) (i : Nat) : (zar l os t i).length = t.length := by
  unfold zar; split
  · split <;> simp
  · rfl
theorem zcM (l : Lw) (os : List Ob) (s : List Bool) : ∀ i, (yN l os s i).length = s.length
  | 0 => rfl
  | i + 1 => (zjL _ _ _ _).trans (zcM l os s i)
theorem zaM (l : Lw) (os : List Ob) (s : List Bool) : ∀ n, (passes l os s n).length = s.length
  | 0 => rfl
  | n + 1 => (zcM _ _ _ _).trans (zaM l os s n)
theorem zgC {l : Lw} {os : List Ob} {t : List Bool} {i : Nat} (h : i < os.length) (h' : i < t.length) : zar l os t i = if (t[i] && (decide (0 < os[i].hs.length) || stays l os t os[i])) = true then t.set i false else t := by
  unfold zar; rw [List.getElem?_eq_getElem h]; simp [List.getElem?_eq_getElem h']
end Gate
set_option maxRecDepth 20000 in
set_option maxHeartbeats 4000000 in
theorem zkM (b : Bk) (a0 a1 a2 a3 : Option Addr) (c0 c1 c2 c3 : Nat) (w : World) (hb : y9 w b a0 a1 a2 a3) (hl : b.os.length <= 1000) :
    Calls Tryz.prog 27 #[.agg (bC b a0 a1 a2 a3 c0 c1 c2 c3)] w fun e w' => ∃ g cap, e = .returned (.slice (some ⟨g, 0, none⟩) b.os.length cap) /\ w'.ownsRow w.heap.size 4 1 (.slice (some ⟨g, 0, none⟩) b.os.length cap) b.os.length (bls (Gate.endings b.os)) /\ Below w.heap.size w w' := by
  obtain ⟨i0, hi, hzi0, hz1', hz2⟩ := info_parts Tryz.zmC
  have HK : Hid (y9 w b a0 a1 a2 a3) := hb
  clear hb
  go_enter Tryz.func27, Tryz.ntmps27
  go_wp2_with fail
  obtain ⟨hX0, hR0⟩ := zP w (.cells (bC b a0 a1 a2 a3 c0 c1 c2 c3) 48) (.cells #[] 4)
  have HB0 : Hid (Below w.heap.size w ((w.alloc (.cells (bC b a0 a1 a2 a3 c0 c1 c2 c3) 48)).alloc (.cells #[] 4))) := zn w _ _
  obtain ⟨W0, hW0⟩ : ∃ W0, W0 = (w.alloc (.cells (bC b a0 a1 a2 a3 c0 c1 c2 c3) 48)).alloc (.cells #[] 4) := ⟨_, rfl⟩
  have hz0 : w.heap.size + 1 < W0.heap.size := by rw [hW0]; simp
  rw [<- hW0] at HB0 hX0 hR0 ⊢
  clear hW0
  have hX := j5 hX0
  have HR0 : Hid (W0.ownsRow (w.heap.size + 1) 4 1 (.slice (some ⟨w.heap.size + 1, 0, none⟩) 0 0) 0 (bls [])) := ⟨rfl, .inr ⟨w.heap.size + 1, 0, #[], rfl, Nat.le_refl _, hR0, Nat.le_refl _, by simp [maxLen], rfl, rfl⟩⟩
  clear hX0 hR0
  go_loopw [3, 4] (fun v0 iv wr => ∃ (k : Nat) (v : Value), v = v0 /\ k <= b.os.length /\ iv = .int .i64 k /\ Hid ((∃ g, v.ownBlock = some g) /\ wr.ownsRow (w.heap.size + 1) 4 1 v (Gate.endings (b.os.take k)).length (bls (Gate.endings (b.os.take k))) /\ Below (w.heap.size + 1) W0 wr)) (fun _ iv _ => b.os.length - (intOf iv).toNat)
  case atStart => exact ⟨0, _, rfl, Nat.zero_le _, rfl, ⟨_, rfl⟩, HR0.out, Below.refl _ _⟩
  case round =>
    obtain ⟨k, v, hv, hk, rfl, HQ⟩ := hrel
    subst hv
    have hkn : k <= 1000 := by omega
    have hX1 : ∀ j, wr.cell? ⟨w.heap.size, j, none⟩ = (bC b a0 a1 a2 a3 c0 c1 c2 c3)[j]? := fun j => (HQ.out.2.2.cell (p := ⟨w.heap.size, j, none⟩) (Nat.lt_succ_self _)).trans (hX j)
    have hz1 : w.heap.size < wr.heap.size := by have := HQ.out.2.2.size; omega
    have HBr := hid (HB0.out.trans (HQ.out.2.2.mono (Nat.le_succ _)))
    by_cases hlt : k < b.os.length
    · obtain ⟨ob, off, v0, v1, q0, q1, rfl, hob, _, _, _, d0, d1, d2, d3, d4, d5, d6⟩ := HK.out.os.load HBr.out k hlt
      have hltI : (k : Int) < (b.os.length : Int) := by omega
      have hob' := Nat.lt_of_lt_of_le hob HBr.out.size
      have HN : Hid (Gate.endings (b.os.take (k + 1)) = Gate.endings (b.os.take k) ++ [b.os[k].en]) := by unfold Hid Gate.endings; rw [List.take_succ_eq_append_getElem hlt, List.map_append]; rfl
      have HLL : Hid ((Gate.endings (b.os.take k)).length <= 1000) := by unfold Hid Gate.endings; rw [List.length_map, List.length_take]; omega
      clear d0 d1 d2 d3 d5 d6
      go_wp2_with (at_builtin; refine wpList_append_own _ rfl (.tmp 13) (.tmp 20) 66 rfl (w.heap.size + 1) 4 i0 (.bool false) 1 1 Tryz.underlying66 hi hzi0 hz1' hz2 rfl (by decide) _ _ _ rfl (HQ.out.2.1.alloc _) ⟨wr.heap.size, 0, none⟩ 1 1 [.bool b.os[k].en] rfl rfl (zbI _ _ _) (by intro u hu; simp at hu; subst hu; rfl) (by have := HLL.out; unfold maxLen; omega) (by have := HLL.out; omega) (by have := HQ.out.2.2.size; simp; omega) ?_; intro v' w4 hown' hgr hnn)
      have hgb : ∀ g', v.ownBlock = some g' -> w.heap.size + 1 <= g' := fun g' hg' => (HQ.out.2.1.lt g' hg').1
      refine ⟨⟨k + 1, _, rfl, by omega, by go_num, ?_, ?_, zam HQ.out.2.2 (by omega) hgr hgb⟩, zi hlt⟩
      · exact zfn hown' (by omega)
      · rw [HN.out, List.length_append]
        have e1 : bls (Gate.endings (b.os.take k) ++ [b.os[k].en]) = bls (Gate.endings (b.os.take k)) ++ [.bool b.os[k].en] := by simp [bls]
        rw [e1]
        exact hown'
    · have e : k = b.os.length := by omega
      subst e
      have HE : Hid (wr.ownsRow (w.heap.size + 1) 4 1 v (Gate.endings b.os).length (bls (Gate.endings b.os)) /\ (∃ g, v.ownBlock = some g) /\ Below w.heap.size w wr) := by have := HQ.out.2.1; rw [List.take_of_length_le (Nat.le_refl _)] at this; exact ⟨this, HQ.out.1, HBr.out⟩
      clear HQ hlt hk
      have hel : (Gate.endings b.os).length = b.os.length := by simp [Gate.endings]
      have HV : Hid (∃ g cap, v = .slice (some ⟨g, 0, none⟩) b.os.length cap) := by
        obtain ⟨g, hg⟩ := HE.out.2.1
        obtain ⟨g', cap, rfl⟩ := zeb HE.out.1 hg
        exact ⟨g', cap, by rw [hel]⟩
      obtain ⟨g, cap, rfl⟩ := HV.out
      have HBl : Hid (wr.ownsRow w.heap.size 4 1 (.slice (some ⟨g, 0, none⟩) b.os.length cap) b.os.length (bls (Gate.endings b.os))) := by have h := jo HE.out.1 (Nat.le_succ w.heap.size); rw [hel] at h; exact h
      have HBe := hid HBr.out
      clear HV HE hel
      go_wp2_with fail
      go_ret
      exact ⟨g, cap, rfl, HBl.out, HBe.out⟩
theorem zlL (b : Bk) (a0 a1 a2 a3 : Option Addr) (c0 c1 c2 c3 : Nat) (w : World) (hb : y9 w b a0 a1 a2 a3) (hl : b.os.length <= 1000) :
    Calls Tryz.prog 27 #[.agg (bC b a0 a1 a2 a3 c0 c1 c2 c3)] w fun e w' => ∃ g cap, e = .returned (.slice (some ⟨g, 0, none⟩) b.os.length cap) /\ zbH w' (some ⟨g, 0, none⟩) (Gate.endings b.os) /\ Below w.heap.size w w' := by
  refine (zkM b a0 a1 a2 a3 c0 c1 c2 c3 w hb hl).mono ?_
  rintro e w' ⟨g, cap, he, ho, hB⟩
  have hel : (Gate.endings b.os).length = b.os.length := by simp [Gate.endings]
  obtain ⟨a, c, e1, hbl⟩ := zej (s := Gate.endings b.os) (by rw [hel]; exact ho) (by rw [hel]; unfold maxLen; omega)
  rw [hel] at e1
  cases e1
  exact ⟨g, cap, he, hbl, hB⟩
theorem zpo {w : World} {sb soff : Nat} {s : List Bool} (h : zbH w (some ⟨sb, soff, none⟩) s) : ∀ j u, (bls s)[j]? = some u -> w.cell? ((⟨sb, soff, none⟩ : Addr).add j) = some u := by
  intro j u hu
  unfold bls at hu
  rw [List.getElem?_map] at hu
  cases hj : s[j]? with
  | none => rw [hj] at hu; cases hu
  | some x =>
    rw [hj] at hu
    obtain ⟨hlt, rfl⟩ := List.getElem?_eq_some_iff.1 hj
    obtain ⟨b', off', e, _, hc⟩ := h.cells (by rintro rfl; simp at hlt)
    cases e
    cases hu
    have e1 : (⟨sb, soff, none⟩ : Addr).add j = ⟨sb, soff + j, none⟩ := by
      unfold Addr.add; split
      · rename_i h; subst h; simp
      · rfl
    rw [e1]
    exact hc j hlt
theorem zp5 {s : List Bool} : ∀ u ∈ bls s, ∃ b, u = Value.bool b := by
  intro u hu
  unfold bls at hu
  obtain ⟨b, _, rfl⟩ := List.mem_map.1 hu
  exact ⟨b, rfl⟩
set_option maxRecDepth 20000 in
set_option maxHeartbeats 8000000 in
theorem ziI (l : Lw) (la lb lc : Option Addr) (lca lcb lcc : Nat) (b : Bk) (a0 a1 a2 a3 : Option Addr) (c0 c1 c2 c3 : Nat) (sb soff scap : Nat) (s : List Bool) (w : World) (hl : qB w l la lb lc) (hb : y9 w b a0 a1 a2 a3) (hs : zbH w (some ⟨sb, soff, none⟩) s) (hsl : s.length = b.os.length) (hw : b.os.length <= 40 /\ ∀ k (h : k < b.os.length), Gate.zo l.ss b.os[k] = true) (hfw : ∀ i (h : i < b.os.length), b.os[i].vs.length <= 1048576) :
    Calls Tryz.prog 26 #[.agg (lC l la lb lc lca lcb lcc), .agg (bC b a0 a1 a2 a3 c0 c1 c2 c3), .slice (some ⟨sb, soff, none⟩) s.length scap] w fun e w' => ∃ a cap, e = .returned (.slice a s.length cap) /\ zbH w' a (Gate.greatest l b.os s) /\ Below w.heap.size w w' /\ ∀ g, a = some g -> w.heap.size <= g.block := by
  obtain ⟨i0, hi, hzi0, hz1', hz2⟩ := info_parts Tryz.zmC
  have HK := hid hb
  have HL := hid hl
  have HO := hid hw
  have HW := hid hfw
  have HSl := hid hsl
  have hsn : s.length <= 40 := by omega
  obtain ⟨hL0, hX0, hR0⟩ := zo7 w (.cells (lC l la lb lc lca lcb lcc) 41) (.cells (bC b a0 a1 a2 a3 c0 c1 c2 c3) 48) (.cells #[] 4)
  have hb3 := below3' w (.cells (lC l la lb lc lca lcb lcc) 41) (.cells (bC b a0 a1 a2 a3 c0 c1 c2 c3) 48) (.cells #[] 4)
  have HNw := hid (hs.mono hb3)
  have HB3 := hid hb3
  have HBk := qJ hL0 hX0
  clear hb hl hw hfw hs hsl hL0 hX0 hb3
  go_enter Tryz.func26, Tryz.ntmps26
  go_wp2_with (at_builtin; refine wpList_append_own _ rfl (.tmp 10) (.tmp 11) 66 rfl (w.heap.size + 1 + 1) 4 i0 (.bool false) 1 1 Tryz.underlying66 hi hzi0 hz1' hz2 rfl (by decide) (.slice (some ⟨w.heap.size + 1 + 1, 0, none⟩) 0 0) 0 [] rfl ⟨rfl, .inr ⟨w.heap.size + 1 + 1, 0, #[], rfl, Nat.le_refl _, hR0, Nat.le_refl _, by simp [maxLen], rfl, rfl⟩⟩ ⟨sb, soff, none⟩ s.length scap (bls s) rfl (by simp [bls]) (zpo HNw.out) (by intro u hu; obtain ⟨x, rfl⟩ := zp5 u hu; rfl) (by unfold maxLen; omega) (by omega) (by simp) ?_; intro v' w1 hown hgr hnn; simp only [Nat.zero_add, List.nil_append] at hown)
  have HB1 : Hid (Below (w.heap.size + 1 + 1) (((w.alloc (.cells (lC l la lb lc lca lcb lcc) 41)).alloc (.cells (bC b a0 a1 a2 a3 c0 c1 c2 c3) 48)).alloc (.cells #[] 4)) w1) := (Below.refl _ _).grown hgr (by simp) (fun k hk => by cases hk; exact Nat.le_refl _)
  have HL1 : Hid (w1.heap[w.heap.size]? = some (.cells (lC l la lb lc lca lcb lcc) 41) /\ w1.heap[w.heap.size + 1]? = some (.cells (bC b a0 a1 a2 a3 c0 c1 c2 c3) 48)) := ⟨(HB1.out.block _ (by omega)).trans HBk.out.1, (HB1.out.block _ (by omega)).trans HBk.out.2⟩
  have HBw : Hid (Below w.heap.size w w1) := HB3.out.trans (HB1.out.mono (by omega))
  obtain ⟨a, cap, rfl⟩ := yE hown
  have HR1 := hid hown
  have hz1 : w.heap.size + 1 + 1 < w1.heap.size := by have := HB1.out.size; simp at this; omega
  clear hown hgr hnn hR0 HB3 HBk HNw HB1
  have HPl := hid (Gate.zaM l b.os s)
  go_wp2_with fail
  go_loopw [8] (fun iv wr => ∃ n : Nat, n <= s.length + 1 /\ iv = .int .i64 n /\ Hid (wr.ownsRow (w.heap.size + 1 + 1) 4 1 (.slice a s.length cap) s.length (bls (Gate.passes l b.os s n)) /\ Below (w.heap.size + 1 + 1) w1 wr)) (fun iv _ => s.length + 1 - (intOf iv).toNat)
  case atStart => exact ⟨0, Nat.zero_le _, rfl, HR1.out, Below.refl _ _⟩
  case round =>
    obtain ⟨n, hn, rfl, HQ⟩ := hrel
    obtain ⟨W2, hW2⟩ : ∃ W2, W2 = wr := ⟨_, rfl⟩
    rw [<- hW2] at HQ ⊢
    clear hW2
    have hnn : n <= 41 := by omega
    have HB2 : Hid (Below w.heap.size w W2) := HBw.out.trans (HQ.out.2.mono (by omega))
    have hzW := Nat.lt_of_lt_of_le hz1 HQ.out.2.size
    by_cases hle : n <= s.length
    · have hleI : (n : Int) <= (s.length : Int) := by omega
      obtain ⟨t, ht⟩ : ∃ t, t = Gate.passes l b.os s n := ⟨_, rfl⟩
      have HT := hid ht
      have htl : t.length = s.length := by rw [ht]; exact HPl.out n
      rw [<- ht] at HQ
      clear ht
      go_wp2_with fail
      go_loopw [9] (fun jv wi => ∃ i : Nat, i <= s.length /\ jv = .int .i64 i /\ Hid (wi.ownsRow (w.heap.size + 1 + 1) 4 1 (.slice a s.length cap) s.length (bls (Gate.yN l b.os t i)) /\ Below (w.heap.size + 1 + 1) w1 wi)) (fun jv _ => s.length - (intOf jv).toNat)
      case atStart => exact ⟨0, Nat.zero_le _, rfl, HQ.out.1, HQ.out.2⟩
      case round =>
        obtain ⟨i, hi', rfl, HR⟩ := hrel
        have hin : i <= 40 := by omega
        have HBi : Hid (Below w.heap.size w wr) := HBw.out.trans (HR.out.2.mono (by omega))
        have hzi := Nat.lt_of_lt_of_le hz1 HR.out.2.size
        have hyi := Nat.lt_of_succ_lt hzi
        have hqi := Nat.lt_of_succ_lt hyi
        have hX := j5 ((HR.out.2.block _ (by omega)).trans HL1.out.2)
        have hLw := j5 ((HR.out.2.block _ (by omega)).trans HL1.out.1)
        have HPt : Hid ((Gate.yN l b.os t i).length = s.length) := (Gate.zcM l b.os t i).trans htl
        by_cases hlt : i < s.length
        · have hlo : i < b.os.length := by have := HSl.out; omega
          have hlp : i < (Gate.yN l b.os t i).length := by have := HPt.out; omega
          have hltI : (i : Int) < (s.length : Int) := by omega
          have hloI : (i : Int) < (b.os.length : Int) := by omega
          obtain ⟨g, hg⟩ := zfn HR.out.1 (by omega)
          obtain ⟨g', cap', e'⟩ := zeb HR.out.1 hg
          cases e'
          clear hg
          have hrow := HR.out.1
          have hcell := hrow.cellAt i (by omega)
          obtain ⟨ai, ci, ei, hbl⟩ := zej (s := Gate.yN l b.os t i) (by rw [HPt.out]; exact HR.out.1) (by rw [HPt.out]; unfold maxLen; omega)
          rw [HPt.out] at ei
          cases ei
          have hgl := hrow.lt g' rfl
          have HD : Hid (Gate.yN l b.os t (i + 1) = if ((Gate.yN l b.os t i)[i] && (decide (0 < b.os[i].hs.length) || Gate.stays l b.os (Gate.yN l b.os t i) b.os[i])) = true then (Gate.yN l b.os t i).set i false else Gate.yN l b.os t i) := Gate.zgC hlo hlp
          have HRw := zoB hrow hbl hgl.1 hgl.2 HR.out.2
          obtain ⟨p, hp⟩ : ∃ p, p = Gate.yN l b.os t i := ⟨_, rfl⟩
          have hgz := hgl.2
          rw [<- hp] at HRw HPt
          have hlp' : i < p.length := by rw [hp]; exact hlp
          have hci : wr.cell? ⟨g', i, none⟩ = some (.bool p[i]) := by
            obtain ⟨_, _, e1, _, hc⟩ := HRw.out.2.1.cells (by rintro rfl; simp at hlp')
            cases e1
            have := hc i hlp'
            rwa [Nat.zero_add] at this
          have HPd : Hid (Gate.yN l b.os t (i + 1) = if (p[i] && (decide (0 < b.os[i].hs.length) || Gate.stays l b.os p b.os[i])) = true then p.set i false else p) := by subst hp; exact HD.out
          clear hp HD hrow hcell hbl hgl HR hlp
          cases hpi : p[i] with
          | false =>
            rw [hpi] at hci
            have HN : Hid (Gate.yN l b.os t (i + 1) = p) := by rw [Hid, HPd.out, hpi]; simp
            go_wp2_with fail
            exact ⟨⟨i + 1, by omega, by go_num, by rw [HN.out]; exact HRw.out.1, HRw.out.2.2.2.2⟩, zi hlt⟩
          | true =>
            rw [hpi] at hci
            obtain ⟨ob, off, v0, v1, q0, q1, rfl, hob, _, _, _, d0, d1, d2, d3, d4, d5, d6⟩ := HK.out.os.load HBi.out i hlo
            have hob' := Nat.lt_of_lt_of_le hob HBi.out.size
            have hfz : ∀ o, wr.frozen? ⟨g', o, none⟩ = false := fun o => by
              obtain ⟨_, ⟨h0, _⟩ | ⟨_, _, _, h0, _, h3, _⟩⟩ := HRw.out.1
              · cases h0
              · cases h0; exact zh h3
            clear d0 d1 d2 d3 d4 d6
            have HSet : Hid (∀ W, Below wr.heap.size wr W -> (W.setCell ⟨g', i, none⟩ (.bool false)).ownsRow (w.heap.size + 1 + 1) 4 1 (.slice (some ⟨g', 0, none⟩) s.length cap) s.length (bls (p.set i false)) /\ Below (w.heap.size + 1 + 1) w1 (W.setCell ⟨g', i, none⟩ (.bool false)) /\ W.cell? ⟨g', i, none⟩ = some (.bool true) /\ ∀ o, W.frozen? ⟨g', o, none⟩ = false) := fun W hW =>
              ⟨zhQ (yA HRw.out.1 hW) i hlt false, (HRw.out.2.2.2.2.trans (hW.mono (by omega))).setCell (p := ⟨g', i, none⟩) HRw.out.2.2.1 _, (hW.cell (p := ⟨g', i, none⟩) HRw.out.2.2.2.1).trans hci, fun o => by
                obtain ⟨_, ⟨h0, _⟩ | ⟨_, _, _, h0, _, h3, _⟩⟩ := yA HRw.out.1 hW
                · cases h0
                · cases h0; exact zh h3⟩
            by_cases hh : 0 < b.os[i].hs.length
            · have hhI : (0 : Int) < (b.os[i].hs.length : Int) := by omega
              have hhd := decide_eq_true hh
              have HN : Hid (Gate.yN l b.os t (i + 1) = p.set i false) := by rw [Hid, HPd.out, hpi, hhd]; simp
              have HE := (HSet.out wr (Below.refl _ _))
              have HE1 := hid HE.1
              have HE2 := hid HE.2.1
              clear HE
              go_wp2_with fail
              exact ⟨⟨i + 1, by omega, by go_num, by rw [HN.out]; exact HE1.out, HE2.out⟩, zi hlt⟩
            · have hhI : ¬ (0 : Int) < (b.os[i].hs.length : Int) := by omega
              have hhd := decide_eq_false hh
              have hst := zm5 l la lb lc lca lcb lcc b (some ⟨ob, off, none⟩) a1 a2 a3 c0 c1 c2 c3 (some ⟨g', 0, none⟩) cap p i wr (HL.out.mono HBi.out) (HK.out.mono HBi.out) HRw.out.2.1 (by rw [HPt.out]; exact HSl.out) hlo HO.out HW.out
              rw [HPt.out] at hst
              go_wp2_with fail
              refine hst.mono ?_
              rintro e w5 ⟨rfl, hb5⟩
              have HE := HSet.out w5 hb5
              have hci5 := HE.2.2.1
              have hfz5 := HE.2.2.2
              have HE1 := hid HE.1
              have HE2 := hid HE.2.1
              have HB5 : Hid (Below wr.heap.size wr w5) := hb5
              have hgz5 := Nat.lt_of_lt_of_le hgz hb5.size
              clear HE hb5 hst hci hfz d5 hob'
              cases hsy : Gate.stays l b.os p b.os[i] with
              | true =>
                have HN : Hid (Gate.yN l b.os t (i + 1) = p.set i false) := by rw [Hid, HPd.out, hpi, hsy]; simp
                go_wp2_with fail
                exact ⟨⟨i + 1, by omega, by go_num, by rw [HN.out]; exact HE1.out, HE2.out⟩, zi hlt⟩
              | false =>
                have HN : Hid (Gate.yN l b.os t (i + 1) = p) := by rw [Hid, HPd.out, hpi, hsy, hhd]; simp
                go_wp2_with fail
                exact ⟨⟨i + 1, by omega, by go_num, by rw [HN.out]; exact yA HRw.out.1 HB5.out, HRw.out.2.2.2.2.trans (HB5.out.mono (by have := HRw.out.2.2.1; have := HRw.out.2.2.2.1; omega))⟩, zi hlt⟩
        · have e : i = s.length := by omega
          subst e
          have HN : Hid (Gate.yN l b.os t s.length = Gate.passes l b.os s (n + 1)) := by rw [Hid, HT.out]; rfl
          rw [HN.out] at HR
          clear hX hLw
          go_wp2_with fail
          exact ⟨⟨n + 1, by omega, by go_num, HR.out.1, HR.out.2⟩, by simp [intOf]; omega⟩
    · have e : n = s.length + 1 := by omega
      subst e
      have hleI : ¬ ((s.length + 1 : Nat) : Int) <= (s.length : Int) := by omega
      obtain ⟨ai, ci, ei, hbl⟩ := zej (s := Gate.greatest l b.os s) (by have h := HPl.out (s.length + 1); unfold Gate.greatest; rw [h]; exact HQ.out.1) (by have h := HPl.out (s.length + 1); unfold Gate.greatest; rw [h]; unfold maxLen; omega)
      have hgl : (Gate.greatest l b.os s).length = s.length := HPl.out (s.length + 1)
      rw [hgl] at ei
      have HE : Hid (zbH W2 a (Gate.greatest l b.os s) /\ ∀ g, a = some g -> w.heap.size <= g.block) := ⟨by cases ei; exact hbl, fun g hg => by subst hg; have := (HQ.out.1.lt g.block rfl).1; omega⟩
      clear HQ hbl ei
      go_wp2_with fail
      go_ret
      exact ⟨a, ⟨cap, rfl⟩, HE.out.1, HB2.out, HE.out.2⟩
theorem zje (l : Lw) (la lb lc : Option Addr) (lca lcb lcc : Nat) (b : Bk) (a0 a1 a2 a3 : Option Addr) (c0 c1 c2 c3 : Nat) (sb soff scap : Nat) (s : List Bool) (w : World) (hl : qB w l la lb lc) (hb : y9 w b a0 a1 a2 a3) (hs : zbH w (some ⟨sb, soff, none⟩) s) (hsl : s.length = b.os.length) (hw : b.os.length <= 40 /\ ∀ k (h : k < b.os.length), Gate.zo l.ss b.os[k] = true) (hfw : ∀ i (h : i < b.os.length), b.os[i].vs.length <= 1048576) :
    Calls Tryz.prog 26 #[.agg (lC l la lb lc lca lcb lcc), .agg (bC b a0 a1 a2 a3 c0 c1 c2 c3), .slice (some ⟨sb, soff, none⟩) s.length scap] w fun e w' => ∃ a cap, e = .returned (.slice a s.length cap) /\ zbH w' a (Gate.greatest l b.os s) /\ Below w.heap.size w w' :=
  (ziI l la lb lc lca lcb lcc b a0 a1 a2 a3 c0 c1 c2 c3 sb soff scap s w hl hb hs hsl hw hfw).mono fun _ _ ⟨a, cap, h1, h2, h3, _⟩ => ⟨a, cap, h1, h2, h3⟩
end Go.Proofs.YtfpeplbmfbepcaaGreat

namespace Go.Proofs.YtfpeplbmfbepcaaGreat
namespace Gate
def zgw (os : List Ob) (s : List Bool) (i : Nat) : Prop := ∃ h : i < os.length, s.getD i false = false \/ 0 < os[i].hs.length
def zj7 (l : Lw) (os : List Ob) (K : Nat -> Prop) : Prop := ∀ i j (hi : i < os.length) (hj : j < os.length), K i -> tied l os[i] os[j] = true -> K j
def zlm (l : Lw) (os : List Ob) (s : List Bool) (i : Nat) : Prop := ∀ K : Nat -> Prop, (∀ j, zgw os s j -> K j) -> zj7 l os K -> K i
theorem zj9 {l : Lw} {os : List Ob} {t : List Bool} {p : Ob} : stays l os t p = true ↔ ∃ k, ∃ h : k < os.length, t.getD k false = false /\ tied l os[k] p = true := by
  unfold stays zaQ
  rw [List.any_eq_true]
  constructor
  · rintro ⟨k, hk, hs⟩
    have hk' := List.mem_range.1 hk
    unfold ze0 at hs
    rw [List.getElem?_eq_getElem hk'] at hs
    simp only [Bool.and_eq_true, Bool.not_eq_true'] at hs
    exact ⟨k, hk', hs.1, hs.2⟩
  · rintro ⟨k, hk, h1, h2⟩
    refine ⟨k, List.mem_range.2 hk, ?_⟩
    unfold ze0
    rw [List.getElem?_eq_getElem hk]
    simp only [h1, h2, Bool.not_false, Bool.and_true]
theorem getD_set_ne {t : List Bool} {i j : Nat} (h : i ≠ j) (v : Bool) : (t.set i v).getD j false = t.getD j false := by
  simp [List.getD_eq_getElem?_getD, List.getElem?_set_ne h]
theorem zco {t : List Bool} {i : Nat} : (t.set i false).getD i false = false := by
  rw [List.getD_eq_getElem?_getD, List.getElem?_set, if_pos rfl]
  split <;> rfl
theorem zmj (l : Lw) (os : List Ob) (t : List Bool) (i j : Nat) (h : t.getD j false = false) : (zar l os t i).getD j false = false := by
  unfold zar
  split
  · split
    · by_cases e : i = j
      · subst e; exact zco
      · rw [getD_set_ne e]; exact h
    · exact h
  · exact h
theorem zha (l : Lw) (os : List Ob) (t : List Bool) (j : Nat) (h : t.getD j false = false) : ∀ i, (yN l os t i).getD j false = false
  | 0 => h
  | i + 1 => zmj l os _ i j (zha l os t j h i)
theorem zgS (l : Lw) (os : List Ob) (s : List Bool) (j : Nat) (h : s.getD j false = false) : ∀ n, (passes l os s n).getD j false = false
  | 0 => h
  | n + 1 => zha l os _ j (zgS l os s j h n) _
def Sound (l : Lw) (os : List Ob) (s t : List Bool) : Prop := ∀ i, i < os.length -> t.getD i false = false -> zlm l os s i
theorem Sound.start (l : Lw) (os : List Ob) (s : List Bool) : Sound l os s s := fun i hi h _ hr _ => hr i ⟨hi, Or.inl h⟩
theorem Sound.drop {l : Lw} {os : List Ob} {s t : List Bool} (h : Sound l os s t) (i : Nat) : Sound l os s (zar l os t i) := by
  intro j hj hd
  by_cases e : i = j
  · subst e
    unfold zar at hd
    rw [List.getElem?_eq_getElem hj] at hd
    simp only at hd
    split at hd
    · rename_i hc
      simp only [Bool.and_eq_true, Bool.or_eq_true, decide_eq_true_eq] at hc
      rcases hc.2 with h0 | h0
      · exact fun _ hr _ => hr i ⟨hj, Or.inr h0⟩
      · obtain ⟨k, hk, h1, h2⟩ := zj9.1 h0
        exact fun K hr hc => hc k i hk hj (h k hk h1 K hr hc) h2
    · exact h i hj hd
  · have : t.getD j false = false := by
      unfold zar at hd
      split at hd
      · split at hd
        · rwa [getD_set_ne e] at hd
        · exact hd
      · exact hd
    exact h j hj this
theorem Sound.yN {l : Lw} {os : List Ob} {s t : List Bool} (h : Sound l os s t) : ∀ i, Sound l os s (yN l os t i)
  | 0 => h
  | i + 1 => (Sound.yN h i).drop i
theorem Sound.passes (l : Lw) (os : List Ob) (s : List Bool) : ∀ n, Sound l os s (passes l os s n)
  | 0 => Sound.start l os s
  | n + 1 => (Sound.passes l os s n).yN _
def inside (t : List Bool) : Nat := t.countP id
theorem znA {t : List Bool} {i : Nat} (h : i < t.length) (ht : t[i] = true) : inside (t.set i false) + 1 = inside t := by
  unfold inside
  rw [List.countP_set h, ht]
  have : 0 < t.countP id := List.countP_pos_iff.2 ⟨t[i], List.getElem_mem h, by rw [ht]; rfl⟩
  simp
  omega
theorem zld (l : Lw) (os : List Ob) (t : List Bool) (i : Nat) : zar l os t i = t \/ inside (zar l os t i) + 1 = inside t := by
  unfold zar
  split
  · split
    · rename_i hc
      simp only [Bool.and_eq_true] at hc
      have hi : i < t.length := by
        rcases Nat.lt_or_ge i t.length with h | h
        · exact h
        · have h1 := hc.1; rw [List.getD_eq_getElem?_getD, List.getElem?_eq_none h] at h1; cases h1
      have ht : t[i] = true := by have h1 := hc.1; rwa [List.getD_eq_getElem?_getD, List.getElem?_eq_getElem hi] at h1
      exact Or.inr (znA hi ht)
    · exact Or.inl rfl
  · exact Or.inl rfl
theorem zbW (l : Lw) (os : List Ob) (t : List Bool) : ∀ i, (∀ j, j <= i -> yN l os t j = t) \/ inside (yN l os t i) < inside t
  | 0 => Or.inl fun j hj => by
    have : j = 0 := by omega
    subst this; rfl
  | i + 1 => by
    have hd := zld l os (yN l os t i) i
    rcases zbW l os t i with h | h
    · rcases hd with e | e
      · refine Or.inl fun j hj => ?_
        rcases Nat.lt_or_ge j (i + 1) with hl | hg
        · exact h j (by omega)
        · have : j = i + 1 := by omega
          subst this
          exact e.trans (h i (Nat.le_refl _))
      · refine Or.inr ?_
        show inside (zar l os (yN l os t i) i) < _
        rw [h i (Nat.le_refl _)] at e ⊢
        omega
    · refine Or.inr ?_
      show inside (zar l os (yN l os t i) i) < _
      rcases hd with e | e
      · rw [e]; exact h
      · omega
theorem zhf (l : Lw) (os : List Ob) (s : List Bool) : ∀ n, (yN l os (passes l os s n) s.length = passes l os s n) \/ inside (passes l os s (n + 1)) + (n + 1) <= inside s
  | 0 => by
    rcases zbW l os s s.length with h | h
    · exact Or.inl (h _ (Nat.le_refl _))
    · exact Or.inr (by show inside (yN l os s s.length) + 1 <= _; omega)
  | n + 1 => by
    rcases zbW l os (passes l os s (n + 1)) s.length with h | h
    · exact Or.inl (h _ (Nat.le_refl _))
    · rcases zhf l os s n with e | e
      · refine Or.inl ?_
        have : passes l os s (n + 1) = passes l os s n := e
        rw [this]; exact e
      · exact Or.inr (by show inside (yN l os (passes l os s (n + 1)) s.length) + (n + 1 + 1) <= _; omega)
theorem zot (s : List Bool) : inside s <= s.length := List.countP_le_length
theorem zeM (l : Lw) (os : List Ob) (s : List Bool) : yN l os (greatest l os s) s.length = greatest l os s := by
  rcases zhf l os s (s.length + 1) with h | h
  · exact h
  · have := zot s; omega
theorem zkC {l : Lw} {os : List Ob} {t : List Bool} {n : Nat} (h : yN l os t n = t) (i : Nat) (hi : i < n) : zar l os t i = t := by
  rcases zbW l os t n with hc | hc
  · have h1 := hc i (by omega)
    have h2 := hc (i + 1) (by omega)
    have h3 : yN l os t (i + 1) = zar l os (yN l os t i) i := rfl
    rw [h1] at h3
    exact h3.symm.trans h2
  · rw [h] at hc; omega
theorem zll (l : Lw) (os : List Ob) (s : List Bool) (hs : s.length = os.length) (i : Nat) (hi : i < os.length) : (greatest l os s).getD i false = false ↔ zlm l os s i := by
  refine ⟨fun h => Sound.passes l os s _ i hi h, fun h => ?_⟩
  refine h (fun j => j < os.length -> (greatest l os s).getD j false = false) (fun j hj _ => ?_) (fun a c ha hc hK ht _ => ?_) hi
  · obtain ⟨hj, h0 | h0⟩ := hj
    · exact zgS l os s j h0 _
    · have hr := zkC (zeM l os s) j (by omega)
      cases hg : (greatest l os s).getD j false with
      | false => rfl
      | true =>
        exfalso
        have hgl : j < (greatest l os s).length := by unfold greatest; rw [zaM]; omega
        have hgj : (greatest l os s)[j] = true := by rwa [List.getD_eq_getElem?_getD, List.getElem?_eq_getElem hgl] at hg
        rw [zgC hj hgl, hgj, decide_eq_true h0] at hr
        simp only [Bool.true_or, Bool.and_self, if_true] at hr
        have h1 := congrArg (fun x => x.getD j false) hr
        simp only [zco, hg] at h1
        cases h1
  · have hr := zkC (zeM l os s) c (by omega)
    cases hg : (greatest l os s).getD c false with
    | false => rfl
    | true =>
      exfalso
      have hgl : c < (greatest l os s).length := by unfold greatest; rw [zaM]; omega
      have hgj : (greatest l os s)[c] = true := by rwa [List.getD_eq_getElem?_getD, List.getElem?_eq_getElem hgl] at hg
      have hst : stays l os (greatest l os s) os[c] = true := zj9.2 ⟨a, ha, hK ha, ht⟩
      rw [zgC hc hgl, hgj, hst] at hr
      simp only [Bool.or_true, Bool.and_self, if_true] at hr
      have h1 := congrArg (fun x => x.getD c false) hr
      simp only [zco, hg] at h1
      cases h1
end Gate
end Go.Proofs.YtfpeplbmfbepcaaGreat

namespace Go.Proofs.YtfpeplbmfbepcaaGreat
namespace Gate
theorem zp7 {ss : List Shp} (hs : zJ ss = true) (v : ByteArray) (k : Nat) (f : Fld) (hf : (shapeOf ss v).fs[k]? = some f) (h4 : f.kd = 4) : 1 <= f.rl /\ f.rl <= 3 := by
  cases hk : zC ss v with
  | false =>
    rw [zc8 ss v hk] at hf
    simp [zaS] at hf
  | true =>
    obtain ⟨i, hi, he⟩ := zcr hk
    rw [he] at hf
    unfold zJ at hs
    rw [Bool.and_eq_true] at hs
    have h1 := zeO hi hs.2
    unfold yD at h1
    rw [Bool.and_eq_true, getD_at ss i _ hi] at h1
    have h2 := h1.2
    unfold yH at h2
    rw [Bool.and_eq_true] at h2
    obtain ⟨hk', rfl⟩ := List.getElem?_eq_some_iff.1 hf
    have h3 := zeO hk' h2.2
    rw [zfB _ _ _ hk'] at h3
    unfold jT yX at h3
    rw [h4] at h3
    simp at h3
    exact h3.2.1.2.1.1.2
theorem zni {ss : List Shp} (hs : zJ ss = true) (v : ByteArray) (vs : List ByteArray) (n : Nat) (x : Lk) (hx : x ∈ yG (shapeOf ss v).fs vs n) : 1 <= x.rl /\ x.rl <= 3 := by
  unfold yG at hx
  rw [List.mem_flatMap] at hx
  obtain ⟨k, _, hx⟩ := hx
  unfold zdW at hx
  split at hx
  · rename_i f u hf hv
    split at hx
    · rename_i h
      have := zp7 hs v k f hf h.1.1
      simp only [List.mem_singleton] at hx
      subst hx
      exact this
    · simp at hx
  · simp at hx
theorem zmM {l : Lw} (hs : zJ l.ss = true) (o p : Ob) : tied l o p = true ↔ ∃ x ∈ yG (shapeOf l.ss o.kd).fs o.vs (shapeOf l.ss o.kd).fs.length, x.rl ≠ 2 /\ jV x.to x.nm p = true := by
  unfold tied names zaz
  rw [Bool.or_eq_true, List.any_eq_true, List.any_eq_true]
  constructor
  · rintro (⟨x, hx, h⟩ | ⟨x, hx, h⟩)
    · rw [Bool.and_eq_true, decide_eq_true_eq] at h
      exact ⟨x, hx, by omega, h.2⟩
    · rw [Bool.and_eq_true, decide_eq_true_eq] at h
      exact ⟨x, hx, by omega, h.2⟩
  · rintro ⟨x, hx, h2, hp⟩
    have hr := zni hs _ _ _ x hx
    rcases (by omega : x.rl = 1 \/ x.rl = 3) with h | h
    · exact Or.inl ⟨x, hx, by rw [h, hp]; rfl⟩
    · exact Or.inr ⟨x, hx, by rw [h, hp]; rfl⟩
end Gate
end Go.Proofs.YtfpeplbmfbepcaaGreat

namespace Go.Proofs.YtfpeplbmfbepcaaGreat
namespace Gate
structure Keeps (l : Lw) (os : List Ob) (A : Nat -> Prop) (S S' : Nat -> Bool) : Prop where
  le : ∀ j, S j = true -> S' j = true
  tie : ∀ j k (hj : j < os.length) (hk : k < os.length), S' j = true -> S j = false -> tied l os[j] os[k] = true -> S' k = true
  least : ∀ R : Nat -> Prop, zj7 l os R -> (∀ j, A j -> R j) -> ∀ j, S' j = true -> S j = true \/ R j
theorem Keeps.refl (l : Lw) (os : List Ob) (A : Nat -> Prop) (S : Nat -> Bool) : Keeps l os A S S :=
  ⟨fun _ h => h, fun _ _ _ _ h h' _ => absurd (h.symm.trans h') (by decide), fun _ _ _ _ h => Or.inl h⟩
theorem Keeps.wider {l : Lw} {os : List Ob} {A B : Nat -> Prop} {S S' : Nat -> Bool} (h : Keeps l os A S S') (hAB : ∀ j, A j -> B j) : Keeps l os B S S' :=
  ⟨h.le, h.tie, fun R hR hB => h.least R hR (fun j hj => hB j (hAB j hj))⟩
theorem Keeps.trans {l : Lw} {os : List Ob} {A : Nat -> Prop} {S S' S'' : Nat -> Bool} (h : Keeps l os A S S') (k : Keeps l os A S' S'') : Keeps l os A S S'' := by
  refine ⟨fun j hj => k.le j (h.le j hj), fun j m hj hm hS'' hS ht => ?_, fun R hR hA j hj => ?_⟩
  · cases hS' : S' j with
    | true => exact k.le m (h.tie j m hj hm hS' hS ht)
    | false => exact k.tie j m hj hm hS'' hS' ht
  · rcases k.least R hR hA j hj with h1 | h1
    · exact h.least R hR hA j h1
    · exact Or.inr h1
def jM (S : Nat -> Bool) (i : Nat) : Nat -> Bool := fun j => S j || decide (j = i)
def zf5 (l : Lw) (os : List Ob) (i : Nat) (j : Nat) : Prop := ∃ (hi : i < os.length) (hj : j < os.length), tied l os[i] os[j] = true
theorem Keeps.close {l : Lw} {os : List Ob} {S S' : Nat -> Bool} {i : Nat} (h : Keeps l os (zf5 l os i) (jM S i) S') (hall : ∀ j, zf5 l os i j -> S' j = true) : Keeps l os (· = i) S S' := by
  refine ⟨fun j hj => h.le j (by simp [jM, hj]), fun j k hj hk hS' hS ht => ?_, fun R hR hA j hj => ?_⟩
  · by_cases e : j = i
    · subst e
      exact hall k ⟨hj, hk, ht⟩
    · exact h.tie j k hj hk hS' (by simp [jM, hS, e]) ht
  · have hi : R i := hA i rfl
    rcases h.least R hR (fun m hm => hR i m hm.1 hm.2.1 hi hm.2.2) j hj with h1 | h1
    · simp only [jM, Bool.or_eq_true, decide_eq_true_eq] at h1
      rcases h1 with h1 | rfl
      · exact Or.inl h1
      · exact Or.inr hi
    · exact Or.inr h1
theorem Keeps.has {l : Lw} {os : List Ob} {A : Nat -> Prop} {S S' : Nat -> Bool} {i : Nat} (h : Keeps l os A (jM S i) S') : S' i = true := h.le i (by simp [jM])
def lacks (S : Nat -> Bool) (n : Nat) : Nat := (List.range n).countP fun j => !S j
theorem zmF {S S' : Nat -> Bool} (h : ∀ j, S j = true -> S' j = true) (n : Nat) : lacks S' n <= lacks S n := by
  unfold lacks
  refine List.countP_mono_left (fun j _ hj => ?_)
  cases hS : S j with
  | false => rfl
  | true => rw [h j hS] at hj; cases hj
theorem znc {S : Nat -> Bool} {i n : Nat} (hi : i < n) (hS : S i = false) : lacks (jM S i) n < lacks S n := by
  induction n with
  | zero => omega
  | succ n ih =>
    unfold lacks at ih ⊢
    rw [List.range_succ, List.countP_append, List.countP_append]
    by_cases e : i = n
    · subst e
      have h1 : (List.range i).countP (fun j => !jM S i j) <= (List.range i).countP (fun j => !S j) := zmF (S := S) (S' := jM S i) (fun j hj => by simp [jM, hj]) i
      have h2 : [i].countP (fun j => !jM S i j) = 0 := by simp [jM]
      have h3 : [i].countP (fun j => !S j) = 1 := by simp [hS]
      omega
    · have h1 := ih (by omega)
      have h2 : [n].countP (fun j => !jM S i j) = [n].countP (fun j => !S j) := by
        have : jM S i n = S n := by unfold jM; rw [decide_eq_false (fun h => e h.symm)]; simp
        simp [this]
      omega
structure zbd (l : Lw) (os : List Ob) (s : List Bool) (k : Nat) (S : Nat -> Bool) : Prop where
  root : ∀ j, j < k -> zgw os s j -> S j = true
  tie : ∀ i j (hi : i < os.length) (hj : j < os.length), S i = true -> tied l os[i] os[j] = true -> S j = true
  least : ∀ j, S j = true -> zlm l os s j
theorem zbd.start (l : Lw) (os : List Ob) (s : List Bool) : zbd l os s 0 (fun _ => false) :=
  ⟨fun _ h => by omega, fun _ _ _ _ h _ => absurd h Bool.false_ne_true, fun _ h => absurd h Bool.false_ne_true⟩
theorem zbd.skip {l : Lw} {os : List Ob} {s : List Bool} {k : Nat} {S : Nat -> Bool} (h : zbd l os s k S) (hn : ¬ zgw os s k) : zbd l os s (k + 1) S := by
  refine ⟨fun j hj hr => ?_, h.tie, h.least⟩
  by_cases e : j = k
  · subst e; exact absurd hr hn
  · exact h.root j (by omega) hr
theorem zbd.next {l : Lw} {os : List Ob} {s : List Bool} {k : Nat} {S S' : Nat -> Bool} (h : zbd l os s k S) (hr : zgw os s k) (hg : Keeps l os (· = k) S S') (hk : S' k = true) : zbd l os s (k + 1) S' := by
  refine ⟨fun j hj hj' => ?_, fun i j hi hj hS ht => ?_, fun j hj K hK hc => ?_⟩
  · by_cases e : j = k
    · subst e; exact hk
    · exact hg.le j (h.root j (by omega) hj')
  · cases hS0 : S i with
    | true => exact hg.le j (h.tie i j hi hj hS0 ht)
    | false => exact hg.tie i j hi hj hS hS0 ht
  · rcases hg.least K hc (fun m hm => by subst hm; exact hK m hr) j hj with h1 | h1
    · exact h.least j h1 K hK hc
    · exact h1
theorem zbd.all {l : Lw} {os : List Ob} {s : List Bool} {S : Nat -> Bool} (h : zbd l os s os.length S) (i : Nat) : S i = true ↔ zlm l os s i := by
  refine ⟨h.least i, fun hk => ?_⟩
  exact hk (fun j => S j = true) (fun j hj => h.root j hj.1 hj) (fun a c ha hc hS ht => h.tie a c ha hc hS ht)
theorem zbd.part {l : Lw} {os : List Ob} {s : List Bool} {S : Nat -> Bool} (h : zbd l os s os.length S) (hs : s.length = os.length) (i : Nat) (hi : i < os.length) : (greatest l os s).getD i false = !S i := by
  have h1 := (zll l os s hs i hi).trans (h.all i).symm
  generalize (greatest l os s).getD i false = g at h1 ⊢
  generalize S i = x at h1 ⊢
  revert h1
  cases g <;> cases x <;> decide
end Gate
end Go.Proofs.YtfpeplbmfbepcaaGreat

namespace Go.Proofs.YtfpeplbmfbepcaaGreat
open Go.RowKit Go.Shelf
def zew (os : List Ob) : Prop := ∀ i j (hi : i < os.length) (hj : j < os.length), os[i].kd = os[j].kd -> os[i].nm = os[j].nm -> i = j
theorem zew.of {l : Lw} {b : Bk} (h : Gate.zK l b = true) : zew b.os := by
  unfold Gate.zK at h
  simp only [Bool.and_eq_true, decide_eq_true_eq] at h
  have hr := (Gate.zh9 _ _).1 h.2.1
  intro i j hi hj e1 e2
  have hz : ∀ i j (hi : i < b.os.length) (hj : j < b.os.length), i < j -> b.os[i].kd = b.os[j].kd -> b.os[i].nm = b.os[j].nm -> False := by
    intro i j hi hj hlt e1 e2
    have h1 := Gate.zb3 (key := Gate.zbc) (fun a b c h h' => Gate.zjj h h') hr j hj i hlt
    have h2 : Gate.zbc b.os[i] b.os[j] = 0 := by unfold Gate.zbc; rw [Gate.zex]; exact ⟨e1, e2⟩
    omega
  rcases Nat.lt_trichotomy i j with h1 | h1 | h1
  · exact (hz i j hi hj h1 e1 e2).elim
  · exact h1
  · exact (hz j i hj hi h1 e1.symm e2.symm).elim
theorem zne {l : Lw} {b : Bk} (h : Gate.zK l b = true) (i : Nat) (hi : i < b.os.length) (x : Lk) (hx : x ∈ yG (Gate.shapeOf l.ss b.os[i].kd).fs b.os[i].vs (Gate.shapeOf l.ss b.os[i].kd).fs.length) : ∃ j, ∃ hj : j < b.os.length, b.os[j].kd = x.to /\ b.os[j].nm = x.nm := by
  unfold Gate.zK at h
  simp only [Bool.and_eq_true, decide_eq_true_eq] at h
  have h1 := List.all_eq_true.1 h.2.2 _ (List.getElem_mem hi)
  unfold Gate.yF at h1
  simp only [Bool.and_eq_true] at h1
  have h2 := h1.2.2.2
  unfold Gate.j3 at h2
  have h3 := List.all_eq_true.1 h2 x hx
  obtain ⟨p, hp, h4⟩ := List.any_eq_true.1 h3
  obtain ⟨j, hj, rfl⟩ := List.mem_iff_getElem.1 hp
  unfold Gate.jV at h4
  simp only [Bool.and_eq_true, decide_eq_true_eq] at h4
  exact ⟨j, hj, h4.1, h4.2⟩
structure zgR (l : Lw) (os : List Ob) : Prop where
  few : os.length <= 40
  one : zew os
  name : ∀ i (hi : i < os.length) (x : Lk), x ∈ yG (Gate.shapeOf l.ss os[i].kd).fs os[i].vs (Gate.shapeOf l.ss os[i].kd).fs.length -> ∃ j, ∃ hj : j < os.length, os[j].kd = x.to /\ os[j].nm = x.nm
  sh : Gate.zJ l.ss = true
  whole : ∀ i (hi : i < os.length), Gate.zo l.ss os[i] = true
theorem zgR.cnt {l : Lw} {os : List Ob} (h : zgR l os) (i : Nat) (hi : i < os.length) : os[i].vs.length = (Gate.shapeOf l.ss os[i].kd).fs.length := by
  have h1 := h.whole i hi
  unfold Gate.zo at h1
  simp only [Bool.and_eq_true, decide_eq_true_eq] at h1
  exact h1.2
def jg (os : List Ob) (r : Nat) (S : Nat -> Bool) (W : World) : Prop := ∃ f, zN W r f /\ ∀ j (h : j < os.length), (f os[j].kd os[j].nm).isSome = S j
theorem jg.new (os : List Ob) (w : World) : jg os w.heap.size (fun _ => false) (w.alloc (.map #[] 0)) := ⟨_, zN.new w, fun _ _ => rfl⟩
theorem jg.mono {os : List Ob} {r : Nat} {S : Nat -> Bool} {w w' : World} (h : jg os r S w) (hb : Below w.heap.size w w') : jg os r S w' := by
  obtain ⟨f, h1, h2⟩ := h
  exact ⟨f, h1.mono hb, h2⟩
theorem jg.lt {os : List Ob} {r : Nat} {S : Nat -> Bool} {w : World} (h : jg os r S w) : r < w.heap.size := by
  obtain ⟨f, h1, _⟩ := h
  exact h1.lt
theorem zpt {os : List Ob} (hu : zew os) {S : Nat -> Bool} {f : ByteArray -> ByteArray -> Option Int} (hf : ∀ j (h : j < os.length), (f os[j].kd os[j].nm).isSome = S j) (i : Nat) (hi : i < os.length) (v : Int) (j : Nat) (hj : j < os.length) :
    (if os[j].kd = os[i].kd /\ os[j].nm = os[i].nm then some v else f os[j].kd os[j].nm).isSome = Gate.jM S i j := by
  unfold Gate.jM
  by_cases e : j = i
  · subst e
    simp
  · rw [if_neg (fun h => e (hu j i hj hi h.1 h.2)), hf j hj, decide_eq_false e, Bool.or_false]
theorem zdl.but {r B : Nat} {w w' : World} (h : zdl r w w') : But r B w w' := ⟨h.os, h.tape, h.output, Nat.le_of_eq h.size.symm, fun k _ hk => h.out k hk⟩
theorem zkR {β : Type} {B r : Nat} {os : List Ob} (hr : r < B) (S : β -> Nat -> Bool) : OwnFrom B (fun s W => jg os r (S s) W) := by
  rintro s W W' row ⟨f, hf, h⟩ hg hrow
  exact ⟨f, zlD (β := Unit) hr (fun _ => f) () W W' row hf hg hrow, h⟩
def zbo (os : List Ob) (S : Nat -> Bool) (xs : List Lk) : Prop := ∀ x ∈ xs, x.rl ≠ 2 -> ∀ j (h : j < os.length), os[j].kd = x.to -> os[j].nm = x.nm -> S j = true
theorem zbo.nil (os : List Ob) (S : Nat -> Bool) : zbo os S [] := fun x hx => by cases hx
theorem zbo.snoc {os : List Ob} {S S' : Nat -> Bool} {xs : List Lk} (h : zbo os S xs) (hS : ∀ j, S j = true -> S' j = true) (x : Lk) (hx : x.rl ≠ 2 -> ∀ j (h : j < os.length), os[j].kd = x.to -> os[j].nm = x.nm -> S' j = true) : zbo os S' (xs ++ [x]) := by
  intro y hy h2 j hj e1 e2
  rcases List.mem_append.1 hy with hy | hy
  · exact hS j (h y hy h2 j hj e1 e2)
  · simp only [List.mem_singleton] at hy
    subst hy
    exact hx h2 j hj e1 e2
theorem zbo.all {l : Lw} (hs : Gate.zJ l.ss = true) {os : List Ob} {S : Nat -> Bool} {i : Nat} (hi : i < os.length) (h : zbo os S (yG (Gate.shapeOf l.ss os[i].kd).fs os[i].vs (Gate.shapeOf l.ss os[i].kd).fs.length)) (j : Nat) (ht : Gate.zf5 l os i j) : S j = true := by
  obtain ⟨_, hj, ht⟩ := ht
  obtain ⟨x, hx, h2, hp⟩ := (Gate.zmM hs _ _).1 ht
  unfold Gate.jV at hp
  simp only [Bool.and_eq_true, decide_eq_true_eq] at hp
  exact h x hx h2 j hj hp.1 hp.2
theorem zmL {l : Lw} (hs : Gate.zJ l.ss = true) {os : List Ob} {i j : Nat} (hi : i < os.length) (hj : j < os.length) (x : Lk) (hx : x ∈ yG (Gate.shapeOf l.ss os[i].kd).fs os[i].vs (Gate.shapeOf l.ss os[i].kd).fs.length) (h2 : x.rl ≠ 2) (e1 : os[j].kd = x.to) (e2 : os[j].nm = x.nm) : Gate.zf5 l os i j :=
  ⟨hi, hj, (Gate.zmM hs _ _).2 ⟨x, hx, h2, by unfold Gate.jV; simp [e1, e2]⟩⟩
end Go.Proofs.YtfpeplbmfbepcaaGreat

namespace Go.Proofs.YtfpeplbmfbepcaaGreat
open Go.RowKit Go.Shelf
attribute [local go_sem] Oper.semAt_some
structure zlJ (w0 : World) (l : Lw) (bk : Bk) (a b c oa : Option Addr) (ca cb cc oc : Nat) (Bl Bb Bp rp : Nat) (fp : ByteArray -> ByteArray -> Option Int) : Prop where
  law : qB w0 l a b c
  obs : zbn w0 oa bk.os
  few : bk.os.length <= 1048576
  bl : w0.heap[Bl]? = some (.cells (lC l a b c ca cb cc) 41)
  bb : w0.cell? ⟨Bb, 3, none⟩ = some (.slice oa bk.os.length oc)
  bbl : Bb < w0.heap.size
  bp : Boxed w0 Bp 139 (.map (some rp))
  mp : zN w0 rp fp
  pl : zbm fp bk.os bk.os.length
  ok : zgR l bk.os
set_option maxRecDepth 100000 in
set_option maxHeartbeats 4000000 in
theorem zpw (w0 : World) (l : Lw) (bk : Bk) (a b c oa : Option Addr) (ca cb cc oc : Nat) (Bl Bb Bp rp : Nat) (fp : ByteArray -> ByteArray -> Option Int) (hH : zlJ w0 l bk a b c oa ca cb cc oc Bl Bb Bp rp fp) (Bk Bf : Nat) (hk : w0.heap.size < Bk) (hf : w0.heap.size < Bf) (m : Nat) :
    ∀ (S : Nat -> Bool) (i : Nat) (hi : i < bk.os.length) (w : World), Gate.lacks S bk.os.length < m -> Below w0.heap.size w0 w -> jg bk.os w0.heap.size S w -> Boxed w Bk 140 (.map (some w0.heap.size)) ->
    Boxed w Bf 176 (.func (.func 116) #[] #[.pointer (some ⟨Bk, 0, none⟩), .pointer (some ⟨Bp, 0, none⟩), .pointer (some ⟨Bl, 0, none⟩), .pointer (some ⟨Bb, 0, none⟩), .pointer (some ⟨Bf, 0, none⟩)]) ->
    Calls Tryz.prog 116 #[yO bk.os[i].kd bk.os[i].nm, .pointer (some ⟨Bk, 0, none⟩), .pointer (some ⟨Bp, 0, none⟩), .pointer (some ⟨Bl, 0, none⟩), .pointer (some ⟨Bb, 0, none⟩), .pointer (some ⟨Bf, 0, none⟩)] w
      fun e w' => e = .returned (.tuple #[]) /\ (∃ S', jg bk.os w0.heap.size S' w' /\ Gate.Keeps l bk.os (· = i) S S' /\ S' i = true) /\ But w0.heap.size w.heap.size w w' := by
  induction m with
  | zero => intro S i hi w hm; omega
  | succ m IH =>
  intro S i hi w hm hB0 hS bK bF
  have HH : Hid (zlJ w0 l bk a b c oa ca cb cc oc Bl Bb Bp rp fp /\ Gate.lacks S bk.os.length < m + 1 /\ Below w0.heap.size w0 w /\ jg bk.os w0.heap.size S w) := ⟨hH, hm, hB0, hS⟩
  clear hm hB0 hS hH
  unfold yO
  refine (callsIn_wide (n := 6)).1 ?_
  refine callsIn_of_wp_marks Tryz.func116 rfl trivial ?_ rfl
  simp only [Tryz.ntmps116, List.size_toArray, List.length_cons, List.length_nil, Nat.reduceAdd, Nat.reduceSub, Array.replicate_succ, Array.replicate_zero, List.push_toArray, List.append_toArray, List.nil_append, List.cons_append]
  have cK := bK.cell
  have hKl := bK.lt
  gi_wp2_with fail
  refine ⟨trivial, ?_⟩
  obtain ⟨f, hpm, hfS⟩ := HH.out.2.2.2
  have hba : Below w.heap.size w (w.alloc (.cells #[.string bk.os[i].kd, .string bk.os[i].nm] 178)) := (Below.refl _ _).alloc (Nat.le_refl _) _
  obtain ⟨_, _, _, _, _, _, _, _, hsm, _⟩ := HH.out.1.obs.load (Below.refl _ _) i hi
  refine (callsIn_wide.2 (zhZ w0.heap.size f bk.os[i].kd bk.os[i].nm _ (hpm.mono hba) hsm.kd hsm.nm)).mono ?_
  rintro e w1 ⟨rfl, hb1⟩
  rw [hfS i hi]
  have cK1 := ((hba.trans (hb1.mono hba.size)).cell (p := ⟨Bk, 0, none⟩) hKl).trans cK
  have hB1 : Below w0.heap.size w0 w1 := HH.out.2.2.1.trans ((hba.trans (hb1.mono hba.size)).mono HH.out.2.2.1.size)
  have HB1 : Hid (Below w.heap.size w w1) := hba.trans (hb1.mono hba.size)
  cases hSi : S i with
  | true =>
    gi_wp2
    exact ⟨.tuple #[], by simp [results, Tryz.results116, go_sem], rfl, ⟨S, HH.out.2.2.2.mono HB1.out, Gate.Keeps.refl _ _ _ _, hSi⟩, But.of_below HB1.out⟩
  | false =>
    have hv : fp bk.os[i].kd bk.os[i].nm = some (i : Int) := by
      have h1 := HH.out.1.pl.has bk.os[i].kd bk.os[i].nm
      rw [List.take_length, List.any_eq_true.2 ⟨bk.os[i], List.getElem_mem hi, by simp [Gate.jV]⟩] at h1
      obtain ⟨v, hv⟩ := Option.isSome_iff_exists.1 h1
      obtain ⟨j, hj, e, e1, e2⟩ := HH.out.1.pl.at_ _ _ _ hv
      have := HH.out.1.ok.one j i hj hi e1 e2
      subst this
      rw [hv, e]
    have bp1 : Boxed w1 Bp 139 (.map (some rp)) := (hB1.block _ HH.out.1.bp.lt).trans HH.out.1.bp
    have cp := bp1.cell
    have hlk := (HH.out.1.mp.mono hB1.drew).look zat Tryz.underlying139 bk.os[i].kd bk.os[i].nm hsm.kd hsm.nm false
    obtain ⟨w2, hup, hf2, hp2⟩ := (hpm.mono HB1.out.drew).upd zat Tryz.underlying140 bk.os[i].kd bk.os[i].nm hsm.kd hsm.nm (i : Int)
    have hmx : Tryz.prog.follows .mixedOrders = true := by kernel_rfl
    unfold yO at hlk hup
    rw [hv] at hlk
    have ck0 : w1.cell? ⟨w.heap.size, 0, none⟩ = some (.string bk.os[i].kd) := (hb1.cell (p := ⟨w.heap.size, 0, none⟩) (by simp)).trans (cell_of_block (World.alloc_heap_new w _))
    have ck1 : w1.cell? ⟨w.heap.size, 1, none⟩ = some (.string bk.os[i].nm) := (hb1.cell (p := ⟨w.heap.size, 1, none⟩) (by simp)).trans (cell_of_block (World.alloc_heap_new w _))
    have ckb : ∀ j, w1.cell? ⟨w.heap.size, j, none⟩ = (#[.string bk.os[i].kd, .string bk.os[i].nm] : Array Value)[j]? := za (zG w _ 178) (by simp) hb1
    simp only [Bool.false_eq_true, if_false, Option.getD_some] at hlk
    have hzl : w.heap.size < w1.heap.size := Nat.lt_of_lt_of_le (by simp) hb1.size
    have hBpl : Bp < w1.heap.size := bp1.lt
    have hBkl : Bk < w1.heap.size := Nat.lt_of_lt_of_le hKl HB1.out.size
    have HP : Hid (zN w2 w0.heap.size (fun p q => if p = bk.os[i].kd /\ q = bk.os[i].nm then some (i : Int) else f p q) /\ zdl w0.heap.size w1.drew w2 /\ Below w0.heap.size w0 w1) := ⟨hf2, hp2, hB1⟩
    clear hf2 hp2 hb1 hba
    gi_wp2
    refine zkW (fun a' w' => ∃ u, a' = { tmps := u, defers := [] } /\ w2 = w' /\ u = #[.agg #[.string bk.os[i].kd, .string bk.os[i].nm], .pointer (some ⟨Bk, 0, none⟩), .pointer (some ⟨Bp, 0, none⟩), .pointer (some ⟨Bl, 0, none⟩), .pointer (some ⟨Bb, 0, none⟩), .pointer (some ⟨Bf, 0, none⟩), .pointer (some ⟨w.heap.size, 0, none⟩), undef, .map (some w0.heap.size), .agg #[.string bk.os[i].kd, .string bk.os[i].nm], .bool false, .map (some w0.heap.size), .agg #[.string bk.os[i].kd, .string bk.os[i].nm], .map (some rp), .agg #[.string bk.os[i].kd, .string bk.os[i].nm], .int .i64 i, undef, undef, undef, undef, undef, undef, undef, undef, undef, undef, undef, undef, undef, undef, undef, undef, undef]) ?_ ?_
    · gi_region_with_o fail
      all_goals exact ⟨rfl, _, rfl, rfl, rfl⟩
    rintro a' w' ⟨u, rfl, rfl, rfl⟩
    have hB2 : Below w0.heap.size w0 w2 := HP.out.2.1.below HP.out.2.2.drew (Nat.le_refl _)
    have hlt2 : ∀ {k}, k < w0.heap.size -> k < w2.heap.size := fun h => Nat.lt_of_lt_of_le h hB2.size
    have bl2 : w2.heap[Bl]? = some (.cells (lC l a b c ca cb cc) 41) := (hB2.block _ (Array.getElem?_eq_some_iff.1 HH.out.1.bl).1).trans HH.out.1.bl
    have cl0 : w2.cell? ⟨Bl, 0, none⟩ = some (.slice a l.ss.length ca) := cell_of_block bl2
    have cl1 : w2.cell? ⟨Bl, 1, none⟩ = some (.slice b l.ms.length cb) := cell_of_block bl2
    have cl2 : w2.cell? ⟨Bl, 2, none⟩ = some (.slice c l.ts.length cc) := cell_of_block bl2
    have cb3 := (hB2.cell (p := ⟨Bb, 3, none⟩) HH.out.1.bbl).trans HH.out.1.bb
    have cp2 := (hB2.cell (p := ⟨Bp, 0, none⟩) HH.out.1.bp.lt).trans HH.out.1.bp.cell
    have hne := Nat.ne_of_gt (Nat.lt_of_lt_of_le hpm.lt (Nat.le_refl _))
    have ckk0 := (World.cell?_of_block (HP.out.2.1.out _ hne)).trans ck0
    have ckk1 := (World.cell?_of_block (HP.out.2.1.out _ hne)).trans ck1
    have hlk2 := (HH.out.1.mp.mono hB2.drew).look zat Tryz.underlying139 bk.os[i].kd bk.os[i].nm hsm.kd hsm.nm false
    unfold yO at hlk2
    rw [hv] at hlk2
    simp only [Bool.false_eq_true, if_false, Option.getD_some] at hlk2
    obtain ⟨ob, off, va, ha, q0, q1, hoa, hob, _, hva, hha, d0, d1, d2, d3, d4, d5, d6⟩ := HH.out.1.obs.load hB2 i hi
    have hob2 := hlt2 hob
    have hBl2 := hlt2 (Array.getElem?_eq_some_iff.1 HH.out.1.bl).1
    have hBb2 := hlt2 HH.out.1.bbl
    have hBp2 := hlt2 HH.out.1.bp.lt
    have hz2 : w.heap.size < w2.heap.size := by rw [HP.out.2.1.size]; exact hzl
    have hiI : (i : Int) < (bk.os.length : Int) := by omega
    have hfw := HH.out.1.few
    rw [hoa] at cb3
    have hLk := zgY l a b c ca cb cc bk.os[i] va ha q0 q1 w2.drew (HH.out.1.law.mono hB2.drew)
    have HB2 := qJ hB2 hva
    have HSm := qJ hsm.kd hsm.nm
    have HSm2 := hid hv
    have ckk : ∀ j, w2.cell? ⟨w.heap.size, j, none⟩ = (#[.string bk.os[i].kd, .string bk.os[i].nm] : Array Value)[j]? := fun j => (World.cell?_of_block (HP.out.2.1.out _ hne)).trans (ckb j)
    clear hlk hup hv ck0 ck1 cK1 cp hB2 hlt2 hva hha bp1 cK hlk2 ckk0 ckk1 cl0 cl1 cl2
    gi_wp2_with fail
    refine zmm (fun a' w' => ∃ u16 u17 u18 u19 u20 u21 u22 u23 u24, a' = { tmps := #[.agg #[.string bk.os[i].kd, .string bk.os[i].nm], .pointer (some ⟨Bk, 0, none⟩), .pointer (some ⟨Bp, 0, none⟩), .pointer (some ⟨Bl, 0, none⟩), .pointer (some ⟨Bb, 0, none⟩), .pointer (some ⟨Bf, 0, none⟩), .pointer (some ⟨w.heap.size, 0, none⟩), undef, .map (some w0.heap.size), .agg #[.string bk.os[i].kd, .string bk.os[i].nm], .bool false, .map (some w0.heap.size), .agg #[.string bk.os[i].kd, .string bk.os[i].nm], .map (some rp), .agg #[.string bk.os[i].kd, .string bk.os[i].nm], .int .i64 i, u16, u17, u18, u19, u20, u21, u22, u23, u24, undef, undef, undef, undef, undef, undef, undef, undef], defers := [] } /\ ∃ Bs Bo fa fcap, u24 = .func (.func 167) #[] #[.pointer (some ⟨Bs, 0, none⟩), .pointer (some ⟨Bo, 0, none⟩)] /\ Bs < w'.heap.size /\ Bo < w'.heap.size /\ zW w' fa (Gate.shapeOf l.ss bk.os[i].kd).fs /\
        (∀ j, w'.cell? ⟨Bs, j, none⟩ = (#[.string (Gate.shapeOf l.ss bk.os[i].kd).kd, .slice fa (Gate.shapeOf l.ss bk.os[i].kd).fs.length fcap] : Array Value)[j]?) /\ (∀ j, w'.cell? ⟨Bo, j, none⟩ = (oC bk.os[i] va ha q0 q1)[j]?) /\ Below w2.heap.size w2 w') ?_ ?_
    · refine wpIn_wide.2 ?_
      have hdr := (Below.refl w2.heap.size w2).drew
      have cL : ∀ j, w2.drew.cell? ⟨Bl, j, none⟩ = (lC l a b c ca cb cc)[j]? := fun j => (hdr.cell (p := ⟨Bl, j, none⟩) hBl2).trans (j5 bl2 j)
      have cK : ∀ j, w2.drew.cell? ⟨w.heap.size, j, none⟩ = (#[.string bk.os[i].kd, .string bk.os[i].nm] : Array Value)[j]? := fun j => (hdr.cell (p := ⟨w.heap.size, j, none⟩) hz2).trans (ckk j)
      have cB := (hdr.cell (p := ⟨Bb, 3, none⟩) hBb2).trans cb3
      have cP := (hdr.cell (p := ⟨Bp, 0, none⟩) hBp2).trans cp2
      have e0 := (hdr.cell (p := ⟨ob, off + i * 7, none⟩) hob2).trans d0
      have e1 := (hdr.cell (p := ⟨ob, off + i * 7 + 1, none⟩) hob2).trans d1
      have e2 := (hdr.cell (p := ⟨ob, off + i * 7 + 2, none⟩) hob2).trans d2
      have e3 := (hdr.cell (p := ⟨ob, off + i * 7 + 3, none⟩) hob2).trans d3
      have e4 := (hdr.cell (p := ⟨ob, off + i * 7 + 4, none⟩) hob2).trans d4
      have e5 := (hdr.cell (p := ⟨ob, off + i * 7 + 5, none⟩) hob2).trans d5
      have e6 := (hdr.cell (p := ⟨ob, off + i * 7 + 6, none⟩) hob2).trans d6
      have hHM : ∀ W, Below w2.drew.heap.size w2.drew W -> ((∀ j, W.cell? ⟨Bl, j, none⟩ = (lC l a b c ca cb cc)[j]?) /\ W.cell? ⟨Bb, 3, none⟩ = some (.slice (some ⟨ob, off, none⟩) bk.os.length oc) /\ W.cell? ⟨Bp, 0, none⟩ = some (.map (some rp)) /\ (∀ j, W.cell? ⟨w.heap.size, j, none⟩ = (#[.string bk.os[i].kd, .string bk.os[i].nm] : Array Value)[j]?) /\ W.cell? ⟨ob, off + i * 7, none⟩ = some (.string bk.os[i].kd) /\ W.cell? ⟨ob, off + i * 7 + 1, none⟩ = some (.string bk.os[i].nm) /\ W.cell? ⟨ob, off + i * 7 + 2, none⟩ = some (.string bk.os[i].tm) /\ W.cell? ⟨ob, off + i * 7 + 3, none⟩ = some (.slice va bk.os[i].vs.length q0) /\ W.cell? ⟨ob, off + i * 7 + 4, none⟩ = some (.bool bk.os[i].en) /\ W.cell? ⟨ob, off + i * 7 + 5, none⟩ = some (.slice ha bk.os[i].hs.length q1) /\ W.cell? ⟨ob, off + i * 7 + 6, none⟩ = some (.int .i64 bk.os[i].vr) /\ (Instr.lookup 139 (.map (some rp)) (.agg #[.string bk.os[i].kd, .string bk.os[i].nm]) false).run Tryz.prog W = .ok (.int .i64 i) W) := fun W hW => ⟨za cL hBl2 hW, (hW.cell (p := ⟨Bb, 3, none⟩) hBb2).trans cB, (hW.cell (p := ⟨Bp, 0, none⟩) hBp2).trans cP, za cK hz2 hW, (hW.cell (p := ⟨ob, off + i * 7, none⟩) hob2).trans e0, (hW.cell (p := ⟨ob, off + i * 7 + 1, none⟩) hob2).trans e1, (hW.cell (p := ⟨ob, off + i * 7 + 2, none⟩) hob2).trans e2, (hW.cell (p := ⟨ob, off + i * 7 + 3, none⟩) hob2).trans e3, (hW.cell (p := ⟨ob, off + i * 7 + 4, none⟩) hob2).trans e4, (hW.cell (p := ⟨ob, off + i * 7 + 5, none⟩) hob2).trans e5, (hW.cell (p := ⟨ob, off + i * 7 + 6, none⟩) hob2).trans e6, by
        have h := (HH.out.1.mp.mono (HB2.out.1.drew.trans (hW.mono HB2.out.1.size))).look zat Tryz.underlying139 bk.os[i].kd bk.os[i].nm HSm.out.1 HSm.out.2 false
        unfold yO at h
        rw [HSm2.out] at h
        simpa only [Bool.false_eq_true, if_false, Option.getD_some] using h⟩
      have hHeldNow := hHM _ (Below.refl _ _)
      have HHM := hid hHM
      clear hHM cL cK cB cP e0 e1 e2 e3 e4 e5 e6 d0 d1 d2 d3 d4 d5 d6
      go_region_held3 (fun w' => (∀ j, w'.cell? ⟨Bl, j, none⟩ = (lC l a b c ca cb cc)[j]?) /\ w'.cell? ⟨Bb, 3, none⟩ = some (.slice (some ⟨ob, off, none⟩) bk.os.length oc) /\ w'.cell? ⟨Bp, 0, none⟩ = some (.map (some rp)) /\ (∀ j, w'.cell? ⟨w.heap.size, j, none⟩ = (#[.string bk.os[i].kd, .string bk.os[i].nm] : Array Value)[j]?) /\ w'.cell? ⟨ob, off + i * 7, none⟩ = some (.string bk.os[i].kd) /\ w'.cell? ⟨ob, off + i * 7 + 1, none⟩ = some (.string bk.os[i].nm) /\ w'.cell? ⟨ob, off + i * 7 + 2, none⟩ = some (.string bk.os[i].tm) /\ w'.cell? ⟨ob, off + i * 7 + 3, none⟩ = some (.slice va bk.os[i].vs.length q0) /\ w'.cell? ⟨ob, off + i * 7 + 4, none⟩ = some (.bool bk.os[i].en) /\ w'.cell? ⟨ob, off + i * 7 + 5, none⟩ = some (.slice ha bk.os[i].hs.length q1) /\ w'.cell? ⟨ob, off + i * 7 + 6, none⟩ = some (.int .i64 bk.os[i].vr) /\ (Instr.lookup 139 (.map (some rp)) (.agg #[.string bk.os[i].kd, .string bk.os[i].nm]) false).run Tryz.prog w' = .ok (.int .i64 i) w') (exact hHeldNow) (first
        | (go_at_call 118; refine hLk.mono ?_; rintro e W0 ⟨Bs, Bo, fa, fcap, rfl, hBs, hBo, hfl, hXs, hXo, hb⟩; have hHeldNow := HHM.out W0 hb))
      exact ⟨_, _, _, _, _, _, _, _, _, rfl, Bs, Bo, fa, fcap, rfl, hBs, hBo, hfl, hXs, hXo, hdr.trans hb⟩
    rintro a' W0 ⟨u16, u17, u18, u19, u20, u21, u22, u23, u24, rfl, Bs, Bo, fa, fcap, rfl, hBs, hBo, hfl, hXs, hXo, hb1⟩
    have hr0 := hpm.lt
    have hB20 := hb1
    have hBw0 := HB2.out.1.trans (hB20.mono HB2.out.1.size)
    have bK0 : Boxed W0 Bk 140 (.map (some w0.heap.size)) := (hB20.block _ (by rw [HP.out.2.1.size]; exact hBkl)).trans ((HP.out.2.1.out _ (Nat.ne_of_gt hk)).trans ((HB1.out.drew.block _ hKl).trans bK))
    have bF0 : Boxed W0 Bf 176 (.func (.func 116) #[] #[.pointer (some ⟨Bk, 0, none⟩), .pointer (some ⟨Bp, 0, none⟩), .pointer (some ⟨Bl, 0, none⟩), .pointer (some ⟨Bb, 0, none⟩), .pointer (some ⟨Bf, 0, none⟩)]) := (hB20.block _ (by rw [HP.out.2.1.size]; exact Nat.lt_of_lt_of_le bF.lt HB1.out.size)).trans ((HP.out.2.1.out _ (Nat.ne_of_gt hf)).trans ((HB1.out.drew.block _ bF.lt).trans bF))
    have hone := HH.out.1.ok.one
    have HM0 := hid (jg.mono ⟨_, HP.out.1, fun j hj => zpt hone hfS i hi (i : Int) j hj⟩ hB20)
    have HBut0 : Hid (But w0.heap.size w.heap.size w W0) := (But.of_below HB1.out.drew).trans ((HP.out.2.1.but (B := w.heap.size)).trans (But.of_below (hB20.mono (by rw [HP.out.2.1.size]; exact HB1.out.size))))
    have HLk : Hid (Gate.lacks (Gate.jM S i) bk.os.length < m) := by have h1 := Gate.znc hi hSi; have h2 := HH.out.2.1; show _ < _; omega
    have HST := hid (HB2.out.2.mono hB20)
    have hrW := Nat.lt_of_lt_of_le hr0 HBut0.out.size
    have HW := hid hBw0
    have hKW := bK0.lt
    have hFW := bF0.lt
    clear hb1 hB20 hBw0 d0 d1 d2 d3 d4 d5 d6 cb3 cp2 ckk ckb bl2 hLk
    gi_wp2_with fail
    refine wpIn_rangeFunc_ownH rfl (by omega) (gf := 167) (lb := #[.pointer (some ⟨Bs, 0, none⟩), .pointer (some ⟨Bo, 0, none⟩)]) rfl trivial (enters_of Tryz.func167 (by kernel_rfl) rfl)
      (zlF 5 (by omega) Bs Bo (Gate.shapeOf l.ss bk.os[i].kd).kd (Gate.shapeOf l.ss bk.os[i].kd).fs fa fcap bk.os[i] va ha q0 q1 W0 hBs hBo hXs hXo hfl HST.out (HH.out.1.ok.cnt i hi)) CB.trans (fun W l o o' hl h hc hw => CB.of_below (belowK_b (Nat.le_refl _) W l o o' hl h hc hw)) (Below.refl _ _) (fun _ => rfl)
      (fun pre W => ∃ S1, jg bk.os w0.heap.size S1 W /\ (Gate.Keeps l bk.os (Gate.zf5 l bk.os i) (Gate.jM S i) S1 /\ zbo bk.os S1 (pre.map (·.1))) /\ But w0.heap.size W0.heap.size W0 W)
      (fun _ _ _ => False)
      (znw (fun S1 => OwnFrom.and (zkR hrW (fun _ => S1)) (OwnFrom.and (ownFrom_pure _ _) (zlU (Nat.le_refl _) (Nat.le_refl _)))))
      (fun _ => fun _ _ _ _ h _ _ => h)
      ⟨_, HM0.out, ⟨Gate.Keeps.refl _ _ _ _, zbo.nil _ _⟩, But.refl _ _ _⟩
      (fun x a' W => ∃ Bx, W.heap[Bx]? = some (.cells #[.int .i64 x.1.pl, .int .i64 x.1.rl, .string x.1.to, .string x.1.nm] 184) /\ a' = { tmps := #[.agg #[.string bk.os[i].kd, .string bk.os[i].nm], .pointer (some ⟨Bk, 0, none⟩), .pointer (some ⟨Bp, 0, none⟩), .pointer (some ⟨Bl, 0, none⟩), .pointer (some ⟨Bb, 0, none⟩), .pointer (some ⟨Bf, 0, none⟩), .pointer (some ⟨w.heap.size, 0, none⟩), .pointer (some ⟨Bx, 0, none⟩), .map (some w0.heap.size), .agg #[.string bk.os[i].kd, .string bk.os[i].nm], .bool false, .map (some w0.heap.size), .agg #[.string bk.os[i].kd, .string bk.os[i].nm], .map (some rp), .agg #[.string bk.os[i].kd, .string bk.os[i].nm], .int .i64 i, u16, u17, u18, u19, u20, u21, u22, u23, .func (.func 167) #[] #[.pointer (some ⟨Bs, 0, none⟩), .pointer (some ⟨Bo, 0, none⟩)], .agg #[.int .i64 x.1.pl, .int .i64 x.1.rl, .string x.1.to, .string x.1.nm], undef, undef, undef, undef, undef, undef, undef], defers := [] })
      (fun x a' _ X Y row hs hg hr => by
        obtain ⟨Bx, e1, e2⟩ := hs
        refine ⟨Bx, (hg.block Bx (Array.getElem?_eq_some_iff.1 e1).1 (fun e => ?_)).trans e1, e2⟩
        obtain ⟨_, ob, h1, h2⟩ := hr Bx e.symm
        rw [e1] at h1
        cases h1
        cases h2)
      ?assign ?body ?done ?stop
    case assign =>
      rintro l' pre x W K ⟨S1, hp, hq, hB1⟩ hK
      unfold Lk.enc
      gi_wp2
      exact hK _ _ ((KeepsOthers.alloc _ _).from _) (CB.of_below ((Below.refl _ W).alloc hB1.size _)) ⟨S1, hp.mono ((Below.refl _ W).alloc (Nat.le_refl _) _), hq, hB1.trans (But.of_below ((Below.refl _ W).alloc hB1.size _))⟩ ⟨W.heap.size, World.alloc_heap_new W _, rfl⟩
    case body =>
      rintro l' pre x a' W hl ⟨rr, hr⟩ ⟨S1, hp, hq, hB1⟩ ⟨Bx, hBx, rfl⟩ hlt
      have cX := j5 hBx
      have bF1 := hB1.boxed bF0 hFW (Nat.ne_of_gt hf)
      have bK1 := hB1.boxed bK0 hKW (Nat.ne_of_gt hk)
      have cF := bF1.cell
      have HI1 := zdB hp hq hB1
      clear hp hq hB1
      by_cases h2 : x.1.rl = 2
      · have hd2 : (x.1.rl != 2) = false := by simp [h2]
        have H2 := hid h2
        clear h2
        gi_wp2
        exact ⟨KeepsFrom.refl _ _, CB.of_below (Below.refl _ _), S1, HI1.out.1, ⟨HI1.out.2.1.1, by rw [List.map_append]; exact HI1.out.2.1.2.snoc (fun _ h => h) x.1 (fun h => absurd H2.out h)⟩, HI1.out.2.2⟩
      · have hd2 : (x.1.rl != 2) = true := by simp [h2]
        obtain ⟨j, hj, e1, e2⟩ := HH.out.1.ok.name i hi x.1 x.2
        have hLS := Nat.lt_of_le_of_lt (Gate.zmF HI1.out.2.1.1.le _) HLk.out
        have hcall := IH S1 j hj W hLS (HW.out.trans (HI1.out.2.2.below hrW)) HI1.out.1 bK1 bF1
        unfold yO at hcall
        rw [e1, e2] at hcall
        have H2 := zdB h2 e1 e2
        clear h2 e1 e2 bK1 bF1
        gi_wp2_with fail
        refine ⟨trivial, ?_⟩
        refine (callsIn_wide.2 hcall).mono ?_
        rintro e W1 ⟨rfl, ⟨S2, hk2, hkp, hS2⟩, hbut⟩
        have HN : Hid (KeepsFrom W0.heap.size W W1 /\ CB W0.heap.size W W1 /\ ∃ S2, jg bk.os w0.heap.size S2 W1 /\ (Gate.Keeps l bk.os (Gate.zf5 l bk.os i) (Gate.jM S i) S2 /\ zbo bk.os S2 ((pre ++ [x]).map (·.1))) /\ But w0.heap.size W0.heap.size W0 W1) := by
          obtain ⟨f1, hf1, _⟩ := HI1.out.1
          obtain ⟨es, ck, hes, _⟩ := hf1.ex
          have hbW := hbut.mono HI1.out.2.2.size
          refine ⟨hbut.keeps hrW, hbW.cb hes, S2, hk2, ⟨HI1.out.2.1.1.trans (hkp.wider (fun j' e => by subst e; exact zmL HH.out.1.ok.sh hi hj x.1 x.2 H2.out.1 H2.out.2.1 H2.out.2.2)), ?_⟩, HI1.out.2.2.trans hbW⟩
          rw [List.map_append]
          refine HI1.out.2.1.2.snoc hkp.le x.1 (fun _ j' hj' e1' e2' => ?_)
          have := hone j' j hj' hj (e1'.trans H2.out.2.1.symm) (e2'.trans H2.out.2.2.symm)
          subst this
          exact hS2
        clear hk2 hkp hS2 hbut
        gi_wp2
        exact HN.out
    case done =>
      rintro D ys W hD hys ⟨S1, hp, hq, hB1⟩ hK
      have hrD : w0.heap.size ≠ D := by omega
      have HE : Hid ((∃ S', jg bk.os w0.heap.size S' (W.putObj D (.deferred none)) /\ Gate.Keeps l bk.os (· = i) S S' /\ S' i = true) /\ But w0.heap.size w.heap.size w (W.putObj D (.deferred none))) := by
        refine ⟨⟨S1, ?_, Gate.Keeps.close hq.1 (zbo.all HH.out.1.ok.sh hi (by rw [<- hys]; exact hq.2)), hq.1.has⟩, ?_⟩
        · obtain ⟨f1, hf1, h3⟩ := hp
          exact ⟨f1, hf1.keep (World.putObj_heap_other (fun e => hrD e)), h3⟩
        · refine HBut0.out.trans ((hB1.mono HBut0.out.size).trans ⟨rfl, rfl, rfl, by simp, fun k hk _ => World.putObj_heap_other (fun e => ?_)⟩)
          have := HBut0.out.size
          omega
      clear hp hq hB1 hys
      gi_wp2
      refine ⟨by simp, .inl ⟨_, _, rfl, run_takeDeferred hK, ?_⟩⟩
      exact ⟨.tuple #[], by simp [results, Tryz.results116, go_sem], rfl, HE.out⟩
    case stop =>
      rintro D cd pre W hD hpre h hK
      exact h.elim
end Go.Proofs.YtfpeplbmfbepcaaGreat

namespace Go.Proofs.YtfpeplbmfbepcaaGreat.Gate
theorem zaT (l : Lw) (os : List Ob) (s : List Bool) : (greatest l os s).length = s.length := zaM l os s _
noncomputable def zdX (l : Lw) (os : List Ob) : List Int := places (greatest l os (endings os))
noncomputable def zaA (l : Lw) (b : Bk) : List Int := if jI l b = true then zdX l b.os else []
theorem zps (l : Lw) (b : Bk) (h : b.Few) : (zaA l b).length <= 1048576 := by
  unfold zaA
  split
  · have h1 := zcB (greatest l b.os (endings b.os)) (greatest l b.os (endings b.os)).length
    rw [zaT] at h1
    have h2 : (endings b.os).length = b.os.length := by simp [endings]
    have h3 := h.os.1
    unfold zdX places
    rw [zaT]
    omega
  · simp
end Go.Proofs.YtfpeplbmfbepcaaGreat.Gate

namespace Go.Proofs.YtfpeplbmfbepcaaGreat
open Go.RowKit
set_option maxRecDepth 20000 in
set_option maxHeartbeats 4000000 in
theorem zk8 (a : Option Addr) (cap : Nat) (s : List Bool) (w : World) (hs : zbH w a s) (hl : s.length <= 1000) :
    Calls Tryz.prog 25 #[.slice a s.length cap] w fun e w' => ∃ v, e = .returned v /\ w'.ownsRow w.heap.size 3 1 v (Gate.places s).length (ints (Gate.places s)) /\ Below w.heap.size w w' := by
  obtain ⟨i0, hi, hzi0, hz1', hz2⟩ := info_parts Tryz.zfe
  have HS : Hid (zbH w a s) := hs
  clear hs
  go_enter Tryz.func25, Tryz.ntmps25
  go_wp2_with fail
  have HR0 : Hid ((w.alloc (.cells #[] 3)).ownsRow w.heap.size 3 1 (.slice (some ⟨w.heap.size, 0, none⟩) 0 0) 0 (ints [])) := ⟨rfl, .inr ⟨w.heap.size, 0, #[], rfl, Nat.le_refl _, World.alloc_heap_new _ _, Nat.le_refl _, by simp [maxLen], rfl, rfl⟩⟩
  have HB0 : Hid (Below w.heap.size w (w.alloc (.cells #[] 3))) := (Below.refl _ _).alloc (Nat.le_refl _) _
  go_loopw [3, 4] (fun v0 iv wr => ∃ (k : Nat) (v : Value), v = v0 /\ k <= s.length /\ iv = .int .i64 k /\ Hid (wr.ownsRow w.heap.size 3 1 v (Gate.y7 s k).length (ints (Gate.y7 s k)) /\ Below w.heap.size w wr)) (fun _ iv _ => s.length - (intOf iv).toNat)
  case atStart => exact ⟨0, _, rfl, Nat.zero_le _, rfl, HR0.out, HB0.out⟩
  case round =>
    obtain ⟨k, v, hv, hk, rfl, HQ⟩ := hrel
    subst hv
    have hkn : k <= 1000 := by omega
    by_cases hlt : k < s.length
    · obtain ⟨sb, off, rfl, hsb, hc⟩ := HS.out.cells (by rintro rfl; simp at hlt)
      have hltI : (k : Int) < (s.length : Int) := by omega
      have hck := (HQ.out.2.cell (p := ⟨sb, off + k, none⟩) hsb).trans (hc k hlt)
      have hsb' := Nat.lt_of_lt_of_le hsb HQ.out.2.size
      clear hc
      cases he : s[k] with
      | false =>
        rw [he] at hck
        have HN := hid (Gate.zgX hlt he)
        go_wp2_with fail
        exact ⟨⟨k + 1, _, rfl, by omega, by go_num, by rw [HN.out]; exact HQ.out.1, HQ.out.2⟩, zi hlt⟩
      | true =>
        rw [he] at hck
        have HN := hid (Gate.zfN hlt he)
        have HLL : Hid ((Gate.y7 s k).length <= 1000) := by have := Gate.zcB s k; show _ <= _; omega
        go_wp2_with (at_builtin; refine wpList_append_own _ rfl (.tmp 16) (.tmp 18) 35 rfl w.heap.size 3 i0 (.int .i64 0) 1 8 Tryz.underlying35 hi hzi0 hz1' hz2 rfl (by decide) _ _ _ rfl (HQ.out.1.alloc _) ⟨wr.heap.size, 0, none⟩ 1 1 [.int .i64 (k : Int)] rfl rfl (zbI _ _ _) (by intro u hu; simp at hu; subst hu; rfl) (by have := HLL.out; unfold maxLen; omega) (by have := HLL.out; omega) (by have := HQ.out.2.size; simp; omega) ?_; intro v' w4 hown' hgr _)
        have hgb : ∀ g', v.ownBlock = some g' -> w.heap.size <= g' := fun g' hg' => (HQ.out.1.lt g' hg').1
        refine ⟨⟨k + 1, _, rfl, by omega, by go_num, ?_, zam HQ.out.2 HQ.out.2.size hgr hgb⟩, zi hlt⟩
        rw [HN.out, List.length_append]
        have e1 : ints (Gate.y7 s k ++ [(k : Int)]) = ints (Gate.y7 s k) ++ [.int .i64 (k : Int)] := by simp [ints]
        rw [e1]
        exact hown'
    · have e : k = s.length := by omega
      subst e
      have HW := hid HQ.out
      clear HQ hlt hk
      go_wp2_with fail
      go_ret
      exact ⟨v, rfl, HW.out⟩
end Go.Proofs.YtfpeplbmfbepcaaGreat

namespace Go.Proofs.YtfpeplbmfbepcaaGreat
open Go.RowKit
set_option maxRecDepth 20000 in
set_option maxHeartbeats 4000000 in
theorem zjE (l : Lw) (la lb lc : Option Addr) (lca lcb lcc : Nat) (b : Bk) (a0 a1 a2 a3 : Option Addr) (c0 c1 c2 c3 : Nat) (w : World) (hl : qB w l la lb lc) (hb : y9 w b a0 a1 a2 a3) (hh : zbu w a0 b.os) (hbf : b.Few) (hz : yZ b.os <= 1048576) :
    Calls Tryz.prog 6 #[.agg (l.cells la lb lc lca lcb lcc), .agg (b.cells a0 a1 a2 a3 c0 c1 c2 c3)] w fun e w' => ∃ v, e = .returned v /\ w'.ownsRow w.heap.size 3 1 v (Gate.zaA l b).length (ints (Gate.zaA l b)) /\ Below w.heap.size w w' := by
  have HK : Hid (y9 w b a0 a1 a2 a3) := hb
  have HL : Hid (qB w l la lb lc) := hl
  have HF : Hid (zbu w a0 b.os /\ b.Few /\ yZ b.os <= 1048576) := ⟨hh, hbf, hz⟩
  clear hb hl hh hbf hz
  unfold Lw.cells Bk.cells
  go_enter Tryz.func6, Tryz.ntmps6
  go_wp2_with fail
  obtain ⟨hL0, hX0⟩ := yP w #[.slice la l.ss.length lca, .slice lb l.ms.length lcb, .slice lc l.ts.length lcc] #[.int .i64 b.now, .int .i64 b.tick, .int .i64 b.given, .slice a0 b.os.length c0, .slice a1 b.gs.length c1, .slice a2 b.ls.length c2, .slice a3 b.ps.length c3] 41 48
  have HBi : Hid (Below w.heap.size w ((w.alloc (.cells #[.slice la l.ss.length lca, .slice lb l.ms.length lcb, .slice lc l.ts.length lcc] 41)).alloc (.cells #[.int .i64 b.now, .int .i64 b.tick, .int .i64 b.given, .slice a0 b.os.length c0, .slice a1 b.gs.length c1, .slice a2 b.ls.length c2, .slice a3 b.ps.length c3] 48))) := zn w _ _
  obtain ⟨W0, hW0⟩ : ∃ W0, W0 = (w.alloc (.cells #[.slice la l.ss.length lca, .slice lb l.ms.length lcb, .slice lc l.ts.length lcc] 41)).alloc (.cells #[.int .i64 b.now, .int .i64 b.tick, .int .i64 b.given, .slice a0 b.os.length c0, .slice a1 b.gs.length c1, .slice a2 b.ls.length c2, .slice a3 b.ps.length c3] 48) := ⟨_, rfl⟩
  have hz0 : w.heap.size + 1 < W0.heap.size := by rw [hW0]; simp
  rw [<- hW0] at HBi hX0 hL0 ⊢
  clear hW0
  refine (zi2 l la lb lc lca lcb lcc b a0 a1 a2 a3 c0 c1 c2 c3 _ (HL.out.mono HBi.out) (HK.out.mono HBi.out) (HF.out.1.mono HBi.out) HF.out.2.1 HF.out.2.2).mono ?_
  rintro e w1 ⟨rfl, hb0⟩
  have hX1 := za hX0 hz0 hb0
  have hL1 := za hL0 (Nat.lt_of_succ_lt hz0) hb0
  have hz1 := Nat.lt_of_lt_of_le hz0 hb0.size
  have hy1 := Nat.lt_of_succ_lt hz1
  have HBi : Hid (Below w.heap.size w w1) := HBi.out.trans (hb0.mono HBi.out.size)
  clear hb0 hX0 hL0 hz0
  by_cases t : Gate.jI l b = true
  rotate_left
  · have HN : Hid (Gate.zaA l b = []) := by unfold Hid Gate.zaA; rw [if_neg t]
    have HR0 : Hid ((w1.alloc (.cells #[] 3)).ownsRow w.heap.size 3 1 (.slice (some ⟨w1.heap.size, 0, none⟩) 0 0) 0 (ints [])) := ⟨rfl, .inr ⟨w1.heap.size, 0, #[], rfl, HBi.out.size, World.alloc_heap_new _ _, Nat.le_refl _, by simp [maxLen], rfl, rfl⟩⟩
    rw [Bool.eq_false_iff.2 t]
    clear t
    go_wp2_with fail
    go_ret
    exact ⟨_, rfl, by rw [HN.out]; exact HR0.out, HBi.out.alloc HBi.out.size _⟩
  have HM : Hid (Gate.zaA l b = Gate.zdX l b.os) := by unfold Hid Gate.zaA; rw [if_pos t]
  have HO : Hid (b.os.length <= 40 /\ ∀ k (h : k < b.os.length), Gate.zo l.ss b.os[k] = true) := Gate.zcK (book_facts t).1 (book_facts t).2
  have HEl : Hid ((Gate.endings b.os).length = b.os.length) := by simp [Hid, Gate.endings]
  rw [t]
  clear t
  go_wp2_with fail
  have hX := za hX1 hz1 (Below.refl w1.heap.size w1).drew
  have hLw := za hL1 hy1 (Below.refl w1.heap.size w1).drew
  have hz : w.heap.size + 1 < w1.drew.heap.size := hz1
  have hy : w.heap.size < w1.drew.heap.size := hy1
  have HBd : Hid (Below w.heap.size w w1.drew) := HBi.out.drew
  clear hX1 hL1 hz1 hy1
  refine wp_region_held_drew (S := fun w' => (∀ j, w'.cell? ⟨w.heap.size, j, none⟩ = (#[.slice la l.ss.length lca, .slice lb l.ms.length lcb, .slice lc l.ts.length lcc] : Array Value)[j]?) /\ (∀ j, w'.cell? ⟨w.heap.size + 1, j, none⟩ = (#[.int .i64 b.now, .int .i64 b.tick, .int .i64 b.given, .slice a0 b.os.length c0, .slice a1 b.gs.length c1, .slice a2 b.ls.length c2, .slice a3 b.ps.length c3] : Array Value)[j]?)) (by kernel_rfl) ⟨hLw, hX⟩ (fun hHeld => ?_)
  refine tH 0 rfl hHeld ?_; refine tH 1 rfl hHeld ?_; refine tH 2 rfl hHeld ?_
  refine cH 3 rfl fun K hK => ?_
  go_simp
  refine (zlL b a0 a1 a2 a3 c0 c1 c2 c3 _ (HK.out.mono HBd.out) (by have := HO.out.1; omega)).mono ?_
  rintro e w3 ⟨g, gc, rfl, hbl3, hb3⟩
  have hX3 := za hX hz hb3
  have hL3 := za hLw hy hb3
  have hz3 := Nat.lt_of_lt_of_le hz hb3.size
  have hy3 := Nat.lt_of_lt_of_le hy hb3.size
  have HB3 : Hid (Below w.heap.size w w3) := HBd.out.trans (hb3.mono HBd.out.size)
  have HBl : Hid (zbH w3 (some ⟨g, 0, none⟩) (Gate.endings b.os)) := hbl3
  clear hb3 hbl3
  (try go_wp2_with fail)
  refine hK.out _ _ ?_ (fun hHeld => ?_)
  · exact ⟨hL3, hX3⟩
  clear hK K
  (try simp only [Act.put, sA, s0, sS])
  refine cH 4 rfl fun K hK => ?_
  go_simp
  have hgr := zje l la lb lc lca lcb lcc b a0 a1 a2 a3 c0 c1 c2 c3 g 0 gc (Gate.endings b.os) w3 (HL.out.mono HB3.out) (HK.out.mono HB3.out) HBl.out HEl.out HO.out (fun i h => (HF.out.2.1.os.2 i h).1)
  rw [HEl.out] at hgr
  refine hgr.mono ?_
  rintro e w4 ⟨ga, gac, rfl, hbl4, hb4⟩
  have hX4 := za hX3 hz3 hb4
  have hL4 := za hL3 hy3 hb4
  have hz4 := Nat.lt_of_lt_of_le hz3 hb4.size
  have hy4 := Nat.lt_of_lt_of_le hy3 hb4.size
  have HB4 : Hid (Below w.heap.size w w4) := HB3.out.trans (hb4.mono HB3.out.size)
  have HGl : Hid (zbH w4 ga (Gate.greatest l b.os (Gate.endings b.os)) /\ (Gate.greatest l b.os (Gate.endings b.os)).length = b.os.length) := ⟨hbl4, (Gate.zaT _ _ _).trans HEl.out⟩
  clear hb4 hbl4 hgr
  (try go_wp2_with fail)
  refine hK.out _ _ ?_ (fun hHeld => ?_)
  · exact ⟨hL4, hX4⟩
  clear hK K
  (try simp only [Act.put, sA, s0, sS])
  refine cH 5 rfl fun K hK => ?_
  go_simp
  have hpl := zk8 ga gac (Gate.greatest l b.os (Gate.endings b.os)) w4 HGl.out.1 (by rw [HGl.out.2]; have := HO.out.1; omega)
  rw [HGl.out.2] at hpl
  refine hpl.mono ?_
  rintro e w5 ⟨v, rfl, hv, hb5⟩
  have hX5 := za hX4 hz4 hb5
  have hL5 := za hL4 hy4 hb5
  have hz5 := Nat.lt_of_lt_of_le hz4 hb5.size
  have hy5 := Nat.lt_of_lt_of_le hy4 hb5.size
  have HV : Hid (w5.ownsRow w.heap.size 3 1 v (Gate.zaA l b).length (ints (Gate.zaA l b)) /\ Below w.heap.size w w5) := by rw [HM.out]; exact ⟨jo hv HB4.out.size, HB4.out.trans (hb5.mono HB4.out.size)⟩
  clear hb5 hv hpl
  (try go_wp2_with fail)
  refine hK.out _ _ ?_ (fun hHeld => ?_)
  · exact ⟨hL5, hX5⟩
  clear hK K
  (try simp only [Act.put, sA, s0, sS])
  refine tH 6 rfl hHeld ?_
  refine wpAnyH_done (by kernel_rfl) ?_ _
  go_wp2_with fail
  go_ret
  exact ⟨v, rfl, HV.out⟩
end Go.Proofs.YtfpeplbmfbepcaaGreat
