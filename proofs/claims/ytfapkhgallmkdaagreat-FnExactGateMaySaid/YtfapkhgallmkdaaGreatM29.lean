import Derived.Test.YtfapkhgallmkdaaGreatM27
import Derived.Test.YtfapkhgallmkdaaGreatM15
import Derived.Test.YtfapkhgallmkdaaGreatM25
import Derived.Test.YtfapkhgallmkdaaGreatM20
import Derived.Test.YtfapkhgallmkdaaGreatM13
import Derived.Test.YtfapkhgallmkdaaGreatM26
import Derived.Deep.RegionWith
import Derived.Test.YtfapkhgallmkdaaGreatM07
namespace Go.Proofs.YtfapkhgallmkdaaGreat
open Go.RowKit
namespace Gate
theorem jm (fs : List Fld) (v : ByteArray) : (zS fs v = -1 /\ fs.find? (fun f => decide (f.nm = v)) = none) \/ ∃ i, ∃ h : i < fs.length, zS fs v = (i : Int) /\ fs[i].nm = v /\ fs.find? (fun f => decide (f.nm = v)) = some fs[i] := by
  cases hf : fs.findIdx? (fun f => decide (f.nm = v)) with
  | none =>
    left
    refine ⟨by unfold zS; rw [hf], ?_⟩
    rw [List.findIdx?_eq_none_iff] at hf
    rw [List.find?_eq_none]
    intro x hx
    have := hf x hx
    simpa using this
  | some i =>
    right
    rw [List.findIdx?_eq_some_iff_getElem] at hf
    obtain ⟨hi, h1, h2⟩ := hf
    refine ⟨i, hi, ?_, by simpa using h1, ?_⟩
    · unfold zS
      have : fs.findIdx? (fun f => decide (f.nm = v)) = some i := by rw [List.findIdx?_eq_some_iff_getElem]; exact ⟨hi, h1, h2⟩
      rw [this]
    · rw [List.find?_eq_some_iff_append]
      refine ⟨h1, fs.take i, fs.drop (i + 1), ?_, ?_⟩
      · conv => lhs; rw [<- List.take_append_drop i fs, List.drop_eq_getElem_cons hi]
      · intro a ha
        obtain ⟨k, hk, rfl⟩ := List.mem_iff_getElem.1 ha
        have hk' : k < i := by simp at hk; omega
        have := h2 k hk'
        simpa using this
def plain (fs : List Fld) (v : ByteArray) : Bool := match fs.find? (fun f => decide (f.nm = v)) with | some f => decide (f.kd ≠ 4) | none => false
def zcY (fs : List Fld) (v : ByteArray) : Fld := (fs.find? fun f => decide (f.nm = v)).getD zaQ
theorem zaE {fs : List Fld} {v : ByteArray} (h : fs.find? (fun f => decide (f.nm = v)) = none) : plain fs v = false := by unfold plain; rw [h]
theorem zil {fs : List Fld} {v : ByteArray} {f : Fld} (h : fs.find? (fun f => decide (f.nm = v)) = some f) : plain fs v = decide (f.kd ≠ 4) := by unfold plain; rw [h]
end Gate
theorem zo1 (k : Int) : Ending.returned (.bool (k != 4)) = Ending.returned (.bool (decide (k ≠ 4))) := by
  by_cases h : k = 4
  · subst h; rfl
  · have h1 : (k != 4) = true := by rw [bne_iff_ne]; exact h
    rw [h1, decide_eq_true h]
set_option maxHeartbeats 1000000 in
theorem zbO (a : Option Addr) (cap : Nat) (fs : List Fld) (v : ByteArray) (w : World) (hw : yc w a fs) :
    Calls Tryz.prog 174 #[.slice a fs.length cap, .string v] w fun e w' => e = .returned (.bool (Gate.plain fs v)) /\ Below w.heap.size w w' := by
  have hl := hw.len
  unfold maxLen at hl
  rcases Gate.jm fs v with ⟨h1, h2⟩ | ⟨i, hi, h1, h2, h3⟩
  · have HP : Hid (Gate.plain fs v = false) := Gate.zaE h2
    go_enter Tryz.func174, Tryz.ntmps174
    go_wp2_with fail
    have h := qI a cap fs v w hw
    rw [h1] at h
    refine h.mono ?_
    rintro e w1 ⟨rfl, hb1⟩
    clear h
    go_wp2_with fail
    go_ret
    exact ⟨by rw [HP.out]; rfl, hb1⟩
  · have HP : Hid (Gate.plain fs v = decide (fs[i].kd ≠ 4)) := Gate.zil h3
    obtain ⟨b, off, rfl, hb, hr⟩ := hw.rows (by rintro rfl; simp at hi)
    obtain ⟨wa, wcap, hf0⟩ := hr i hi
    go_enter Tryz.func174, Tryz.ntmps174
    go_wp2_with fail
    have h := qI (some ⟨b, off, none⟩) cap fs v w hw
    rw [h1] at h
    refine h.mono ?_
    rintro e w1 ⟨rfl, hb1⟩
    obtain ⟨c0, c1, c2, c3, c4, c5, c6, c7, c8, c9, c10⟩ := (hf0.mono hb hb1).load
    have hiI : (i : Int) < (fs.length : Int) := by omega
    have hge : decide ((i : Int) ≥ 0) = true := by simp
    have hb1w : b < w1.heap.size := Nat.lt_of_lt_of_le hb hb1.size
    clear h hw hr hf0 h3 h2 h1
    go_wp2_with fail
    go_ret
    exact ⟨by rw [HP.out]; exact zo1 fs[i].kd, hb1⟩
end Go.Proofs.YtfapkhgallmkdaaGreat

namespace Go.Proofs.YtfapkhgallmkdaaGreat
open Go.RowKit
theorem zgj (s : ByteArray) : (0 < qy s /\ jV s = qy s) \/ (¬ 0 < qy s /\ jV s = 0) := by
  unfold qy jV
  by_cases h : Gate.jS s = true
  · rw [if_pos h, if_pos h]
    have := Gate.zb8 s h
    omega
  · rw [if_neg h, if_neg h]
    omega
set_option maxHeartbeats 2000000 in
theorem ziL (l : Lw) (la lb lc : Option Addr) (lca lcb lcc : Nat) (o : Ob) (oa oa' : Option Addr) (ocap ocap' : Nat) (res : ByteArray) (w : World) (hl : qH w l la lb lc) (ho : jg w o oa oa') (hc : ¬ (Gate.zx l.ss o = true /\ res.toList.isEmpty = false)) :
    Calls Tryz.prog 126 #[.agg (l.cells la lb lc lca lcb lcc), .agg (oC o oa oa' ocap ocap'), .string res] w fun e w' => e = .returned (.int .i64 (Gate.y9 l.ss o res)) /\ Below w.heap.size w w' := by
  have HL := hid hl
  have HO := hid ho
  have HW : Hid (Gate.y9 l.ss o res = 0) := by unfold Hid Gate.y9; rw [if_neg hc]
  have HC := hid hc
  clear hl ho hc
  unfold Lw.cells
  by_cases hk : Gate.zx l.ss o = true
  · have he : res.toList.isEmpty = true := by
      cases h : res.toList.isEmpty with
      | true => rfl
      | false => exact absurd ⟨hk, h⟩ HC.out
    have HK := hid hk
    clear hk
    go_enter Tryz.func126, Tryz.ntmps126
    go_wp2_with fail
    refine (zbD _ _ l.ss o _ _ _ _ _ (HL.out.ss.mono (zu _ _ _)) (HO.out.mono (zu _ _ _)) HK.out).mono ?_
    rintro e w1 ⟨fa, fcap, rfl, hfl, hb⟩
    have HB1 : Hid (Below w.heap.size w w1) := (zu w _ _).trans (hb.mono (by simp; omega))
    clear hfl hb
    go_wp2_with fail
    go_ret
    exact ⟨zh HW.out.symm, HB1.out⟩
  · have HK : Hid (Gate.zx l.ss o = false) := by unfold Hid; simpa using hk
    clear hk
    go_enter Tryz.func126, Tryz.ntmps126
    go_wp2_with fail
    refine (zch _ _ l.ss o _ _ _ _ _ (HL.out.ss.mono (zu _ _ _)) (HO.out.mono (zu _ _ _)) HK.out).mono ?_
    rintro e w1 ⟨v, rfl, hb⟩
    have HB1 : Hid (Below w.heap.size w w1) := (zu w _ _).trans (hb.mono (by simp; omega))
    clear hb
    go_wp2_with fail
    go_ret
    exact ⟨zh HW.out.symm, HB1.out⟩
set_option maxHeartbeats 4000000 in
theorem zhM (l : Lw) (la lb lc : Option Addr) (lca lcb lcc : Nat) (o : Ob) (oa oa' : Option Addr) (ocap ocap' : Nat) (res : ByteArray) (w : World) (hl : qH w l la lb lc) (ho : jg w o oa oa') (hc : Gate.zx l.ss o = true) (he : res.toList.isEmpty = false) (hlen : o.vs.length <= 1048576) :
    Calls Tryz.prog 126 #[.agg (l.cells la lb lc lca lcb lcc), .agg (oC o oa oa' ocap ocap'), .string res] w fun e w' => e = .returned (.int .i64 (Gate.y9 l.ss o res)) /\ Below w.heap.size w w' := by
  have HL := hid hl
  have HO := hid ho
  have HW : Hid (Gate.y9 l.ss o res = (if res = o.kd then 1 else 0) + Gate.zcU (Gate.shapeOf l.ss o.kd).fs o.vs res (Gate.shapeOf l.ss o.kd).fs.length) := by unfold Hid Gate.y9; rw [if_pos ⟨hc, he⟩]
  have HC := hid hc
  have HK : Hid (Gate.zF l.ss o.kd = true /\ o.vs.length = (Gate.shapeOf l.ss o.kd).fs.length) := by unfold Gate.zx at hc; unfold Hid; simpa using hc
  have HN := hid hlen
  clear hl ho hc hlen
  unfold Lw.cells
  go_enter Tryz.func126, Tryz.ntmps126
  go_wp2_with fail
  refine (zbD _ _ l.ss o _ _ _ _ _ (HL.out.ss.mono (zu _ _ _)) (HO.out.mono (zu _ _ _)) HC.out).mono ?_
  rintro e w1 ⟨fa, fcap, rfl, hfl, hb⟩
  obtain ⟨hX0, hY0⟩ := qM w (lC l la lb lc lca lcb lcc) (oC o oa oa' ocap ocap') 43 121
  have hY1 := za hY0 (by simp) hb
  have hz1 : w.heap.size + 1 < w1.heap.size := by have := hb.size; simp at this; omega
  have HB1 : Hid (Below w.heap.size w w1) := (zu w _ _).trans (hb.mono (by simp; omega))
  have HFl := hid (hfl.mono hb)
  clear hfl hb hX0 hY0
  obtain ⟨S, HS⟩ : ∃ S, Hid (S = Gate.shapeOf l.ss o.kd) := ⟨_, rfl⟩
  rw [<- HS.out] at HFl HK HW ⊢
  obtain ⟨n0, hn0⟩ : ∃ n0 : Int, n0 = if res = o.kd then 1 else 0 := ⟨_, rfl⟩
  have hb0 : 0 <= n0 /\ n0 <= 1 := by rw [hn0]; split <;> omega
  rw [<- hn0] at HW
  have HN0 := hid hn0
  clear hn0
  by_cases hk : res = o.kd
  all_goals (
    first
    | (have hq : (res.toList == o.kd.toList) = true := by rw [Gate.beq_toList]; simpa using hk)
    | (have hq : (res.toList == o.kd.toList) = false := by rw [Gate.beq_toList]; simpa using hk)
    have HKE := zh4 hk
    clear hk
    go_wp2_with fail
    go_loopw [9, 10] (fun nv iv wr => ∃ (k : Nat) (s : Int), k <= S.fs.length /\ iv = .int .i64 k /\ nv = .int .i64 s /\ Hid (s = n0 + Gate.zcU S.fs o.vs res k /\ Below w1.heap.size w1 wr)) (fun _ iv _ => S.fs.length - (intOf iv).toNat)
    case atStart => exact ⟨0, n0, Nat.zero_le _, rfl, by have := HN0.out; first | (rw [if_pos HKE.out] at this; rw [this]) | (rw [if_neg HKE.out] at this; rw [this]), by simp [Gate.zcU], Below.refl _ _⟩
    case round =>
      obtain ⟨k, s, hk, rfl, rfl, HQ⟩ := hrel
      have hsb : 0 <= s /\ s <= 1 + k * 10000000 := by have h1 := HQ.out.1; have h2 := Gate.zb6 S.fs o.vs res k; omega
      have hkn : k <= 1048576 := by have := HN.out; have := HK.out.2; omega
      by_cases hlt : k < S.fs.length
      · obtain ⟨b, off, rfl, hb, hr⟩ := HFl.out.rows (by intro e; rw [e] at hlt; simp at hlt)
        obtain ⟨wa, wcap, hf⟩ := hr k hlt
        obtain ⟨c0, c1, c2, c3, c4, c5, c6, c7, c8, c9, c10⟩ := (hf.mono hb HQ.out.2).load
        have hlv : k < o.vs.length := by have := HK.out.2; omega
        have hltI : (k : Int) < (S.fs.length : Int) := by omega
        have hlvI : (k : Int) < (o.vs.length : Int) := by omega
        obtain ⟨vb, voff, rfl, hvb, hvc0⟩ := HO.out.vals.cells (by intro e; rw [e] at hlv; simp at hlv)
        have hvc := ((HB1.out.trans (HQ.out.2.mono HB1.out.size)).cell (p := ⟨vb, voff + k, none⟩) hvb).trans (hvc0 k hlv)
        have hvb' := Nat.lt_of_lt_of_le hvb (HB1.out.trans (HQ.out.2.mono HB1.out.size)).size
        have hb' := Nat.lt_of_lt_of_le hb HQ.out.2.size
        have hY := za hY1 hz1 HQ.out.2
        have hz := Nat.lt_of_lt_of_le hz1 HQ.out.2.size
        have HSt : Hid (Gate.zcU S.fs o.vs res (k + 1) = Gate.zcU S.fs o.vs res k + Gate.yC S.fs[k] o.vs[k] res) := Gate.zm1 S.fs o.vs res k hlt hlv
        have HVs : Hid (o.vs[k].size <= maxLen) := HO.out.vals.small _ (List.getElem_mem _)
        have hnr : -1 <= qy o.vs[k] /\ qy o.vs[k] <= 10000000 := by
          have h1 := zgj o.vs[k]; have h2 := Gate.zcS o.vs[k]
          have h3 : qy o.vs[k] = -1 \/ 0 <= qy o.vs[k] := by
            unfold qy; split
            · rename_i h; exact Or.inr (Gate.zb8 _ h)
            · exact Or.inl rfl
          omega
        clear hf hr hvc0 c0 c2 c3 c4 c5 c6 c7 c8 c9
        go_wp2_with fail
        refine (zc8 o.vs[k] _ HVs.out).mono ?_
        rintro e w2 ⟨rfl, rfl⟩
        by_cases h1 : S.fs[k].kd = 1
        · have e1 : (S.fs[k].kd == 1) = true := by simpa using h1
          by_cases h2 : S.fs[k].wg = res
          · have e2 : (S.fs[k].wg.toList == res.toList) = true := by rw [Gate.beq_toList]; simpa using h2
            have HFw : Hid (Gate.yC S.fs[k] o.vs[k] res = jV o.vs[k]) := by unfold Hid Gate.yC; rw [if_pos ⟨h1, h2⟩]
            clear h1 h2
            rcases zgj o.vs[k] with ⟨hp, hd⟩ | ⟨hp, hd⟩
            · have HD := zh4 hd
              have hpd : decide (0 < qy o.vs[k]) = true := by simpa using hp
              clear hd
              go_wp2_with fail
              first
                | exact ⟨⟨k + 1, s + qy o.vs[k], by omega, by go_num, by go_num, by rw [HSt.out, HFw.out, HQ.out.1, HD.out]; omega, HQ.out.2⟩, zm hlt⟩
                | (go_quiet (fail); go_wp2_with fail; exact ⟨⟨k + 1, s + qy o.vs[k], by omega, by go_num, by go_num, by rw [HSt.out, HFw.out, HQ.out.1, HD.out]; omega, below_drewN HQ.out.2 _⟩, zm hlt⟩)
            · have HD := zh4 hd
              have hpd : decide (0 < qy o.vs[k]) = false := by simpa using hp
              clear hd
              go_wp2_with fail
              first
                | exact ⟨⟨k + 1, s, by omega, by go_num, rfl, by rw [HSt.out, HFw.out, HQ.out.1, HD.out]; omega, HQ.out.2⟩, zm hlt⟩
                | (go_quiet (fail); go_wp2_with fail; exact ⟨⟨k + 1, s, by omega, by go_num, rfl, by rw [HSt.out, HFw.out, HQ.out.1, HD.out]; omega, below_drewN HQ.out.2 _⟩, zm hlt⟩)
          · have e2 : (S.fs[k].wg.toList == res.toList) = false := by rw [Gate.beq_toList]; simpa using h2
            have HFw : Hid (Gate.yC S.fs[k] o.vs[k] res = 0) := by unfold Hid Gate.yC; rw [if_neg (fun h => h2 h.2)]
            clear h1 h2
            go_wp2_with fail
            first
              | exact ⟨⟨k + 1, s, by omega, by go_num, rfl, by rw [HSt.out, HFw.out, HQ.out.1]; omega, HQ.out.2⟩, zm hlt⟩
              | (go_quiet (fail); go_wp2_with fail; exact ⟨⟨k + 1, s, by omega, by go_num, rfl, by rw [HSt.out, HFw.out, HQ.out.1]; omega, below_drewN HQ.out.2 _⟩, zm hlt⟩)
        · have e1 : (S.fs[k].kd == 1) = false := by simpa using h1
          have HFw : Hid (Gate.yC S.fs[k] o.vs[k] res = 0) := by unfold Hid Gate.yC; rw [if_neg (fun h => h1 h.1)]
          clear h1
          go_wp2_with fail
          first
            | exact ⟨⟨k + 1, s, by omega, by go_num, rfl, by rw [HSt.out, HFw.out, HQ.out.1]; omega, HQ.out.2⟩, zm hlt⟩
            | (go_quiet (fail); go_wp2_with fail; exact ⟨⟨k + 1, s, by omega, by go_num, rfl, by rw [HSt.out, HFw.out, HQ.out.1]; omega, below_drewN HQ.out.2 _⟩, zm hlt⟩)
      · have e : k = S.fs.length := by omega
        subst e
        have HE : Hid (Gate.y9 l.ss o res = s) := by unfold Hid; rw [HW.out, HQ.out.1]
        clear hlt hk
        go_wp2_with fail
        go_ret
        exact ⟨zh HE.out.symm, HB1.out.trans (HQ.out.2.mono HB1.out.size)⟩)
theorem zhB (l : Lw) (la lb lc : Option Addr) (lca lcb lcc : Nat) (o : Ob) (oa oa' : Option Addr) (ocap ocap' : Nat) (res : ByteArray) (w : World) (hl : qH w l la lb lc) (ho : jg w o oa oa') (hlen : o.vs.length <= 1048576) :
    Calls Tryz.prog 213 #[.agg (l.cells la lb lc lca lcb lcc), .agg (oC o oa oa' ocap ocap'), .string res] w fun e w' => e = .returned (.int .i64 (Gate.y9 l.ss o res)) /\ Below w.heap.size w w' := by
  by_cases hc : Gate.zx l.ss o = true /\ res.toList.isEmpty = false
  · exact zhF l la lb lc lca lcb lcc o oa oa' ocap ocap' res w hl ho hc.1 hc.2 hlen
  · exact zi3 l la lb lc lca lcb lcc o oa oa' ocap ocap' res w hl ho hc
theorem zij (l : Lw) (la lb lc : Option Addr) (lca lcb lcc : Nat) (o : Ob) (oa oa' : Option Addr) (ocap ocap' : Nat) (res : ByteArray) (w : World) (hl : qH w l la lb lc) (ho : jg w o oa oa') (hlen : o.vs.length <= 1048576) :
    Calls Tryz.prog 126 #[.agg (l.cells la lb lc lca lcb lcc), .agg (oC o oa oa' ocap ocap'), .string res] w fun e w' => e = .returned (.int .i64 (Gate.y9 l.ss o res)) /\ Below w.heap.size w w' := by
  by_cases hc : Gate.zx l.ss o = true /\ res.toList.isEmpty = false
  · exact zhM l la lb lc lca lcb lcc o oa oa' ocap ocap' res w hl ho hc.1 hc.2 hlen
  · exact ziL l la lb lc lca lcb lcc o oa oa' ocap ocap' res w hl ho hc
end Go.Proofs.YtfapkhgallmkdaaGreat

namespace Go.Proofs.YtfapkhgallmkdaaGreat
open Go.RowKit
namespace Gate
def zo9 : Ob := ⟨ByteArray.empty, ByteArray.empty, ByteArray.empty, [], false, [], 0⟩
def za5 (l : Lw) (team res : ByteArray) (o : Ob) : Int := if under l.ts 4 o.tm team = true then y9 l.ss o res else 0
def j3 (l : Lw) (os : List Ob) (team res : ByteArray) : Nat -> Int
  | 0 => 0
  | k + 1 => j3 l os team res k + za5 l team res (os.getD k zo9)
def used (l : Lw) (os : List Ob) (team res : ByteArray) : Int := j3 l os team res os.length
theorem znj (ss : List Shp) (o : Ob) (res : ByteArray) : 0 <= y9 ss o res /\ y9 ss o res <= 1 + o.sz * 10000000 := by
  have h0 : o.vs.length <= o.sz := by unfold Ob.sz zcA y8; omega
  unfold y9
  split
  · rename_i hc
    have hc1 := hc.1
    unfold zx at hc1
    simp only [Bool.and_eq_true, decide_eq_true_eq] at hc1
    have := zb6 (shapeOf ss o.kd).fs o.vs res (shapeOf ss o.kd).fs.length
    have h3 := hc1.2
    split <;> omega
  · omega
theorem zjD (l : Lw) (team res : ByteArray) (o : Ob) : 0 <= za5 l team res o /\ za5 l team res o <= 1 + o.sz * 10000000 := by
  unfold za5
  split
  · exact znj _ _ _
  · omega
theorem zeq (l : Lw) (os : List Ob) (team res : ByteArray) (k : Nat) (h : k < os.length) : j3 l os team res (k + 1) = j3 l os team res k + za5 l team res os[k] := by
  have e1 : os.getD k zo9 = os[k] := by simp [List.getD, h]
  simp only [j3]
  rw [e1]
theorem zbi (l : Lw) (os : List Ob) (team res : ByteArray) : ∀ k, k <= os.length -> 0 <= j3 l os team res k /\ j3 l os team res k <= k + zat (os.take k) * 10000000
  | 0, _ => by simp [j3, zat]
  | k + 1, h => by
    have h1 := zbi l os team res k (by omega)
    have h2 := zjD l team res os[k]
    have h3 : zat (os.take (k + 1)) = zat (os.take k) + os[k].sz := zar Ob.sz os k h
    rw [zeq l os team res k h, h3]
    omega
end Gate
set_option maxHeartbeats 4000000 in
theorem zjM (l : Lw) (la lb lc : Option Addr) (lca lcb lcc : Nat) (b : Bk) (a0 a1 a2 a3 : Option Addr) (c0 c1 c2 c3 : Nat) (team res : ByteArray) (w : World) (hl : qH w l la lb lc) (hb : qL w b a0 a1 a2 a3) (hz : yV b.os <= 1048576) :
    Calls Tryz.prog 195 #[.agg (l.cells la lb lc lca lcb lcc), .agg (b.cells a0 a1 a2 a3 c0 c1 c2 c3), .string team, .string res] w fun e w' => e = .returned (.int .i64 (Gate.used l b.os team res)) /\ Below w.heap.size w w' := by
  have HL : Hid (qH w l la lb lc) := hl
  have HK : Hid (qL w b a0 a1 a2 a3) := hb
  have HZ : Hid (yV b.os <= 1048576 /\ b.os.length <= 1048576) := ⟨hz, by unfold yV at hz; omega⟩
  clear hl hb hz
  unfold Lw.cells Bk.cells
  go_enter Tryz.func195, Tryz.ntmps195
  go_wp2_with fail
  obtain ⟨hX0, hY0⟩ := qM w (lC l la lb lc lca lcb lcc) (bC b a0 a1 a2 a3 c0 c1 c2 c3) 43 50
  have HB0 : Hid (Below w.heap.size w ((w.alloc (.cells (lC l la lb lc lca lcb lcc) 43)).alloc (.cells (bC b a0 a1 a2 a3 c0 c1 c2 c3) 50))) := zu w _ _
  obtain ⟨W0, hW0⟩ : ∃ W0, W0 = (w.alloc (.cells (lC l la lb lc lca lcb lcc) 43)).alloc (.cells (bC b a0 a1 a2 a3 c0 c1 c2 c3) 50) := ⟨_, rfl⟩
  have hz0 : w.heap.size + 1 < W0.heap.size := by rw [hW0]; simp
  rw [<- hW0] at HB0 hX0 hY0 ⊢
  clear hW0
  go_loopw [9, 15] (fun nv iv wr => ∃ (k : Nat) (s : Int), k <= b.os.length /\ iv = .int .i64 k /\ nv = .int .i64 s /\ Hid (s = Gate.j3 l b.os team res k /\ Below W0.heap.size W0 wr)) (fun _ iv _ => b.os.length - (intOf iv).toNat)
  case atStart => exact ⟨0, 0, Nat.zero_le _, rfl, rfl, by simp [Gate.j3], Below.refl _ _⟩
  case round =>
    obtain ⟨k, s, hk, rfl, rfl, HQ⟩ := hrel
    have hsb : 0 <= s /\ s <= 20000000000000 := by
      have h1 := HQ.out.1; have h2 := Gate.zbi l b.os team res k hk; have h3 := HZ.out
      have h4 : zat (b.os.take k) <= zat b.os := zbW Ob.sz b.os k
      unfold yV at h3
      omega
    have hkn : k <= 1048576 := by have := HZ.out.2; omega
    by_cases hlt : k < b.os.length
    · obtain ⟨ob, off, v0, v1, q0, q1, rfl, hob, hsm, hl0, hl1, d0, d1, d2, d3, d4, d5, d6⟩ := HK.out.os.load (HB0.out.trans (HQ.out.2.mono HB0.out.size)) k hlt
      have hob' := Nat.lt_of_lt_of_le hob (HB0.out.trans (HQ.out.2.mono HB0.out.size)).size
      have hltI : (k : Int) < (b.os.length : Int) := by omega
      have hX := za hX0 (Nat.lt_of_succ_lt hz0) HQ.out.2
      have hz := Nat.lt_of_lt_of_le hz0 HQ.out.2.size
      have hzX := Nat.lt_of_succ_lt hz
      have HSt := hid (Gate.zeq l b.os team res k hlt)
      have HOo : Hid (jg wr b.os[k] v0 v1) := ⟨hsm, hl0, hl1⟩
      have HOl : Hid (b.os[k].vs.length <= 1048576) := by
        have h3 := HZ.out.1
        have := (zjU (left := 1048576) (ms := b.os) (by omega) (by omega)).2 k hlt
        exact this.1
      have hub := Gate.zjD l team res b.os[k]
      have hwb := Gate.zfc l.ss b.os[k] res HOl.out
      clear hsm hl0 hl1 hub
      go_wp2_with fail
      have hb1 : Below wr.heap.size wr (wr.alloc (.cells (oC b.os[k] v0 v1 q0 q1) 121)) := (Below.refl _ _).alloc (Nat.le_refl _) _
      have hN := zG wr (oC b.os[k] v0 v1 q0 q1) 121
      obtain ⟨w1, hw1⟩ : ∃ w1, w1 = wr.alloc (.cells (oC b.os[k] v0 v1 q0 q1) 121) := ⟨_, rfl⟩
      have hn1 : wr.heap.size < w1.heap.size := by rw [hw1]; simp
      rw [<- hw1] at hb1 hN ⊢
      clear hw1 d0 d1 d2 d3 d4 d5 d6
      have HB1 := hid (HQ.out.2.trans (hb1.mono HQ.out.2.size))
      have hX1 := za hX (Nat.lt_of_succ_lt hz) hb1
      have HO1 := hid (HOo.out.mono hb1)
      have hz1 := Nat.lt_trans hz hn1
      clear hb1 hX
      refine (jo _ _ l.ts b.os[k].tm team _ (HL.out.ts.mono (HB0.out.trans (HB1.out.mono HB0.out.size)))).mono ?_
      rintro e w2 ⟨rfl, hb2⟩
      have HB2 := hid (HB1.out.trans (hb2.mono HB1.out.size))
      have hX2 := za hX1 (Nat.lt_of_succ_lt hz1) hb2
      have hN2 := za hN hn1 hb2
      have HO2 := hid (HO1.out.mono hb2)
      have hz2 := Nat.lt_of_lt_of_le hz1 hb2.size
      have hn2 := Nat.lt_of_lt_of_le hn1 hb2.size
      clear hb2 hX1 hN
      by_cases hu : Gate.under l.ts 4 b.os[k].tm team = true
      · have HU : Hid (Gate.za5 l team res b.os[k] = Gate.y9 l.ss b.os[k] res) := by unfold Hid Gate.za5; rw [if_pos hu]
        rw [hu]
        clear hu
        go_wp2_with fail
        refine (zhB l _ _ _ _ _ _ b.os[k] _ _ _ _ res _ (HL.out.mono (HB0.out.trans (HB2.out.mono HB0.out.size))) HO2.out HOl.out).mono ?_
        rintro e w3 ⟨rfl, hb3⟩
        have HB3 := hid (HB2.out.trans (hb3.mono HB2.out.size))
        clear hb3
        go_wp2_with fail
        exact ⟨⟨k + 1, s + Gate.y9 l.ss b.os[k] res, by omega, by go_num, by go_num, by rw [HSt.out, HU.out, HQ.out.1], HB3.out⟩, zm hlt⟩
      · have hu' : Gate.under l.ts 4 b.os[k].tm team = false := by simpa using hu
        have HU : Hid (Gate.za5 l team res b.os[k] = 0) := by unfold Hid Gate.za5; rw [if_neg hu]
        rw [hu']
        clear hu hu'
        go_wp2_with fail
        exact ⟨⟨k + 1, s, by omega, by go_num, rfl, by rw [HSt.out, HU.out, HQ.out.1]; omega, HB2.out⟩, zm hlt⟩
    · have e : k = b.os.length := by omega
      subst e
      have HE : Hid (Gate.used l b.os team res = s) := by unfold Hid Gate.used; rw [HQ.out.1]
      clear hlt hk
      go_wp2_with fail
      go_ret
      exact ⟨zh HE.out.symm, HB0.out.trans (HQ.out.2.mono HB0.out.size)⟩
end Go.Proofs.YtfapkhgallmkdaaGreat

namespace Go.Proofs.YtfapkhgallmkdaaGreat
open Go.ChangeShapes Go.WideShapes Go.ChangeAt Go.RowKit
theorem Tryz.zgh : Tryz.prog.cellsOf 102 = 4 := by kernel_rfl
theorem Tryz.zif : Tryz.prog.cellsOf 105 = 5 := by kernel_rfl
theorem Tryz.zik : Tryz.prog.cellsOf 99 = 7 := by kernel_rfl
theorem Tryz.znI : Tryz.prog.cellsOf 32 = 7 := by kernel_rfl
theorem Tryz.zkr : Tryz.prog.cellsOf 27 = 1 := by kernel_rfl
theorem Tryz.zlt : Tryz.prog.cellsOf 28 = 1 := by kernel_rfl
theorem Tryz.zko : Tryz.prog.cellsOf 29 = 1 := by kernel_rfl
theorem Tryz.zkT : Tryz.prog.cellsOf 30 = 1 := by kernel_rfl
section
variable {H : Type} {enc : TypeId × Value -> H} {w : World} {base : Nat} {spare : Nat -> Bool} {held : Bool}
theorem zmX {P : Program} {t : TypeId} {fs : Array Field} {fuel : Nat} {cs : List Value} {x : DataW H × List MemPlace} (ht : P.underlying t = some (.struct fs)) (h : DataW.trod enc P w base spare held fuel t cs = some x)
    (i tf off n : Nat) (hf : (fs[i]?).map (fun f => (f.type, f.offset)) = some (tf, off)) (hn : P.cellsOf tf = n) : ∃ m y, DataW.trod enc P w base spare held m tf ((cs.drop off).take n) = some y := by
  obtain ⟨f, hf1, hf2⟩ := Option.map_eq_some_iff.1 hf
  simp only [Prod.mk.injEq] at hf2
  obtain ⟨rfl, rfl⟩ := hf2
  subst hn
  exact zhg ht h i f hf1
theorem zlM {fuel : Nat} {cs : List Value} {x : DataW H × List MemPlace} (h : DataW.trod enc Tryz.prog w base spare held fuel 102 cs = some x) :
    ∃ m : Lg, cs = m.cells.toList /\ m.Small := by
  have hlen : cs.length = 4 := by
    obtain ⟨_, _, _, _, hl, _, _⟩ := DataW.trod_struct Tryz.underlying102 h
    rw [hl]; exact Tryz.zgh
  match cs, hlen with
  | [c0, c1, c2, c3], _ =>
    have hf := jh Tryz.underlying102 h
    obtain ⟨_, _, f0⟩ := hf 0 9 0 c0 rfl Tryz.zJ rfl
    obtain ⟨_, _, f1⟩ := hf 1 9 1 c1 rfl Tryz.zJ rfl
    obtain ⟨_, _, f2⟩ := hf 2 3 2 c2 rfl Tryz.qW rfl
    obtain ⟨_, _, f3⟩ := hf 3 3 3 c3 rfl Tryz.qW rfl
    obtain ⟨x0, e0, _, s0⟩ := DataW.trod_string Tryz.underlying9 f0
    obtain ⟨x1, e1, _, s1⟩ := DataW.trod_string Tryz.underlying9 f1
    obtain ⟨x2, e2, _, _⟩ := DataW.trod_int Tryz.underlying3 f2
    obtain ⟨x3, e3, _, _⟩ := DataW.trod_int Tryz.underlying3 f3
    simp only [List.cons.injEq, and_true] at e0 e1 e2 e3
    subst e0 e1 e2 e3
    exact ⟨⟨x0, x1, x2, x3⟩, rfl, s0, s1⟩
theorem zkf {fuel : Nat} {cs : List Value} {x : DataW H × List MemPlace} (h : DataW.trod enc Tryz.prog w base spare held fuel 29 cs = some x) :
    ∃ a cap ms, cs = [.slice a (List.length ms) cap] /\ zb4 w a ms := by
  obtain ⟨a, len, cap, rfl, hm, hr⟩ := zai Tryz.underlying29 Tryz.zgh (by omega) h
  rcases Nat.eq_zero_or_pos len with h0 | hp
  · subst h0
    exact ⟨a, cap, [], rfl, ⟨by simp [maxLen], fun i h => absurd h (by simp), fun h => absurd rfl h⟩⟩
  · obtain ⟨b, off, rfl, hb, hrow⟩ := hr hp
    have hf : ∀ i, i < len -> ∃ m : Lg, m.Small /\ ∀ j, j < 4 -> w.cell? ⟨b, off + i * 4 + j, none⟩ = m.cells[j]? := by
      intro i hi
      obtain ⟨es, n, y, hel, hcell, hy⟩ := hrow i hi
      obtain ⟨m, rfl, hs⟩ := zlM hy
      exact ⟨m, hs, fun j hj => by rw [hcell j hj]; simp⟩
    obtain ⟨ms, hl, hms⟩ := zbk len hf
    exact ⟨_, cap, ms, by rw [hl], ⟨by omega, fun i hi => (hms i hi).1, fun _ => ⟨b, off, rfl, hb, fun i hi => (hms i hi).2⟩⟩⟩
theorem zmI {fuel : Nat} {cs : List Value} {x : DataW H × List MemPlace} (h : DataW.trod enc Tryz.prog w base spare held fuel 105 cs = some x) :
    ∃ m : Pu, cs = m.cells.toList /\ m.Small := by
  have hlen : cs.length = 5 := by
    obtain ⟨_, _, _, _, hl, _, _⟩ := DataW.trod_struct Tryz.underlying105 h
    rw [hl]; exact Tryz.zif
  match cs, hlen with
  | [c0, c1, c2, c3, c4], _ =>
    have hf := jh Tryz.underlying105 h
    obtain ⟨_, _, f0⟩ := hf 0 9 0 c0 rfl Tryz.zJ rfl
    obtain ⟨_, _, f1⟩ := hf 1 9 1 c1 rfl Tryz.zJ rfl
    obtain ⟨_, _, f2⟩ := hf 2 9 2 c2 rfl Tryz.zJ rfl
    obtain ⟨_, _, f3⟩ := hf 3 3 3 c3 rfl Tryz.qW rfl
    obtain ⟨_, _, f4⟩ := hf 4 3 4 c4 rfl Tryz.qW rfl
    obtain ⟨x0, e0, _, s0⟩ := DataW.trod_string Tryz.underlying9 f0
    obtain ⟨x1, e1, _, s1⟩ := DataW.trod_string Tryz.underlying9 f1
    obtain ⟨x2, e2, _, s2⟩ := DataW.trod_string Tryz.underlying9 f2
    obtain ⟨x3, e3, _, _⟩ := DataW.trod_int Tryz.underlying3 f3
    obtain ⟨x4, e4, _, _⟩ := DataW.trod_int Tryz.underlying3 f4
    simp only [List.cons.injEq, and_true] at e0 e1 e2 e3 e4
    subst e0 e1 e2 e3 e4
    exact ⟨⟨x0, x1, x2, x3, x4⟩, rfl, s0, s1, s2⟩
theorem zle {fuel : Nat} {cs : List Value} {x : DataW H × List MemPlace} (h : DataW.trod enc Tryz.prog w base spare held fuel 30 cs = some x) :
    ∃ a cap ms, cs = [.slice a (List.length ms) cap] /\ zcx w a ms := by
  obtain ⟨a, len, cap, rfl, hm, hr⟩ := zai Tryz.underlying30 Tryz.zif (by omega) h
  rcases Nat.eq_zero_or_pos len with h0 | hp
  · subst h0
    exact ⟨a, cap, [], rfl, ⟨by simp [maxLen], fun i h => absurd h (by simp), fun h => absurd rfl h⟩⟩
  · obtain ⟨b, off, rfl, hb, hrow⟩ := hr hp
    have hf : ∀ i, i < len -> ∃ m : Pu, m.Small /\ ∀ j, j < 5 -> w.cell? ⟨b, off + i * 5 + j, none⟩ = m.cells[j]? := by
      intro i hi
      obtain ⟨es, n, y, hel, hcell, hy⟩ := hrow i hi
      obtain ⟨m, rfl, hs⟩ := zmI hy
      exact ⟨m, hs, fun j hj => by rw [hcell j hj]; simp⟩
    obtain ⟨ms, hl, hms⟩ := zbk len hf
    exact ⟨_, cap, ms, by rw [hl], ⟨by omega, fun i hi => (hms i hi).1, fun _ => ⟨b, off, rfl, hb, fun i hi => (hms i hi).2⟩⟩⟩
theorem zkp {fuel : Nat} {cs : List Value} {x : DataW H × List MemPlace} (h : DataW.trod enc Tryz.prog w base spare held fuel 27 cs = some x) :
    ∃ a cap ms, cs = [.slice a (List.length ms) cap] /\ za8 w a ms := by
  obtain ⟨a, len, cap, rfl, hm, hr⟩ := zai Tryz.underlying27 Tryz.zf8 (by omega) h
  rcases Nat.eq_zero_or_pos len with h0 | hp
  · subst h0
    exact ⟨a, cap, [], rfl, ⟨by simp [maxLen], fun h => absurd rfl h⟩⟩
  · obtain ⟨b, off, rfl, hb, hrow⟩ := hr hp
    have hf : ∀ i, i < len -> ∃ o : Ob, ∃ a0 a1 c0 c1, znw w b (off + i * 7) o a0 a1 c0 c1 := by
      intro i hi
      obtain ⟨es, n, y, hel, hcell, hy⟩ := hrow i hi
      obtain ⟨o, a0, a1, c0, c1, rfl, hs⟩ := zlI hy
      exact ⟨o, a0, a1, c0, c1, hs.small, hs.vals, hs.holds, fun j hj => by rw [hcell j hj]; simp [Ob.row]⟩
    obtain ⟨ms, hl, hms⟩ := zbk len hf
    exact ⟨_, cap, ms, by rw [hl], ⟨by omega, fun _ => ⟨b, off, rfl, hb, hms⟩⟩⟩
theorem zlX {fuel : Nat} {cs : List Value} {x : DataW H × List MemPlace} (h : DataW.trod enc Tryz.prog w base spare held fuel 99 cs = some x) :
    ∃ (g : Gr) (a : Option Addr) (cap : Nat), cs = (g.cells a cap).toList /\ g.Small /\ yw w a g.r.vs := by
  have hlen : cs.length = 7 := by
    obtain ⟨_, _, _, _, hl, _, _⟩ := DataW.trod_struct Tryz.underlying99 h
    rw [hl]; exact Tryz.zik
  match cs, hlen with
  | [c0, c1, c2, c3, c4, c5, c6], _ =>
    have hf := jh Tryz.underlying99 h
    obtain ⟨_, _, f0⟩ := hf 0 3 0 c0 rfl Tryz.qW rfl
    obtain ⟨_, _, f1⟩ := hf 1 9 1 c1 rfl Tryz.zJ rfl
    obtain ⟨_, _, f2⟩ := hf 2 9 2 c2 rfl Tryz.zJ rfl
    obtain ⟨_, _, f3⟩ := zmX Tryz.underlying99 h 3 97 3 4 rfl Tryz.zjo
    obtain ⟨x0, e0, _, _⟩ := DataW.trod_int Tryz.underlying3 f0
    obtain ⟨x1, e1, _, s1⟩ := DataW.trod_string Tryz.underlying9 f1
    obtain ⟨x2, e2, _, s2⟩ := DataW.trod_string Tryz.underlying9 f2
    obtain ⟨r, a, cap, e3, hs, hI⟩ := zns f3
    simp only [List.cons.injEq, and_true] at e0 e1 e2
    subst e0 e1 e2
    have e3' : [c3, c4, c5, c6] = (r.cells a cap).toList := e3
    unfold Rl.cells at e3'
    simp only [List.cons.injEq, and_true] at e3'
    obtain ⟨e3, e4, e5, e6⟩ := e3'
    subst e3 e4 e5 e6
    exact ⟨⟨x0, x1, x2, r⟩, a, cap, rfl, ⟨s1, s2, hs⟩, hI⟩
theorem zkW {fuel : Nat} {cs : List Value} {x : DataW H × List MemPlace} (h : DataW.trod enc Tryz.prog w base spare held fuel 28 cs = some x) :
    ∃ a cap ms, cs = [.slice a (List.length ms) cap] /\ zaY w a ms := by
  obtain ⟨a, len, cap, rfl, hm, hr⟩ := zai Tryz.underlying28 Tryz.zik (by omega) h
  rcases Nat.eq_zero_or_pos len with h0 | hp
  · subst h0
    exact ⟨a, cap, [], rfl, ⟨by simp [maxLen], fun h => absurd rfl h⟩⟩
  · obtain ⟨b, off, rfl, hb, hrow⟩ := hr hp
    have hf : ∀ i, i < len -> ∃ g : Gr, ∃ a0 c0, zn9 w b (off + i * 7) g a0 c0 := by
      intro i hi
      obtain ⟨es, n, y, hel, hcell, hy⟩ := hrow i hi
      obtain ⟨g, a0, c0, rfl, hs, hI⟩ := zlX hy
      exact ⟨g, a0, c0, hs, hI, fun j hj => by rw [hcell j hj]; simp⟩
    obtain ⟨ms, hl, hms⟩ := zbk len hf
    exact ⟨_, cap, ms, by rw [hl], ⟨by omega, fun _ => ⟨b, off, rfl, hb, hms⟩⟩⟩
theorem znR {fuel : Nat} {cs : List Value} {x : DataW H × List MemPlace} (h : DataW.trod enc Tryz.prog w base spare held fuel 32 cs = some x) :
    ∃ (b : Bk) (a0 a1 a2 a3 : Option Addr) (k0 k1 k2 k3 : Nat), cs = (b.cells a0 a1 a2 a3 k0 k1 k2 k3).toList /\ qL w b a0 a1 a2 a3 := by
  have hlen : cs.length = 7 := by
    obtain ⟨_, _, _, _, hl, _, _⟩ := DataW.trod_struct Tryz.underlying32 h
    rw [hl]; exact Tryz.znI
  match cs, hlen with
  | [c0, c1, c2, c3, c4, c5, c6], _ =>
    have hf := jh Tryz.underlying32 h
    obtain ⟨_, _, f0⟩ := hf 0 3 0 c0 rfl Tryz.qW rfl
    obtain ⟨_, _, f1⟩ := hf 1 3 1 c1 rfl Tryz.qW rfl
    obtain ⟨_, _, f2⟩ := hf 2 3 2 c2 rfl Tryz.qW rfl
    obtain ⟨_, _, f3⟩ := hf 3 27 3 c3 rfl Tryz.zkr rfl
    obtain ⟨_, _, f4⟩ := hf 4 28 4 c4 rfl Tryz.zlt rfl
    obtain ⟨_, _, f5⟩ := hf 5 29 5 c5 rfl Tryz.zko rfl
    obtain ⟨_, _, f6⟩ := hf 6 30 6 c6 rfl Tryz.zkT rfl
    obtain ⟨x0, e0, _, _⟩ := DataW.trod_int Tryz.underlying3 f0
    obtain ⟨x1, e1, _, _⟩ := DataW.trod_int Tryz.underlying3 f1
    obtain ⟨x2, e2, _, _⟩ := DataW.trod_int Tryz.underlying3 f2
    obtain ⟨a0, k0, os, e3, hO⟩ := zkp f3
    obtain ⟨a1, k1, gs, e4, hG⟩ := zkW f4
    obtain ⟨a2, k2, ls, e5, hL⟩ := zkf f5
    obtain ⟨a3, k3, ps, e6, hP⟩ := zle f6
    simp only [List.cons.injEq, and_true] at e0 e1 e2 e3 e4 e5 e6
    subst e0 e1 e2 e3 e4 e5 e6
    exact ⟨⟨x0, x1, x2, os, gs, ls, ps⟩, a0, a1, a2, a3, k0, k1, k2, k3, rfl, ⟨hO, hG, hL, hP⟩⟩
end
end Go.Proofs.YtfapkhgallmkdaaGreat
