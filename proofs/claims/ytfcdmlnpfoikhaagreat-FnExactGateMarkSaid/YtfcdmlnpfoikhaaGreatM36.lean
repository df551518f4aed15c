import Derived.Test.YtfcdmlnpfoikhaaGreatM30
import Derived.Test.YtfcdmlnpfoikhaaGreatM22
import Derived.Test.YtfcdmlnpfoikhaaGreatM21
import Derived.Test.YtfcdmlnpfoikhaaGreatM17
import Derived.Deep.RegionWith
import Derived.Deep.RegionHeld3
import Derived.Test.YtfcdmlnpfoikhaaGreatM25
import Derived.Test.YtfcdmlnpfoikhaaGreatM06
import Derived.Test.YtfcdmlnpfoikhaaGreatM02
import Derived.Deep.OwnRows
import Derived.MapKept
import Derived.Test.YtfcdmlnpfoikhaaGreatM31
import Derived.Test.YtfcdmlnpfoikhaaGreatM26
import Derived.Test.YtfcdmlnpfoikhaaGreatM12
namespace Go.Proofs.YtfcdmlnpfoikhaaGreat
open Go.RowKit
namespace Gate
def yQ (kd fld : ByteArray) (row : List ByteArray) (m : Mnd) : Bool := !(decide (m.kd = kd) && decide (m.fd = fld)) || ((!isSet m.wh || has row m.wh) && (!isSet m.fr || has row m.fr))
def zbH (ms : List Mnd) (kd fld : ByteArray) (row : List ByteArray) : Bool := ms.all (yQ kd fld row)
end Gate
set_option maxRecDepth 20000 in
set_option maxHeartbeats 4000000 in
theorem zln (a ra : Option Addr) (cap rcap : Nat) (ms : List Mnd) (kd fld : ByteArray) (row : List ByteArray) (w : World) (hm : qw w a ms) (hr : zB w ra row) (hml : ms.length <= 12) :
    Calls Tryz.prog 169 #[.slice a ms.length cap, .string kd, .string fld, .slice ra row.length rcap] w fun e w' => e = .returned (.bool (Gate.zbH ms kd fld row)) /\ Below w.heap.size w w' := by
  have HM := jE hm hr
  clear hm hr
  go_enter Tryz.func169, Tryz.ntmps169
  go_wp2_with fail
  go_loopw [9] (fun iv wr => ∃ k : Nat, k <= ms.length /\ iv = .int .i64 k /\ (ms.take k).all (Gate.yQ kd fld row) = true /\ Below w.heap.size w wr) (fun iv _ => ms.length - (intOf iv).toNat)
  case atStart => exact ⟨0, Nat.zero_le _, rfl, rfl, Below.refl _ _⟩
  case round =>
    obtain ⟨k, hk, rfl, hall, hB⟩ := hrel
    have HB := hid hB
    have HA : Hid ((ms.take k).all (Gate.yQ kd fld row) = true) := hall
    by_cases hlt : k < ms.length
    · obtain ⟨b, off, rfl, hb, c0, c1, c2, c3, c4, c5⟩ := HM.out.1.load hB k hlt
      have hltI : (k : Int) < (ms.length : Int) := by omega
      have HTK : Hid ((ms.take (k + 1)).all (Gate.yQ kd fld row) = Gate.yQ kd fld row ms[k]) := by
        unfold Hid; rw [List.take_succ_eq_append_getElem hlt, List.all_append, HA.out]; simp
      have HNO : Hid (Gate.yQ kd fld row ms[k] = false -> Gate.zbH ms kd fld row = false) := by
        intro h
        unfold Gate.zbH
        rw [List.all_eq_false]; exact ⟨_, List.getElem_mem hlt, by rw [h]; simp⟩
      have HBA : Hid (Below w.heap.size w (wr.alloc (.cells #[.string ms[k].kd, .string ms[k].fd, .string ms[k].wh, .string ms[k].wi, .string ms[k].pt, .string ms[k].fr] 121))) := hB.alloc hB.size _
      clear hall hB HA
      by_cases e1 : ms[k].kd = kd
      rotate_left
      · have he1 : (ms[k].kd.toList == kd.toList) = false := by rw [Gate.beq_toList]; simpa using e1
        have HY : Hid (Gate.yQ kd fld row ms[k] = true) := by unfold Hid Gate.yQ; simp [e1]
        clear e1
        go_wp2_with fail
        exact ⟨⟨k + 1, by omega, by go_num, by rw [HTK.out]; exact HY.out, HBA.out⟩, zk hlt⟩
      have he1 : (ms[k].kd.toList == kd.toList) = true := by rw [Gate.beq_toList]; simpa using e1
      by_cases e2 : ms[k].fd = fld
      rotate_left
      · have he2 : (ms[k].fd.toList == fld.toList) = false := by rw [Gate.beq_toList]; simpa using e2
        have HY : Hid (Gate.yQ kd fld row ms[k] = true) := by unfold Hid Gate.yQ; simp [e2]
        clear e1 e2
        go_wp2_with fail
        exact ⟨⟨k + 1, by omega, by go_num, by rw [HTK.out]; exact HY.out, HBA.out⟩, zk hlt⟩
      have he2 : (ms[k].fd.toList == fld.toList) = true := by rw [Gate.beq_toList]; simpa using e2
      have HRD : Hid (Gate.yQ kd fld row ms[k] = ((!Gate.isSet ms[k].wh || Gate.has row ms[k].wh) && (!Gate.isSet ms[k].fr || Gate.has row ms[k].fr))) := by unfold Hid Gate.yQ; simp [e1, e2]
      clear e1 e2
      rcases hwh : ms[k].wh.toList.isEmpty with _ | _ <;> rcases hfr : ms[k].fr.toList.isEmpty with _ | _
      all_goals go_wp2_with fail
      · skip
        have h := zbP ra rcap row ms[k].wh _ (HM.out.2.mono HBA.out)
        rcases hh1 : Gate.has row ms[k].wh with _ | _
        · rw [hh1] at h
          refine h.mono ?_
          rintro e w3 ⟨rfl, rfl⟩
          have HF : Hid (Gate.zbH ms kd fld row = false) := HNO.out (by rw [HRD.out]; unfold Gate.isSet; simp [*])
          clear h
          go_wp2_with fail
          go_ret
          exact ⟨by rw [HF.out]; rfl, HBA.out⟩
        · rw [hh1] at h
          refine h.mono ?_
          rintro e w3 ⟨rfl, rfl⟩
          clear h
          go_wp2_with fail
          have h := zbP ra rcap row ms[k].fr _ (HM.out.2.mono HBA.out)
          rcases hh2 : Gate.has row ms[k].fr with _ | _
          · rw [hh2] at h
            refine h.mono ?_
            rintro e w3 ⟨rfl, rfl⟩
            have HF : Hid (Gate.zbH ms kd fld row = false) := HNO.out (by rw [HRD.out]; unfold Gate.isSet; simp [*])
            clear h
            go_wp2_with fail
            go_ret
            exact ⟨by rw [HF.out]; rfl, HBA.out⟩
          · rw [hh2] at h
            refine h.mono ?_
            rintro e w3 ⟨rfl, rfl⟩
            clear h
            go_wp2_with fail
            have HY : Hid (Gate.yQ kd fld row ms[k] = true) := by unfold Hid; rw [HRD.out]; unfold Gate.isSet; simp [*]
            exact ⟨⟨k + 1, by omega, by go_num, by rw [HTK.out]; exact HY.out, HBA.out⟩, zk hlt⟩
      · skip
        have h := zbP ra rcap row ms[k].wh _ (HM.out.2.mono HBA.out)
        rcases hh1 : Gate.has row ms[k].wh with _ | _
        · rw [hh1] at h
          refine h.mono ?_
          rintro e w3 ⟨rfl, rfl⟩
          have HF : Hid (Gate.zbH ms kd fld row = false) := HNO.out (by rw [HRD.out]; unfold Gate.isSet; simp [*])
          clear h
          go_wp2_with fail
          go_ret
          exact ⟨by rw [HF.out]; rfl, HBA.out⟩
        · rw [hh1] at h
          refine h.mono ?_
          rintro e w3 ⟨rfl, rfl⟩
          clear h
          go_wp2_with fail
          have HY : Hid (Gate.yQ kd fld row ms[k] = true) := by unfold Hid; rw [HRD.out]; unfold Gate.isSet; simp [*]
          exact ⟨⟨k + 1, by omega, by go_num, by rw [HTK.out]; exact HY.out, HBA.out⟩, zk hlt⟩
      · skip
        have h := zbP ra rcap row ms[k].fr _ (HM.out.2.mono HBA.out)
        rcases hh2 : Gate.has row ms[k].fr with _ | _
        · rw [hh2] at h
          refine h.mono ?_
          rintro e w3 ⟨rfl, rfl⟩
          have HF : Hid (Gate.zbH ms kd fld row = false) := HNO.out (by rw [HRD.out]; unfold Gate.isSet; simp [*])
          clear h
          go_wp2_with fail
          go_ret
          exact ⟨by rw [HF.out]; rfl, HBA.out⟩
        · rw [hh2] at h
          refine h.mono ?_
          rintro e w3 ⟨rfl, rfl⟩
          clear h
          go_wp2_with fail
          have HY : Hid (Gate.yQ kd fld row ms[k] = true) := by unfold Hid; rw [HRD.out]; unfold Gate.isSet; simp [*]
          exact ⟨⟨k + 1, by omega, by go_num, by rw [HTK.out]; exact HY.out, HBA.out⟩, zk hlt⟩
      · skip
        have HY : Hid (Gate.yQ kd fld row ms[k] = true) := by unfold Hid; rw [HRD.out]; unfold Gate.isSet; simp [*]
        exact ⟨⟨k + 1, by omega, by go_num, by rw [HTK.out]; exact HY.out, HBA.out⟩, zk hlt⟩
    · have e : k = ms.length := by omega
      rw [e, List.take_of_length_le (Nat.le_refl _)] at hall
      have HF : Hid (Gate.zbH ms kd fld row = true) := hall
      subst e
      clear hall HA hB
      go_wp2_with fail
      go_ret
      exact ⟨by rw [HF.out]; rfl, HB.out⟩
end Go.Proofs.YtfcdmlnpfoikhaaGreat

namespace Go.Proofs.YtfcdmlnpfoikhaaGreat
open Go.RowKit
namespace Gate
def zpo : Ob := ⟨ByteArray.empty, ByteArray.empty, ByteArray.empty, [], false, [], 0⟩
def zbc (l : Lw) (team res : ByteArray) (o : Ob) : Int := if under l.ts 4 o.tm team = true then ql l.ss o res else 0
def zae (l : Lw) (os : List Ob) (team res : ByteArray) : Nat -> Int
  | 0 => 0
  | k + 1 => zae l os team res k + zbc l team res (os.getD k zpo)
def used (l : Lw) (os : List Ob) (team res : ByteArray) : Int := zae l os team res os.length
theorem znE (ss : List Shp) (o : Ob) (res : ByteArray) : 0 <= ql ss o res /\ ql ss o res <= 1 + o.sz * 10000000 := by
  have h0 : o.vs.length <= o.sz := by unfold Ob.sz zcH qj; omega
  unfold ql
  split
  · rename_i hc
    have hc1 := hc.1
    unfold zu at hc1
    simp only [Bool.and_eq_true, decide_eq_true_eq] at hc1
    have := zca (shapeOf ss o.kd).fs o.vs res (shapeOf ss o.kd).fs.length
    have h3 := hc1.2
    split <;> omega
  · omega
theorem zj1 (l : Lw) (team res : ByteArray) (o : Ob) : 0 <= zbc l team res o /\ zbc l team res o <= 1 + o.sz * 10000000 := by
  unfold zbc
  split
  · exact znE _ _ _
  · omega
theorem zeD (l : Lw) (os : List Ob) (team res : ByteArray) (k : Nat) (h : k < os.length) : zae l os team res (k + 1) = zae l os team res k + zbc l team res os[k] := by
  have e1 : os.getD k zpo = os[k] := by simp [List.getD, h]
  simp only [zae]
  rw [e1]
theorem zbs (l : Lw) (os : List Ob) (team res : ByteArray) : ∀ k, k <= os.length -> 0 <= zae l os team res k /\ zae l os team res k <= k + zaB (os.take k) * 10000000
  | 0, _ => by simp [zae, zaB]
  | k + 1, h => by
    have h1 := zbs l os team res k (by omega)
    have h2 := zj1 l team res os[k]
    have h3 : zaB (os.take (k + 1)) = zaB (os.take k) + os[k].sz := zaA Ob.sz os k h
    rw [zeD l os team res k h, h3]
    omega
end Gate
set_option maxHeartbeats 4000000 in
theorem zj9 (l : Lw) (la lb lc : Option Addr) (lca lcb lcc : Nat) (b : Bk) (a0 a1 a2 a3 : Option Addr) (c0 c1 c2 c3 : Nat) (team res : ByteArray) (w : World) (hl : qA w l la lb lc) (hb : qD w b a0 a1 a2 a3) (hz : yX b.os <= 1048576) :
    Calls Tryz.prog 197 #[.agg (l.cells la lb lc lca lcb lcc), .agg (b.cells a0 a1 a2 a3 c0 c1 c2 c3), .string team, .string res] w fun e w' => e = .returned (.int .i64 (Gate.used l b.os team res)) /\ Below w.heap.size w w' := by
  have HL : Hid (qA w l la lb lc) := hl
  have HK : Hid (qD w b a0 a1 a2 a3) := hb
  have HZ : Hid (yX b.os <= 1048576 /\ b.os.length <= 1048576) := ⟨hz, by unfold yX at hz; omega⟩
  clear hl hb hz
  unfold Lw.cells Bk.cells
  go_enter Tryz.func197, Tryz.ntmps197
  go_wp2_with fail
  obtain ⟨hX0, hY0⟩ := yR w (lC l la lb lc lca lcb lcc) (bC b a0 a1 a2 a3 c0 c1 c2 c3) 41 48
  have HB0 : Hid (Below w.heap.size w ((w.alloc (.cells (lC l la lb lc lca lcb lcc) 41)).alloc (.cells (bC b a0 a1 a2 a3 c0 c1 c2 c3) 48))) := zq w _ _
  obtain ⟨W0, hW0⟩ : ∃ W0, W0 = (w.alloc (.cells (lC l la lb lc lca lcb lcc) 41)).alloc (.cells (bC b a0 a1 a2 a3 c0 c1 c2 c3) 48) := ⟨_, rfl⟩
  have hz0 : w.heap.size + 1 < W0.heap.size := by rw [hW0]; simp
  rw [<- hW0] at HB0 hX0 hY0 ⊢
  clear hW0
  go_loopw [9, 15] (fun nv iv wr => ∃ (k : Nat) (s : Int), k <= b.os.length /\ iv = .int .i64 k /\ nv = .int .i64 s /\ Hid (s = Gate.zae l b.os team res k /\ Below W0.heap.size W0 wr)) (fun _ iv _ => b.os.length - (intOf iv).toNat)
  case atStart => exact ⟨0, 0, Nat.zero_le _, rfl, rfl, by simp [Gate.zae], Below.refl _ _⟩
  case round =>
    obtain ⟨k, s, hk, rfl, rfl, HQ⟩ := hrel
    have hsb : 0 <= s /\ s <= 20000000000000 := by
      have h1 := HQ.out.1; have h2 := Gate.zbs l b.os team res k hk; have h3 := HZ.out
      have h4 : zaB (b.os.take k) <= zaB b.os := zb0 Ob.sz b.os k
      unfold yX at h3
      omega
    have hkn : k <= 1048576 := by have := HZ.out.2; omega
    by_cases hlt : k < b.os.length
    · obtain ⟨ob, off, v0, v1, q0, q1, rfl, hob, hsm, hl0, hl1, d0, d1, d2, d3, d4, d5, d6⟩ := HK.out.os.load (HB0.out.trans (HQ.out.2.mono HB0.out.size)) k hlt
      have hob' := Nat.lt_of_lt_of_le hob (HB0.out.trans (HQ.out.2.mono HB0.out.size)).size
      have hltI : (k : Int) < (b.os.length : Int) := by omega
      have hX := za hX0 (Nat.lt_of_succ_lt hz0) HQ.out.2
      have hz := Nat.lt_of_lt_of_le hz0 HQ.out.2.size
      have hzX := Nat.lt_of_succ_lt hz
      have HSt := hid (Gate.zeD l b.os team res k hlt)
      have HOo : Hid (qL wr b.os[k] v0 v1) := ⟨hsm, hl0, hl1⟩
      have HOl : Hid (b.os[k].vs.length <= 1048576) := by
        have h3 := HZ.out.1
        have := (zkh (left := 1048576) (ms := b.os) (by omega) (by omega)).2 k hlt
        exact this.1
      have hub := Gate.zj1 l team res b.os[k]
      have hwb := Gate.zft l.ss b.os[k] res HOl.out
      clear hsm hl0 hl1 hub
      go_wp2_with fail
      have hb1 : Below wr.heap.size wr (wr.alloc (.cells (oC b.os[k] v0 v1 q0 q1) 115)) := (Below.refl _ _).alloc (Nat.le_refl _) _
      have hN := zH wr (oC b.os[k] v0 v1 q0 q1) 115
      obtain ⟨w1, hw1⟩ : ∃ w1, w1 = wr.alloc (.cells (oC b.os[k] v0 v1 q0 q1) 115) := ⟨_, rfl⟩
      have hn1 : wr.heap.size < w1.heap.size := by rw [hw1]; simp
      rw [<- hw1] at hb1 hN ⊢
      clear hw1 d0 d1 d2 d3 d4 d5 d6
      have HB1 := hid (HQ.out.2.trans (hb1.mono HQ.out.2.size))
      have hX1 := za hX (Nat.lt_of_succ_lt hz) hb1
      have HO1 := hid (HOo.out.mono hb1)
      have hz1 := Nat.lt_trans hz hn1
      clear hb1 hX
      refine (ziT _ _ l.ts b.os[k].tm team _ (HL.out.ts.mono (HB0.out.trans (HB1.out.mono HB0.out.size)))).mono ?_
      rintro e w2 ⟨rfl, hb2⟩
      have HB2 := hid (HB1.out.trans (hb2.mono HB1.out.size))
      have hX2 := za hX1 (Nat.lt_of_succ_lt hz1) hb2
      have hN2 := za hN hn1 hb2
      have HO2 := hid (HO1.out.mono hb2)
      have hz2 := Nat.lt_of_lt_of_le hz1 hb2.size
      have hn2 := Nat.lt_of_lt_of_le hn1 hb2.size
      clear hb2 hX1 hN
      by_cases hu : Gate.under l.ts 4 b.os[k].tm team = true
      · have HU : Hid (Gate.zbc l team res b.os[k] = Gate.ql l.ss b.os[k] res) := by unfold Hid Gate.zbc; rw [if_pos hu]
        rw [hu]
        clear hu
        go_wp2_with fail
        refine (zhY l _ _ _ _ _ _ b.os[k] _ _ _ _ res _ (HL.out.mono (HB0.out.trans (HB2.out.mono HB0.out.size))) HO2.out HOl.out).mono ?_
        rintro e w3 ⟨rfl, hb3⟩
        have HB3 := hid (HB2.out.trans (hb3.mono HB2.out.size))
        clear hb3
        go_wp2_with fail
        exact ⟨⟨k + 1, s + Gate.ql l.ss b.os[k] res, by omega, by go_num, by go_num, by rw [HSt.out, HU.out, HQ.out.1], HB3.out⟩, zk hlt⟩
      · have hu' : Gate.under l.ts 4 b.os[k].tm team = false := by simpa using hu
        have HU : Hid (Gate.zbc l team res b.os[k] = 0) := by unfold Hid Gate.zbc; rw [if_neg hu]
        rw [hu']
        clear hu hu'
        go_wp2_with fail
        exact ⟨⟨k + 1, s, by omega, by go_num, rfl, by rw [HSt.out, HU.out, HQ.out.1]; omega, HB2.out⟩, zk hlt⟩
    · have e : k = b.os.length := by omega
      subst e
      have HE : Hid (Gate.used l b.os team res = s) := by unfold Hid Gate.used; rw [HQ.out.1]
      clear hlt hk
      go_wp2_with fail
      go_ret
      exact ⟨zl HE.out.symm, HB0.out.trans (HQ.out.2.mono HB0.out.size)⟩
end Go.Proofs.YtfcdmlnpfoikhaaGreat

namespace Go.Proofs.YtfcdmlnpfoikhaaGreat
open Go.RowKit
set_option maxHeartbeats 4000000 in
theorem zkt (l : Lw) (la lb lc : Option Addr) (lca lcb lcc : Nat) (b : Bk) (a0 a1 a2 a3 : Option Addr) (c0 c1 c2 c3 : Nat) (team res : ByteArray) (w : World) (hl : qA w l la lb lc) (hb : qD w b a0 a1 a2 a3) (hz : yX b.os <= 1048576) :
    Calls Tryz.prog 99 #[.agg (l.cells la lb lc lca lcb lcc), .agg (b.cells a0 a1 a2 a3 c0 c1 c2 c3), .string team, .string res] w fun e w' => e = .returned (.int .i64 (Gate.used l b.os team res)) /\ Below w.heap.size w w' := by
  have HL : Hid (qA w l la lb lc) := hl
  have HK : Hid (qD w b a0 a1 a2 a3) := hb
  have HZ : Hid (yX b.os <= 1048576 /\ b.os.length <= 1048576) := ⟨hz, by unfold yX at hz; omega⟩
  clear hl hb hz
  unfold Lw.cells Bk.cells
  go_enter Tryz.func99, Tryz.ntmps99
  go_wp2_with fail
  obtain ⟨hX0, hY0⟩ := yR w (lC l la lb lc lca lcb lcc) (bC b a0 a1 a2 a3 c0 c1 c2 c3) 41 48
  have HB0 : Hid (Below w.heap.size w ((w.alloc (.cells (lC l la lb lc lca lcb lcc) 41)).alloc (.cells (bC b a0 a1 a2 a3 c0 c1 c2 c3) 48))) := zq w _ _
  obtain ⟨W0, hW0⟩ : ∃ W0, W0 = (w.alloc (.cells (lC l la lb lc lca lcb lcc) 41)).alloc (.cells (bC b a0 a1 a2 a3 c0 c1 c2 c3) 48) := ⟨_, rfl⟩
  have hz0 : w.heap.size + 1 < W0.heap.size := by rw [hW0]; simp
  rw [<- hW0] at HB0 hX0 hY0 ⊢
  clear hW0
  go_loopw [9, 10] (fun nv iv wr => ∃ (k : Nat) (s : Int), k <= b.os.length /\ iv = .int .i64 k /\ nv = .int .i64 s /\ Hid (s = Gate.zae l b.os team res k /\ Below W0.heap.size W0 wr)) (fun _ iv _ => b.os.length - (intOf iv).toNat)
  case atStart => exact ⟨0, 0, Nat.zero_le _, rfl, rfl, by simp [Gate.zae], Below.refl _ _⟩
  case round =>
    obtain ⟨k, s, hk, rfl, rfl, HQ⟩ := hrel
    have hsb : 0 <= s /\ s <= 20000000000000 := by
      have h1 := HQ.out.1; have h2 := Gate.zbs l b.os team res k hk; have h3 := HZ.out
      have h4 : zaB (b.os.take k) <= zaB b.os := zb0 Ob.sz b.os k
      unfold yX at h3
      omega
    have hX := za hX0 (Nat.lt_of_succ_lt hz0) HQ.out.2
    have hY := za hY0 hz0 HQ.out.2
    have hz := Nat.lt_of_lt_of_le hz0 HQ.out.2.size
    have hzX := Nat.lt_of_succ_lt hz
    have hkn : k <= 1048576 := by have := HZ.out.2; omega
    by_cases hlt : k < b.os.length
    · obtain ⟨ob, off, v0, v1, q0, q1, rfl, hob, hsm, hl0, hl1, d0, d1, d2, d3, d4, d5, d6⟩ := HK.out.os.load (HB0.out.trans (HQ.out.2.mono HB0.out.size)) k hlt
      have hob' := Nat.lt_of_lt_of_le hob (HB0.out.trans (HQ.out.2.mono HB0.out.size)).size
      have hltI : (k : Int) < (b.os.length : Int) := by omega
      have HSt : Hid (Gate.zae l b.os team res (k + 1) = Gate.zae l b.os team res k + Gate.zbc l team res b.os[k]) := Gate.zeD l b.os team res k hlt
      have HOo : Hid (qL wr b.os[k] v0 v1) := ⟨hsm, hl0, hl1⟩
      have HOl : Hid (b.os[k].vs.length <= 1048576) := by
        have h3 := HZ.out.1
        have := (zkh (left := 1048576) (ms := b.os) (by omega) (by omega)).2 k hlt
        exact this.1
      have hwb := Gate.zft l.ss b.os[k] res HOl.out
      have HBr : Hid (Below w.heap.size w wr) := HB0.out.trans (HQ.out.2.mono HB0.out.size)
      clear hsm hl0 hl1
      go_wp2_with fail
      have HS : Hid ((∀ j, wr.cell? ⟨w.heap.size, j, none⟩ = (lC l la lb lc lca lcb lcc)[j]?) /\ (∀ j, wr.cell? ⟨w.heap.size + 1, j, none⟩ = (bC b (some ⟨ob, off, none⟩) a1 a2 a3 c0 c1 c2 c3)[j]?) /\ wr.cell? ⟨ob, off + k * 7, none⟩ = some (.string b.os[k].kd) /\ wr.cell? ⟨ob, off + k * 7 + 1, none⟩ = some (.string b.os[k].nm) /\ wr.cell? ⟨ob, off + k * 7 + 2, none⟩ = some (.string b.os[k].tm) /\ wr.cell? ⟨ob, off + k * 7 + 3, none⟩ = some (.slice v0 b.os[k].vs.length q0) /\ wr.cell? ⟨ob, off + k * 7 + 4, none⟩ = some (.bool b.os[k].en) /\ wr.cell? ⟨ob, off + k * 7 + 5, none⟩ = some (.slice v1 b.os[k].hs.length q1) /\ wr.cell? ⟨ob, off + k * 7 + 6, none⟩ = some (.int .i64 b.os[k].vr)) := ⟨hX, hY, d0, d1, d2, d3, d4, d5, d6⟩
      have hS : (∀ j, wr.drew.cell? ⟨w.heap.size, j, none⟩ = (lC l la lb lc lca lcb lcc)[j]?) /\ (∀ j, wr.drew.cell? ⟨w.heap.size + 1, j, none⟩ = (bC b (some ⟨ob, off, none⟩) a1 a2 a3 c0 c1 c2 c3)[j]?) /\ wr.drew.cell? ⟨ob, off + k * 7, none⟩ = some (.string b.os[k].kd) /\ wr.drew.cell? ⟨ob, off + k * 7 + 1, none⟩ = some (.string b.os[k].nm) /\ wr.drew.cell? ⟨ob, off + k * 7 + 2, none⟩ = some (.string b.os[k].tm) /\ wr.drew.cell? ⟨ob, off + k * 7 + 3, none⟩ = some (.slice v0 b.os[k].vs.length q0) /\ wr.drew.cell? ⟨ob, off + k * 7 + 4, none⟩ = some (.bool b.os[k].en) /\ wr.drew.cell? ⟨ob, off + k * 7 + 5, none⟩ = some (.slice v1 b.os[k].hs.length q1) /\ wr.drew.cell? ⟨ob, off + k * 7 + 6, none⟩ = some (.int .i64 b.os[k].vr) := HS.out
      clear hX hY d0 d1 d2 d3 d4 d5 d6
      go_region_held3 (fun w' => (∀ j, w'.cell? ⟨w.heap.size, j, none⟩ = (lC l la lb lc lca lcb lcc)[j]?) /\ (∀ j, w'.cell? ⟨w.heap.size + 1, j, none⟩ = (bC b (some ⟨ob, off, none⟩) a1 a2 a3 c0 c1 c2 c3)[j]?) /\ w'.cell? ⟨ob, off + k * 7, none⟩ = some (.string b.os[k].kd) /\ w'.cell? ⟨ob, off + k * 7 + 1, none⟩ = some (.string b.os[k].nm) /\ w'.cell? ⟨ob, off + k * 7 + 2, none⟩ = some (.string b.os[k].tm) /\ w'.cell? ⟨ob, off + k * 7 + 3, none⟩ = some (.slice v0 b.os[k].vs.length q0) /\ w'.cell? ⟨ob, off + k * 7 + 4, none⟩ = some (.bool b.os[k].en) /\ w'.cell? ⟨ob, off + k * 7 + 5, none⟩ = some (.slice v1 b.os[k].hs.length q1) /\ w'.cell? ⟨ob, off + k * 7 + 6, none⟩ = some (.int .i64 b.os[k].vr)) (exact hS) (first | (go_at_call 131; refine (zi2 _ _ l.ts b.os[k].tm team _ (by exact HL.out.ts.mono HBr.out.drew)).mono ?_; rintro e w1 ⟨rfl, rfl⟩))
      obtain ⟨w2, hw2⟩ : ∃ w2, w2 = wr.drew := ⟨_, rfl⟩
      have hB2 : Below W0.heap.size W0 w2 := by rw [hw2]; exact HQ.out.2.drew
      have HBr2 : Hid (Below w.heap.size w w2) := by unfold Hid; rw [hw2]; exact HBr.out.drew
      have HO2 : Hid (qL w2 b.os[k] v0 v1) := by unfold Hid; rw [hw2]; exact HOo.out.mono (Below.refl _ _).drew
      have hS2 : (∀ j, w2.cell? ⟨w.heap.size, j, none⟩ = (lC l la lb lc lca lcb lcc)[j]?) /\ (∀ j, w2.cell? ⟨w.heap.size + 1, j, none⟩ = (bC b (some ⟨ob, off, none⟩) a1 a2 a3 c0 c1 c2 c3)[j]?) /\ w2.cell? ⟨ob, off + k * 7, none⟩ = some (.string b.os[k].kd) /\ w2.cell? ⟨ob, off + k * 7 + 1, none⟩ = some (.string b.os[k].nm) /\ w2.cell? ⟨ob, off + k * 7 + 2, none⟩ = some (.string b.os[k].tm) /\ w2.cell? ⟨ob, off + k * 7 + 3, none⟩ = some (.slice v0 b.os[k].vs.length q0) /\ w2.cell? ⟨ob, off + k * 7 + 4, none⟩ = some (.bool b.os[k].en) /\ w2.cell? ⟨ob, off + k * 7 + 5, none⟩ = some (.slice v1 b.os[k].hs.length q1) /\ w2.cell? ⟨ob, off + k * 7 + 6, none⟩ = some (.int .i64 b.os[k].vr) := by rw [hw2]; exact hS
      have hz2 : w.heap.size + 1 < w2.heap.size := by rw [hw2]; exact hz
      have hzX2 := Nat.lt_of_succ_lt hz2
      have hob2 : ob < w2.heap.size := by rw [hw2]; exact hob'
      have HB2 : Hid (Below W0.heap.size W0 w2) := hB2
      rw [<- hw2]
      clear hw2 hS HS hB2 hz hzX hob'
      by_cases hu : Gate.under l.ts 4 b.os[k].tm team = true
      · have HU : Hid (Gate.zbc l team res b.os[k] = Gate.ql l.ss b.os[k] res) := by unfold Hid Gate.zbc; rw [if_pos hu]
        rw [hu]
        clear hu
        have hS : (∀ j, w2.drew.cell? ⟨w.heap.size, j, none⟩ = (lC l la lb lc lca lcb lcc)[j]?) /\ (∀ j, w2.drew.cell? ⟨w.heap.size + 1, j, none⟩ = (bC b (some ⟨ob, off, none⟩) a1 a2 a3 c0 c1 c2 c3)[j]?) /\ w2.drew.cell? ⟨ob, off + k * 7, none⟩ = some (.string b.os[k].kd) /\ w2.drew.cell? ⟨ob, off + k * 7 + 1, none⟩ = some (.string b.os[k].nm) /\ w2.drew.cell? ⟨ob, off + k * 7 + 2, none⟩ = some (.string b.os[k].tm) /\ w2.drew.cell? ⟨ob, off + k * 7 + 3, none⟩ = some (.slice v0 b.os[k].vs.length q0) /\ w2.drew.cell? ⟨ob, off + k * 7 + 4, none⟩ = some (.bool b.os[k].en) /\ w2.drew.cell? ⟨ob, off + k * 7 + 5, none⟩ = some (.slice v1 b.os[k].hs.length q1) /\ w2.drew.cell? ⟨ob, off + k * 7 + 6, none⟩ = some (.int .i64 b.os[k].vr) := hS2
        clear hS2
        go_wp2_with fail
        go_region_held3 (fun w' => (∀ j, w'.cell? ⟨w.heap.size, j, none⟩ = (lC l la lb lc lca lcb lcc)[j]?) /\ (∀ j, w'.cell? ⟨w.heap.size + 1, j, none⟩ = (bC b (some ⟨ob, off, none⟩) a1 a2 a3 c0 c1 c2 c3)[j]?) /\ w'.cell? ⟨ob, off + k * 7, none⟩ = some (.string b.os[k].kd) /\ w'.cell? ⟨ob, off + k * 7 + 1, none⟩ = some (.string b.os[k].nm) /\ w'.cell? ⟨ob, off + k * 7 + 2, none⟩ = some (.string b.os[k].tm) /\ w'.cell? ⟨ob, off + k * 7 + 3, none⟩ = some (.slice v0 b.os[k].vs.length q0) /\ w'.cell? ⟨ob, off + k * 7 + 4, none⟩ = some (.bool b.os[k].en) /\ w'.cell? ⟨ob, off + k * 7 + 5, none⟩ = some (.slice v1 b.os[k].hs.length q1) /\ w'.cell? ⟨ob, off + k * 7 + 6, none⟩ = some (.int .i64 b.os[k].vr)) (exact hS) (first | (go_at_call 132; refine (ziH l _ _ _ _ _ _ b.os[k] _ _ _ _ res _ (by exact HL.out.mono HBr2.out.drew) (by exact HO2.out.mono (Below.refl _ _).drew) HOl.out).mono ?_; rintro e w3 ⟨rfl, hb3⟩; have hS := (⟨za hS.1 hzX2 hb3, za hS.2.1 hz2 hb3, (hb3.cell (p := ⟨ob, _, none⟩) hob2).trans hS.2.2.1, (hb3.cell (p := ⟨ob, _, none⟩) hob2).trans hS.2.2.2.1, (hb3.cell (p := ⟨ob, _, none⟩) hob2).trans hS.2.2.2.2.1, (hb3.cell (p := ⟨ob, _, none⟩) hob2).trans hS.2.2.2.2.2.1, (hb3.cell (p := ⟨ob, _, none⟩) hob2).trans hS.2.2.2.2.2.2.1, (hb3.cell (p := ⟨ob, _, none⟩) hob2).trans hS.2.2.2.2.2.2.2.1, (hb3.cell (p := ⟨ob, _, none⟩) hob2).trans hS.2.2.2.2.2.2.2.2⟩ : _ /\ _ /\ _ /\ _ /\ _ /\ _ /\ _ /\ _ /\ _); have hB3 := HB2.out.drew.trans (hb3.mono HB2.out.drew.size); clear hb3))
        go_wp2_with fail
        refine ⟨⟨k + 1, s + Gate.ql l.ss b.os[k] res, by omega, by go_num, ?_, by rw [HSt.out, HU.out, HQ.out.1], hB3⟩, zk hlt⟩
        have hw : IntKind.i64.wrap (s + Gate.ql l.ss b.os[k] res) = s + Gate.ql l.ss b.os[k] res := by
          rw [IntKind.wrap_i64]
          omega
        rw [hw]
      · have hu' : Gate.under l.ts 4 b.os[k].tm team = false := by simpa using hu
        have HU : Hid (Gate.zbc l team res b.os[k] = 0) := by unfold Hid Gate.zbc; rw [if_neg hu]
        rw [hu']
        clear hu hu'
        go_wp2_with fail
        exact ⟨⟨k + 1, s, by omega, by go_num, rfl, by rw [HSt.out, HU.out, HQ.out.1]; omega, HB2.out⟩, zk hlt⟩
    · have e : k = b.os.length := by omega
      subst e
      have HE : Hid (Gate.used l b.os team res = s) := by unfold Hid Gate.used; rw [HQ.out.1]
      clear hlt hk
      go_wp2_with fail
      go_ret
      exact ⟨zl HE.out.symm, HB0.out.trans (HQ.out.2.mono HB0.out.size)⟩
end Go.Proofs.YtfcdmlnpfoikhaaGreat

namespace Go.Proofs.YtfcdmlnpfoikhaaGreat
open Go.RowKit
namespace Gate
def zhz (ss : List Shp) (o : Ob) : List ByteArray := if zD ss o.kd = true /\ zP ss = true /\ o.vs.length = (shapeOf ss o.kd).fs.length then jK (shapeOf ss o.kd).fs o.vs else o.vs
end Gate
def zfm (o : Ob) (vs : List ByteArray) (w : World) (e : Ending) (w' : World) : Prop :=
  ∃ a dap a' dap' m, e = .returned (.agg (oC o a a' dap dap')) /\ zn w.heap.size w' a vs /\ (∀ g, a = some g -> g.block < m) /\ w.heap.size <= m /\ zn m w' a' o.hs /\ Below w.heap.size w w'
end Go.Proofs.YtfcdmlnpfoikhaaGreat

namespace Go.Proofs.YtfcdmlnpfoikhaaGreat
open Go.RowKit
theorem zpk {fs : List Fld} (h : zbk fs) : ∀ f ∈ fs, f.df.size <= maxLen := by
  intro f hf
  obtain ⟨i, hi, rfl⟩ := List.mem_iff_getElem.1 hf
  exact (h.small i hi).1.df
theorem zmS {ss : List Shp} {o : Ob} (hs : zcM ss) (ho : ∀ s ∈ o.vs, s.size <= maxLen) : ∀ s ∈ Gate.zhz ss o, s.size <= maxLen := by
  unfold Gate.zhz
  split
  · rename_i h
    have hf : zbk (Gate.shapeOf ss o.kd).fs := by
      obtain ⟨hk, _, _⟩ := h
      unfold Gate.zD at hk
      rw [List.any_eq_true] at hk
      obtain ⟨x, hx, he⟩ := hk
      unfold Gate.shapeOf
      cases hfi : ss.find? (fun s => decide (s.kd = o.kd)) with
      | none => rw [List.find?_eq_none] at hfi; exact absurd he (hfi x hx)
      | some y =>
        obtain ⟨i, hi, rfl⟩ := List.mem_iff_getElem.1 (List.mem_of_find?_eq_some hfi)
        exact (hs.small i hi).2.2
    intro s hm
    obtain ⟨i, hi, rfl⟩ := List.mem_iff_getElem.1 hm
    have hl := Gate.y8 h.2.2
    have e : (Gate.jK (Gate.shapeOf ss o.kd).fs o.vs)[i] = Gate.jS ((Gate.shapeOf ss o.kd).fs[i]'(by have := h.2.2; omega)) (o.vs[i]'(by omega)) := by simp [Gate.jK]
    rw [e]
    unfold Gate.jS
    split
    · exact zpk hf _ (List.getElem_mem _)
    · exact ho _ (List.getElem_mem _)
  · exact ho
end Go.Proofs.YtfcdmlnpfoikhaaGreat

namespace Go.Proofs.YtfcdmlnpfoikhaaGreat
open Go.RowKit
def Kept (lo hi : Nat) (w w' : World) : Prop := ∀ (k : Nat) (C : Array Value) (t : TypeId), lo <= k -> k < hi -> w.heap[k]? = some (.cells C t) -> ∃ C' : Array Value, w'.heap[k]? = some (.cells C' t) /\ C'.size = C.size /\ ∀ (j : Nat) a n c, C'[j]? = some (Value.slice a n c) ↔ C[j]? = some (Value.slice a n c)
theorem Marked.kept {lo hi : Nat} {w w' : World} (h : Marked lo hi w w') : Kept lo hi w w' := h.inn
theorem Kept.of_below {lo hi : Nat} {w w' : World} (h : Below w.heap.size w w') : Kept lo hi w w' := (Marked.of_below h).kept
theorem Kept.apart {lo hi lo' hi' : Nat} {w w' : World} (h : Marked lo hi w w') (ha : hi <= lo' \/ hi' <= lo) : Kept lo' hi' w w' := fun k C _ h1 h2 hC => ⟨C, (h.out k (Array.getElem?_eq_some_iff.1 hC).1 (by omega)).trans hC, rfl, fun _ _ _ _ => Iff.rfl⟩
theorem q9.kept {lo hi : Nat} {w w' : World} {b n : Nat} (h : q9 lo hi w b n) (hM : Kept lo hi w w') : q9 lo hi w' b n := by
  obtain ⟨C, hC, hs, hn⟩ := h.rows
  obtain ⟨C', hC', hs', hk⟩ := hM b C _ h.low h.high hC
  exact ⟨h.low, h.high, C', hC', by omega, fun j hj a m c he => hn j hj a m c ((hk j a m c).1 he)⟩
theorem qN.kept {lo hi : Nat} {w w' : World} {b : Nat} {fs : List Fld} (h : qN lo hi w b fs) (hM : Kept lo hi w w') : qN lo hi w' b fs := by
  obtain ⟨C, hC, hs, hn⟩ := h.rows
  obtain ⟨C', hC', hs', hk⟩ := hM b C _ h.low h.high hC
  refine ⟨h.low, h.high, C', hC', by omega, fun i hi => ?_⟩
  obtain ⟨bk, cap, h1, h2, h3⟩ := hn i hi
  exact ⟨bk, cap, h1.kept hM, (hk _ _ _ _).2 h2, fun j hj hj4 a m c he => h3 j hj hj4 a m c ((hk _ a m c).1 he)⟩
theorem qY.kept {lo hi : Nat} {w w' : World} {b : Nat} {ss : List Shp} (h : qY lo hi w b ss) (hM : Kept lo hi w w') : qY lo hi w' b ss := by
  obtain ⟨C, hC, hs, hn⟩ := h.rows
  obtain ⟨C', hC', hs', hk⟩ := hM b C _ h.low h.high hC
  refine ⟨h.low, h.high, C', hC', by omega, fun i hi => ?_⟩
  obtain ⟨bk, cap, h1, h2, h3⟩ := hn i hi
  exact ⟨bk, cap, h1.kept hM, (hk _ _ _ _).2 h2, fun a m c he => h3 a m c ((hk _ a m c).1 he)⟩
theorem jo.kept {lo hi : Nat} {w w' : World} {b : Nat} {ms : List Mnd} (h : jo lo hi w b ms) (hM : Kept lo hi w w') : jo lo hi w' b ms := by
  obtain ⟨C, hC, hs, hn⟩ := h.rows
  obtain ⟨C', hC', hs', hk⟩ := hM b C _ h.low h.high hC
  exact ⟨h.low, h.high, C', hC', by omega, fun j hj a m c he => hn j hj a m c ((hk j a m c).1 he)⟩
theorem zad.kept {lo hi : Nat} {w w' : World} {b : Nat} {ms : List Tm} (h : zad lo hi w b ms) (hM : Kept lo hi w w') : zad lo hi w' b ms := by
  obtain ⟨C, hC, hs, hn⟩ := h.rows
  obtain ⟨C', hC', hs', hk⟩ := hM b C _ h.low h.high hC
  refine ⟨h.low, h.high, C', hC', by omega, fun i hi => ?_⟩
  have h0 := hn i hi
  exact fun j hj a m c he => h0 j hj a m c ((hk _ a m c).1 he)
theorem zac.kept {lo hi : Nat} {w w' : World} {b : Nat} {ms : List Lg} (h : zac lo hi w b ms) (hM : Kept lo hi w w') : zac lo hi w' b ms := by
  obtain ⟨C, hC, hs, hn⟩ := h.rows
  obtain ⟨C', hC', hs', hk⟩ := hM b C _ h.low h.high hC
  refine ⟨h.low, h.high, C', hC', by omega, fun i hi => ?_⟩
  have h0 := hn i hi
  exact fun j hj a m c he => h0 j hj a m c ((hk _ a m c).1 he)
theorem zaa.kept {lo hi : Nat} {w w' : World} {b : Nat} {ms : List Pu} (h : zaa lo hi w b ms) (hM : Kept lo hi w w') : zaa lo hi w' b ms := by
  obtain ⟨C, hC, hs, hn⟩ := h.rows
  obtain ⟨C', hC', hs', hk⟩ := hM b C _ h.low h.high hC
  refine ⟨h.low, h.high, C', hC', by omega, fun i hi => ?_⟩
  have h0 := hn i hi
  exact fun j hj a m c he => h0 j hj a m c ((hk _ a m c).1 he)
theorem zay.kept {lo hi : Nat} {w w' : World} {b n : Nat} (h : zay lo hi w b n) (hM : Kept lo hi w w') : zay lo hi w' b n := by
  obtain ⟨C, hC, hs, hn⟩ := h.rows
  obtain ⟨C', hC', hs', hk⟩ := hM b C _ h.low h.high hC
  exact ⟨h.low, h.high, C', hC', by omega, fun j hj a m c he => hn j hj a m c ((hk j a m c).1 he)⟩
theorem jG.kept {lo hi : Nat} {w w' : World} {b : Nat} {ms : List Gr} (h : jG lo hi w b ms) (hM : Kept lo hi w w') : jG lo hi w' b ms := by
  obtain ⟨C, hC, hs, hn⟩ := h.rows
  obtain ⟨C', hC', hs', hk⟩ := hM b C _ h.low h.high hC
  refine ⟨h.low, h.high, C', hC', by omega, fun i hi => ?_⟩
  obtain ⟨h0, bk, cap, f1, g1⟩ := hn i hi
  exact ⟨fun j hj n3 a m c he => h0 j hj n3 a m c ((hk _ a m c).1 he), bk, cap, f1.kept hM, (hk _ _ _ _).2 g1⟩
theorem jd.kept {lo hi : Nat} {w w' : World} {b : Nat} {ms : List Ob} (h : jd lo hi w b ms) (hM : Kept lo hi w w') : jd lo hi w' b ms := by
  obtain ⟨C, hC, hs, hn⟩ := h.rows
  obtain ⟨C', hC', hs', hk⟩ := hM b C _ h.low h.high hC
  refine ⟨h.low, h.high, C', hC', by omega, fun i hi => ?_⟩
  obtain ⟨h0, ⟨bk, cap, f1, g1⟩, ⟨bk2, cap2, f2, g2⟩⟩ := hn i hi
  exact ⟨fun j hj n3 n5 a m c he => h0 j hj n3 n5 a m c ((hk _ a m c).1 he), ⟨bk, cap, f1.kept hM, (hk _ _ _ _).2 g1⟩, ⟨bk2, cap2, f2.kept hM, (hk _ _ _ _).2 g2⟩⟩
structure zdD (lo hi : Nat) (w : World) (l : Lw) (a b c : Nat) : Prop where
  ss : qY lo hi w a l.ss
  ms : jo lo hi w b l.ms
  ts : zad lo hi w c l.ts
structure zdL (lo hi : Nat) (w : World) (b : Bk) (g0 g1 g2 g3 : Nat) : Prop where
  os : jd lo hi w g0 b.os
  gs : jG lo hi w g1 b.gs
  ls : zac lo hi w g2 b.ls
  ps : zaa lo hi w g3 b.ps
theorem zdD.kept {lo hi : Nat} {w w' : World} {l : Lw} {a b c : Nat} (h : zdD lo hi w l a b c) (hM : Kept lo hi w w') : zdD lo hi w' l a b c := ⟨h.ss.kept hM, h.ms.kept hM, h.ts.kept hM⟩
theorem zdL.kept {lo hi : Nat} {w w' : World} {b : Bk} {g0 g1 g2 g3 : Nat} (h : zdL lo hi w b g0 g1 g2 g3) (hM : Kept lo hi w w') : zdL lo hi w' b g0 g1 g2 g3 := ⟨h.os.kept hM, h.gs.kept hM, h.ls.kept hM, h.ps.kept hM⟩
theorem zdD.mono {lo hi : Nat} {w w' : World} {l : Lw} {a b c : Nat} (h : zdD lo hi w l a b c) (hb : Below w.heap.size w w') : zdD lo hi w' l a b c := h.kept (Kept.of_below hb)
theorem zdL.mono {lo hi : Nat} {w w' : World} {b : Bk} {g0 g1 g2 g3 : Nat} (h : zdL lo hi w b g0 g1 g2 g3) (hb : Below w.heap.size w w') : zdL lo hi w' b g0 g1 g2 g3 := h.kept (Kept.of_below hb)
theorem zgy.form {lo : Nat} {w : World} {l : Lw} {a b c : Nat} (h : zgy lo w l a b c) : zdD lo w.heap.size w l a b c := ⟨h.ss.form, h.ms.form, h.ts.form⟩
theorem zgn.form {lo : Nat} {w : World} {b : Bk} {g0 g1 g2 g3 : Nat} (h : zgn lo w b g0 g1 g2 g3) : zdL lo w.heap.size w b g0 g1 g2 g3 := ⟨h.os.form, h.gs.form, h.ls.form, h.ps.form⟩
set_option maxHeartbeats 4000000 in
theorem zf2 (l : Lw) (a b c ca cb cc : Nat) (lo hi : Nat) (k : Int) (w : World) (h : zdD lo hi w l a b c) (hf : l.Few) (hhi : hi <= w.heap.size) (hk : 0 < k) (hk2 : k < 1000000000000000000) :
    Calls Tryz.prog 13 #[.agg (lC l (some ⟨a, 0, none⟩) (some ⟨b, 0, none⟩) (some ⟨c, 0, none⟩) ca cb cc), .int .i64 k] w fun e w' => ∃ k', e = .returned (.int .i64 k') /\ 0 < k' /\ k' < 3000000000000000000 /\ Marked lo hi w w' := by
  have HF := hid h
  have HL := hid hf
  have HK : Hid (0 < k /\ k < 1000000000000000000) := ⟨hk, hk2⟩
  clear h hf hk hk2
  go_enter Tryz.func13, Tryz.ntmps13
  go_wp2_with fail
  have hX0 := zH w (lC l (some ⟨a, 0, none⟩) (some ⟨b, 0, none⟩) (some ⟨c, 0, none⟩) ca cb cc) 41
  have HM0 : Hid (Marked lo hi w (w.alloc (.cells (lC l (some ⟨a, 0, none⟩) (some ⟨b, 0, none⟩) (some ⟨c, 0, none⟩) ca cb cc) 41))) := Marked.of_below ((Below.refl _ _).alloc (Nat.le_refl _) _)
  obtain ⟨W0, hW0⟩ : ∃ W0, W0 = w.alloc (.cells (lC l (some ⟨a, 0, none⟩) (some ⟨b, 0, none⟩) (some ⟨c, 0, none⟩) ca cb cc) 41) := ⟨_, rfl⟩
  have hz0 : w.heap.size < W0.heap.size := by rw [hW0]; simp
  rw [<- hW0] at hX0 HM0 ⊢
  clear hW0
  refine (zeC lo hi _ _ _ _ _ (HF.out.ss.mono HM0.out) HL.out.ss.1 HL.out.ss.2 (by have a0 := HK.out; omega) (by have a0 := HK.out; omega)).mono ?_
  rintro e w1 ⟨k1, rfl, h1, h2, hM⟩
  have HK1 : Hid (k <= k1 /\ k1 <= k + 1200000000000000000) := ⟨h1, by have := HL.out; have c1 := HL.out.ss.1; omega⟩
  have HM1 := hid (HM0.out.trans hM)
  have hX1 := hM.box hX0 hz0 (Or.inr hhi)
  have hz1 := Nat.lt_of_lt_of_le hz0 hM.size
  clear h1 h2 hM hX0 hz0
  go_wp2_with fail
  refine (ze2 lo hi _ _ _ _ _ (HF.out.ms.mono HM1.out) HL.out.ms (by have a0 := HK.out; have b1 := HK1.out; omega) (by have a0 := HK.out; have b1 := HK1.out; omega)).mono ?_
  rintro e w2 ⟨k2, rfl, h1, h2, hM⟩
  have HK2 : Hid (k1 <= k2 /\ k2 <= k1 + 10000000) := ⟨h1, by have := HL.out; have c1 := HL.out.ms; omega⟩
  have HM2 := hid (HM1.out.trans hM)
  have hX2 := hM.box hX1 hz1 (Or.inr hhi)
  have hz2 := Nat.lt_of_lt_of_le hz1 hM.size
  clear h1 h2 hM hX1 hz1
  go_wp2_with fail
  refine (zfh lo hi _ _ _ _ _ (HF.out.ts.mono HM2.out) HL.out.ts (by have a0 := HK.out; have b1 := HK1.out; have b2 := HK2.out; omega) (by have a0 := HK.out; have b1 := HK1.out; have b2 := HK2.out; omega)).mono ?_
  rintro e w3 ⟨k3, rfl, h1, h2, hM⟩
  have HK3 : Hid (k2 <= k3 /\ k3 <= k2 + 10000000) := ⟨h1, by have := HL.out; have c1 := HL.out.ts; omega⟩
  have HM3 := hid (HM2.out.trans hM)
  have hX3 := hM.box hX2 hz2 (Or.inr hhi)
  have hz3 := Nat.lt_of_lt_of_le hz2 hM.size
  clear h1 h2 hM hX2 hz2
  go_wp2_with fail
  go_ret
  exact ⟨k3, rfl, by have a0 := HK.out; have b1 := HK1.out; have b2 := HK2.out; have b3 := HK3.out; omega, by have a0 := HK.out; have b1 := HK1.out; have b2 := HK2.out; have b3 := HK3.out; omega, HM3.out⟩
set_option maxHeartbeats 4000000 in
theorem zfy (b : Bk) (g0 g1 g2 g3 c0 c1 c2 c3 : Nat) (lo hi : Nat) (k : Int) (w : World) (h : zdL lo hi w b g0 g1 g2 g3) (hf : b.Few) (hhi : hi <= w.heap.size) (hk : 0 < k) (hk2 : k < 3000000000000000000) :
    Calls Tryz.prog 14 #[.agg (bC b (some ⟨g0, 0, none⟩) (some ⟨g1, 0, none⟩) (some ⟨g2, 0, none⟩) (some ⟨g3, 0, none⟩) c0 c1 c2 c3), .int .i64 k] w fun e w' => ∃ k', e = .returned (.int .i64 k') /\ 0 < k' /\ k' < 4000000000000000000 /\ Marked lo hi w w' := by
  have HF := hid h
  have HL := hid hf
  have HK : Hid (0 < k /\ k < 3000000000000000000) := ⟨hk, hk2⟩
  clear h hf hk hk2
  go_enter Tryz.func14, Tryz.ntmps14
  go_wp2_with fail
  have hX0 := zH w (bC b (some ⟨g0, 0, none⟩) (some ⟨g1, 0, none⟩) (some ⟨g2, 0, none⟩) (some ⟨g3, 0, none⟩) c0 c1 c2 c3) 48
  have HM0 : Hid (Marked lo hi w (w.alloc (.cells (bC b (some ⟨g0, 0, none⟩) (some ⟨g1, 0, none⟩) (some ⟨g2, 0, none⟩) (some ⟨g3, 0, none⟩) c0 c1 c2 c3) 48))) := Marked.of_below ((Below.refl _ _).alloc (Nat.le_refl _) _)
  obtain ⟨W0, hW0⟩ : ∃ W0, W0 = w.alloc (.cells (bC b (some ⟨g0, 0, none⟩) (some ⟨g1, 0, none⟩) (some ⟨g2, 0, none⟩) (some ⟨g3, 0, none⟩) c0 c1 c2 c3) 48) := ⟨_, rfl⟩
  have hz0 : w.heap.size < W0.heap.size := by rw [hW0]; simp
  rw [<- hW0] at hX0 HM0 ⊢
  clear hW0
  refine (zee lo hi _ _ _ _ _ (HF.out.os.mono HM0.out) HL.out.os.1 HL.out.os.2 (by have a0 := HK.out; omega) (by have a0 := HK.out; omega)).mono ?_
  rintro e w1 ⟨k1, rfl, h1, h2, hM⟩
  have HK1 : Hid (k <= k1 /\ k1 <= k + 3000000000000) := ⟨h1, by have := HL.out; have c1 := HL.out.os.1; omega⟩
  have HM1 := hid (HM0.out.trans hM)
  have hX1 := hM.box hX0 hz0 (Or.inr hhi)
  have hz1 := Nat.lt_of_lt_of_le hz0 hM.size
  clear h1 h2 hM hX0 hz0
  go_wp2_with fail
  refine (zeH lo hi _ _ _ _ _ (HF.out.gs.mono HM1.out) HL.out.gs.1 HL.out.gs.2 (by have a0 := HK.out; have b1 := HK1.out; omega) (by have a0 := HK.out; have b1 := HK1.out; omega)).mono ?_
  rintro e w2 ⟨k2, rfl, h1, h2, hM⟩
  have HK2 : Hid (k1 <= k2 /\ k2 <= k1 + 3000000000000) := ⟨h1, by have := HL.out; have c1 := HL.out.gs.1; omega⟩
  have HM2 := hid (HM1.out.trans hM)
  have hX2 := hM.box hX1 hz1 (Or.inr hhi)
  have hz2 := Nat.lt_of_lt_of_le hz1 hM.size
  clear h1 h2 hM hX1 hz1
  go_wp2_with fail
  refine (zef lo hi _ _ _ _ _ (HF.out.ls.mono HM2.out) HL.out.ls (by have a0 := HK.out; have b1 := HK1.out; have b2 := HK2.out; omega) (by have a0 := HK.out; have b1 := HK1.out; have b2 := HK2.out; omega)).mono ?_
  rintro e w3 ⟨k3, rfl, h1, h2, hM⟩
  have HK3 : Hid (k2 <= k3 /\ k3 <= k2 + 10000000) := ⟨h1, by have := HL.out; have c1 := HL.out.ls; omega⟩
  have HM3 := hid (HM2.out.trans hM)
  have hX3 := hM.box hX2 hz2 (Or.inr hhi)
  have hz3 := Nat.lt_of_lt_of_le hz2 hM.size
  clear h1 h2 hM hX2 hz2
  go_wp2_with fail
  refine (zeG lo hi _ _ _ _ _ (HF.out.ps.mono HM3.out) HL.out.ps (by have a0 := HK.out; have b1 := HK1.out; have b2 := HK2.out; have b3 := HK3.out; omega) (by have a0 := HK.out; have b1 := HK1.out; have b2 := HK2.out; have b3 := HK3.out; omega)).mono ?_
  rintro e w4 ⟨k4, rfl, h1, h2, hM⟩
  have HK4 : Hid (k3 <= k4 /\ k4 <= k3 + 10000000) := ⟨h1, by have := HL.out; have c1 := HL.out.ps; omega⟩
  have HM4 := hid (HM3.out.trans hM)
  have hX4 := hM.box hX3 hz3 (Or.inr hhi)
  have hz4 := Nat.lt_of_lt_of_le hz3 hM.size
  clear h1 h2 hM hX3 hz3
  go_wp2_with fail
  go_ret
  exact ⟨k4, rfl, by have a0 := HK.out; have b1 := HK1.out; have b2 := HK2.out; have b3 := HK3.out; have b4 := HK4.out; omega, by have a0 := HK.out; have b1 := HK1.out; have b2 := HK2.out; have b3 := HK3.out; have b4 := HK4.out; omega, HM4.out⟩
end Go.Proofs.YtfcdmlnpfoikhaaGreat
