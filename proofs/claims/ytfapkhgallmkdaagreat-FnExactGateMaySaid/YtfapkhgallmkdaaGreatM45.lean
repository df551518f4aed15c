import Derived.Test.YtfapkhgallmkdaaGreatM41
import Derived.Test.YtfapkhgallmkdaaGreatM39
import Derived.Test.YtfapkhgallmkdaaGreatM06
import Derived.Test.YtfapkhgallmkdaaGreatM04
import Derived.Test.YtfapkhgallmkdaaGreatM34
import Derived.Test.YtfapkhgallmkdaaGreatM13
import Derived.Test.YtfapkhgallmkdaaGreatM40
import Derived.Deep.QuietTactic
import Derived.Deep.RegionHeld3
import Derived.Test.YtfapkhgallmkdaaGreatM25
namespace Go.Proofs.YtfapkhgallmkdaaGreat
open Go.RowKit
set_option maxRecDepth 20000 in
set_option maxHeartbeats 4000000 in
theorem znk (l : Lw) (la lb lc : Option Addr) (lca lcb lcc : Nat) (b : Bk) (a0 a1 a2 a3 : Option Addr) (c0 c1 c2 c3 : Nat) (who : ByteArray) (x : Ac) (w : World) (hl : qH w l la lb lc) (hb : qL w b a0 a1 a2 a3) (hx : x.Small) (hg : b.gs.length <= 1048576) :
    Calls Tryz.prog 22 #[.agg (l.cells la lb lc lca lcb lcc), .agg (b.cells a0 a1 a2 a3 c0 c1 c2 c3), .string who, .agg x.cells] w fun e w' => e = .returned (.bool (Gate.zjh l b who x)) /\ Below w.heap.size w w' := by
  have HL : Hid (qH w l la lb lc) := hl
  have HK : Hid (qL w b a0 a1 a2 a3) := hb
  have HX : Hid x.Small := hx
  clear hl hb hx
  unfold Lw.cells Bk.cells Ac.cells
  go_enter Tryz.func22, Tryz.ntmps22
  go_wp2_with fail
  obtain ⟨W0, hW0, hX0, hY0, hZ0, hz0, hB0⟩ := zaG w #[.slice la l.ss.length lca, .slice lb l.ms.length lcb, .slice lc l.ts.length lcc] #[.int .i64 b.now, .int .i64 b.tick, .int .i64 b.given, .slice a0 b.os.length c0, .slice a1 b.gs.length c1, .slice a2 b.ls.length c2, .slice a3 b.ps.length c3] #[.int .i64 x.vb, .string x.kd, .string x.tm, .string x.nm] 43 50 52
  rw [<- hW0]
  clear hW0
  refine (zky b _ _ _ _ _ _ _ _ who _ (HK.out.gs.mono hB0) hg).mono ?_
  rintro e w1 ⟨ra, rcap, rfl, hr, hb⟩
  have hX1 := za hX0 (by omega) hb
  have hZ1 := za hZ0 hz0 hb
  have hz1 := Nat.lt_of_lt_of_le hz0 hb.size
  have HB1 : Hid (Below w.heap.size w w1) := hB0.trans (hb.mono hB0.size)
  have hln := hr.len
  unfold maxLen at hln
  have HR : Hid (zbC w1 ra (Gate.zK who b.gs)) := hr
  have HF : Hid (Gate.zjh l b who x = (Gate.zK who b.gs).any fun r => Gate.yP l.ts r x) := rfl
  clear hb hX0 hY0 hZ0 hz0 hB0 hr
  obtain ⟨rs, hrs⟩ : ∃ rs, rs = Gate.zK who b.gs := ⟨_, rfl⟩
  rw [<- hrs] at HR HF hln ⊢
  clear hrs
  go_wp2_with fail
  go_loopw [10] (fun iv wr => ∃ k : Nat, k <= rs.length /\ iv = .int .i64 k /\ ((rs.take k).any fun r => Gate.yP l.ts r x) = false /\ Below w1.heap.size w1 wr) (fun iv _ => rs.length - (intOf iv).toNat)
  case atStart => exact ⟨0, Nat.zero_le _, rfl, rfl, Below.refl _ _⟩
  case round =>
    obtain ⟨k, hk, rfl, hno, hBr⟩ := hrel
    have HBr : Hid (Below w.heap.size w wr) := HB1.out.trans (hBr.mono HB1.out.size)
    have HBq : Hid (Below w1.heap.size w1 wr) := hBr
    have hX2 := za hX1 (by omega) hBr
    have hZ2 := za hZ1 hz1 hBr
    have hz2 := Nat.lt_of_lt_of_le hz1 hBr.size
    by_cases hlt : k < rs.length
    · obtain ⟨rb, off, va, vcap, rfl, hrb, hsm, hI0, d0, d1, d2, d3⟩ := HR.out.load hBr k hlt
      have hltI : (k : Int) < (rs.length : Int) := by omega
      have HSm : Hid rs[k].Small := hsm
      have HZ1 : Hid (w.heap.size < wr.drew.heap.size) := by show w.heap.size < wr.heap.size; omega
      have HZ2 : Hid (w.heap.size + 1 + 1 < wr.drew.heap.size) := hz2
      have HZ3 : Hid (rb < wr.drew.heap.size) := Nat.lt_of_lt_of_le hrb hBr.size
      clear hsm hX1 hZ1 hz1 hBr hrb
      by_cases he : Gate.yP l.ts rs[k] x = true
      · have HA : Hid (Gate.zjh l b who x = true) := by unfold Hid; rw [HF.out]; exact zjJ _ rs k hlt he
        clear hno
        have HE : Hid (Gate.yP l.ts rs[k] x = true) := he
        clear he
        go_wp2_with fail
        have hX := za hX2 (by omega) (Below.refl wr.heap.size wr).drew
        have hZ := za hZ2 hz2 (Below.refl wr.heap.size wr).drew
        have e0 : wr.drew.cell? ⟨rb, off + k * 4, none⟩ = _ := d0
        have e1 : wr.drew.cell? ⟨rb, off + k * 4 + 1, none⟩ = _ := d1
        have e2 : wr.drew.cell? ⟨rb, off + k * 4 + 2, none⟩ = _ := d2
        have e3 : wr.drew.cell? ⟨rb, off + k * 4 + 3, none⟩ = _ := d3
        have hB := HBr.out.drew
        have hI := hI0.mono (Below.refl wr.heap.size wr).drew
        clear hX2 hZ2 d0 d1 d2 d3 hI0
        go_region_held3 (fun w' => (∀ j, w'.cell? ⟨w.heap.size, j, none⟩ = (#[.slice la l.ss.length lca, .slice lb l.ms.length lcb, .slice lc l.ts.length lcc] : Array Value)[j]?) /\ (∀ j, w'.cell? ⟨w.heap.size + 1 + 1, j, none⟩ = (#[.int .i64 x.vb, .string x.kd, .string x.tm, .string x.nm] : Array Value)[j]?) /\ w'.cell? ⟨rb, off + k * 4, none⟩ = some (.slice va rs[k].vs.length vcap) /\ w'.cell? ⟨rb, off + k * 4 + 1, none⟩ = some (.string rs[k].kd) /\ w'.cell? ⟨rb, off + k * 4 + 2, none⟩ = some (.string rs[k].tm) /\ w'.cell? ⟨rb, off + k * 4 + 3, none⟩ = some (.string rs[k].px)) (exact ⟨hX, hZ, e0, e1, e2, e3⟩) (first
          | (go_at_call 52; refine (zk HE.out (zeT _ _ l.ts rs[k] _ _ x _ (by exact HL.out.ts.mono hB) HSm.out (by exact hI) HX.out)).mono ?_; rintro e w5 ⟨rfl, hb⟩; have hX := za hX (by exact HZ1.out) hb; have hZ := za hZ (by exact HZ2.out) hb; have e0 := (hb.cell (p := ⟨rb, off + k * 4, none⟩) (by exact HZ3.out)).trans e0; have e1 := (hb.cell (p := ⟨rb, off + k * 4 + 1, none⟩) (by exact HZ3.out)).trans e1; have e2 := (hb.cell (p := ⟨rb, off + k * 4 + 2, none⟩) (by exact HZ3.out)).trans e2; have e3 := (hb.cell (p := ⟨rb, off + k * 4 + 3, none⟩) (by exact HZ3.out)).trans e3; have HB5 : Hid (Below wr.heap.size wr w5) := (Below.refl wr.heap.size wr).drew.trans (hb.mono (Nat.le_refl _)); clear hb))
        go_wp2_with fail
        go_ret
        exact ⟨ze HA.out.symm, HBr.out.trans (HB5.out.mono HBr.out.size)⟩
      · have HS : Hid (((rs.take (k + 1)).any fun r => Gate.yP l.ts r x) = false) := by unfold Hid; rw [zbh _ rs k hlt, hno]; simpa using he
        clear hno
        have HE : Hid (Gate.yP l.ts rs[k] x = false) := by simpa [Hid] using he
        clear he
        go_wp2_with fail
        have hX := za hX2 (by omega) (Below.refl wr.heap.size wr).drew
        have hZ := za hZ2 hz2 (Below.refl wr.heap.size wr).drew
        have e0 : wr.drew.cell? ⟨rb, off + k * 4, none⟩ = _ := d0
        have e1 : wr.drew.cell? ⟨rb, off + k * 4 + 1, none⟩ = _ := d1
        have e2 : wr.drew.cell? ⟨rb, off + k * 4 + 2, none⟩ = _ := d2
        have e3 : wr.drew.cell? ⟨rb, off + k * 4 + 3, none⟩ = _ := d3
        have hB := HBr.out.drew
        have hI := hI0.mono (Below.refl wr.heap.size wr).drew
        clear hX2 hZ2 d0 d1 d2 d3 hI0
        go_region_held3 (fun w' => (∀ j, w'.cell? ⟨w.heap.size, j, none⟩ = (#[.slice la l.ss.length lca, .slice lb l.ms.length lcb, .slice lc l.ts.length lcc] : Array Value)[j]?) /\ (∀ j, w'.cell? ⟨w.heap.size + 1 + 1, j, none⟩ = (#[.int .i64 x.vb, .string x.kd, .string x.tm, .string x.nm] : Array Value)[j]?) /\ w'.cell? ⟨rb, off + k * 4, none⟩ = some (.slice va rs[k].vs.length vcap) /\ w'.cell? ⟨rb, off + k * 4 + 1, none⟩ = some (.string rs[k].kd) /\ w'.cell? ⟨rb, off + k * 4 + 2, none⟩ = some (.string rs[k].tm) /\ w'.cell? ⟨rb, off + k * 4 + 3, none⟩ = some (.string rs[k].px)) (exact ⟨hX, hZ, e0, e1, e2, e3⟩) (first
          | (go_at_call 52; refine (zk HE.out (zeT _ _ l.ts rs[k] _ _ x _ (by exact HL.out.ts.mono hB) HSm.out (by exact hI) HX.out)).mono ?_; rintro e w5 ⟨rfl, hb⟩; have hX := za hX (by exact HZ1.out) hb; have hZ := za hZ (by exact HZ2.out) hb; have e0 := (hb.cell (p := ⟨rb, off + k * 4, none⟩) (by exact HZ3.out)).trans e0; have e1 := (hb.cell (p := ⟨rb, off + k * 4 + 1, none⟩) (by exact HZ3.out)).trans e1; have e2 := (hb.cell (p := ⟨rb, off + k * 4 + 2, none⟩) (by exact HZ3.out)).trans e2; have e3 := (hb.cell (p := ⟨rb, off + k * 4 + 3, none⟩) (by exact HZ3.out)).trans e3; have HB5 : Hid (Below wr.heap.size wr w5) := (Below.refl wr.heap.size wr).drew.trans (hb.mono (Nat.le_refl _)); clear hb))
        go_wp2_with fail
        exact ⟨⟨k + 1, by omega, by go_num, HS.out, HBq.out.trans (HB5.out.mono HBq.out.size)⟩, by simp [intOf]; omega⟩
    · have HA : Hid (Gate.zjh l b who x = false) := by unfold Hid; rw [HF.out, <- hno, List.take_of_length_le (by omega)]
      clear hno hX1 hZ1
      go_wp2_with fail
      go_ret
      exact ⟨ze HA.out.symm, HBr.out⟩
end Go.Proofs.YtfapkhgallmkdaaGreat

namespace Go.Proofs.YtfapkhgallmkdaaGreat
open Go.RowKit
namespace Gate
def yQ (kd fld : ByteArray) (row : List ByteArray) (m : Mnd) : Bool := !(decide (m.kd = kd) && decide (m.fd = fld)) || ((!isSet m.wh || has row m.wh) && (!isSet m.fr || has row m.fr))
def zbx (ms : List Mnd) (kd fld : ByteArray) (row : List ByteArray) : Bool := ms.all (yQ kd fld row)
end Gate
set_option maxRecDepth 20000 in
set_option maxHeartbeats 4000000 in
theorem zk1 (a ra : Option Addr) (cap rcap : Nat) (ms : List Mnd) (kd fld : ByteArray) (row : List ByteArray) (w : World) (hm : qp w a ms) (hr : zC w ra row) (hml : ms.length <= 12) :
    Calls Tryz.prog 165 #[.slice a ms.length cap, .string kd, .string fld, .slice ra row.length rcap] w fun e w' => e = .returned (.bool (Gate.zbx ms kd fld row)) /\ Below w.heap.size w w' := by
  have HM := j4 hm hr
  clear hm hr
  go_enter Tryz.func165, Tryz.ntmps165
  go_wp2_with fail
  go_loopw [9] (fun iv wr => ∃ k : Nat, k <= ms.length /\ iv = .int .i64 k /\ (ms.take k).all (Gate.yQ kd fld row) = true /\ Below w.heap.size w wr) (fun iv _ => ms.length - (intOf iv).toNat)
  case atStart => exact ⟨0, Nat.zero_le _, rfl, rfl, Below.refl _ _⟩
  case round =>
    obtain ⟨k, hk, rfl, hall, hB⟩ := hrel
    have HB := hid hB
    have HA : Hid ((ms.take k).all (Gate.yQ kd fld row) = true) := hall
    by_cases hlt : k < ms.length
    · obtain ⟨b, off, rfl, hb, c0, c1, c2, c3, c4, c5⟩ := HM.out.1.load hB k hlt
      have hltI : (k : Int) < (ms.length : Int) := by omega
      have HTK : Hid ((ms.take (k + 1)).all (Gate.yQ kd fld row) = Gate.yQ kd fld row ms[k]) := by
        unfold Hid; rw [List.take_succ_eq_append_getElem hlt, List.all_append, HA.out]; simp
      have HNO : Hid (Gate.yQ kd fld row ms[k] = false -> Gate.zbx ms kd fld row = false) := by
        intro h
        unfold Gate.zbx
        rw [List.all_eq_false]; exact ⟨_, List.getElem_mem hlt, by rw [h]; simp⟩
      have HBA : Hid (Below w.heap.size w (wr.alloc (.cells #[.string ms[k].kd, .string ms[k].fd, .string ms[k].wh, .string ms[k].wi, .string ms[k].pt, .string ms[k].fr] 117))) := hB.alloc hB.size _
      clear hall hB HA
      by_cases e1 : ms[k].kd = kd
      rotate_left
      · have he1 : (ms[k].kd.toList == kd.toList) = false := by rw [Gate.beq_toList]; simpa using e1
        have HY : Hid (Gate.yQ kd fld row ms[k] = true) := by unfold Hid Gate.yQ; simp [e1]
        clear e1
        go_wp2_with fail
        exact ⟨⟨k + 1, by omega, by go_num, by rw [HTK.out]; exact HY.out, HBA.out⟩, zm hlt⟩
      have he1 : (ms[k].kd.toList == kd.toList) = true := by rw [Gate.beq_toList]; simpa using e1
      by_cases e2 : ms[k].fd = fld
      rotate_left
      · have he2 : (ms[k].fd.toList == fld.toList) = false := by rw [Gate.beq_toList]; simpa using e2
        have HY : Hid (Gate.yQ kd fld row ms[k] = true) := by unfold Hid Gate.yQ; simp [e2]
        clear e1 e2
        go_wp2_with fail
        exact ⟨⟨k + 1, by omega, by go_num, by rw [HTK.out]; exact HY.out, HBA.out⟩, zm hlt⟩
      have he2 : (ms[k].fd.toList == fld.toList) = true := by rw [Gate.beq_toList]; simpa using e2
      have HRD : Hid (Gate.yQ kd fld row ms[k] = ((!Gate.isSet ms[k].wh || Gate.has row ms[k].wh) && (!Gate.isSet ms[k].fr || Gate.has row ms[k].fr))) := by unfold Hid Gate.yQ; simp [e1, e2]
      clear e1 e2
      rcases hwh : ms[k].wh.toList.isEmpty with _ | _ <;> rcases hfr : ms[k].fr.toList.isEmpty with _ | _
      all_goals go_wp2_with fail
      · skip
        have h := zbL ra rcap row ms[k].wh _ (HM.out.2.mono HBA.out)
        rcases hh1 : Gate.has row ms[k].wh with _ | _
        · rw [hh1] at h
          refine h.mono ?_
          rintro e w3 ⟨rfl, rfl⟩
          have HF : Hid (Gate.zbx ms kd fld row = false) := HNO.out (by rw [HRD.out]; unfold Gate.isSet; simp [*])
          clear h
          go_wp2_with fail
          go_ret
          exact ⟨by rw [HF.out]; rfl, HBA.out⟩
        · rw [hh1] at h
          refine h.mono ?_
          rintro e w3 ⟨rfl, rfl⟩
          clear h
          go_wp2_with fail
          have h := zbL ra rcap row ms[k].fr _ (HM.out.2.mono HBA.out)
          rcases hh2 : Gate.has row ms[k].fr with _ | _
          · rw [hh2] at h
            refine h.mono ?_
            rintro e w3 ⟨rfl, rfl⟩
            have HF : Hid (Gate.zbx ms kd fld row = false) := HNO.out (by rw [HRD.out]; unfold Gate.isSet; simp [*])
            clear h
            go_wp2_with fail
            go_ret
            exact ⟨by rw [HF.out]; rfl, HBA.out⟩
          · rw [hh2] at h
            refine h.mono ?_
            rintro e w3 ⟨rfl, rfl⟩
            clear h
            go_wp2_with fail
            have HY : Hid (Gate.yQ kd fld row ms[k] = true) := by unfold Hid; rw [HRD.out]; unfold Gate.isSet; simp [*]
            exact ⟨⟨k + 1, by omega, by go_num, by rw [HTK.out]; exact HY.out, HBA.out⟩, zm hlt⟩
      · skip
        have h := zbL ra rcap row ms[k].wh _ (HM.out.2.mono HBA.out)
        rcases hh1 : Gate.has row ms[k].wh with _ | _
        · rw [hh1] at h
          refine h.mono ?_
          rintro e w3 ⟨rfl, rfl⟩
          have HF : Hid (Gate.zbx ms kd fld row = false) := HNO.out (by rw [HRD.out]; unfold Gate.isSet; simp [*])
          clear h
          go_wp2_with fail
          go_ret
          exact ⟨by rw [HF.out]; rfl, HBA.out⟩
        · rw [hh1] at h
          refine h.mono ?_
          rintro e w3 ⟨rfl, rfl⟩
          clear h
          go_wp2_with fail
          have HY : Hid (Gate.yQ kd fld row ms[k] = true) := by unfold Hid; rw [HRD.out]; unfold Gate.isSet; simp [*]
          exact ⟨⟨k + 1, by omega, by go_num, by rw [HTK.out]; exact HY.out, HBA.out⟩, zm hlt⟩
      · skip
        have h := zbL ra rcap row ms[k].fr _ (HM.out.2.mono HBA.out)
        rcases hh2 : Gate.has row ms[k].fr with _ | _
        · rw [hh2] at h
          refine h.mono ?_
          rintro e w3 ⟨rfl, rfl⟩
          have HF : Hid (Gate.zbx ms kd fld row = false) := HNO.out (by rw [HRD.out]; unfold Gate.isSet; simp [*])
          clear h
          go_wp2_with fail
          go_ret
          exact ⟨by rw [HF.out]; rfl, HBA.out⟩
        · rw [hh2] at h
          refine h.mono ?_
          rintro e w3 ⟨rfl, rfl⟩
          clear h
          go_wp2_with fail
          have HY : Hid (Gate.yQ kd fld row ms[k] = true) := by unfold Hid; rw [HRD.out]; unfold Gate.isSet; simp [*]
          exact ⟨⟨k + 1, by omega, by go_num, by rw [HTK.out]; exact HY.out, HBA.out⟩, zm hlt⟩
      · skip
        have HY : Hid (Gate.yQ kd fld row ms[k] = true) := by unfold Hid; rw [HRD.out]; unfold Gate.isSet; simp [*]
        exact ⟨⟨k + 1, by omega, by go_num, by rw [HTK.out]; exact HY.out, HBA.out⟩, zm hlt⟩
    · have e : k = ms.length := by omega
      rw [e, List.take_of_length_le (Nat.le_refl _)] at hall
      have HF : Hid (Gate.zbx ms kd fld row = true) := hall
      subst e
      clear hall HA hB
      go_wp2_with fail
      go_ret
      exact ⟨by rw [HF.out]; rfl, HB.out⟩
end Go.Proofs.YtfapkhgallmkdaaGreat

namespace Go.Proofs.YtfapkhgallmkdaaGreat
open Go.RowKit
namespace Gate
def zau (s : Shp) (i : Nat) : ByteArray := (s.fs.getD i zaQ).nm
def qV (s : Shp) (ms : List Mnd) (row : List ByteArray) (i : Nat) : Bool := !has row (zau s i) && zbx ms s.kd (zau s i) row
def zdo (s : Shp) (ms : List Mnd) (row : List ByteArray) : List ByteArray := match (List.range s.fs.length).find? (qV s ms row) with | none => row | some i => row ++ [zau s i]
def z8 (s : Shp) (ms : List Mnd) : Nat -> List ByteArray
  | 0 => []
  | k + 1 => zdo s ms (z8 s ms k)
theorem zjS (s : Shp) (ms : List Mnd) (row : List ByteArray) : (zdo s ms row).length <= row.length + 1 := by
  unfold zdo; split
  · omega
  · simp
theorem zdC (s : Shp) (ms : List Mnd) : ∀ k, (z8 s ms k).length <= k
  | 0 => Nat.le_refl _
  | k + 1 => Nat.le_trans (zjS s ms _) (by have := zdC s ms k; omega)
theorem zdP (s : Shp) (ms : List Mnd) : ∀ k, ∀ x ∈ z8 s ms k, ∃ i, i < s.fs.length /\ x = zau s i
  | 0, x, h => by cases h
  | k + 1, x, h => by
    have h' : x ∈ zdo s ms (z8 s ms k) := h
    unfold zdo at h'
    split at h'
    · exact zdP s ms k x h'
    · rename_i i hi
      rw [List.mem_append, List.mem_singleton] at h'
      rcases h' with h' | h'
      · exact zdP s ms k x h'
      · exact ⟨i, List.mem_range.1 (List.mem_of_find?_eq_some hi), h'⟩
end Gate
set_option maxRecDepth 20000 in
set_option maxHeartbeats 4000000 in
theorem zji (fa ma : Option Addr) (fcap mcap : Nat) (s : Shp) (ms : List Mnd) (w : World) (hf : yc w fa s.fs) (hm : qp w ma ms) (hml : ms.length <= 12) (hn : s.fs.length <= 6) :
    Calls Tryz.prog 117 #[.agg #[.string s.kd, .slice fa s.fs.length fcap], .slice ma ms.length mcap] w fun e w' => ∃ v, e = .returned v /\ w'.ownsRow w.heap.size 9 1 v (Gate.z8 s ms s.fs.length).length ((Gate.z8 s ms s.fs.length).map Value.string) /\ Below w.heap.size w w' := by
  have HM := j4 hf hm
  have HSM : Hid (∀ k, ∀ x ∈ Gate.z8 s ms k, x.size <= maxLen) := by
    intro k x hx
    obtain ⟨i, hi, rfl⟩ := Gate.zdP s ms k x hx
    unfold Gate.zau
    rw [Gate.getD_at _ _ _ hi]
    exact (hf.smalls.small i hi).1.nm
  obtain ⟨i0, hi0, hz0, hz1', hz2⟩ := info_parts Tryz.zcX
  clear hf hm
  go_enter Tryz.func117, Tryz.ntmps117
  go_wp2_with fail
  have hnI : (s.fs.length : Int) <= 6 := by omega
  go_loopw [5, 6] (fun v0 iv wr => ∃ (k : Nat) (v : Value), v = v0 /\ k <= s.fs.length /\ iv = .int .i64 k /\ wr.ownsRow (w.heap.size + 1) 9 1 v (Gate.z8 s ms k).length ((Gate.z8 s ms k).map Value.string) /\ wr.heap[w.heap.size]? = some (.cells #[.string s.kd, .slice fa s.fs.length fcap] 115) /\ Below w.heap.size w wr) (fun _ iv _ => s.fs.length - (intOf iv).toNat)
  case atStart => exact ⟨0, _, rfl, Nat.zero_le _, rfl, ⟨rfl, .inr ⟨w.heap.size + 1, 0, #[], rfl, Nat.le_refl _, (zP _ _ _).2, Nat.le_refl _, by simp [maxLen], rfl, rfl⟩⟩, (zP _ _ _).1, zu _ _ _⟩
  case round =>
    obtain ⟨k, v, hv, hk, rfl, hown, hbox, hB⟩ := hrel
    subst hv
    obtain ⟨va, vcap, rfl⟩ := yU hown
    have HW := zff hown hbox hB
    have hXr : ∀ j, wr.cell? ⟨w.heap.size, j, none⟩ = (#[.string s.kd, .slice fa s.fs.length fcap] : Array Value)[j]? := fun j => cell_of_block hbox
    have hzr := (Array.getElem?_eq_some_iff.1 hbox).1
    have HGL : Hid ((Gate.z8 s ms k).length <= 6) := by have := Gate.zdC s ms k; show _ <= _; omega
    clear hown hbox hB
    by_cases hlt : k < s.fs.length
    · have hltI : (k : Int) < (s.fs.length : Int) := by omega
      go_wp2_with fail
      clear hXr
      obtain ⟨wo, hwo⟩ : ∃ wo, wo = wr := ⟨_, rfl⟩
      have HWO : Hid (wo.ownsRow (w.heap.size + 1) 9 1 (.slice va (Gate.z8 s ms k).length vcap) (Gate.z8 s ms k).length ((Gate.z8 s ms k).map Value.string) /\ wo.heap[w.heap.size]? = some (.cells #[.string s.kd, .slice fa s.fs.length fcap] 115) /\ Below w.heap.size w wo /\ w.heap.size < wo.heap.size) := by rw [hwo]; exact ⟨HW.out.1, HW.out.2.1, HW.out.2.2, hzr⟩
      have HWE := hid hwo
      clear hwo HW hzr
      go_loopw [5, 7] (fun v1 iv wq => ∃ i : Nat, i <= s.fs.length /\ iv = .int .i64 i /\ v1 = .slice va (Gate.z8 s ms k).length vcap /\ (∀ q, q < i -> Gate.qV s ms (Gate.z8 s ms k) q = false) /\ Below wo.heap.size wo wq) (fun _ iv _ => s.fs.length - (intOf iv).toNat)
      case atStart => exact ⟨0, Nat.zero_le _, rfl, rfl, fun q h => absurd h (by omega), by rw [HWE.out]; exact Below.refl _ _⟩
      case round =>
        obtain ⟨i, hi, rfl, rfl, hno, hBq⟩ := hrel
        have HQ := znZ hno hBq (yZ HWO.out.1 hBq) ((hBq.block _ HWO.out.2.2.2).trans HWO.out.2.1) (HWO.out.2.2.1.trans (hBq.mono HWO.out.2.2.1.size))
        have hXq := zaM HQ.out.2.2.2.1
        have hzq := (Array.getElem?_eq_some_iff.1 HQ.out.2.2.2.1).1
        clear hno hBq
        by_cases hil : i < s.fs.length
        · have hilI : (i : Int) < (s.fs.length : Int) := by omega
          obtain ⟨fb, foff, rfl, hfb, hr⟩ := HM.out.1.rows (by intro e; rw [e] at hil; simp at hil)
          obtain ⟨wa, wcap, hf0⟩ := hr i hil
          obtain ⟨c0, c1, c2, c3, c4, c5, c6, c7, c8, c9, c10⟩ := (hf0.mono hfb HQ.out.2.2.2.2).load
          have HNM : Hid (Gate.zau s i = s.fs[i].nm) := by unfold Hid Gate.zau; rw [Gate.getD_at _ _ _ hil]
          have HST := hid (zj5 HQ.out.2.2.1 (by have := HGL.out; unfold maxLen; omega) (HSM.out k))
          have HFIND : Hid (Gate.qV s ms (Gate.z8 s ms k) i = true -> Gate.z8 s ms (k + 1) = Gate.z8 s ms k ++ [s.fs[i].nm]) := by
            intro h
            show Gate.zdo s ms (Gate.z8 s ms k) = _
            unfold Gate.zdo
            have : (List.range s.fs.length).find? (Gate.qV s ms (Gate.z8 s ms k)) = some i := by
              rw [List.find?_range_eq_some]
              exact ⟨h, List.mem_range.2 hil, fun j hj => by rw [HQ.out.1 j hj]; rfl⟩
            rw [this]
            show Gate.z8 s ms k ++ [Gate.zau s i] = _
            rw [HNM.out]
          clear hr hf0 c1 c2 c3 c4 c5 c6 c7 c8 c9 c10
          go_wp2_with fail
          have h := zbL va vcap (Gate.z8 s ms k) s.fs[i].nm wr HST.out
          rcases hh : Gate.has (Gate.z8 s ms k) s.fs[i].nm with _ | _
          rotate_left
          · rw [hh] at h
            refine h.mono ?_
            rintro e w3 ⟨rfl, rfl⟩
            have HNR : Hid (∀ q, q < i + 1 -> Gate.qV s ms (Gate.z8 s ms k) q = false) := by
              intro q hq
              rcases Nat.lt_or_ge q i with h1 | h1
              · exact HQ.out.1 q h1
              · have e : q = i := by omega
                subst e; unfold Gate.qV; rw [HNM.out, hh]; rfl
            clear h hh
            go_wp2_with fail
            exact ⟨⟨i + 1, by omega, by go_num, rfl, HNR.out, HQ.out.2.1⟩, zm hil⟩
          rw [hh] at h
          refine h.mono ?_
          rintro e w3' ⟨rfl, hw3⟩
          rw [hw3]
          clear hw3 w3'
          have HRN : Hid (Gate.qV s ms (Gate.z8 s ms k) i = Gate.zbx ms s.kd s.fs[i].nm (Gate.z8 s ms k)) := by unfold Hid Gate.qV; rw [HNM.out, hh]; rfl
          clear h hh
          go_wp2_with fail
          have h := zk1 ma va mcap vcap ms s.kd s.fs[i].nm (Gate.z8 s ms k) wr (HM.out.2.mono HQ.out.2.2.2.2) HST.out hml
          rcases hh : Gate.zbx ms s.kd s.fs[i].nm (Gate.z8 s ms k) with _ | _
          · rw [hh] at h
            refine h.mono ?_
            rintro e w3 ⟨rfl, hb3⟩
            have HNR : Hid ((∀ q, q < i + 1 -> Gate.qV s ms (Gate.z8 s ms k) q = false) /\ Below wo.heap.size wo w3) := by
              refine ⟨fun q hq => ?_, HQ.out.2.1.trans (hb3.mono HQ.out.2.1.size)⟩
              rcases Nat.lt_or_ge q i with h1 | h1
              · exact HQ.out.1 q h1
              · have e : q = i := by omega
                subst e; rw [HRN.out, hh]
            clear h hh hb3
            go_wp2_with fail
            exact ⟨⟨i + 1, by omega, by go_num, rfl, HNR.out.1, HNR.out.2⟩, zm hil⟩
          rw [hh] at h
          refine h.mono ?_
          rintro e w3 ⟨rfl, hb3⟩
          have HG1 := hid (HFIND.out (by rw [HRN.out, hh]))
          have H3 := zkI (yZ HQ.out.2.2.1 hb3) ((hb3.block _ hzq).trans HQ.out.2.2.2.1) (HQ.out.2.2.2.2.trans (hb3.mono HQ.out.2.2.2.2.size)) (Nat.lt_of_lt_of_le hzq hb3.size)
          clear h hh hb3 hXq c0
          go_wp2_with (at_builtin; refine zfr ?_)
          show wpList _ _ _ _ _ _
          refine wpList_append_own _ rfl (.tmp 42) (.tmp 44) 91 rfl (w.heap.size + 1) 9 i0 (.string ByteArray.empty) 1 16 Tryz.underlying91 hi0 hz0 hz1' hz2 rfl (by decide) (.slice va (Gate.z8 s ms k).length vcap) _ _ rfl (H3.out.1.alloc _) ⟨w3.heap.size, 0, none⟩ 1 1 [.string s.fs[i].nm] rfl rfl (zds _ _ _) (by intro u hu; simp at hu; subst hu; rfl) (by have := HGL.out; unfold maxLen; omega) (by have := HGL.out; omega) (by have := H3.out.2.2.2; simp; omega) ?_
          intro v' w4 hown' hgr _
          obtain ⟨va', vcap', rfl⟩ := yU hown'
          have hgb : ∀ g, (Value.slice va (Gate.z8 s ms k).length vcap).ownBlock = some g -> w.heap.size + 1 <= g := fun g hg => (H3.out.1.lt g hg).1
          have HY : Hid (w4.ownsRow (w.heap.size + 1) 9 1 (.slice va' ((Gate.z8 s ms k).length + 1) vcap') (Gate.z8 s ms (k + 1)).length ((Gate.z8 s ms (k + 1)).map Value.string) /\ w4.heap[w.heap.size]? = some (.cells #[.string s.kd, .slice (some ⟨fb, foff, none⟩) s.fs.length fcap] 115) /\ Below w.heap.size w w4) := by
            refine ⟨by rw [HG1.out, List.length_append, List.map_append]; exact hown', ?_, zb9 H3.out.2.2.1 H3.out.2.2.1.size hgr (fun g hg => by have := hgb g hg; omega)⟩
            exact (j6 hgr (by have := H3.out.2.2.2; simp; omega) (fun g hg => by have := hgb g hg; omega)).trans ((Below.heap_alloc _ _ _ H3.out.2.2.2).trans H3.out.2.1)
          clear hown' hgr hgb
          go_wp2_with fail
          exact ⟨⟨k + 1, _, rfl, by omega, by go_num, HY.out.1, HY.out.2.1, HY.out.2.2⟩, zm hlt⟩
        · have e : i = s.fs.length := by omega
          have HN : Hid (Gate.z8 s ms (k + 1) = Gate.z8 s ms k) := by
            show Gate.zdo s ms (Gate.z8 s ms k) = _
            unfold Gate.zdo
            have : (List.range s.fs.length).find? (Gate.qV s ms (Gate.z8 s ms k)) = none := by
              rw [List.find?_eq_none]
              intro q hq
              rw [HQ.out.1 q (by rw [e]; exact List.mem_range.1 hq)]
              simp
            rw [this]
          subst e
          go_wp2_with fail
          exact ⟨⟨k + 1, _, rfl, by omega, by go_num, by rw [HN.out]; exact HQ.out.2.2.1, HQ.out.2.2.2.1, HQ.out.2.2.2.2⟩, zm hlt⟩
    · have e : k = s.fs.length := by omega
      subst e
      go_wp2_with fail
      go_ret
      exact ⟨_, rfl, zcb HW.out.1 (by omega), HW.out.2.2⟩
end Go.Proofs.YtfapkhgallmkdaaGreat

namespace Go.Proofs.YtfapkhgallmkdaaGreat
open Go.RowKit
namespace Gate
def yR (ss : List Shp) (o : Ob) : List ByteArray := if zx ss o = true then jG (shapeOf ss o.kd).fs o.vs else o.vs
theorem zmC {ss : List Shp} {o : Ob} (h : zQ ss = true) : zhc ss o = yR ss o := by
  unfold zhc yR zx
  by_cases h1 : zF ss o.kd = true
  · by_cases h2 : o.vs.length = (shapeOf ss o.kd).fs.length
    · rw [if_pos ⟨h1, h, h2⟩, if_pos (by rw [h1]; simp [h2])]
    · rw [if_neg (fun hh => h2 hh.2.2), if_neg (by rw [h1]; simp [h2])]
  · rw [if_neg (fun hh => h1 hh.1), if_neg (by simp [h1])]
end Gate
set_option maxHeartbeats 1000000 in
theorem zec (a0 : Option Addr) (cap0 : Nat) (ss : List Shp) (o : Ob) (a a' : Option Addr) (cap cap' : Nat) (w0 w : World) (hw0 : yH w0 a0 ss) (hbb : Below w0.heap.size w0 w) (hc : Gate.zx ss o = true) :
    Calls Tryz.prog 84 #[.slice a0 ss.length cap0, .agg (oC o a a' cap cap')] w fun e w' => ∃ fa fcap, e = .returned (.tuple #[.slice fa (Gate.shapeOf ss o.kd).fs.length fcap, .bool true]) /\ yc w0 fa (Gate.shapeOf ss o.kd).fs /\ Below w.heap.size w w' := by
  unfold Gate.zx at hc
  simp only [Bool.and_eq_true, decide_eq_true_eq] at hc
  have HK := hid hc.1
  have HL := hid hc.2
  clear hc
  have hw := hw0.mono hbb
  have hl := hw.len
  unfold maxLen at hl
  go_enter Tryz.func84, Tryz.ntmps84
  go_wp2_with fail
  refine (zaP _ _ _ _ _ (hw.mono ((Below.refl _ _).alloc (Nat.le_refl _) _)) HK.out).mono ?_
  rintro e w1 ⟨ix, hix, rfl, hsh, rfl⟩
  have HSh := hid hsh
  clear hsh
  obtain ⟨b, off, rfl, hb0, hr⟩ := hw0.rows (by rintro rfl; simp at hix)
  obtain ⟨fa, fcap, hs0⟩ := hr ix hix
  have hs := hs0.mono hb0 hbb
  have hcl := hs.list
  have hfl := hs0.flds
  have hixI : (ix : Int) < (ss.length : Int) := by omega
  have hix0 : decide ((ix : Int) < 0) = false := by simp
  have hneq : ((ss[ix].fs.length : Int) != (o.vs.length : Int)) = false := by have h1 := HL.out; have h2 := HSh.out; rw [h2] at h1; simp [h1]
  have hbw := Nat.lt_of_lt_of_le hb0 hbb.size
  clear hr hs
  go_wp2_with fail
  go_quiet (fail)
  go_wp2_with fail
  go_ret2
  rw [HSh.out]
  exact ⟨fa, fcap, rfl, hfl, below_drewN ((Below.refl _ _).alloc (Nat.le_refl _) _) _⟩
end Go.Proofs.YtfapkhgallmkdaaGreat

namespace Go.Proofs.YtfapkhgallmkdaaGreat
open Go.RowKit
set_option maxRecDepth 20000 in
set_option maxHeartbeats 4000000 in
theorem zdd (a a' : Option Addr) (cap cap' : Nat) (ss : List Shp) (ms : List Mnd) (w : World) (hw : yH w a ss) (hm : qp w a' ms) (hml : ms.length <= 1048576) :
    Calls Tryz.prog 98 #[.slice a ss.length cap, .slice a' ms.length cap'] w fun e w' => e = .returned (.bool (Gate.yg ss ms)) /\ Below w.heap.size w w' := by
  have HW := j4 hw hm
  have hl := hw.len
  unfold maxLen at hl
  clear hw hm
  by_cases h12 : ms.length <= 12
  rotate_left
  · have HF : Hid (Gate.yg ss ms = false) := by unfold Hid Gate.yg; rw [decide_eq_false h12]; simp
    go_enter Tryz.func98, Tryz.ntmps98
    go_wp2_with fail
    go_ret
    exact ⟨by rw [HF.out]; rfl, Below.refl _ _⟩
  have h12I : (ms.length : Int) <= 12 := by omega
  by_cases hok : Gate.zQ ss = true
  rotate_left
  · have hokf : Gate.zQ ss = false := by simpa using hok
    have HF : Hid (Gate.yg ss ms = false) := by unfold Hid Gate.yg; rw [hokf]; simp
    go_enter Tryz.func98, Tryz.ntmps98
    go_wp2_with fail
    have h := zcB a cap ss w HW.out.1
    rw [hokf] at h
    refine h.mono ?_
    rintro e w1 ⟨rfl, hb1⟩
    clear h
    go_wp2_with fail
    go_ret
    exact ⟨by rw [HF.out]; rfl, hb1⟩
  have HOK := hid hok
  go_enter Tryz.func98, Tryz.ntmps98
  go_wp2_with fail
  have h := zcB a cap ss w HW.out.1
  rw [hok] at h
  refine h.mono ?_
  rintro e w1 ⟨rfl, hb1⟩
  have HB1 := hid hb1
  clear h hb1 hok
  go_wp2_with fail
  refine (zbR _).mono ?_
  rintro e w2 ⟨rfl, hw2⟩
  have HB2 : Hid (Below w.heap.size w w2 /\ w2.heap[w1.heap.size]? = some (.map qK 4) /\ w1.heap.size < w2.heap.size) := by
    rw [hw2]; exact ⟨HB1.out.trans (((Below.refl _ _).alloc (Nat.le_refl _) _).mono HB1.out.size), alloc_at _ _, by simp⟩
  clear hw2
  go_wp2_with fail
  go_loopw [25] (fun iv wr => ∃ k : Nat, k <= ms.length /\ iv = .int .i64 k /\ (ms.take k).all (Gate.jr ss) = true /\ Below w2.heap.size w2 wr) (fun iv _ => ms.length - (intOf iv).toNat)
  case atStart => exact ⟨0, Nat.zero_le _, rfl, rfl, Below.refl _ _⟩
  case round =>
    obtain ⟨k, hk, rfl, hall, hB⟩ := hrel
    have HB := j4 hB (HB2.out.1.trans (hB.mono HB2.out.1.size))
    have HA := hid hall
    clear hall hB
    by_cases hlt : k < ms.length
    · obtain ⟨b, off, rfl, hb, c0, c1, c2, c3, c4, c5⟩ := HW.out.2.load HB.out.2 k hlt
      have hltI : (k : Int) < (ms.length : Int) := by omega
      have hsm := HW.out.2.small k hlt
      have HTK : Hid ((ms.take (k + 1)).all (Gate.jr ss) = Gate.jr ss ms[k]) := by
        unfold Hid; rw [List.take_succ_eq_append_getElem hlt, List.all_append, HA.out]; simp
      have HNO : Hid (Gate.jr ss ms[k] = false -> Gate.yg ss ms = false) := by
        intro h
        have : ms.all (Gate.jr ss) = false := by rw [List.all_eq_false]; exact ⟨_, List.getElem_mem hlt, by rw [h]; simp⟩
        unfold Gate.yg; rw [this]; simp
      have hba := (Below.refl wr.heap.size wr).alloc (Nat.le_refl _) (.cells #[.string ms[k].kd, .string ms[k].fd, .string ms[k].wh, .string ms[k].wi, .string ms[k].pt, .string ms[k].fr] 117)
      have HSM := hid hsm
      clear hsm
      go_wp2_with fail
      have h := qC a cap ss ms[k].kd _ (HW.out.1.mono (HB.out.2.trans (hba.mono HB.out.2.size)))
      by_cases hkk : Gate.zF ss ms[k].kd = true
      rotate_left
      · have hkf : Gate.zF ss ms[k].kd = false := by simpa using hkk
        rw [hkf] at h
        refine h.mono ?_
        rintro e w3 ⟨fa, fcap, rfl, hfl, hb3⟩
        have HF := j4 (HNO.out (by unfold Gate.jr; rw [hkf]; rfl)) (HB.out.2.trans ((hba.trans (hb3.mono hba.size)).mono HB.out.2.size))
        clear h hba hfl hb3 c0 c1 c2 c3 c4 c5
        go_wp2_with fail
        go_ret
        exact ⟨by rw [HF.out.1]; rfl, HF.out.2.alloc HF.out.2.size _⟩
      rw [hkk] at h
      refine h.mono ?_
      rintro e w3 ⟨fa, fcap, rfl, hfl, hb3⟩
      have hX3 := za (zG wr _ _) (by simp) hb3
      have hz3 : wr.heap.size < w3.heap.size := by have := hb3.size; simp at this; omega
      have HB3 := hid (hba.trans (hb3.mono hba.size))
      have hbs := (Below.refl w3.heap.size w3).alloc (Nat.le_refl _) (.cells #[.string (Gate.shapeOf ss ms[k].kd).kd, .slice fa (Gate.shapeOf ss ms[k].kd).fs.length fcap] 115)
      have HB4 := hid (HB3.out.trans (hbs.mono HB3.out.size))
      have HFL := hid ((hfl.mono hb3).mono hbs)
      have HMA : Hid (Gate.jr ss ms[k] = Gate.zal (Gate.shapeOf ss ms[k].kd).fs ms[k]) := by unfold Hid Gate.jr; rw [hkk]; simp
      have HRM : Hid ((w3.alloc (.cells #[.string (Gate.shapeOf ss ms[k].kd).kd, .slice fa (Gate.shapeOf ss ms[k].kd).fs.length fcap] 115)).heap[w1.heap.size]? = some (.map qK 4)) := by
        have h1 := HB.out.1.size
        have h2 := HB2.out.2.2
        exact (HB4.out.block w1.heap.size (by omega)).trans ((HB.out.1.block w1.heap.size h2).trans HB2.out.2.1)
      clear h hba hfl hb3 hbs hkk c0 c1 c2 c3 c4 c5
      go_wp2_with fail
      have h := zml w1.heap.size fa fcap (Gate.shapeOf ss ms[k].kd).fs ms[k] _ HRM.out HFL.out HSM.out
      by_cases hmo : Gate.zal (Gate.shapeOf ss ms[k].kd).fs ms[k] = true
      · rw [hmo] at h
        refine h.mono ?_
        rintro e w5 ⟨rfl, hb5⟩
        have HY : Hid ((ms.take (k + 1)).all (Gate.jr ss) = true /\ Below w2.heap.size w2 w5) := ⟨by rw [HTK.out, HMA.out]; exact hmo, HB.out.1.trans ((HB4.out.trans (hb5.mono HB4.out.size)).mono HB.out.1.size)⟩
        clear h hb5 hmo hX3
        go_wp2_with fail
        exact ⟨⟨k + 1, by omega, by go_num, HY.out.1, HY.out.2⟩, zm hlt⟩
      · have hmf : Gate.zal (Gate.shapeOf ss ms[k].kd).fs ms[k] = false := by simpa using hmo
        rw [hmf] at h
        refine h.mono ?_
        rintro e w5 ⟨rfl, hb5⟩
        have HF := j4 (HNO.out (by rw [HMA.out]; exact hmf)) (HB.out.2.trans ((HB4.out.trans (hb5.mono HB4.out.size)).mono HB.out.2.size))
        clear h hb5 hmo hX3
        go_wp2_with fail
        go_ret
        exact ⟨by rw [HF.out.1]; rfl, HF.out.2⟩
    · have e : k = ms.length := by omega
      have hall := HA.out
      rw [e, List.take_of_length_le (Nat.le_refl _)] at hall
      have HALL := hid hall
      subst e
      clear hall HA
      go_wp2_with fail
      have HBw := hid HB.out.2
      clear HB
      go_loopw [49] (fun iv wq => ∃ k : Nat, k <= ss.length /\ iv = .int .i64 k /\ (ss.take k).all (Gate.rowOk ms) = true /\ Below w.heap.size w wq) (fun iv _ => ss.length - (intOf iv).toNat)
      case atStart => exact ⟨0, Nat.zero_le _, rfl, rfl, HBw.out⟩
      case round =>
        obtain ⟨k, hk, rfl, hall, hB⟩ := hrel
        have HB := hid hB
        have HA := hid hall
        clear hall hB
        by_cases hlt : k < ss.length
        · obtain ⟨b, off, rfl, hb, hr⟩ := HW.out.1.rows (by rintro rfl; simp at hlt)
          obtain ⟨fa, fcap, hs0⟩ := hr k hlt
          have hs := hs0.mono hb HB.out
          have hck := hs.kind
          have hcl := hs.list
          have hfl := hs.flds
          have hltI : (k : Int) < (ss.length : Int) := by omega
          have HTK : Hid ((ss.take (k + 1)).all (Gate.rowOk ms) = Gate.rowOk ms ss[k]) := by
            unfold Hid; rw [List.take_succ_eq_append_getElem hlt, List.all_append, HA.out]; simp
          have HNO : Hid (Gate.rowOk ms ss[k] = false -> Gate.yg ss ms = false) := by
            intro h
            have : ss.all (Gate.rowOk ms) = false := by rw [List.all_eq_false]; exact ⟨_, List.getElem_mem hlt, by rw [h]; simp⟩
            unfold Gate.yg; rw [this]; simp
          have hba := (Below.refl wr.heap.size wr).alloc (Nat.le_refl _) (.cells #[.string ss[k].kd, .slice fa ss[k].fs.length fcap] 115)
          have HFL := hid (hfl.mono hba)
          have HBA : Hid (Below w.heap.size w (wr.alloc (.cells #[.string ss[k].kd, .slice fa ss[k].fs.length fcap] 115))) := HB.out.trans (hba.mono HB.out.size)
          clear hr hs0 hs hfl hba
          go_wp2_with fail
          have h := zf4 ss[k] ms a' fa cap' fcap _ (HW.out.2.mono HBA.out) HFL.out hml (Gate.zek HOK.out k hlt) (Gate.zhQ HOK.out HALL.out k hlt)
          by_cases hrk : Gate.rowOk ms ss[k] = true
          · have hrk' : (Gate.zD (Gate.zi ss[k] ms) ss[k].fs.length).1 = true := hrk
            refine h.mono ?_
            rintro e w5 ⟨v5, rfl, hb5, _⟩
            have HY : Hid ((ss.take (k + 1)).all (Gate.rowOk ms) = true /\ Below w.heap.size w w5) := ⟨by rw [HTK.out]; exact hrk, HBA.out.trans (hb5.mono HBA.out.size)⟩
            rw [hrk']
            clear h hb5 hrk hrk' hck hcl
            go_wp2_with fail
            exact ⟨⟨k + 1, by omega, by go_num, HY.out.1, HY.out.2⟩, zm hlt⟩
          · have hrf : Gate.rowOk ms ss[k] = false := by simpa using hrk
            have hrk' : (Gate.zD (Gate.zi ss[k] ms) ss[k].fs.length).1 = false := hrf
            refine h.mono ?_
            rintro e w5 ⟨v5, rfl, hb5, _⟩
            have HF : Hid (Gate.yg ss ms = false /\ Below w.heap.size w w5) := ⟨HNO.out hrf, HBA.out.trans (hb5.mono HBA.out.size)⟩
            rw [hrk']
            clear h hb5 hrk hrk' hck hcl
            go_wp2_with fail
            go_ret
            exact ⟨by rw [HF.out.1]; rfl, HF.out.2⟩
        · have e : k = ss.length := by omega
          have hall := HA.out
          rw [e, List.take_of_length_le (Nat.le_refl _)] at hall
          have HF : Hid (Gate.yg ss ms = true) := by unfold Hid Gate.yg; rw [HALL.out, HOK.out, hall, decide_eq_true h12]; rfl
          subst e
          clear hall HA
          go_wp2_with fail
          go_ret
          exact ⟨by rw [HF.out]; rfl, HB.out⟩
end Go.Proofs.YtfapkhgallmkdaaGreat
