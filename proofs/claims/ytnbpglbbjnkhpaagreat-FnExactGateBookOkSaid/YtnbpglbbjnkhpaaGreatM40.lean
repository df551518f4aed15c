import Derived.Test.YtnbpglbbjnkhpaaGreatM13
import Derived.Test.YtnbpglbbjnkhpaaGreatM12
import Derived.Test.YtnbpglbbjnkhpaaGreatM25
import Derived.Test.YtnbpglbbjnkhpaaGreatM17
import Derived.Test.YtnbpglbbjnkhpaaGreatM34
import Derived.Test.YtnbpglbbjnkhpaaGreatM35
import Derived.Test.YtnbpglbbjnkhpaaGreatM36
import Derived.Test.YtnbpglbbjnkhpaaGreatM39
namespace Go.Proofs.YtnbpglbbjnkhpaaGreat
open Go.RowKit
set_option maxRecDepth 20000 in
set_option maxHeartbeats 4000000 in
theorem zdq (a a' : Option Addr) (cap cap' : Nat) (ss : List Shp) (ms : List Mnd) (w : World) (hw : yG w a ss) (hm : yS w a' ms) (hml : ms.length <= 1048576) :
    Calls Tryz.prog 69 #[.slice a ss.length cap, .slice a' ms.length cap'] w fun e w' => e = .returned (.bool (Gate.yj ss ms)) /\ Below w.heap.size w w' := by
  have HW : Hid (yG w a ss /\ yS w a' ms) := ⟨hw, hm⟩
  have hl := hw.len
  unfold maxLen at hl
  clear hw hm
  by_cases h12 : ms.length <= 12
  rotate_left
  · have HF : Hid (Gate.yj ss ms = false) := by unfold Hid Gate.yj; rw [decide_eq_false h12]; simp
    go_enter Tryz.func69, Tryz.ntmps69
    go_wp2_with fail
    go_ret
    exact ⟨by rw [HF.out]; rfl, Below.refl _ _⟩
  have h12I : (ms.length : Int) <= 12 := by omega
  by_cases hok : Gate.zZ ss = true
  rotate_left
  · have hokf : Gate.zZ ss = false := by simpa using hok
    have HF : Hid (Gate.yj ss ms = false) := by unfold Hid Gate.yj; rw [hokf]; simp
    go_enter Tryz.func69, Tryz.ntmps69
    go_wp2_with fail
    have h := zcQ a cap ss w HW.out.1
    rw [hokf] at h
    refine h.mono ?_
    rintro e w1 ⟨rfl, hb1⟩
    clear h
    go_wp2_with fail
    go_ret
    exact ⟨by rw [HF.out]; rfl, hb1⟩
  have HOK : Hid (Gate.zZ ss = true) := hok
  go_enter Tryz.func69, Tryz.ntmps69
  go_wp2_with fail
  have h := zcQ a cap ss w HW.out.1
  rw [hok] at h
  refine h.mono ?_
  rintro e w1 ⟨rfl, hb1⟩
  have HB1 : Hid (Below w.heap.size w w1) := hb1
  clear h hb1 hok
  go_wp2_with fail
  refine (zbV _).mono ?_
  rintro e w2 ⟨rfl, hw2⟩
  have HB2 : Hid (Below w.heap.size w w2 /\ w2.heap[w1.heap.size]? = some (.map yK 4) /\ w1.heap.size < w2.heap.size) := by
    rw [hw2]; exact ⟨HB1.out.trans (((Below.refl _ _).alloc (Nat.le_refl _) _).mono HB1.out.size), alloc_at _ _, by simp⟩
  clear hw2
  go_wp2_with fail
  go_loopw [25] (fun iv wr => ∃ k : Nat, k <= ms.length /\ iv = .int .i64 k /\ (ms.take k).all (Gate.jD ss) = true /\ Below w2.heap.size w2 wr) (fun iv _ => ms.length - (intOf iv).toNat)
  case atStart => exact ⟨0, Nat.zero_le _, rfl, rfl, Below.refl _ _⟩
  case round =>
    obtain ⟨k, hk, rfl, hall, hB⟩ := hrel
    have HB : Hid (Below w2.heap.size w2 wr /\ Below w.heap.size w wr) := ⟨hB, HB2.out.1.trans (hB.mono HB2.out.1.size)⟩
    have HA : Hid ((ms.take k).all (Gate.jD ss) = true) := hall
    clear hall hB
    by_cases hlt : k < ms.length
    · obtain ⟨b, off, rfl, hb, c0, c1, c2, c3, c4, c5⟩ := HW.out.2.load HB.out.2 k hlt
      have hltI : (k : Int) < (ms.length : Int) := by omega
      have hsm := HW.out.2.small k hlt
      have HTK : Hid ((ms.take (k + 1)).all (Gate.jD ss) = Gate.jD ss ms[k]) := by
        unfold Hid; rw [List.take_succ_eq_append_getElem hlt, List.all_append, HA.out]; simp
      have HNO : Hid (Gate.jD ss ms[k] = false -> Gate.yj ss ms = false) := by
        intro h
        have : ms.all (Gate.jD ss) = false := by rw [List.all_eq_false]; exact ⟨_, List.getElem_mem hlt, by rw [h]; simp⟩
        unfold Gate.yj; rw [this]; simp
      have hba := (Below.refl wr.heap.size wr).alloc (Nat.le_refl _) (.cells #[.string ms[k].kd, .string ms[k].fd, .string ms[k].wh, .string ms[k].wi, .string ms[k].pt, .string ms[k].fr] 129)
      have HSM : Hid (ms[k].Small) := hsm
      clear hsm
      go_wp2_with fail
      have h := qA a cap ss ms[k].kd _ (HW.out.1.mono (HB.out.2.trans (hba.mono HB.out.2.size)))
      by_cases hkk : Gate.zG ss ms[k].kd = true
      rotate_left
      · have hkf : Gate.zG ss ms[k].kd = false := by simpa using hkk
        rw [hkf] at h
        refine h.mono ?_
        rintro e w3 ⟨fa, fcap, rfl, hfl, hb3⟩
        have HF : Hid (Gate.yj ss ms = false /\ Below w.heap.size w w3) := ⟨HNO.out (by unfold Gate.jD; rw [hkf]; rfl), HB.out.2.trans ((hba.trans (hb3.mono hba.size)).mono HB.out.2.size)⟩
        clear h hba hfl hb3 c0 c1 c2 c3 c4 c5
        go_wp2_with fail
        go_ret
        exact ⟨by rw [HF.out.1]; rfl, HF.out.2.alloc HF.out.2.size _⟩
      rw [hkk] at h
      refine h.mono ?_
      rintro e w3 ⟨fa, fcap, rfl, hfl, hb3⟩
      have hX3 := za (zl wr _ _) (by simp) hb3
      have hz3 : wr.heap.size < w3.heap.size := by have := hb3.size; simp at this; omega
      have HB3 : Hid (Below wr.heap.size wr w3) := hba.trans (hb3.mono hba.size)
      have hbs := (Below.refl w3.heap.size w3).alloc (Nat.le_refl _) (.cells #[.string (Gate.shapeOf ss ms[k].kd).kd, .slice fa (Gate.shapeOf ss ms[k].kd).fs.length fcap] 127)
      have HB4 : Hid (Below wr.heap.size wr (w3.alloc (.cells #[.string (Gate.shapeOf ss ms[k].kd).kd, .slice fa (Gate.shapeOf ss ms[k].kd).fs.length fcap] 127))) := HB3.out.trans (hbs.mono HB3.out.size)
      have HFL : Hid (zP (w3.alloc (.cells #[.string (Gate.shapeOf ss ms[k].kd).kd, .slice fa (Gate.shapeOf ss ms[k].kd).fs.length fcap] 127)) fa (Gate.shapeOf ss ms[k].kd).fs) := (hfl.mono hb3).mono hbs
      have HMA : Hid (Gate.jD ss ms[k] = Gate.zaz (Gate.shapeOf ss ms[k].kd).fs ms[k]) := by unfold Hid Gate.jD; rw [hkk]; simp
      have HRM : Hid ((w3.alloc (.cells #[.string (Gate.shapeOf ss ms[k].kd).kd, .slice fa (Gate.shapeOf ss ms[k].kd).fs.length fcap] 127)).heap[w1.heap.size]? = some (.map yK 4)) := by
        have h1 := HB.out.1.size
        have h2 := HB2.out.2.2
        exact (HB4.out.block w1.heap.size (by omega)).trans ((HB.out.1.block w1.heap.size h2).trans HB2.out.2.1)
      clear h hba hfl hb3 hbs hkk c0 c1 c2 c3 c4 c5
      go_wp2_with fail
      have h := zlo w1.heap.size fa fcap (Gate.shapeOf ss ms[k].kd).fs ms[k] _ HRM.out HFL.out HSM.out
      by_cases hmo : Gate.zaz (Gate.shapeOf ss ms[k].kd).fs ms[k] = true
      · rw [hmo] at h
        refine h.mono ?_
        rintro e w5 ⟨rfl, hb5⟩
        have HY : Hid ((ms.take (k + 1)).all (Gate.jD ss) = true /\ Below w2.heap.size w2 w5) := ⟨by rw [HTK.out, HMA.out]; exact hmo, HB.out.1.trans ((HB4.out.trans (hb5.mono HB4.out.size)).mono HB.out.1.size)⟩
        clear h hb5 hmo hX3
        go_wp2_with fail
        exact ⟨⟨k + 1, by omega, by go_num, HY.out.1, HY.out.2⟩, zw hlt⟩
      · have hmf : Gate.zaz (Gate.shapeOf ss ms[k].kd).fs ms[k] = false := by simpa using hmo
        rw [hmf] at h
        refine h.mono ?_
        rintro e w5 ⟨rfl, hb5⟩
        have HF : Hid (Gate.yj ss ms = false /\ Below w.heap.size w w5) := ⟨HNO.out (by rw [HMA.out]; exact hmf), HB.out.2.trans ((HB4.out.trans (hb5.mono HB4.out.size)).mono HB.out.2.size)⟩
        clear h hb5 hmo hX3
        go_wp2_with fail
        go_ret
        exact ⟨by rw [HF.out.1]; rfl, HF.out.2⟩
    · have e : k = ms.length := by omega
      have hall := HA.out
      rw [e, List.take_of_length_le (Nat.le_refl _)] at hall
      have HALL : Hid (ms.all (Gate.jD ss) = true) := hall
      subst e
      clear hall HA
      go_wp2_with fail
      have HBw : Hid (Below w.heap.size w wr) := HB.out.2
      clear HB
      go_loopw [49] (fun iv wq => ∃ k : Nat, k <= ss.length /\ iv = .int .i64 k /\ (ss.take k).all (Gate.rowOk ms) = true /\ Below w.heap.size w wq) (fun iv _ => ss.length - (intOf iv).toNat)
      case atStart => exact ⟨0, Nat.zero_le _, rfl, rfl, HBw.out⟩
      case round =>
        obtain ⟨k, hk, rfl, hall, hB⟩ := hrel
        have HB : Hid (Below w.heap.size w wr) := hB
        have HA : Hid ((ss.take k).all (Gate.rowOk ms) = true) := hall
        clear hall hB
        by_cases hlt : k < ss.length
        · obtain ⟨b, off, rfl, hb, hr⟩ := HW.out.1.rows (by rintro rfl; simp at hlt)
          obtain ⟨fa, fcap, hs0⟩ := hr k hlt
          have hs := hs0.mono hb HB.out
          have hck := hs.kind
          have hcl := hs.list
          have hfl := hs.flds
          have hltI : (k : Int) < (ss.length : Int) := by omega
          have HTK : Hid ((ss.take (k + 1)).all (Gate.rowOk ms) = Gate.rowOk ms ss[k]) := by
            unfold Hid; rw [List.take_succ_eq_append_getElem hlt, List.all_append, HA.out]; simp
          have HNO : Hid (Gate.rowOk ms ss[k] = false -> Gate.yj ss ms = false) := by
            intro h
            have : ss.all (Gate.rowOk ms) = false := by rw [List.all_eq_false]; exact ⟨_, List.getElem_mem hlt, by rw [h]; simp⟩
            unfold Gate.yj; rw [this]; simp
          have hba := (Below.refl wr.heap.size wr).alloc (Nat.le_refl _) (.cells #[.string ss[k].kd, .slice fa ss[k].fs.length fcap] 127)
          have HFL : Hid (zP (wr.alloc (.cells #[.string ss[k].kd, .slice fa ss[k].fs.length fcap] 127)) fa ss[k].fs) := hfl.mono hba
          have HBA : Hid (Below w.heap.size w (wr.alloc (.cells #[.string ss[k].kd, .slice fa ss[k].fs.length fcap] 127))) := HB.out.trans (hba.mono HB.out.size)
          clear hr hs0 hs hfl hba
          go_wp2_with fail
          have h := zgg ss[k] ms a' fa cap' fcap _ (HW.out.2.mono HBA.out) HFL.out hml (Gate.zem HOK.out k hlt) (Gate.zhL HOK.out HALL.out k hlt)
          by_cases hrk : Gate.rowOk ms ss[k] = true
          · have hrk' : (Gate.zH (Gate.zk ss[k] ms) ss[k].fs.length).1 = true := hrk
            refine h.mono ?_
            rintro e w5 ⟨v5, rfl, hb5, _⟩
            have HY : Hid ((ss.take (k + 1)).all (Gate.rowOk ms) = true /\ Below w.heap.size w w5) := ⟨by rw [HTK.out]; exact hrk, HBA.out.trans (hb5.mono HBA.out.size)⟩
            rw [hrk']
            clear h hb5 hrk hrk' hck hcl
            go_wp2_with fail
            exact ⟨⟨k + 1, by omega, by go_num, HY.out.1, HY.out.2⟩, zw hlt⟩
          · have hrf : Gate.rowOk ms ss[k] = false := by simpa using hrk
            have hrk' : (Gate.zH (Gate.zk ss[k] ms) ss[k].fs.length).1 = false := hrf
            refine h.mono ?_
            rintro e w5 ⟨v5, rfl, hb5, _⟩
            have HF : Hid (Gate.yj ss ms = false /\ Below w.heap.size w w5) := ⟨HNO.out hrf, HBA.out.trans (hb5.mono HBA.out.size)⟩
            rw [hrk']
            clear h hb5 hrk hrk' hck hcl
            go_wp2_with fail
            go_ret
            exact ⟨by rw [HF.out.1]; rfl, HF.out.2⟩
        · have e : k = ss.length := by omega
          have hall := HA.out
          rw [e, List.take_of_length_le (Nat.le_refl _)] at hall
          have HF : Hid (Gate.yj ss ms = true) := by unfold Hid Gate.yj; rw [HALL.out, HOK.out, hall, decide_eq_true h12]; rfl
          subst e
          clear hall HA
          go_wp2_with fail
          go_ret
          exact ⟨by rw [HF.out]; rfl, HB.out⟩
end Go.Proofs.YtnbpglbbjnkhpaaGreat

namespace Go.Proofs.YtnbpglbbjnkhpaaGreat
open Go.RowKit
def Gate.zbC (l : Lw) : Bool := Gate.yj l.ss l.ms && Gate.za4 l.ts
set_option maxHeartbeats 1000000 in
theorem ziE (l : Lw) (a b c : Option Addr) (ca cb cc : Nat) (w : World) (hl : qC w l a b c) (hf : l.Few) :
    Calls Tryz.prog 31 #[.agg (l.cells a b c ca cb cc)] w fun e w' => e = .returned (.bool (Gate.zbC l)) /\ Below w.heap.size w w' := by
  have HL : Hid (qC w l a b c) := hl
  have HF : Hid l.Few := hf
  clear hl hf
  unfold Lw.cells
  by_cases h1 : Gate.yj l.ss l.ms = true
  · have HQ : Hid (Gate.zbC l = Gate.za4 l.ts) := by unfold Hid Gate.zbC; rw [h1]; rfl
    have HM : Hid (Gate.yj l.ss l.ms = true) := h1
    clear h1
    go_enter Tryz.func31, Tryz.ntmps31
    go_wp2_with fail
    refine (zf HM.out (zdq _ _ _ _ l.ss l.ms _ (HL.out.ss.mono ((Below.refl _ _).alloc (Nat.le_refl _) _)) (HL.out.ms.mono ((Below.refl _ _).alloc (Nat.le_refl _) _)) HF.out.ms)).mono ?_
    rintro e w1 ⟨rfl, hb⟩
    have hX1 := za (zl w #[.slice a l.ss.length ca, .slice b l.ms.length cb, .slice c l.ts.length cc] 40) (by simp) hb
    have hz1 : w.heap.size < w1.heap.size := by have := hb.size; simp at this; omega
    have hB1 : Below w.heap.size w w1 := ((Below.refl _ _).alloc (Nat.le_refl _) _).trans (hb.mono (by simp))
    clear hb
    go_wp2_with fail
    refine (zgF _ _ l.ts _ (HL.out.ts.mono hB1)).mono ?_
    rintro e w2 ⟨rfl, hb⟩
    have hB2 := hB1.trans (hb.mono hB1.size)
    clear hb hX1 hz1 hB1
    go_wp2_with fail
    go_ret
    exact ⟨ze HQ.out.symm, hB2⟩
  · have h1' : Gate.yj l.ss l.ms = false := by simpa using h1
    have HQ : Hid (Gate.zbC l = false) := by unfold Hid Gate.zbC; rw [h1']; rfl
    have HM : Hid (Gate.yj l.ss l.ms = false) := h1'
    clear h1 h1'
    go_enter Tryz.func31, Tryz.ntmps31
    go_wp2_with fail
    refine (zf HM.out (zdq _ _ _ _ l.ss l.ms _ (HL.out.ss.mono ((Below.refl _ _).alloc (Nat.le_refl _) _)) (HL.out.ms.mono ((Below.refl _ _).alloc (Nat.le_refl _) _)) HF.out.ms)).mono ?_
    rintro e w1 ⟨rfl, hb⟩
    have hB1 : Below w.heap.size w w1 := ((Below.refl _ _).alloc (Nat.le_refl _) _).trans (hb.mono (by simp))
    clear hb
    go_wp2_with fail
    go_ret
    exact ⟨ze HQ.out.symm, hB1⟩
set_option maxHeartbeats 1000000 in
theorem ziy (l : Lw) (a b c : Option Addr) (ca cb cc : Nat) (w : World) (hl : qC w l a b c) :
    Calls Tryz.prog 19 #[.agg (l.cells a b c ca cb cc)] w fun e w' => e = .returned (.bool (Gate.zbC l)) /\ Below w.heap.size w w' := by
  have HL : Hid (qC w l a b c) := hl
  clear hl
  unfold Lw.cells
  by_cases h1 : Gate.yj l.ss l.ms = true
  · have HQ : Hid (Gate.zbC l = Gate.zai l.ts) := by unfold Hid Gate.zbC; rw [h1, Gate.zjS]; rfl
    have HM : Hid (Gate.qZ l.ss l.ms = true) := by unfold Hid; rw [<- Gate.zeE]; exact h1
    clear h1
    go_enter Tryz.func19, Tryz.ntmps19
    go_wp2_with fail
    refine (zf HM.out (zdm _ _ _ _ l.ss l.ms _ (HL.out.ss.mono ((Below.refl _ _).alloc (Nat.le_refl _) _)) (HL.out.ms.mono ((Below.refl _ _).alloc (Nat.le_refl _) _)))).mono ?_
    rintro e w1 ⟨rfl, hb⟩
    have hX1 := za (zl w #[.slice a l.ss.length ca, .slice b l.ms.length cb, .slice c l.ts.length cc] 40) (by simp) hb
    have hz1 : w.heap.size < w1.heap.size := by have := hb.size; simp at this; omega
    have hB1 : Below w.heap.size w w1 := ((Below.refl _ _).alloc (Nat.le_refl _) _).trans (hb.mono (by simp))
    clear hb
    go_wp2_with fail
    refine (zgZ _ _ l.ts _ (HL.out.ts.mono hB1)).mono ?_
    rintro e w2 ⟨rfl, hb⟩
    have hB2 := hB1.trans (hb.mono hB1.size)
    clear hb hX1 hz1 hB1
    go_wp2_with fail
    go_ret
    exact ⟨ze HQ.out.symm, hB2⟩
  · have h1' : Gate.yj l.ss l.ms = false := by simpa using h1
    have HQ : Hid (Gate.zbC l = false) := by unfold Hid Gate.zbC; rw [h1']; rfl
    have HM : Hid (Gate.qZ l.ss l.ms = false) := by unfold Hid; rw [<- Gate.zeE]; exact h1'
    clear h1 h1'
    go_enter Tryz.func19, Tryz.ntmps19
    go_wp2_with fail
    refine (zf HM.out (zdm _ _ _ _ l.ss l.ms _ (HL.out.ss.mono ((Below.refl _ _).alloc (Nat.le_refl _) _)) (HL.out.ms.mono ((Below.refl _ _).alloc (Nat.le_refl _) _)))).mono ?_
    rintro e w1 ⟨rfl, hb⟩
    have hB1 : Below w.heap.size w w1 := ((Below.refl _ _).alloc (Nat.le_refl _) _).trans (hb.mono (by simp))
    clear hb
    go_wp2_with fail
    go_ret
    exact ⟨ze HQ.out.symm, hB1⟩
end Go.Proofs.YtnbpglbbjnkhpaaGreat

namespace Go.Proofs.YtnbpglbbjnkhpaaGreat
open Go.RowKit
namespace Gate
noncomputable def zaR (l : Lw) (b : Bk) : Bool := zab b && (z8 l b && (yc b && (yL l.ts b && (yR b && zbU l b))))
noncomputable def zaA (l : Lw) (b : Bk) : Bool := zbC l && zaR l b
end Gate
theorem zct {ts : List Tm} {b : Bk} (h : Gate.yL ts b = true) : Gate.rising Gate.y8 b.ls /\ b.ls.length <= 10 /\ ∀ i (hi : i < b.ls.length), Gate.yJ ts b.ls[i] = true := by
  unfold Gate.yL at h
  simp only [Bool.and_eq_true, decide_eq_true_eq] at h
  exact ⟨(Gate.zki _ _).1 h.2.1, h.1, fun i hi => List.all_eq_true.1 h.2.2 _ (List.getElem_mem _)⟩
theorem zjK {b : Bk} (h : Gate.zab b = true) : 0 <= b.tick /\ b.tick <= 1000000 := by
  unfold Gate.zab Gate.within at h
  simp only [Bool.and_eq_true, decide_eq_true_eq] at h
  exact h.2.1
theorem zju {b : Bk} (h : Gate.yR b = true) : b.ps.length <= 24 /\ ∀ i (hi : i < b.ps.length), Gate.yB b.ls b.tick b.ps[i] = true := by
  unfold Gate.yR at h
  simp only [Bool.and_eq_true, decide_eq_true_eq] at h
  exact ⟨h.1, fun i hi => List.all_eq_true.1 h.2.2 _ (List.getElem_mem _)⟩
theorem zlm {b : Bk} (h : Gate.rising Gate.y8 b.ls) : ∀ i j (hi : i < b.ls.length) (hj : j < b.ls.length), b.ls[i].tm = b.ls[j].tm -> b.ls[i].rs = b.ls[j].rs -> i = j := by
  intro i j hi hj e1 e2
  have hz : ∀ i j (hi : i < b.ls.length) (hj : j < b.ls.length), i < j -> b.ls[i].tm = b.ls[j].tm -> b.ls[i].rs = b.ls[j].rs -> False := by
    intro i j hi hj hlt e1 e2
    have h1 := Gate.zcD (fun a b c => Gate.zaV (a := a) (b := b) (c := c)) h j hj i hlt
    have h2 : Gate.y8 b.ls[i] b.ls[j] = 0 := by unfold Gate.y8; rw [Gate.zfq]; exact ⟨e1, e2⟩
    omega
  rcases Nat.lt_trichotomy i j with h1 | h1 | h1
  · exact (hz i j hi hj h1 e1 e2).elim
  · exact h1
  · exact (hz j i hj hi h1 e1.symm e2.symm).elim
theorem znp {ts : List Tm} {b : Bk} (h : Gate.yL ts b = true) (h' : Gate.yR b = true) (hz : qK b.os <= 1048576) : zeC b := by
  obtain ⟨h1, h2, h3⟩ := zct h
  obtain ⟨p1, p2⟩ := zju h'
  refine ⟨zlm h1, fun k hk => ?_, fun i hi => ?_, fun i hi => ?_, by omega, by omega, hz⟩
  · have h4 := p2 k hk
    unfold Gate.yB Gate.jd at h4
    simp only [Bool.and_eq_true] at h4
    obtain ⟨g, hg, h5⟩ := List.any_eq_true.1 h4.1
    obtain ⟨j, hj, rfl⟩ := List.mem_iff_getElem.1 hg
    simp only [Bool.and_eq_true, decide_eq_true_eq] at h5
    exact ⟨j, hj, h5.1, h5.2⟩
  · have h4 := h3 i hi
    unfold Gate.yJ Gate.jh at h4
    simp only [Bool.and_eq_true, decide_eq_true_eq] at h4
    omega
  · have h4 := p2 i hi
    unfold Gate.yB Gate.within at h4
    simp only [Bool.and_eq_true, decide_eq_true_eq] at h4
    omega
set_option maxRecDepth 20000 in
set_option maxHeartbeats 4000000 in
theorem zma (l : Lw) (la lb lc : Option Addr) (lca lcb lcc : Nat) (b : Bk) (a0 a1 a2 a3 : Option Addr) (c0 c1 c2 c3 : Nat) (w : World) (hb : qO w b a0 a1 a2 a3) (hl : qC w l la lb lc) (hml : l.ms.length <= 1048576) (hok : Gate.yj l.ss l.ms = true) (hfw : ∀ i (h : i < b.os.length), b.os[i].vs.length <= 1048576 /\ b.os[i].hs.length <= 1048576) (hz : qK b.os <= 1048576) :
    Calls Tryz.prog 32 #[.agg #[.slice la l.ss.length lca, .slice lb l.ms.length lcb, .slice lc l.ts.length lcc], .agg #[.int .i64 b.now, .int .i64 b.tick, .int .i64 b.given, .slice a0 b.os.length c0, .slice a1 b.gs.length c1, .slice a2 b.ls.length c2, .slice a3 b.ps.length c3]] w fun e w' => e = .returned (.bool (Gate.zaR l b)) /\ Below w.heap.size w w' := by
  have HK : Hid (qO w b a0 a1 a2 a3) := hb
  have HL : Hid (qC w l la lb lc) := hl
  have HF : Hid (l.ms.length <= 1048576 /\ Gate.yj l.ss l.ms = true /\ (∀ i (h : i < b.os.length), b.os[i].vs.length <= 1048576 /\ b.os[i].hs.length <= 1048576) /\ qK b.os <= 1048576) := ⟨hml, hok, hfw, hz⟩
  clear hb hl hml hok hfw hz
  go_enter Tryz.func32, Tryz.ntmps32
  go_wp2_with fail
  obtain ⟨hL0, hX0⟩ := qN w #[.slice la l.ss.length lca, .slice lb l.ms.length lcb, .slice lc l.ts.length lcc] #[.int .i64 b.now, .int .i64 b.tick, .int .i64 b.given, .slice a0 b.os.length c0, .slice a1 b.gs.length c1, .slice a2 b.ls.length c2, .slice a3 b.ps.length c3] 40 47
  have HBi : Hid (Below w.heap.size w ((w.alloc (.cells #[.slice la l.ss.length lca, .slice lb l.ms.length lcb, .slice lc l.ts.length lcc] 40)).alloc (.cells #[.int .i64 b.now, .int .i64 b.tick, .int .i64 b.given, .slice a0 b.os.length c0, .slice a1 b.gs.length c1, .slice a2 b.ls.length c2, .slice a3 b.ps.length c3] 47))) := zB w _ _
  obtain ⟨W0, hW0⟩ : ∃ W0, W0 = (w.alloc (.cells #[.slice la l.ss.length lca, .slice lb l.ms.length lcb, .slice lc l.ts.length lcc] 40)).alloc (.cells #[.int .i64 b.now, .int .i64 b.tick, .int .i64 b.given, .slice a0 b.os.length c0, .slice a1 b.gs.length c1, .slice a2 b.ls.length c2, .slice a3 b.ps.length c3] 47) := ⟨_, rfl⟩
  have hz0 : w.heap.size + 1 < W0.heap.size := by rw [hW0]; simp
  rw [<- hW0] at HBi hX0 hL0 ⊢
  clear hW0
  refine (ziq b a0 a1 a2 a3 c0 c1 c2 c3 _).mono ?_
  rintro e w1 ⟨rfl, hb0⟩
  have hX1 := za hX0 hz0 hb0
  have hL1 := za hL0 (Nat.lt_of_succ_lt hz0) hb0
  have hz1 := Nat.lt_of_lt_of_le hz0 hb0.size
  have hy1 := Nat.lt_of_succ_lt hz1
  have HBi : Hid (Below w.heap.size w w1) := HBi.out.trans (hb0.mono HBi.out.size)
  clear hb0 hX0 hL0 hz0
  by_cases t : Gate.zab b = true
  rotate_left
  · have HN : Hid (Gate.zaR l b = false) := by unfold Hid Gate.zaR; rw [Bool.eq_false_iff.2 t]; rfl
    rw [Bool.eq_false_iff.2 t]
    clear t
    go_wp2_with fail
    go_ret
    exact ⟨ze HN.out.symm, HBi.out⟩
  have HT0 : Hid (Gate.zab b = true) := t
  rw [t]
  clear t
  go_wp2_with fail
  refine (zid l la lb lc lca lcb lcc b a0 a1 a2 a3 c0 c1 c2 c3 _ (HK.out.mono HBi.out) (HL.out.mono HBi.out) HF.out.1 HF.out.2.1 HF.out.2.2.1).mono ?_
  rintro e w2 ⟨rfl, hb1⟩
  have hX2 := za hX1 hz1 hb1
  have hL2 := za hL1 (Nat.lt_of_succ_lt hz1) hb1
  have hz2 := Nat.lt_of_lt_of_le hz1 hb1.size
  have hy2 := Nat.lt_of_succ_lt hz2
  have HBi : Hid (Below w.heap.size w w2) := HBi.out.trans (hb1.mono HBi.out.size)
  clear hb1 hX1 hL1 hz1 hy1
  by_cases t : Gate.z8 l b = true
  rotate_left
  · have HN : Hid (Gate.zaR l b = false) := by unfold Hid Gate.zaR; rw [HT0.out, Bool.eq_false_iff.2 t]; rfl
    rw [Bool.eq_false_iff.2 t]
    clear t
    go_wp2_with fail
    go_ret
    exact ⟨ze HN.out.symm, HBi.out⟩
  have HT1 : Hid (Gate.z8 l b = true) := t
  rw [t]
  clear t
  go_wp2_with fail
  refine (ziP b a0 a1 a2 a3 c0 c1 c2 c3 _ (HK.out.mono HBi.out)).mono ?_
  rintro e w3 ⟨rfl, hb2⟩
  have hX3 := za hX2 hz2 hb2
  have hL3 := za hL2 (Nat.lt_of_succ_lt hz2) hb2
  have hz3 := Nat.lt_of_lt_of_le hz2 hb2.size
  have hy3 := Nat.lt_of_succ_lt hz3
  have HBi : Hid (Below w.heap.size w w3) := HBi.out.trans (hb2.mono HBi.out.size)
  clear hb2 hX2 hL2 hz2 hy2
  by_cases t : Gate.yc b = true
  rotate_left
  · have HN : Hid (Gate.zaR l b = false) := by unfold Hid Gate.zaR; rw [HT0.out, HT1.out, Bool.eq_false_iff.2 t]; rfl
    rw [Bool.eq_false_iff.2 t]
    clear t
    go_wp2_with fail
    go_ret
    exact ⟨ze HN.out.symm, HBi.out⟩
  have HT2 : Hid (Gate.yc b = true) := t
  rw [t]
  clear t
  go_wp2_with fail
  refine (zhZ l la lb lc lca lcb lcc b a0 a1 a2 a3 c0 c1 c2 c3 _ (HK.out.mono HBi.out) (HL.out.mono HBi.out)).mono ?_
  rintro e w4 ⟨rfl, hb3⟩
  have hX4 := za hX3 hz3 hb3
  have hL4 := za hL3 (Nat.lt_of_succ_lt hz3) hb3
  have hz4 := Nat.lt_of_lt_of_le hz3 hb3.size
  have hy4 := Nat.lt_of_succ_lt hz4
  have HBi : Hid (Below w.heap.size w w4) := HBi.out.trans (hb3.mono HBi.out.size)
  clear hb3 hX3 hL3 hz3 hy3
  by_cases t : Gate.yL l.ts b = true
  rotate_left
  · have HN : Hid (Gate.zaR l b = false) := by unfold Hid Gate.zaR; rw [HT0.out, HT1.out, HT2.out, Bool.eq_false_iff.2 t]; rfl
    rw [Bool.eq_false_iff.2 t]
    clear t
    go_wp2_with fail
    go_ret
    exact ⟨ze HN.out.symm, HBi.out⟩
  have HT3 : Hid (Gate.yL l.ts b = true) := t
  rw [t]
  clear t
  go_wp2_with fail
  refine (ziM b a0 a1 a2 a3 c0 c1 c2 c3 _ (HK.out.mono HBi.out) (zct HT3.out).1 (zct HT3.out).2.1 (zjK HT0.out)).mono ?_
  rintro e w5 ⟨rfl, hb4⟩
  have hX5 := za hX4 hz4 hb4
  have hL5 := za hL4 (Nat.lt_of_succ_lt hz4) hb4
  have hz5 := Nat.lt_of_lt_of_le hz4 hb4.size
  have hy5 := Nat.lt_of_succ_lt hz5
  have HBi : Hid (Below w.heap.size w w5) := HBi.out.trans (hb4.mono HBi.out.size)
  clear hb4 hX4 hL4 hz4 hy4
  by_cases t : Gate.yR b = true
  rotate_left
  · have HN : Hid (Gate.zaR l b = false) := by unfold Hid Gate.zaR; rw [HT0.out, HT1.out, HT2.out, HT3.out, Bool.eq_false_iff.2 t]; rfl
    rw [Bool.eq_false_iff.2 t]
    clear t
    go_wp2_with fail
    go_ret
    exact ⟨ze HN.out.symm, HBi.out⟩
  have HT4 : Hid (Gate.yR b = true) := t
  rw [t]
  clear t
  go_wp2_with fail
  refine (zkz l la lb lc lca lcb lcc b a0 a1 a2 a3 c0 c1 c2 c3 _ (HL.out.mono HBi.out) (HK.out.mono HBi.out) (znp HT3.out HT4.out HF.out.2.2.2)).mono ?_
  rintro e w6 ⟨rfl, hb5⟩
  have HBe : Hid (Below w.heap.size w w6) := HBi.out.trans (hb5.mono HBi.out.size)
  have HN : Hid (Gate.zbU l b = Gate.zaR l b) := by unfold Hid Gate.zaR; rw [HT0.out, HT1.out, HT2.out, HT3.out, HT4.out]; rfl
  rw [HN.out]
  clear hb5 hX5 hL5 hz5 hy5
  go_wp2_with fail
  go_ret
  exact ⟨rfl, HBe.out⟩
set_option maxRecDepth 20000 in
set_option maxHeartbeats 4000000 in
theorem zhA (l : Lw) (la lb lc : Option Addr) (lca lcb lcc : Nat) (b : Bk) (a0 a1 a2 a3 : Option Addr) (c0 c1 c2 c3 : Nat) (w : World) (hl : qC w l la lb lc) (hb : qO w b a0 a1 a2 a3) (hlf : l.Few) (hbf : b.Few) (hz : qK b.os <= 1048576) :
    Calls Tryz.prog 9 #[.agg (l.cells la lb lc lca lcb lcc), .agg (b.cells a0 a1 a2 a3 c0 c1 c2 c3)] w fun e w' => e = .returned (.bool (Gate.zaA l b)) /\ Below w.heap.size w w' := by
  have HK : Hid (qO w b a0 a1 a2 a3) := hb
  have HL : Hid (qC w l la lb lc) := hl
  have HF : Hid (l.Few /\ b.Few /\ qK b.os <= 1048576) := ⟨hlf, hbf, hz⟩
  clear hb hl hlf hbf hz
  unfold Lw.cells Bk.cells
  go_enter Tryz.func9, Tryz.ntmps9
  go_wp2_with fail
  obtain ⟨hL0, hX0⟩ := qN w #[.slice la l.ss.length lca, .slice lb l.ms.length lcb, .slice lc l.ts.length lcc] #[.int .i64 b.now, .int .i64 b.tick, .int .i64 b.given, .slice a0 b.os.length c0, .slice a1 b.gs.length c1, .slice a2 b.ls.length c2, .slice a3 b.ps.length c3] 40 47
  have HBi : Hid (Below w.heap.size w ((w.alloc (.cells #[.slice la l.ss.length lca, .slice lb l.ms.length lcb, .slice lc l.ts.length lcc] 40)).alloc (.cells #[.int .i64 b.now, .int .i64 b.tick, .int .i64 b.given, .slice a0 b.os.length c0, .slice a1 b.gs.length c1, .slice a2 b.ls.length c2, .slice a3 b.ps.length c3] 47))) := zB w _ _
  obtain ⟨W0, hW0⟩ : ∃ W0, W0 = (w.alloc (.cells #[.slice la l.ss.length lca, .slice lb l.ms.length lcb, .slice lc l.ts.length lcc] 40)).alloc (.cells #[.int .i64 b.now, .int .i64 b.tick, .int .i64 b.given, .slice a0 b.os.length c0, .slice a1 b.gs.length c1, .slice a2 b.ls.length c2, .slice a3 b.ps.length c3] 47) := ⟨_, rfl⟩
  have hz0 : w.heap.size + 1 < W0.heap.size := by rw [hW0]; simp
  rw [<- hW0] at HBi hX0 hL0 ⊢
  clear hW0
  refine (ziE l la lb lc lca lcb lcc _ (HL.out.mono HBi.out) HF.out.1).mono ?_
  rintro e w1 ⟨rfl, hb0⟩
  have hX1 := za hX0 hz0 hb0
  have hL1 := za hL0 (Nat.lt_of_succ_lt hz0) hb0
  have hz1 := Nat.lt_of_lt_of_le hz0 hb0.size
  have hy1 := Nat.lt_of_succ_lt hz1
  have HBi : Hid (Below w.heap.size w w1) := HBi.out.trans (hb0.mono HBi.out.size)
  clear hb0 hX0 hL0 hz0
  by_cases t : Gate.zbC l = true
  rotate_left
  · have HN : Hid (Gate.zaA l b = false) := by unfold Hid Gate.zaA; rw [Bool.eq_false_iff.2 t]; rfl
    rw [Bool.eq_false_iff.2 t]
    clear t
    go_wp2_with fail
    go_ret
    exact ⟨ze HN.out.symm, HBi.out⟩
  have HN : Hid (Gate.zaR l b = Gate.zaA l b) := by unfold Hid Gate.zaA; rw [t]; rfl
  have HM : Hid (Gate.yj l.ss l.ms = true) := by unfold Gate.zbC at t; simp only [Bool.and_eq_true] at t; exact t.1
  rw [t]
  clear t
  go_wp2_with fail
  refine (zma l la lb lc lca lcb lcc b a0 a1 a2 a3 c0 c1 c2 c3 _ (HK.out.mono HBi.out) (HL.out.mono HBi.out) HF.out.1.ms HM.out HF.out.2.1.os.2 HF.out.2.2).mono ?_
  rintro e w2 ⟨rfl, hb1⟩
  have HBe : Hid (Below w.heap.size w w2) := HBi.out.trans (hb1.mono HBi.out.size)
  rw [HN.out]
  clear hb1 hX1 hL1 hz1 hy1
  go_wp2_with fail
  go_ret
  exact ⟨rfl, HBe.out⟩
end Go.Proofs.YtnbpglbbjnkhpaaGreat

namespace Go.Proofs.YtnbpglbbjnkhpaaGreat
open Go.RowKit
theorem zaO (l : Lw) (b : Bk) : Gate.zaA l b = (Gate.zbC l && ((Gate.within b.now 0 1000000 && (Gate.within b.tick 0 1000000 && Gate.within b.given 0 b.now)) && (Gate.z8 l b && (Gate.yc b && Gate.yY l b)))) := rfl
theorem zdS (n lo hi : Int) (w : World) : Calls Tryz.prog 20 #[.int .i64 n, .int .i64 lo, .int .i64 hi] w fun e w' => e = .returned (.bool (Gate.within n lo hi)) /\ w' = w := yx n lo hi w
theorem zmt {n lo hi : Int} (h : Gate.within n lo hi = true) : lo <= n /\ n <= hi := by unfold Gate.within at h; simpa using h
set_option maxRecDepth 20000 in
set_option maxHeartbeats 4000000 in
theorem zg9 (l : Lw) (la lb lc : Option Addr) (lca lcb lcc : Nat) (b : Bk) (a0 a1 a2 a3 : Option Addr) (c0 c1 c2 c3 : Nat) (w : World) (hl : qC w l la lb lc) (hb : qO w b a0 a1 a2 a3) (hh : zbk w a0 b.os) (hbf : b.Few) (hz : qK b.os <= 1048576) :
    Calls Tryz.prog 6 #[.agg (l.cells la lb lc lca lcb lcc), .agg (b.cells a0 a1 a2 a3 c0 c1 c2 c3)] w fun e w' => e = .returned (.bool (Gate.zaA l b)) /\ Below w.heap.size w w' := by
  have HK : Hid (qO w b a0 a1 a2 a3) := hb
  have HL : Hid (qC w l la lb lc) := hl
  have HH : Hid (zbk w a0 b.os) := hh
  have HF : Hid (b.Few /\ qK b.os <= 1048576) := ⟨hbf, hz⟩
  clear hb hl hh hbf hz
  unfold Lw.cells Bk.cells
  go_enter Tryz.func6, Tryz.ntmps6
  go_wp2_with fail
  obtain ⟨hL0, hX0⟩ := qN w #[.slice la l.ss.length lca, .slice lb l.ms.length lcb, .slice lc l.ts.length lcc] #[.int .i64 b.now, .int .i64 b.tick, .int .i64 b.given, .slice a0 b.os.length c0, .slice a1 b.gs.length c1, .slice a2 b.ls.length c2, .slice a3 b.ps.length c3] 40 47
  have HBi : Hid (Below w.heap.size w ((w.alloc (.cells #[.slice la l.ss.length lca, .slice lb l.ms.length lcb, .slice lc l.ts.length lcc] 40)).alloc (.cells #[.int .i64 b.now, .int .i64 b.tick, .int .i64 b.given, .slice a0 b.os.length c0, .slice a1 b.gs.length c1, .slice a2 b.ls.length c2, .slice a3 b.ps.length c3] 47))) := zB w _ _
  obtain ⟨W0, hW0⟩ : ∃ W0, W0 = (w.alloc (.cells #[.slice la l.ss.length lca, .slice lb l.ms.length lcb, .slice lc l.ts.length lcc] 40)).alloc (.cells #[.int .i64 b.now, .int .i64 b.tick, .int .i64 b.given, .slice a0 b.os.length c0, .slice a1 b.gs.length c1, .slice a2 b.ls.length c2, .slice a3 b.ps.length c3] 47) := ⟨_, rfl⟩
  have hz0 : w.heap.size + 1 < W0.heap.size := by rw [hW0]; simp
  rw [<- hW0] at HBi hX0 hL0 ⊢
  clear hW0
  refine (ziy l la lb lc lca lcb lcc _ (HL.out.mono HBi.out)).mono ?_
  rintro e w1 ⟨rfl, hb0⟩
  have hX1 := za hX0 hz0 hb0
  have hL1 := za hL0 (Nat.lt_of_succ_lt hz0) hb0
  have hz1 := Nat.lt_of_lt_of_le hz0 hb0.size
  have HBi : Hid (Below w.heap.size w w1) := HBi.out.trans (hb0.mono HBi.out.size)
  clear hb0 hX0 hL0 hz0
  have hy1 := Nat.lt_of_succ_lt hz1
  by_cases t : Gate.zbC l = true
  rotate_left
  · have HN : Hid (Gate.zaA l b = false) := by rw [Hid, zaO, Bool.eq_false_iff.2 t]; simp
    rw [Bool.eq_false_iff.2 t]
    clear t
    go_wp2_with fail
    go_ret
    exact ⟨ze HN.out.symm, HBi.out⟩
  have HT0 : Hid (Gate.zbC l = true) := t
  rw [t]
  clear t
  go_wp2_with fail
  have HM : Hid (Gate.yj l.ss l.ms = true) := by have t := HT0.out; unfold Gate.zbC at t; simp only [Bool.and_eq_true] at t; exact t.1
  refine (zdS b.now (0) (1000000) _).mono ?_
  rintro e w2 ⟨rfl, rfl⟩
  have hX2 := hX1
  have hL2 := hL1
  have hz2 := hz1
  clear hX1 hL1 hz1
  have hy2 := Nat.lt_of_succ_lt hz2
  have hcv : Gate.within b.now 0 1000000 = Gate.within b.now 0 1000000 := rfl
  clear hcv
  by_cases t : Gate.within b.now 0 1000000 = true
  rotate_left
  · have HN : Hid (Gate.zaA l b = false) := by rw [Hid, zaO, HT0.out, Bool.eq_false_iff.2 t]; simp
    rw [Bool.eq_false_iff.2 t]
    clear t
    go_wp2_with fail
    go_ret
    exact ⟨ze HN.out.symm, HBi.out⟩
  have HT1 : Hid (Gate.within b.now 0 1000000 = true) := t
  rw [t]
  clear t
  go_wp2_with fail
  refine (zdS b.tick (0) (1000000) _).mono ?_
  rintro e w3 ⟨rfl, rfl⟩
  have hX3 := hX2
  have hL3 := hL2
  have hz3 := hz2
  clear hX2 hL2 hz2
  have hy3 := Nat.lt_of_succ_lt hz3
  have hcv : Gate.within b.tick 0 1000000 = Gate.within b.tick 0 1000000 := rfl
  clear hcv
  by_cases t : Gate.within b.tick 0 1000000 = true
  rotate_left
  · have HN : Hid (Gate.zaA l b = false) := by rw [Hid, zaO, HT0.out, HT1.out, Bool.eq_false_iff.2 t]; simp
    rw [Bool.eq_false_iff.2 t]
    clear t
    go_wp2_with fail
    go_ret
    exact ⟨ze HN.out.symm, HBi.out⟩
  have HT2 : Hid (Gate.within b.tick 0 1000000 = true) := t
  rw [t]
  clear t
  go_wp2_with fail
  refine (zdS b.given (0) (b.now) _).mono ?_
  rintro e w4 ⟨rfl, rfl⟩
  have hX4 := hX3
  have hL4 := hL3
  have hz4 := hz3
  clear hX3 hL3 hz3
  have hy4 := Nat.lt_of_succ_lt hz4
  have hcv : Gate.within b.given 0 b.now = Gate.within b.given 0 b.now := rfl
  clear hcv
  by_cases t : Gate.within b.given 0 b.now = true
  rotate_left
  · have HN : Hid (Gate.zaA l b = false) := by rw [Hid, zaO, HT0.out, HT1.out, HT2.out, Bool.eq_false_iff.2 t]; simp
    rw [Bool.eq_false_iff.2 t]
    clear t
    go_wp2_with fail
    go_ret
    exact ⟨ze HN.out.symm, HBi.out⟩
  have HT3 : Hid (Gate.within b.given 0 b.now = true) := t
  rw [t]
  clear t
  go_wp2_with fail
  refine (zgU l la lb lc lca lcb lcc b a0 a1 a2 a3 c0 c1 c2 c3 _ (HL.out.mono HBi.out) (HK.out.mono HBi.out) (HH.out.mono HBi.out) HM.out HF.out.1.os.2).mono ?_
  rintro e w5 ⟨rfl, hb4⟩
  have hX5 := za hX4 hz4 hb4
  have hL5 := za hL4 (Nat.lt_of_succ_lt hz4) hb4
  have hz5 := Nat.lt_of_lt_of_le hz4 hb4.size
  have HBi : Hid (Below w.heap.size w w5) := HBi.out.trans (hb4.mono HBi.out.size)
  clear hb4 hX4 hL4 hz4
  have hy5 := Nat.lt_of_succ_lt hz5
  by_cases t : Gate.z8 l b = true
  rotate_left
  · have HN : Hid (Gate.zaA l b = false) := by rw [Hid, zaO, HT0.out, HT1.out, HT2.out, HT3.out, Bool.eq_false_iff.2 t]; simp
    rw [Bool.eq_false_iff.2 t]
    clear t
    go_wp2_with fail
    go_ret
    exact ⟨ze HN.out.symm, HBi.out⟩
  have HT4 : Hid (Gate.z8 l b = true) := t
  rw [t]
  clear t
  go_wp2_with fail
  refine (zhp b a0 a1 a2 a3 c0 c1 c2 c3 _ (HK.out.mono HBi.out)).mono ?_
  rintro e w6 ⟨rfl, hb5⟩
  have hX6 := za hX5 hz5 hb5
  have hL6 := za hL5 (Nat.lt_of_succ_lt hz5) hb5
  have hz6 := Nat.lt_of_lt_of_le hz5 hb5.size
  have HBi : Hid (Below w.heap.size w w6) := HBi.out.trans (hb5.mono HBi.out.size)
  clear hb5 hX5 hL5 hz5
  have hy6 := Nat.lt_of_succ_lt hz6
  by_cases t : Gate.yc b = true
  rotate_left
  · have HN : Hid (Gate.zaA l b = false) := by rw [Hid, zaO, HT0.out, HT1.out, HT2.out, HT3.out, HT4.out, Bool.eq_false_iff.2 t]; simp
    rw [Bool.eq_false_iff.2 t]
    clear t
    go_wp2_with fail
    go_ret
    exact ⟨ze HN.out.symm, HBi.out⟩
  have HT5 : Hid (Gate.yc b = true) := t
  rw [t]
  clear t
  go_wp2_with fail
  refine (zjO l la lb lc lca lcb lcc b a0 a1 a2 a3 c0 c1 c2 c3 _ (HL.out.mono HBi.out) (HK.out.mono HBi.out) (zmt HT2.out) HF.out.2).mono ?_
  rintro e w7 ⟨rfl, hb6⟩
  have hX7 := za hX6 hz6 hb6
  have hL7 := za hL6 (Nat.lt_of_succ_lt hz6) hb6
  have hz7 := Nat.lt_of_lt_of_le hz6 hb6.size
  have HBi : Hid (Below w.heap.size w w7) := HBi.out.trans (hb6.mono HBi.out.size)
  clear hb6 hX6 hL6 hz6
  have hy7 := Nat.lt_of_succ_lt hz7
  have HN : Hid (Gate.yY l b = Gate.zaA l b) := by rw [Hid, zaO, HT0.out, HT1.out, HT2.out, HT3.out, HT4.out, HT5.out]; rfl
  rw [HN.out]
  go_wp2_with fail
  go_ret
  exact ⟨rfl, HBi.out⟩
end Go.Proofs.YtnbpglbbjnkhpaaGreat
