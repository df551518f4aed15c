import Derived.Test.YtnbpglbbjnkhpaaGreatM14
import Derived.Test.YtnbpglbbjnkhpaaGreatM15
import Derived.Test.YtnbpglbbjnkhpaaGreatM16
import Derived.Test.YtnbpglbbjnkhpaaGreatM10
namespace Go.Proofs.YtnbpglbbjnkhpaaGreat
open Go.RowKit
namespace Gate
def zar (ss : List Shp) (m : Mnd) : Bool := zG ss m.kd && yt (shapeOf ss m.kd).fs m
def zbf (ms : List Mnd) (s : Shp) : Bool := decide ((zQ s ms s.fs.length).length = s.fs.length)
def qZ (ss : List Shp) (ms : List Mnd) : Bool := zZ ss && decide (ms.length <= 12) && ms.all (zar ss) && ss.all (zbf ms)
end Gate
set_option maxHeartbeats 1000000 in
theorem zjN (a : Option Addr) (cap : Nat) (ss : List Shp) (m : Mnd) (w : World) (hw : yG w a ss) (hm : m.Small) :
    Calls Tryz.prog 88 #[.slice a ss.length cap, .agg m.cells] w fun e w' => e = .returned (.bool (Gate.zar ss m)) /\ Below w.heap.size w w' := by
  by_cases hk : Gate.zG ss m.kd = true
  · refine (zjD a cap ss m w hw hm hk).mono ?_
    rintro e w' ⟨rfl, hb⟩
    exact ⟨by unfold Gate.zar; rw [hk]; rfl, hb⟩
  · have hkf : Gate.zG ss m.kd = false := by simpa using hk
    have HF : Hid (Gate.zar ss m = false) := by unfold Hid Gate.zar; rw [hkf]; rfl
    unfold Mnd.cells
    have hba := (Below.refl w.heap.size w).alloc (Nat.le_refl _) (.cells #[.string m.kd, .string m.fd, .string m.wh, .string m.wi, .string m.pt, .string m.fr] 129)
    go_enter Tryz.func88, Tryz.ntmps88
    go_wp2_with fail
    refine (zc4 _ _ _ _ _ (hw.mono hba) hkf).mono ?_
    rintro e w1 ⟨rfl, rfl⟩
    go_wp2_with fail
    go_ret
    exact ⟨by rw [HF.out]; rfl, hba⟩
set_option maxRecDepth 20000 in
set_option maxHeartbeats 4000000 in
theorem zdm (a a' : Option Addr) (cap cap' : Nat) (ss : List Shp) (ms : List Mnd) (w : World) (hw : yG w a ss) (hm : yS w a' ms) :
    Calls Tryz.prog 47 #[.slice a ss.length cap, .slice a' ms.length cap'] w fun e w' => e = .returned (.bool (Gate.qZ ss ms)) /\ Below w.heap.size w w' := by
  have HW : Hid (yG w a ss /\ yS w a' ms) := ⟨hw, hm⟩
  have hl := hw.len
  have hml := hm.len
  unfold maxLen at hl hml
  clear hw hm
  by_cases hok : Gate.zZ ss = true
  rotate_left
  · have hokf : Gate.zZ ss = false := by simpa using hok
    have HF : Hid (Gate.qZ ss ms = false) := by unfold Hid Gate.qZ; rw [hokf]; simp
    go_enter Tryz.func47, Tryz.ntmps47
    go_wp2_with fail
    have h := zbh a cap ss w HW.out.1
    rw [hokf] at h
    refine h.mono ?_
    rintro e w1 ⟨rfl, hb1⟩
    clear h
    go_wp2_with fail
    go_ret
    exact ⟨by rw [HF.out]; rfl, hb1⟩
  have HOK : Hid (Gate.zZ ss = true) := hok
  by_cases h12 : ms.length <= 12
  rotate_left
  · have HF : Hid (Gate.qZ ss ms = false) := by unfold Hid Gate.qZ; rw [decide_eq_false h12]; simp
    go_enter Tryz.func47, Tryz.ntmps47
    go_wp2_with fail
    have h := zbh a cap ss w HW.out.1
    rw [hok] at h
    refine h.mono ?_
    rintro e w1 ⟨rfl, hb1⟩
    clear h hok
    go_wp2_with fail
    go_ret
    exact ⟨by rw [HF.out]; rfl, hb1⟩
  have h12I : (ms.length : Int) <= 12 := by omega
  go_enter Tryz.func47, Tryz.ntmps47
  go_wp2_with fail
  have h := zbh a cap ss w HW.out.1
  rw [hok] at h
  refine h.mono ?_
  rintro e w1 ⟨rfl, hb1⟩
  have HB1 : Hid (Below w.heap.size w w1) := hb1
  clear h hok hb1
  go_wp2_with fail
  go_loopw [5] (fun iv wr => ∃ k : Nat, k <= ms.length /\ iv = .int .i64 k /\ (ms.take k).all (Gate.zar ss) = true /\ Below w.heap.size w wr) (fun iv _ => ms.length - (intOf iv).toNat)
  case atStart => exact ⟨0, Nat.zero_le _, rfl, rfl, HB1.out⟩
  case round =>
    obtain ⟨k, hk, rfl, hall, hB⟩ := hrel
    have HB : Hid (Below w.heap.size w wr) := hB
    have HA : Hid ((ms.take k).all (Gate.zar ss) = true) := hall
    clear hall hB
    by_cases hlt : k < ms.length
    · obtain ⟨b, off, rfl, hb, c0, c1, c2, c3, c4, c5⟩ := HW.out.2.load HB.out k hlt
      have hltI : (k : Int) < (ms.length : Int) := by omega
      have HSM : Hid (ms[k].Small) := HW.out.2.small k hlt
      have HTK : Hid ((ms.take (k + 1)).all (Gate.zar ss) = Gate.zar ss ms[k]) := by
        unfold Hid; rw [List.take_succ_eq_append_getElem hlt, List.all_append, HA.out]; simp
      have HNO : Hid (Gate.zar ss ms[k] = false -> Gate.qZ ss ms = false) := by
        intro h
        have : ms.all (Gate.zar ss) = false := by rw [List.all_eq_false]; exact ⟨_, List.getElem_mem hlt, by rw [h]; simp⟩
        unfold Gate.qZ; rw [this]; simp
      go_wp2_with fail
      have h := zjN a cap ss ms[k] wr (HW.out.1.mono HB.out) HSM.out
      rcases hh : Gate.zar ss ms[k] with _ | _
      · rw [hh] at h
        refine h.mono ?_
        rintro e w3 ⟨rfl, hb3⟩
        have HF : Hid (Gate.qZ ss ms = false /\ Below w.heap.size w w3) := ⟨HNO.out hh, HB.out.trans (hb3.mono HB.out.size)⟩
        clear h hb3 hh c0 c1 c2 c3 c4 c5
        go_wp2_with fail
        go_ret
        exact ⟨by rw [HF.out.1]; rfl, HF.out.2⟩
      · rw [hh] at h
        refine h.mono ?_
        rintro e w3 ⟨rfl, hb3⟩
        have HY : Hid ((ms.take (k + 1)).all (Gate.zar ss) = true /\ Below w.heap.size w w3) := ⟨by rw [HTK.out]; exact hh, HB.out.trans (hb3.mono HB.out.size)⟩
        clear h hb3 hh c0 c1 c2 c3 c4 c5
        go_wp2_with fail
        exact ⟨⟨k + 1, by omega, by go_num, HY.out.1, HY.out.2⟩, zw hlt⟩
    · have e : k = ms.length := by omega
      have hall := HA.out
      rw [e, List.take_of_length_le (Nat.le_refl _)] at hall
      have HALL : Hid (ms.all (Gate.zar ss) = true) := hall
      subst e
      clear hall HA
      go_wp2_with fail
      have HBw : Hid (Below w.heap.size w wr) := HB.out
      clear HB
      go_loopw [6] (fun iv wq => ∃ k : Nat, k <= ss.length /\ iv = .int .i64 k /\ (ss.take k).all (Gate.zbf ms) = true /\ Below w.heap.size w wq) (fun iv _ => ss.length - (intOf iv).toNat)
      case atStart => exact ⟨0, Nat.zero_le _, rfl, rfl, HBw.out⟩
      case round =>
        obtain ⟨k, hk, rfl, hall, hB⟩ := hrel
        have HB : Hid (Below w.heap.size w wr) := hB
        have HA : Hid ((ss.take k).all (Gate.zbf ms) = true) := hall
        clear hall hB
        by_cases hlt : k < ss.length
        · obtain ⟨b, off, rfl, hb, hr⟩ := HW.out.1.rows (by rintro rfl; simp at hlt)
          obtain ⟨fa, fcap, hs0⟩ := hr k hlt
          have HSI : Hid (∀ W, Below w.heap.size w W -> zi3 W b (off + k * 2) ss[k] fa fcap) := fun W hbb => hs0.mono hb hbb
          have hck := (HSI.out _ HB.out).kind
          have hcl := (HSI.out _ HB.out).list
          have hltI : (k : Int) < (ss.length : Int) := by omega
          have HTK : Hid ((ss.take (k + 1)).all (Gate.zbf ms) = Gate.zbf ms ss[k]) := by
            unfold Hid; rw [List.take_succ_eq_append_getElem hlt, List.all_append, HA.out]; simp
          have HNO : Hid (Gate.zbf ms ss[k] = false -> Gate.qZ ss ms = false) := by
            intro h
            have : ss.all (Gate.zbf ms) = false := by rw [List.all_eq_false]; exact ⟨_, List.getElem_mem hlt, by rw [h]; simp⟩
            unfold Gate.qZ; rw [this]; simp
          have HFW : Hid (ss[k].fs.length <= 6) := Gate.zem HOK.out k hlt
          clear hr hs0
          go_wp2_with fail
          have hbc : Below w.heap.size w wr.drew := HB.out.drew
          have hL := (⟨(HSI.out _ hbc).kind, (HSI.out _ hbc).list⟩ : _ /\ _)
          go_region_held3 (fun w' => w'.cell? ⟨b, off + k * 2, none⟩ = some (.string ss[k].kd) /\ w'.cell? ⟨b, off + k * 2 + 1, none⟩ = some (.slice fa ss[k].fs.length fcap)) (exact hL) (first
            | (go_at_call 89; refine (zje fa a' fcap cap' ss[k] ms _ (by exact (HSI.out _ hbc).flds) (by exact HW.out.2.mono hbc) h12 HFW.out).mono ?_; rintro e w5 ⟨v5, rfl, hrow, hb5⟩; obtain ⟨ra, rcap, rfl⟩ := qw hrow; have hbc := hbc.trans (hb5.mono hbc.size); have hL := (⟨(HSI.out _ hbc).kind, (HSI.out _ hbc).list⟩ : _ /\ _); clear hb5 hrow))
          by_cases hrk : (Gate.zQ ss[k] ms ss[k].fs.length).length = ss[k].fs.length
          · have hrI : (((Gate.zQ ss[k] ms ss[k].fs.length).length : Int) != (ss[k].fs.length : Int)) = false := by rw [hrk]; simp
            have HY : Hid ((ss.take (k + 1)).all (Gate.zbf ms) = true) := by unfold Hid; rw [HTK.out]; unfold Gate.zbf; exact decide_eq_true hrk
            clear hrk
            go_wp2_with fail
            exact ⟨⟨k + 1, by omega, by go_num, HY.out, hbc⟩, zw hlt⟩
          · have hrI : (((Gate.zQ ss[k] ms ss[k].fs.length).length : Int) != (ss[k].fs.length : Int)) = true := by rw [bne_iff_ne]; omega
            have HF : Hid (Gate.qZ ss ms = false) := HNO.out (by unfold Gate.zbf; exact decide_eq_false hrk)
            clear hrk
            go_wp2_with fail
            go_ret
            exact ⟨by rw [HF.out]; rfl, hbc⟩
        · have e : k = ss.length := by omega
          have hall := HA.out
          rw [e, List.take_of_length_le (Nat.le_refl _)] at hall
          have HF : Hid (Gate.qZ ss ms = true) := by unfold Hid Gate.qZ; rw [HALL.out, HOK.out, hall, decide_eq_true h12]; rfl
          subst e
          clear hall HA
          go_wp2_with fail
          go_ret
          exact ⟨by rw [HF.out]; rfl, HB.out⟩
end Go.Proofs.YtnbpglbbjnkhpaaGreat

namespace Go.Proofs.YtnbpglbbjnkhpaaGreat.Gate
theorem znR (ws : List ByteArray) (v : ByteArray) : has ws v = true ↔ v ∈ ws := by
  unfold has
  rw [List.any_eq_true]
  constructor
  · rintro ⟨x, hx, he⟩
    have : x = v := by simpa using he
    rw [<- this]; exact hx
  · intro h; exact ⟨v, h, by simp⟩
theorem zkY {ss : List Shp} (h : zZ ss = true) (i : Nat) (hi : i < ss.length) (j : Nat) (hj : j < ss[i].fs.length) : zdf ss ss[i].fs j = true := by
  have h1 := zfy h i hi
  unfold yP at h1
  rw [getD_at ss i _ hi] at h1
  simp only [Bool.and_eq_true] at h1
  have h2 := h1.2
  unfold yQ at h2
  simp only [Bool.and_eq_true] at h2
  exact zf4 hj h2.2
theorem zkI {ss : List Shp} (h : zZ ss = true) (i : Nat) (hi : i < ss.length) (j : Nat) (hj : j < ss[i].fs.length) : isSet ss[i].fs[j].nm = true := by
  have h1 := zkY h i hi j hj
  rw [zg2 _ _ _ hj] at h1
  simp only [Bool.and_eq_true] at h1
  have h2 := h1.1.1
  rw [zmF]
  intro e
  rw [e] at h2
  revert h2
  decide
theorem zdE {ss : List Shp} (h : zZ ss = true) (i : Nat) (hi : i < ss.length) (j k : Nat) (hj : j < k) (hk : k < ss[i].fs.length) : (ss[i].fs[j]'(by omega)).nm ≠ ss[i].fs[k].nm := by
  have h1 := zkY h i hi k hk
  rw [zg2 _ _ _ hk] at h1
  simp only [Bool.and_eq_true, Bool.not_eq_true'] at h1
  have h2 := h1.1.2
  intro e
  unfold hasName at h2
  rw [List.any_eq_false] at h2
  have hm : ss[i].fs[j]'(by omega) ∈ ss[i].fs.take k := by
    rw [List.mem_iff_getElem]
    exact ⟨j, by simp; omega, by simp⟩
  exact h2 _ hm (by simpa using e)
theorem znG {ss : List Shp} (h : zZ ss = true) (i : Nat) (hi : i < ss.length) (j k : Nat) (hj : j < ss[i].fs.length) (hk : k < ss[i].fs.length) (e : zaI ss[i] j = zaI ss[i] k) : j = k := by
  unfold zaI at e
  rw [getD_at _ _ _ hj, getD_at _ _ _ hk] at e
  rcases Nat.lt_trichotomy j k with h1 | h1 | h1
  · exact absurd e (zdE h i hi j k h1 hk)
  · exact h1
  · exact absurd e.symm (zdE h i hi k j h1 hj)
theorem zm2 {ss : List Shp} (h : zZ ss = true) (m : Mnd) : jD ss m = zar ss m := by
  unfold jD zar
  by_cases hk : zG ss m.kd = true
  · rw [hk, Bool.true_and, Bool.true_and]
    unfold zG at hk
    rw [List.any_eq_true] at hk
    obtain ⟨x, hx, he⟩ := hk
    obtain ⟨i, hi, rfl⟩ := List.mem_iff_getElem.1 hx
    have hkd : ss[i].kd = m.kd := by simpa using he
    rw [<- hkd, zdk h i hi]
    unfold zaz yt
    by_cases hp : plain ss[i].fs m.fd = true
    · have hfd : isSet m.fd = true := by
        rcases q8 ss[i].fs m.fd with ⟨_, h2⟩ | ⟨k, hk', _, h2, _⟩
        · rw [j5 h2] at hp; cases hp
        · rw [<- h2]; exact zkI h i hi k hk'
      have hne : ∀ v, isSet v = false -> v ≠ m.fd := fun v hv e => by rw [e, hfd] at hv; cases hv
      rw [hp, Bool.true_and, Bool.true_and]
      have e : (zK m).all (jA ss[i].fs m) = ((!isSet m.wh || plain ss[i].fs m.wh) && (!isSet m.fr || plain ss[i].fs m.fr) && !decide (m.wh = m.fd) && !decide (m.fr = m.fd)) := by
        unfold zK
        rw [List.all_filter]
        unfold jA
        rcases hw : isSet m.wh with _ | _ <;> rcases hf : isSet m.fr with _ | _
        · simp [hw, hf, hne _ hw, hne _ hf]
        · simp [hw, hf, hne _ hw]
          cases plain ss[i].fs m.fr <;> simp
        · simp [hw, hf, hne _ hf]
          cases plain ss[i].fs m.wh <;> simp
        · simp [hw, hf]
          cases plain ss[i].fs m.wh <;> cases plain ss[i].fs m.fr <;> simp
      rw [e]
    · have hpf : plain ss[i].fs m.fd = false := by simpa using hp
      rw [hpf]; simp
  · have hkf : zG ss m.kd = false := by simpa using hk
    rw [hkf]; rfl
theorem zln {ss : List Shp} {ms : List Mnd} (h : zZ ss = true) (hm : ms.all (jD ss) = true) (i : Nat) (hi : i < ss.length) (row : List Nat) (hrow : ∀ q ∈ row, q < ss[i].fs.length) (j : Nat) (hj : j < ss[i].fs.length) :
    je ss[i] ms (row.map (zaI ss[i])) j = ready (zk ss[i] ms) row j := by
  have hmem : ∀ q, q < ss[i].fs.length -> (has (row.map (zaI ss[i])) (zaI ss[i] q) = true ↔ q ∈ row) := by
    intro q hq
    rw [znR, List.mem_map]
    constructor
    · rintro ⟨p, hp, e⟩
      rw [<- znG h i hi p q (hrow p hp) hq e]; exact hp
    · intro hp; exact ⟨q, hp, rfl⟩
  rw [Bool.eq_iff_iff, zfL]
  unfold je
  rw [Bool.and_eq_true, Bool.not_eq_true', <- Bool.not_eq_true, hmem j hj]
  refine and_congr Iff.rfl ?_
  unfold zbG
  rw [List.all_eq_true]
  -- what a mend that turns j reads
  have hread : ∀ m ∈ ms, turns m ss[i] j = true -> ∀ v ∈ zK m, ∃ q, q < ss[i].fs.length /\ zN ss[i].fs v = (q : Int) /\ zaI ss[i] q = v := by
    intro m hmm ht v hv
    unfold turns at ht
    simp only [Bool.and_eq_true, decide_eq_true_eq] at ht
    have h1 := List.all_eq_true.1 hm m hmm
    unfold jD at h1
    rw [ht.1, zdk h i hi] at h1
    simp only [Bool.and_eq_true] at h1
    have h2 := h1.2
    unfold zaz at h2
    simp only [Bool.and_eq_true] at h2
    have h3 := List.all_eq_true.1 h2.1.2 v hv
    unfold jA at h3
    simp only [Bool.and_eq_true] at h3
    rcases q8 ss[i].fs v with ⟨_, h5⟩ | ⟨k, hk, h4, h5, _⟩
    · rw [j5 h5] at h3; exact absurd h3.2 (by simp)
    · exact ⟨k, hk, h4, by unfold zaI; rw [getD_at _ _ _ hk]; exact h5⟩
  have hR : ∀ m, qj ss[i].kd (zaI ss[i] j) (row.map (zaI ss[i])) m = true ↔ (turns m ss[i] j = true -> ∀ v ∈ zK m, has (row.map (zaI ss[i])) v = true) := by
    intro m
    have e1 : turns m ss[i] j = (decide (m.kd = ss[i].kd) && decide (m.fd = zaI ss[i] j)) := rfl
    unfold qj
    rw [<- e1]
    rcases turns m ss[i] j with _ | _
    · simp
    · unfold zK
      rcases hw : isSet m.wh with _ | _ <;> rcases hf : isSet m.fr with _ | _ <;> simp [hw, hf]
  constructor
  · intro hall q hq
    unfold zk at hq
    obtain ⟨x, hx, rfl⟩ := List.mem_map.1 hq
    unfold zR at hx
    obtain ⟨m, hmm, hx⟩ := List.mem_flatMap.1 hx
    by_cases ht : turns m ss[i] j = true
    · rw [if_pos ht] at hx
      obtain ⟨v, hv, rfl⟩ := List.mem_map.1 hx
      obtain ⟨q, hq, e1, e2⟩ := hread m hmm ht v hv
      have := (hR m).1 (hall m hmm) ht v hv
      rw [e1, Int.toNat_natCast]
      rw [<- e2] at this
      exact (hmem q hq).1 this
    · rw [if_neg ht] at hx; cases hx
  · intro hall m hmm
    rw [hR]
    intro ht v hv
    obtain ⟨q, hq, e1, e2⟩ := hread m hmm ht v hv
    rw [<- e2, hmem q hq]
    refine hall q ?_
    unfold zk
    rw [List.mem_map]
    refine ⟨(q : Int), ?_, Int.toNat_natCast _⟩
    unfold zR
    rw [List.mem_flatMap]
    refine ⟨m, hmm, ?_⟩
    rw [if_pos ht, List.mem_map]
    exact ⟨v, hv, e1⟩
theorem find_congr {α : Type} {f g : α -> Bool} : ∀ {l : List α}, (∀ x ∈ l, f x = g x) -> l.find? f = l.find? g
  | [], _ => rfl
  | a :: l, h => by
    have h1 := h a (by simp)
    have h2 := find_congr (f := f) (g := g) (l := l) (fun x hx => h x (by simp [hx]))
    rw [List.find?_cons, List.find?_cons, h1, h2]
theorem zdh {ss : List Shp} {ms : List Mnd} (h : zZ ss = true) (hm : ms.all (jD ss) = true) (i : Nat) (hi : i < ss.length) : ∀ k, zQ ss[i] ms k = (greedy (zk ss[i] ms) ss[i].fs.length k).map (zaI ss[i])
  | 0 => rfl
  | k + 1 => by
    show zdX ss[i] ms (zQ ss[i] ms k) = (more (zk ss[i] ms) ss[i].fs.length (greedy (zk ss[i] ms) ss[i].fs.length k)).map (zaI ss[i])
    rw [zdh h hm i hi k]
    have hpart := zbv (zk ss[i] ms) ss[i].fs.length k
    have e : (List.range ss[i].fs.length).find? (je ss[i] ms ((greedy (zk ss[i] ms) ss[i].fs.length k).map (zaI ss[i]))) = pick (zk ss[i] ms) ss[i].fs.length (greedy (zk ss[i] ms) ss[i].fs.length k) := by
      unfold pick
      apply find_congr
      intro x hx
      exact zln h hm i hi _ hpart.mem x (List.mem_range.1 hx)
    unfold zdX more
    rw [e]
    cases pick (zk ss[i] ms) ss[i].fs.length (greedy (zk ss[i] ms) ss[i].fs.length k) with
    | none => rfl
    | some q => simp
theorem zld {ss : List Shp} {ms : List Mnd} (h : zZ ss = true) (hm : ms.all (jD ss) = true) (i : Nat) (hi : i < ss.length) : rowOk ms ss[i] = zbf ms ss[i] := by
  unfold rowOk zbf
  rw [zdh h hm i hi, List.length_map]
  refine zgK (fun p hp q hq => ?_)
  unfold zk at hq
  obtain ⟨x, hx, rfl⟩ := List.mem_map.1 hq
  have := zhL h hm i hi p hp x hx
  omega
theorem zeE (ss : List Shp) (ms : List Mnd) : yj ss ms = qZ ss ms := by
  unfold yj qZ
  by_cases h : zZ ss = true
  · have e1 : ms.all (zar ss) = ms.all (jD ss) := by congr 1; funext m; exact (zm2 h m).symm
    rw [e1, h]
    by_cases hm : ms.all (jD ss) = true
    · have e2 : ss.all (rowOk ms) = ss.all (zbf ms) := by
        rw [Bool.eq_iff_iff, List.all_eq_true, List.all_eq_true]
        constructor
        · intro ha x hx
          obtain ⟨i, hi, rfl⟩ := List.mem_iff_getElem.1 hx
          rw [<- zld h hm i hi]; exact ha _ hx
        · intro ha x hx
          obtain ⟨i, hi, rfl⟩ := List.mem_iff_getElem.1 hx
          rw [zld h hm i hi]; exact ha _ hx
      rw [e2]; cases decide (ms.length <= 12) <;> simp
    · have hmf : ms.all (jD ss) = false := by simpa using hm
      rw [hmf]; simp
  · have hf : zZ ss = false := by simpa using h
    rw [hf]; simp
end Go.Proofs.YtnbpglbbjnkhpaaGreat.Gate

namespace Go.Proofs.YtnbpglbbjnkhpaaGreat.Gate
def qE (fs : List Fld) (vs : List ByteArray) (v : ByteArray) : ByteArray := match fs.findIdx? (fun f => decide (f.nm = v)) with | some j => vs.getD j ByteArray.empty | none => ByteArray.empty
def gives (s : Shp) (vs : List ByteArray) (p : Nat) (m : Mnd) : Option ByteArray :=
  if turns m s p = true /\ ¬ (isSet m.wh = true /\ qE s.fs vs m.wh ≠ m.wi) then
    if isSet m.fr = true then (if isSet (qE s.fs vs m.fr) = true then some (qE s.fs vs m.fr) else none) else some m.pt
  else none
def decided (s : Shp) (ms : List Mnd) (p : Nat) (vs : List ByteArray) : ByteArray := (ms.findSome? (gives s vs p)).getD (vs.getD p ByteArray.empty)
theorem zcH {fs : List Fld} {vs : List ByteArray} {v : ByteArray} {j : Nat} (h : zN fs v = (j : Int)) : qE fs vs v = vs.getD j ByteArray.empty := by
  unfold zN at h
  unfold qE
  cases hf : fs.findIdx? (fun f => decide (f.nm = v)) with
  | none => rw [hf] at h; simp at h
  | some k =>
    rw [hf] at h
    have : k = j := by simp only at h; omega
    rw [this]
theorem zer {fs : List Fld} {vs : List ByteArray} {v : ByteArray} (h : zN fs v = -1) : qE fs vs v = ByteArray.empty := by
  unfold zN at h
  unfold qE
  cases hf : fs.findIdx? (fun f => decide (f.nm = v)) with
  | none => rfl
  | some k => rw [hf] at h; simp only at h; omega
theorem zdO {α β : Type} {f g : α -> Option β} : ∀ {l : List α}, (∀ x ∈ l, f x = g x) -> l.findSome? f = l.findSome? g
  | [], _ => rfl
  | a :: l, h => by
    have h1 := h a (by simp)
    have h2 := zdO (f := f) (g := g) (l := l) (fun x hx => h x (by simp [hx]))
    rw [List.findSome?_cons, List.findSome?_cons, h1, h2]
theorem ziT (s : Shp) (ms : List Mnd) : znW (zk s ms) s.fs.length (decided s ms) := by
  intro p _ us vs _ _ hr hown
  have hgd : ∀ q, us[q]? = vs[q]? -> us.getD q ByteArray.empty = vs.getD q ByteArray.empty := by
    intro q e
    rw [List.getD_eq_getElem?_getD, List.getD_eq_getElem?_getD, e]
  unfold decided
  have e : ms.findSome? (gives s us p) = ms.findSome? (gives s vs p) := by
    apply zdO
    intro m hmm
    unfold gives
    by_cases ht : turns m s p = true
    · have hread : ∀ v ∈ zK m, qE s.fs us v = qE s.fs vs v := by
        intro v hv'
        rcases q8 s.fs v with ⟨h1, _⟩ | ⟨k, _, h1, _⟩
        · rw [zer h1, zer h1]
        · rw [zcH h1, zcH h1]
          apply hgd
          apply hr
          unfold zk
          rw [List.mem_map]
          refine ⟨(k : Int), ?_, Int.toNat_natCast _⟩
          unfold zR
          rw [List.mem_flatMap]
          refine ⟨m, hmm, ?_⟩
          rw [if_pos ht, List.mem_map]
          exact ⟨v, hv', h1⟩
      have hw : isSet m.wh = true -> qE s.fs us m.wh = qE s.fs vs m.wh := fun hs => hread _ (by unfold zK; rw [List.mem_filter]; exact ⟨by simp, hs⟩)
      have hf : isSet m.fr = true -> qE s.fs us m.fr = qE s.fs vs m.fr := fun hs => hread _ (by unfold zK; rw [List.mem_filter]; exact ⟨by simp, hs⟩)
      have c1 : (isSet m.wh = true /\ qE s.fs us m.wh ≠ m.wi) ↔ (isSet m.wh = true /\ qE s.fs vs m.wh ≠ m.wi) := by
        constructor
        · rintro ⟨a, b⟩; exact ⟨a, by rw [<- hw a]; exact b⟩
        · rintro ⟨a, b⟩; exact ⟨a, by rw [hw a]; exact b⟩
      have c2 : (if isSet m.fr = true then (if isSet (qE s.fs us m.fr) = true then some (qE s.fs us m.fr) else none) else some m.pt) = (if isSet m.fr = true then (if isSet (qE s.fs vs m.fr) = true then some (qE s.fs vs m.fr) else none) else some m.pt) := by
        by_cases hsf : isSet m.fr = true
        · rw [hf hsf]
        · rw [if_neg hsf, if_neg hsf]
      rw [c2]
      by_cases hc : turns m s p = true /\ ¬ (isSet m.wh = true /\ qE s.fs us m.wh ≠ m.wi)
      · have hc' : turns m s p = true /\ ¬ (isSet m.wh = true /\ qE s.fs vs m.wh ≠ m.wi) := ⟨hc.1, fun h' => hc.2 (c1.2 h')⟩
        rw [if_pos hc, if_pos hc']
      · have hc' : ¬ (turns m s p = true /\ ¬ (isSet m.wh = true /\ qE s.fs vs m.wh ≠ m.wi)) := fun h' => hc ⟨h'.1, fun h'' => h'.2 (c1.1 h'')⟩
        rw [if_neg hc, if_neg hc']
    · simp [ht]
  rw [e, hgd p hown]
end Go.Proofs.YtnbpglbbjnkhpaaGreat.Gate

namespace Go.Proofs.YtnbpglbbjnkhpaaGreat
open Go.RowKit
set_option maxHeartbeats 1000000 in
theorem zbY (s : Shp) (vs : List ByteArray) (v : ByteArray) (fa va : Option Addr) (fcap vcap : Nat) (w : World) (hf : zP w fa s.fs) (hv : zD w va vs) (hc : vs.length = s.fs.length) :
    Calls Tryz.prog 201 #[.agg #[.string s.kd, .slice fa s.fs.length fcap], .slice va vs.length vcap, .string v] w fun e w' => e = .returned (.string (Gate.qE s.fs vs v)) /\ Below w.heap.size w w' := by
  have hl := hv.len
  unfold maxLen at hl
  have hba := (Below.refl w.heap.size w).alloc (Nat.le_refl _) (.cells #[.string s.kd, .slice fa s.fs.length fcap] 127)
  rcases Gate.q8 s.fs v with ⟨h1, _⟩ | ⟨i, hi, h1, _⟩
  · have HV : Hid (Gate.qE s.fs vs v = ByteArray.empty) := Gate.zer h1
    go_enter Tryz.func201, Tryz.ntmps201
    go_wp2_with fail
    have h := q9 fa fcap s.fs v _ (hf.mono hba)
    rw [h1] at h
    refine h.mono ?_
    rintro e w1 ⟨rfl, hb1⟩
    clear h
    go_wp2_with fail
    go_ret
    exact ⟨by rw [HV.out]; rfl, hba.trans (hb1.mono hba.size)⟩
  · have hiv : i < vs.length := by omega
    have HV : Hid (Gate.qE s.fs vs v = vs[i]) := by unfold Hid; rw [Gate.zcH h1, Gate.getD_at _ _ _ hiv]
    obtain ⟨b, off, rfl, hb, hcell⟩ := hv.cells (by rintro rfl; simp at hiv)
    go_enter Tryz.func201, Tryz.ntmps201
    go_wp2_with fail
    have h := q9 fa fcap s.fs v _ (hf.mono hba)
    rw [h1] at h
    refine h.mono ?_
    rintro e w1 ⟨rfl, hb1⟩
    have hB1 : Below w.heap.size w w1 := hba.trans (hb1.mono hba.size)
    have hci : w1.cell? ⟨b, off + i, none⟩ = some (.string vs[i]) := (hB1.cell (p := ⟨b, off + i, none⟩) hb).trans (hcell i hiv)
    have hiI : (i : Int) < (vs.length : Int) := by omega
    have hi0 : decide ((i : Int) < 0) = false := by simp
    clear h hcell hba hb1
    go_wp2_with fail
    go_ret
    exact ⟨by rw [HV.out]; rfl, hB1⟩
end Go.Proofs.YtnbpglbbjnkhpaaGreat
