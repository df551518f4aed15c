import Derived.Test.YtfcdmlnpfoikhaaGreatM38
import Derived.Test.YtfcdmlnpfoikhaaGreatM41
import Derived.Test.YtfcdmlnpfoikhaaGreatM33
import Derived.Test.YtfcdmlnpfoikhaaGreatM19
import Derived.WalkMore
import Derived.Deep.RegionHeld3
import Derived.Test.YtfcdmlnpfoikhaaGreatM25
import Derived.Test.YtfcdmlnpfoikhaaGreatM06
import Derived.Test.YtfcdmlnpfoikhaaGreatM16
namespace Go.Proofs.YtfcdmlnpfoikhaaGreat
open Go.RowKit
namespace Gate
def zaL (ss : List Shp) (m : Mnd) : Bool := zD ss m.kd && zcO (shapeOf ss m.kd).fs m
def zbD (ms : List Mnd) (s : Shp) : Bool := decide ((zZ s ms s.fs.length).length = s.fs.length)
def qM (ss : List Shp) (ms : List Mnd) : Bool := zP ss && decide (ms.length <= 12) && ms.all (zaL ss) && ss.all (zbD ms)
end Gate
set_option maxHeartbeats 1000000 in
theorem zkC (a : Option Addr) (cap : Nat) (ss : List Shp) (m : Mnd) (w : World) (hw : yE w a ss) (hm : m.Small) :
    Calls Tryz.prog 121 #[.slice a ss.length cap, .agg m.cells] w fun e w' => e = .returned (.bool (Gate.zaL ss m)) /\ Below w.heap.size w w' := by
  by_cases hk : Gate.zD ss m.kd = true
  · refine (zkH a cap ss m w hw hm hk).mono ?_
    rintro e w' ⟨rfl, hb⟩
    exact ⟨by unfold Gate.zaL; rw [hk]; rfl, hb⟩
  · have hkf : Gate.zD ss m.kd = false := by simpa using hk
    have HF : Hid (Gate.zaL ss m = false) := by unfold Hid Gate.zaL; rw [hkf]; rfl
    unfold Mnd.cells
    have hba := (Below.refl w.heap.size w).alloc (Nat.le_refl _) (.cells #[.string m.kd, .string m.fd, .string m.wh, .string m.wi, .string m.pt, .string m.fr] 121)
    go_enter Tryz.func121, Tryz.ntmps121
    go_wp2_with fail
    refine (zeI _ _ _ _ _ (hw.mono hba) hkf).mono ?_
    rintro e w1 ⟨rfl, rfl⟩
    go_wp2_with fail
    go_ret
    exact ⟨by rw [HF.out]; rfl, hba⟩
set_option maxRecDepth 20000 in
set_option maxHeartbeats 4000000 in
theorem zds (a a' : Option Addr) (cap cap' : Nat) (ss : List Shp) (ms : List Mnd) (w : World) (hw : yE w a ss) (hm : qw w a' ms) :
    Calls Tryz.prog 86 #[.slice a ss.length cap, .slice a' ms.length cap'] w fun e w' => e = .returned (.bool (Gate.qM ss ms)) /\ Below w.heap.size w w' := by
  have HW := jE hw hm
  have hl := hw.len
  have hml := hm.len
  unfold maxLen at hl hml
  clear hw hm
  by_cases hok : Gate.zP ss = true
  rotate_left
  · have hokf : Gate.zP ss = false := by simpa using hok
    have HF : Hid (Gate.qM ss ms = false) := by unfold Hid Gate.qM; rw [hokf]; simp
    go_enter Tryz.func86, Tryz.ntmps86
    go_wp2_with fail
    have h := zbn a cap ss w HW.out.1
    rw [hokf] at h
    refine h.mono ?_
    rintro e w1 ⟨rfl, hb1⟩
    clear h
    go_wp2_with fail
    go_ret
    exact ⟨by rw [HF.out]; rfl, hb1⟩
  have HOK := hid hok
  by_cases h12 : ms.length <= 12
  rotate_left
  · have HF : Hid (Gate.qM ss ms = false) := by unfold Hid Gate.qM; rw [decide_eq_false h12]; simp
    go_enter Tryz.func86, Tryz.ntmps86
    go_wp2_with fail
    have h := zbn a cap ss w HW.out.1
    rw [hok] at h
    refine h.mono ?_
    rintro e w1 ⟨rfl, hb1⟩
    clear h hok
    go_wp2_with fail
    go_ret
    exact ⟨by rw [HF.out]; rfl, hb1⟩
  have h12I : (ms.length : Int) <= 12 := by omega
  go_enter Tryz.func86, Tryz.ntmps86
  go_wp2_with fail
  have h := zbn a cap ss w HW.out.1
  rw [hok] at h
  refine h.mono ?_
  rintro e w1 ⟨rfl, hb1⟩
  have HB1 := hid hb1
  clear h hok hb1
  go_wp2_with fail
  go_loopw [5] (fun iv wr => ∃ k : Nat, k <= ms.length /\ iv = .int .i64 k /\ (ms.take k).all (Gate.zaL ss) = true /\ Below w.heap.size w wr) (fun iv _ => ms.length - (intOf iv).toNat)
  case atStart => exact ⟨0, Nat.zero_le _, rfl, rfl, HB1.out⟩
  case round =>
    obtain ⟨k, hk, rfl, hall, hB⟩ := hrel
    have HB := hid hB
    have HA := hid hall
    clear hall hB
    by_cases hlt : k < ms.length
    · obtain ⟨b, off, rfl, hb, c0, c1, c2, c3, c4, c5⟩ := HW.out.2.load HB.out k hlt
      have hltI : (k : Int) < (ms.length : Int) := by omega
      have HSM := hid (HW.out.2.small k hlt)
      have HTK : Hid ((ms.take (k + 1)).all (Gate.zaL ss) = Gate.zaL ss ms[k]) := by
        unfold Hid; rw [List.take_succ_eq_append_getElem hlt, List.all_append, HA.out]; simp
      have HNO : Hid (Gate.zaL ss ms[k] = false -> Gate.qM ss ms = false) := by
        intro h
        have : ms.all (Gate.zaL ss) = false := by rw [List.all_eq_false]; exact ⟨_, List.getElem_mem hlt, by rw [h]; simp⟩
        unfold Gate.qM; rw [this]; simp
      go_wp2_with fail
      have h := zkC a cap ss ms[k] wr (HW.out.1.mono HB.out) HSM.out
      rcases hh : Gate.zaL ss ms[k] with _ | _
      · rw [hh] at h
        refine h.mono ?_
        rintro e w3 ⟨rfl, hb3⟩
        have HF := jE (HNO.out hh) (HB.out.trans (hb3.mono HB.out.size))
        clear h hb3 hh c0 c1 c2 c3 c4 c5
        go_wp2_with fail
        go_ret
        exact ⟨by rw [HF.out.1]; rfl, HF.out.2⟩
      · rw [hh] at h
        refine h.mono ?_
        rintro e w3 ⟨rfl, hb3⟩
        have HY : Hid ((ms.take (k + 1)).all (Gate.zaL ss) = true /\ Below w.heap.size w w3) := ⟨by rw [HTK.out]; exact hh, HB.out.trans (hb3.mono HB.out.size)⟩
        clear h hb3 hh c0 c1 c2 c3 c4 c5
        go_wp2_with fail
        exact ⟨⟨k + 1, by omega, by go_num, HY.out.1, HY.out.2⟩, zk hlt⟩
    · have e : k = ms.length := by omega
      have hall := HA.out
      rw [e, List.take_of_length_le (Nat.le_refl _)] at hall
      have HALL := hid hall
      subst e
      clear hall HA
      go_wp2_with fail
      have HBw := hid HB.out
      clear HB
      go_loopw [6] (fun iv wq => ∃ k : Nat, k <= ss.length /\ iv = .int .i64 k /\ (ss.take k).all (Gate.zbD ms) = true /\ Below w.heap.size w wq) (fun iv _ => ss.length - (intOf iv).toNat)
      case atStart => exact ⟨0, Nat.zero_le _, rfl, rfl, HBw.out⟩
      case round =>
        obtain ⟨k, hk, rfl, hall, hB⟩ := hrel
        have HB := hid hB
        have HA := hid hall
        clear hall hB
        by_cases hlt : k < ss.length
        · obtain ⟨b, off, rfl, hb, hr⟩ := HW.out.1.rows (by rintro rfl; simp at hlt)
          obtain ⟨fa, fcap, hs0⟩ := hr k hlt
          have HSI : Hid (∀ W, Below w.heap.size w W -> zjK W b (off + k * 2) ss[k] fa fcap) := fun W hbb => hs0.mono hb hbb
          have hck := (HSI.out _ HB.out).kind
          have hcl := (HSI.out _ HB.out).list
          have hltI : (k : Int) < (ss.length : Int) := by omega
          have HTK : Hid ((ss.take (k + 1)).all (Gate.zbD ms) = Gate.zbD ms ss[k]) := by
            unfold Hid; rw [List.take_succ_eq_append_getElem hlt, List.all_append, HA.out]; simp
          have HNO : Hid (Gate.zbD ms ss[k] = false -> Gate.qM ss ms = false) := by
            intro h
            have : ss.all (Gate.zbD ms) = false := by rw [List.all_eq_false]; exact ⟨_, List.getElem_mem hlt, by rw [h]; simp⟩
            unfold Gate.qM; rw [this]; simp
          have HFW := hid (Gate.zew HOK.out k hlt)
          clear hr hs0
          go_wp2_with fail
          have hbc := HB.out.drew
          have hL := (⟨(HSI.out _ hbc).kind, (HSI.out _ hbc).list⟩ : _ /\ _)
          go_region_held3 (fun w' => w'.cell? ⟨b, off + k * 2, none⟩ = some (.string ss[k].kd) /\ w'.cell? ⟨b, off + k * 2 + 1, none⟩ = some (.slice fa ss[k].fs.length fcap)) (exact hL) (first
            | (go_at_call 122; refine (zjI fa a' fcap cap' ss[k] ms _ (by exact (HSI.out _ hbc).zcn) (by exact HW.out.2.mono hbc) h12 HFW.out).mono ?_; rintro e w5 ⟨v5, rfl, hrow, hb5⟩; obtain ⟨ra, rcap, rfl⟩ := yM hrow; have hbc := hbc.trans (hb5.mono hbc.size); have hL := (⟨(HSI.out _ hbc).kind, (HSI.out _ hbc).list⟩ : _ /\ _); clear hb5 hrow))
          by_cases hrk : (Gate.zZ ss[k] ms ss[k].fs.length).length = ss[k].fs.length
          · have hrI : (((Gate.zZ ss[k] ms ss[k].fs.length).length : Int) != (ss[k].fs.length : Int)) = false := by rw [hrk]; simp
            have HY : Hid ((ss.take (k + 1)).all (Gate.zbD ms) = true) := by unfold Hid; rw [HTK.out]; unfold Gate.zbD; exact decide_eq_true hrk
            clear hrk
            go_wp2_with fail
            exact ⟨⟨k + 1, by omega, by go_num, HY.out, hbc⟩, zk hlt⟩
          · have hrI : (((Gate.zZ ss[k] ms ss[k].fs.length).length : Int) != (ss[k].fs.length : Int)) = true := by rw [bne_iff_ne]; omega
            have HF : Hid (Gate.qM ss ms = false) := HNO.out (by unfold Gate.zbD; exact decide_eq_false hrk)
            clear hrk
            go_wp2_with fail
            go_ret
            exact ⟨by rw [HF.out]; rfl, hbc⟩
        · have e : k = ss.length := by omega
          have hall := HA.out
          rw [e, List.take_of_length_le (Nat.le_refl _)] at hall
          have HF : Hid (Gate.qM ss ms = true) := by unfold Hid Gate.qM; rw [HALL.out, HOK.out, hall, decide_eq_true h12]; rfl
          subst e
          clear hall HA
          go_wp2_with fail
          go_ret
          exact ⟨by rw [HF.out]; rfl, HB.out⟩
end Go.Proofs.YtfcdmlnpfoikhaaGreat

namespace Go.Proofs.YtfcdmlnpfoikhaaGreat.Gate
theorem zoZ (ws : List ByteArray) (v : ByteArray) : has ws v = true ↔ v ∈ ws := by
  unfold has
  rw [List.any_eq_true]
  constructor
  · rintro ⟨x, hx, he⟩
    have : x = v := by simpa using he
    rw [<- this]; exact hx
  · intro h; exact ⟨v, h, by simp⟩
theorem zl5 {ss : List Shp} (h : zP ss = true) (i : Nat) (hi : i < ss.length) (j : Nat) (hj : j < ss[i].fs.length) : zdR ss ss[i].fs j = true := by
  have h1 := zfR h i hi
  unfold yD at h1
  rw [getD_at ss i _ hi] at h1
  simp only [Bool.and_eq_true] at h1
  have h2 := h1.2
  unfold yH at h2
  simp only [Bool.and_eq_true] at h2
  exact zgF hj h2.2
theorem zlb {ss : List Shp} (h : zP ss = true) (i : Nat) (hi : i < ss.length) (j : Nat) (hj : j < ss[i].fs.length) : isSet ss[i].fs[j].nm = true := by
  have h1 := zl5 h i hi j hj
  rw [zhu _ _ _ hj] at h1
  simp only [Bool.and_eq_true] at h1
  have h2 := h1.1.1
  rw [zn6]
  intro e
  rw [e] at h2
  revert h2
  decide
theorem zd0 {ss : List Shp} (h : zP ss = true) (i : Nat) (hi : i < ss.length) (j k : Nat) (hj : j < k) (hk : k < ss[i].fs.length) : (ss[i].fs[j]'(by omega)).nm ≠ ss[i].fs[k].nm := by
  have h1 := zl5 h i hi k hk
  rw [zhu _ _ _ hk] at h1
  simp only [Bool.and_eq_true, Bool.not_eq_true'] at h1
  have h2 := h1.1.2
  intro e
  unfold hasName at h2
  rw [List.any_eq_false] at h2
  have hm : ss[i].fs[j]'(by omega) ∈ ss[i].fs.take k := by
    rw [List.mem_iff_getElem]
    exact ⟨j, by simp; omega, by simp⟩
  exact h2 _ hm (by simpa using e)
theorem zod {ss : List Shp} (h : zP ss = true) (i : Nat) (hi : i < ss.length) (j k : Nat) (hj : j < ss[i].fs.length) (hk : k < ss[i].fs.length) (e : zaC ss[i] j = zaC ss[i] k) : j = k := by
  unfold zaC at e
  rw [getD_at _ _ _ hj, getD_at _ _ _ hk] at e
  rcases Nat.lt_trichotomy j k with h1 | h1 | h1
  · exact absurd e (zd0 h i hi j k h1 hk)
  · exact h1
  · exact absurd e.symm (zd0 h i hi k j h1 hj)
theorem znO {ss : List Shp} (h : zP ss = true) (m : Mnd) : jB ss m = zaL ss m := by
  unfold jB zaL
  by_cases hk : zD ss m.kd = true
  · rw [hk, Bool.true_and, Bool.true_and]
    unfold zD at hk
    rw [List.any_eq_true] at hk
    obtain ⟨x, hx, he⟩ := hk
    obtain ⟨i, hi, rfl⟩ := List.mem_iff_getElem.1 hx
    have hkd : ss[i].kd = m.kd := by simpa using he
    rw [<- hkd, zcR h i hi]
    unfold zau zcO
    by_cases hp : plain ss[i].fs m.fd = true
    · have hfd : isSet m.fd = true := by
        rcases jq ss[i].fs m.fd with ⟨_, h2⟩ | ⟨k, hk', _, h2, _⟩
        · rw [zaN h2] at hp; cases hp
        · rw [<- h2]; exact zlb h i hi k hk'
      have hne : ∀ v, isSet v = false -> v ≠ m.fd := fun v hv e => by rw [e, hfd] at hv; cases hv
      rw [hp, Bool.true_and, Bool.true_and]
      have e : (zK m).all (jm ss[i].fs m) = ((!isSet m.wh || plain ss[i].fs m.wh) && (!isSet m.fr || plain ss[i].fs m.fr) && !decide (m.wh = m.fd) && !decide (m.fr = m.fd)) := by
        unfold zK
        rw [List.all_filter]
        unfold jm
        rcases hw : isSet m.wh with _ | _ <;> rcases hf : isSet m.fr with _ | _
        · simp [hw, hf, hne _ hw, hne _ hf]
        · simp [hw, hf, hne _ hw]
          cases plain ss[i].fs m.fr <;> simp
        · simp [hw, hf, hne _ hf]
          cases plain ss[i].fs m.wh <;> simp
        · simp [hw, hf]
          cases plain ss[i].fs m.wh <;> cases plain ss[i].fs m.fr <;> simp
      rw [e]
    · have hpf : plain ss[i].fs m.fd = false := by simpa using hp
      rw [hpf]; simp
  · have hkf : zD ss m.kd = false := by simpa using hk
    rw [hkf]; rfl
theorem zmz {ss : List Shp} {ms : List Mnd} (h : zP ss = true) (hm : ms.all (jB ss) = true) (i : Nat) (hi : i < ss.length) (row : List Nat) (hrow : ∀ q ∈ row, q < ss[i].fs.length) (j : Nat) (hj : j < ss[i].fs.length) :
    qR ss[i] ms (row.map (zaC ss[i])) j = ready (zi ss[i] ms) row j := by
  have hmem : ∀ q, q < ss[i].fs.length -> (has (row.map (zaC ss[i])) (zaC ss[i] q) = true ↔ q ∈ row) := by
    intro q hq
    rw [zoZ, List.mem_map]
    constructor
    · rintro ⟨p, hp, e⟩
      rw [<- zod h i hi p q (hrow p hp) hq e]; exact hp
    · intro hp; exact ⟨q, hp, rfl⟩
  rw [Bool.eq_iff_iff, zgc]
  unfold qR
  rw [Bool.and_eq_true, Bool.not_eq_true', <- Bool.not_eq_true, hmem j hj]
  refine and_congr Iff.rfl ?_
  unfold zbH
  rw [List.all_eq_true]
  -- what a mend that turns j reads
  have hread : ∀ m ∈ ms, turns m ss[i] j = true -> ∀ v ∈ zK m, ∃ q, q < ss[i].fs.length /\ zS ss[i].fs v = (q : Int) /\ zaC ss[i] q = v := by
    intro m hmm ht v hv
    unfold turns at ht
    simp only [Bool.and_eq_true, decide_eq_true_eq] at ht
    have h1 := List.all_eq_true.1 hm m hmm
    unfold jB at h1
    rw [ht.1, zcR h i hi] at h1
    simp only [Bool.and_eq_true] at h1
    have h2 := h1.2
    unfold zau at h2
    simp only [Bool.and_eq_true] at h2
    have h3 := List.all_eq_true.1 h2.1.2 v hv
    unfold jm at h3
    simp only [Bool.and_eq_true] at h3
    rcases jq ss[i].fs v with ⟨_, h5⟩ | ⟨k, hk, h4, h5, _⟩
    · rw [zaN h5] at h3; exact absurd h3.2 (by simp)
    · exact ⟨k, hk, h4, by unfold zaC; rw [getD_at _ _ _ hk]; exact h5⟩
  have hR : ∀ m, yQ ss[i].kd (zaC ss[i] j) (row.map (zaC ss[i])) m = true ↔ (turns m ss[i] j = true -> ∀ v ∈ zK m, has (row.map (zaC ss[i])) v = true) := by
    intro m
    have e1 : turns m ss[i] j = (decide (m.kd = ss[i].kd) && decide (m.fd = zaC ss[i] j)) := rfl
    unfold yQ
    rw [<- e1]
    rcases turns m ss[i] j with _ | _
    · simp
    · unfold zK
      rcases hw : isSet m.wh with _ | _ <;> rcases hf : isSet m.fr with _ | _ <;> simp [hw, hf]
  constructor
  · intro hall q hq
    unfold zi at hq
    obtain ⟨x, hx, rfl⟩ := List.mem_map.1 hq
    unfold yg at hx
    obtain ⟨m, hmm, hx⟩ := List.mem_flatMap.1 hx
    by_cases ht : turns m ss[i] j = true
    · rw [if_pos ht] at hx
      obtain ⟨v, hv, rfl⟩ := List.mem_map.1 hx
      obtain ⟨q, hq, e1, e2⟩ := hread m hmm ht v hv
      have := (hR m).1 (hall m hmm) ht v hv
      rw [e1, Int.toNat_natCast]
      rw [<- e2] at this
      exact (hmem q hq).1 this
    · rw [if_neg ht] at hx; cases hx
  · intro hall m hmm
    rw [hR]
    intro ht v hv
    obtain ⟨q, hq, e1, e2⟩ := hread m hmm ht v hv
    rw [<- e2, hmem q hq]
    refine hall q ?_
    unfold zi
    rw [List.mem_map]
    refine ⟨(q : Int), ?_, Int.toNat_natCast _⟩
    unfold yg
    rw [List.mem_flatMap]
    refine ⟨m, hmm, ?_⟩
    rw [if_pos ht, List.mem_map]
    exact ⟨v, hv, e1⟩
theorem find_congr {α : Type} {f g : α -> Bool} : ∀ {l : List α}, (∀ x ∈ l, f x = g x) -> l.find? f = l.find? g
  | [], _ => rfl
  | a :: l, h => by
    have h1 := h a (by simp)
    have h2 := find_congr (f := f) (g := g) (l := l) (fun x hx => h x (by simp [hx]))
    rw [List.find?_cons, List.find?_cons, h1, h2]
theorem zcQ {ss : List Shp} {ms : List Mnd} (h : zP ss = true) (hm : ms.all (jB ss) = true) (i : Nat) (hi : i < ss.length) : ∀ k, zZ ss[i] ms k = (greedy (zi ss[i] ms) ss[i].fs.length k).map (zaC ss[i])
  | 0 => rfl
  | k + 1 => by
    show zdA ss[i] ms (zZ ss[i] ms k) = (more (zi ss[i] ms) ss[i].fs.length (greedy (zi ss[i] ms) ss[i].fs.length k)).map (zaC ss[i])
    rw [zcQ h hm i hi k]
    have hpart := zbx (zi ss[i] ms) ss[i].fs.length k
    have e : (List.range ss[i].fs.length).find? (qR ss[i] ms ((greedy (zi ss[i] ms) ss[i].fs.length k).map (zaC ss[i]))) = pick (zi ss[i] ms) ss[i].fs.length (greedy (zi ss[i] ms) ss[i].fs.length k) := by
      unfold pick
      apply find_congr
      intro x hx
      exact zmz h hm i hi _ hpart.mem x (List.mem_range.1 hx)
    unfold zdA more
    rw [e]
    cases pick (zi ss[i] ms) ss[i].fs.length (greedy (zi ss[i] ms) ss[i].fs.length k) with
    | none => rfl
    | some q => simp
theorem zlk {ss : List Shp} {ms : List Mnd} (h : zP ss = true) (hm : ms.all (jB ss) = true) (i : Nat) (hi : i < ss.length) : rowOk ms ss[i] = zbD ms ss[i] := by
  unfold rowOk zbD
  rw [zcQ h hm i hi, List.length_map]
  refine zgO (fun p hp q hq => ?_)
  unfold zi at hq
  obtain ⟨x, hx, rfl⟩ := List.mem_map.1 hq
  have := zid h hm i hi p hp x hx
  omega
theorem zfg (ss : List Shp) (ms : List Mnd) : zW ss ms = qM ss ms := by
  unfold zW qM
  by_cases h : zP ss = true
  · have e1 : ms.all (zaL ss) = ms.all (jB ss) := by congr 1; funext m; exact (znO h m).symm
    rw [e1, h]
    by_cases hm : ms.all (jB ss) = true
    · have e2 : ss.all (rowOk ms) = ss.all (zbD ms) := by
        rw [Bool.eq_iff_iff, List.all_eq_true, List.all_eq_true]
        constructor
        · intro ha x hx
          obtain ⟨i, hi, rfl⟩ := List.mem_iff_getElem.1 hx
          rw [<- zlk h hm i hi]; exact ha _ hx
        · intro ha x hx
          obtain ⟨i, hi, rfl⟩ := List.mem_iff_getElem.1 hx
          rw [zlk h hm i hi]; exact ha _ hx
      rw [e2]; cases decide (ms.length <= 12) <;> simp
    · have hmf : ms.all (jB ss) = false := by simpa using hm
      rw [hmf]; simp
  · have hf : zP ss = false := by simpa using h
    rw [hf]; simp
end Go.Proofs.YtfcdmlnpfoikhaaGreat.Gate

namespace Go.Proofs.YtfcdmlnpfoikhaaGreat.Gate
def qC (fs : List Fld) (vs : List ByteArray) (v : ByteArray) : ByteArray := match fs.findIdx? (fun f => decide (f.nm = v)) with | some j => vs.getD j ByteArray.empty | none => ByteArray.empty
def gives (s : Shp) (vs : List ByteArray) (p : Nat) (m : Mnd) : Option ByteArray :=
  if turns m s p = true /\ ¬ (isSet m.wh = true /\ qC s.fs vs m.wh ≠ m.wi) then
    if isSet m.fr = true then (if isSet (qC s.fs vs m.fr) = true then some (qC s.fs vs m.fr) else none) else some m.pt
  else none
def decided (s : Shp) (ms : List Mnd) (p : Nat) (vs : List ByteArray) : ByteArray := (ms.findSome? (gives s vs p)).getD (vs.getD p ByteArray.empty)
theorem zeS {fs : List Fld} {vs : List ByteArray} {v : ByteArray} {j : Nat} (h : zS fs v = (j : Int)) : qC fs vs v = vs.getD j ByteArray.empty := by
  unfold zS at h
  unfold qC
  cases hf : fs.findIdx? (fun f => decide (f.nm = v)) with
  | none => rw [hf] at h; simp at h
  | some k =>
    rw [hf] at h
    have : k = j := by simp only at h; omega
    rw [this]
theorem zez {fs : List Fld} {vs : List ByteArray} {v : ByteArray} (h : zS fs v = -1) : qC fs vs v = ByteArray.empty := by
  unfold zS at h
  unfold qC
  cases hf : fs.findIdx? (fun f => decide (f.nm = v)) with
  | none => rfl
  | some k => rw [hf] at h; simp only at h; omega
theorem zdS {α β : Type} {f g : α -> Option β} : ∀ {l : List α}, (∀ x ∈ l, f x = g x) -> l.findSome? f = l.findSome? g
  | [], _ => rfl
  | a :: l, h => by
    have h1 := h a (by simp)
    have h2 := zdS (f := f) (g := g) (l := l) (fun x hx => h x (by simp [hx]))
    rw [List.findSome?_cons, List.findSome?_cons, h1, h2]
theorem zjL {us vs : List ByteArray} {q : Nat} (e : us[q]? = vs[q]?) : us.getD q ByteArray.empty = vs.getD q ByteArray.empty := by
  rw [List.getD_eq_getElem?_getD, List.getD_eq_getElem?_getD, e]
theorem zl3 (s : Shp) (ms : List Mnd) (p : Nat) (us vs : List ByteArray) (hr : ∀ q ∈ zi s ms p, us[q]? = vs[q]?) : ms.findSome? (gives s us p) = ms.findSome? (gives s vs p) := by
  apply zdS
  intro m hmm
  unfold gives
  by_cases ht : turns m s p = true
  · have hread : ∀ v ∈ zK m, qC s.fs us v = qC s.fs vs v := by
      intro v hv'
      rcases jq s.fs v with ⟨h1, _⟩ | ⟨k, _, h1, _⟩
      · rw [zez h1, zez h1]
      · rw [zeS h1, zeS h1]
        apply zjL
        apply hr
        unfold zi
        rw [List.mem_map]
        refine ⟨(k : Int), ?_, Int.toNat_natCast _⟩
        unfold yg
        rw [List.mem_flatMap]
        refine ⟨m, hmm, ?_⟩
        rw [if_pos ht, List.mem_map]
        exact ⟨v, hv', h1⟩
    have hw : isSet m.wh = true -> qC s.fs us m.wh = qC s.fs vs m.wh := fun hs => hread _ (by unfold zK; rw [List.mem_filter]; exact ⟨by simp, hs⟩)
    have hf : isSet m.fr = true -> qC s.fs us m.fr = qC s.fs vs m.fr := fun hs => hread _ (by unfold zK; rw [List.mem_filter]; exact ⟨by simp, hs⟩)
    have c1 : (isSet m.wh = true /\ qC s.fs us m.wh ≠ m.wi) ↔ (isSet m.wh = true /\ qC s.fs vs m.wh ≠ m.wi) := by
      constructor
      · rintro ⟨a, b⟩; exact ⟨a, by rw [<- hw a]; exact b⟩
      · rintro ⟨a, b⟩; exact ⟨a, by rw [hw a]; exact b⟩
    have c2 : (if isSet m.fr = true then (if isSet (qC s.fs us m.fr) = true then some (qC s.fs us m.fr) else none) else some m.pt) = (if isSet m.fr = true then (if isSet (qC s.fs vs m.fr) = true then some (qC s.fs vs m.fr) else none) else some m.pt) := by
      by_cases hsf : isSet m.fr = true
      · rw [hf hsf]
      · rw [if_neg hsf, if_neg hsf]
    rw [c2]
    by_cases hc : turns m s p = true /\ ¬ (isSet m.wh = true /\ qC s.fs us m.wh ≠ m.wi)
    · have hc' : turns m s p = true /\ ¬ (isSet m.wh = true /\ qC s.fs vs m.wh ≠ m.wi) := ⟨hc.1, fun h' => hc.2 (c1.2 h')⟩
      rw [if_pos hc, if_pos hc']
    · have hc' : ¬ (turns m s p = true /\ ¬ (isSet m.wh = true /\ qC s.fs vs m.wh ≠ m.wi)) := fun h' => hc ⟨h'.1, fun h'' => h'.2 (c1.1 h'')⟩
      rw [if_neg hc, if_neg hc']
  · simp [ht]
theorem ziP (s : Shp) (ms : List Mnd) : zpf (zi s ms) s.fs.length (decided s ms) := by
  intro p _ us vs _ _ hr hown
  unfold decided
  rw [zl3 s ms p us vs hr, zjL hown]
end Go.Proofs.YtfcdmlnpfoikhaaGreat.Gate

namespace Go.Proofs.YtfcdmlnpfoikhaaGreat
open Go.RowKit
set_option maxHeartbeats 1000000 in
theorem zbW (s : Shp) (vs : List ByteArray) (v : ByteArray) (fa va : Option Addr) (fcap vcap : Nat) (w : World) (hf : zY w fa s.fs) (hv : zB w va vs) (hc : vs.length = s.fs.length) :
    Calls Tryz.prog 223 #[.agg #[.string s.kd, .slice fa s.fs.length fcap], .slice va vs.length vcap, .string v] w fun e w' => e = .returned (.string (Gate.qC s.fs vs v)) /\ Below w.heap.size w w' := by
  have hl := hv.len
  unfold maxLen at hl
  have hba := (Below.refl w.heap.size w).alloc (Nat.le_refl _) (.cells #[.string s.kd, .slice fa s.fs.length fcap] 119)
  rcases Gate.jq s.fs v with ⟨h1, _⟩ | ⟨i, hi, h1, _⟩
  · have HV : Hid (Gate.qC s.fs vs v = ByteArray.empty) := Gate.zez h1
    go_enter Tryz.func223, Tryz.ntmps223
    go_wp2_with fail
    have h := qG fa fcap s.fs v _ (hf.mono hba)
    rw [h1] at h
    refine h.mono ?_
    rintro e w1 ⟨rfl, hb1⟩
    clear h
    go_wp2_with fail
    go_ret
    exact ⟨by rw [HV.out]; rfl, hba.trans (hb1.mono hba.size)⟩
  · have hiv : i < vs.length := by omega
    have HV : Hid (Gate.qC s.fs vs v = vs[i]) := by unfold Hid; rw [Gate.zeS h1, Gate.getD_at _ _ _ hiv]
    obtain ⟨b, off, rfl, hb, hcell⟩ := hv.cells (by rintro rfl; simp at hiv)
    go_enter Tryz.func223, Tryz.ntmps223
    go_wp2_with fail
    have h := qG fa fcap s.fs v _ (hf.mono hba)
    rw [h1] at h
    refine h.mono ?_
    rintro e w1 ⟨rfl, hb1⟩
    have hB1 : Below w.heap.size w w1 := hba.trans (hb1.mono hba.size)
    have hci : w1.cell? ⟨b, off + i, none⟩ = some (.string vs[i]) := (hB1.cell (p := ⟨b, off + i, none⟩) hb).trans (hcell i hiv)
    have hiI : (i : Int) < (vs.length : Int) := by omega
    have hi0 : decide ((i : Int) < 0) = false := by simp
    clear h hcell hba hb1
    go_wp2_with fail
    go_ret
    exact ⟨by rw [HV.out]; rfl, hB1⟩
end Go.Proofs.YtfcdmlnpfoikhaaGreat

namespace Go.Proofs.YtfcdmlnpfoikhaaGreat
open Go.RowKit
set_option maxRecDepth 20000 in
set_option maxHeartbeats 4000000 in
theorem zfL (s : Shp) (ms : List Mnd) (vs : List ByteArray) (p : Nat) (fa ma va : Option Addr) (fcap mcap vcap : Nat) (w : World) (hf : zY w fa s.fs) (hm : qw w ma ms) (hv : zB w va vs) (hc : vs.length = s.fs.length) (hp : p < s.fs.length) :
    Calls Tryz.prog 220 #[.agg #[.string s.kd, .slice fa s.fs.length fcap], .slice ma ms.length mcap, .slice va vs.length vcap, .int .i64 p] w fun e w' => e = .returned (.string (Gate.decided s ms p vs)) /\ Below w.heap.size w w' := by
  have hpv : p < vs.length := by omega
  have hl := hv.len
  have hml := hm.len
  unfold maxLen at hl hml
  have HH := ziV hf hm hv hc
  obtain ⟨b, off, rfl, hb, hcell⟩ := hv.cells (by rintro rfl; simp at hpv)
  have hcp := hcell p hpv
  have hpI : (p : Int) < (vs.length : Int) := by omega
  clear hf hm hv hcell hc
  go_enter Tryz.func220, Tryz.ntmps220
  go_wp2_with fail
  go_step3
  go_wp2_with fail
  go_step3
  go_wp2_with fail
  go_loopw [9, 19] (fun v0 iv wr => ∃ k : Nat, v0 = .string vs[p] /\ k <= ms.length /\ iv = .int .i64 k /\ (ms.take k).findSome? (Gate.gives s vs p) = none /\ Below (w.heap.size + 1) (w.alloc (.cells #[.string s.kd, .slice fa s.fs.length fcap] 119)) wr) (fun _ iv _ => ms.length - (intOf iv).toNat)
  case atStart => exact ⟨0, rfl, Nat.zero_le _, rfl, rfl, Below.refl _ _⟩
  case round =>
    obtain ⟨k, rfl, hk, rfl, hnone, hBw⟩ := hrel
    have HB : Hid (Below w.heap.size w wr /\ Below (w.heap.size + 1) (w.alloc (.cells #[.string s.kd, .slice fa s.fs.length fcap] 119)) wr) := ⟨((Below.refl _ _).alloc (Nat.le_refl _) _).trans (hBw.mono (by omega)), hBw⟩
    have hzr : w.heap.size < wr.heap.size := by have := hBw.size; simp at this; omega
    have hXr : ∀ j, wr.cell? ⟨w.heap.size, j, none⟩ = (#[.string s.kd, .slice fa s.fs.length fcap] : Array Value)[j]? := fun j => cell_of_block ((hBw.block w.heap.size (by omega)).trans (alloc_at _ _))
    have HN := hid hnone
    clear hnone hBw
    by_cases hlt : k < ms.length
    · obtain ⟨mb, moff, rfl, hmb, c0, c1, c2, c3, c4, c5⟩ := HH.out.2.1.load HB.out.1 k hlt
      have hltI : (k : Int) < (ms.length : Int) := by omega
      have hba := (Below.refl wr.heap.size wr).alloc (Nat.le_refl _) (.cells #[.string ms[k].kd, .string ms[k].fd, .string ms[k].wh, .string ms[k].wi, .string ms[k].pt, .string ms[k].fr] 121)
      have HBA := hid (HB.out.1.trans (hba.mono HB.out.1.size))
      go_wp2_with fail
      have HNX : Hid (Gate.gives s vs p ms[k] = none -> (ms.take (k + 1)).findSome? (Gate.gives s vs p) = none) := by
        intro h
        rw [List.take_succ_eq_append_getElem hlt, List.findSome?_append, HN.out]
        simp [h]
      have HSX : Hid (∀ x, Gate.gives s vs p ms[k] = some x -> Gate.decided s ms p vs = x) := by
        intro x h
        unfold Gate.decided
        have e : ms.findSome? (Gate.gives s vs p) = some x := by
          conv => lhs; rw [<- List.take_append_drop k ms, List.drop_eq_getElem_cons hlt]
          rw [List.findSome?_append, HN.out, List.findSome?_cons, h]
          rfl
        rw [e]; rfl
      refine (zbW s vs ms[k].fr fa _ fcap vcap _ (HH.out.1.mono HBA.out) (HH.out.2.2.1.mono HBA.out) HH.out.2.2.2).mono ?_
      rintro e w3 ⟨rfl, hb3⟩
      have HB3 := hid (hba.trans (hb3.mono hba.size))
      have hXm := za (zH wr _ _) (by simp) hb3
      have hzm : wr.heap.size < w3.heap.size := by have := hb3.size; simp at this; omega
      have hXs := za hXr hzr HB3.out
      have HBW3 := hid (HB.out.1.trans (HB3.out.mono HB.out.1.size))
      clear hba hb3 hXr c0 c1 c2 c3 c4 c5
      go_wp2_with fail
      have h := zjR ms[k] s fa fcap p w3 (HH.out.1.mono HBW3.out) hp
      rcases htt : Gate.turns ms[k] s p with _ | _
      · have HG : Hid (Gate.gives s vs p ms[k] = none) := by unfold Hid Gate.gives; simp [htt]
        rw [htt] at h
        refine h.mono ?_
        rintro e w4 ⟨rfl, hb4⟩
        have HBX := hid (HB.out.2.trans ((HB3.out.trans (hb4.mono HB3.out.size)).mono hzr))
        clear h hb4
        clear htt hXm hXs
        go_wp2_with fail
        exact ⟨⟨k + 1, rfl, by omega, by go_num, HNX.out HG.out, HBX.out⟩, zk hlt⟩
      rw [htt] at h
      refine h.mono ?_
      rintro e w4 ⟨rfl, hb4⟩
      have HB4 := hid (HB3.out.trans (hb4.mono HB3.out.size))
      have hXm4 := za hXm hzm hb4
      have hzm4 := Nat.lt_of_lt_of_le hzm hb4.size
      have hXs4 := za hXs (Nat.lt_trans hzr hzm) hb4
      have HBW4 := hid (HB.out.1.trans (HB4.out.mono HB.out.1.size))
      clear h hb4 hXm hXs
      rcases hwh : ms[k].wh.toList.isEmpty with _ | _
      · by_cases ev : Gate.qC s.fs vs ms[k].wh = ms[k].wi
        · have hev : ((Gate.qC s.fs vs ms[k].wh).toList == ms[k].wi.toList) = true := by rw [Gate.beq_toList]; simpa using ev
          have HEV : Hid (Gate.qC s.fs vs ms[k].wh = ms[k].wi) := ev
          clear ev
          go_wp2_with fail
          have hbd : Below w4.heap.size w4 w4.drew := (Below.refl _ _).drew
          have hXm5 := za hXm4 hzm4 hbd
          have hXs5 := za hXs4 (Nat.lt_trans hzr hzm4) hbd
          have hbc := HBW4.out.drew
          go_region_held3 (fun w' => (∀ j, w'.cell? ⟨wr.heap.size, j, none⟩ = (#[.string ms[k].kd, .string ms[k].fd, .string ms[k].wh, .string ms[k].wi, .string ms[k].pt, .string ms[k].fr] : Array Value)[j]?) /\ ∀ j, w'.cell? ⟨w.heap.size, j, none⟩ = (#[.string s.kd, .slice fa s.fs.length fcap] : Array Value)[j]?) (exact ⟨hXm5, hXs5⟩) (first
            | (go_at_call 223; refine (zbW s vs ms[k].wh fa _ fcap vcap _ (by exact HH.out.1.mono hbc) (by exact HH.out.2.2.1.mono hbc) HH.out.2.2.2).mono ?_; rintro e w5 ⟨rfl, hb5⟩; have hbd := hbd.trans (hb5.mono hbd.size); have hbc := hbc.trans (hb5.mono hbc.size); have hXm5 := za hXm4 hzm4 hbd; have hXs5 := za hXs4 (Nat.lt_trans hzr hzm4) hbd; clear hb5))
          have HBX := hid (HB.out.2.trans ((HB4.out.trans (hbd.mono HB4.out.size)).mono hzr))
          have HBY : Hid (Below w.heap.size w w5) := hbc
          clear hbd hbc hXm4 hXs4
          rcases hfr : ms[k].fr.toList.isEmpty with _ | _
          · rcases hF : (Gate.qC s.fs vs ms[k].fr).toList.isEmpty with _ | _
            · have HG : Hid (Gate.gives s vs p ms[k] = some (Gate.qC s.fs vs ms[k].fr)) := by unfold Hid Gate.gives Gate.isSet; simp [HEV.out, *]
              clear htt
              go_wp2_with fail
              rw [Exit.noGoto_ret]
              go_ret
              exact ⟨by rw [HSX.out _ HG.out]; rfl, HBY.out⟩
            · have HG : Hid (Gate.gives s vs p ms[k] = none) := by unfold Hid Gate.gives Gate.isSet; simp [HEV.out, *]
              clear htt
              go_wp2_with fail
              exact ⟨⟨k + 1, rfl, by omega, by go_num, HNX.out HG.out, HBX.out⟩, zk hlt⟩
          · have HG : Hid (Gate.gives s vs p ms[k] = some ms[k].pt) := by unfold Hid Gate.gives Gate.isSet; simp [HEV.out, *]
            clear htt
            go_wp2_with fail
            rw [Exit.noGoto_ret]
            go_ret
            exact ⟨by rw [HSX.out _ HG.out]; rfl, HBY.out⟩
        · have hev : ((Gate.qC s.fs vs ms[k].wh).toList == ms[k].wi.toList) = false := by rw [Gate.beq_toList]; simpa using ev
          have HG : Hid (Gate.gives s vs p ms[k] = none) := by unfold Hid Gate.gives Gate.isSet; simp [*]
          clear ev
          go_wp2_with fail
          have hbd : Below w4.heap.size w4 w4.drew := (Below.refl _ _).drew
          have hXm5 := za hXm4 hzm4 hbd
          have hXs5 := za hXs4 (Nat.lt_trans hzr hzm4) hbd
          have hbc := HBW4.out.drew
          go_region_held3 (fun w' => (∀ j, w'.cell? ⟨wr.heap.size, j, none⟩ = (#[.string ms[k].kd, .string ms[k].fd, .string ms[k].wh, .string ms[k].wi, .string ms[k].pt, .string ms[k].fr] : Array Value)[j]?) /\ ∀ j, w'.cell? ⟨w.heap.size, j, none⟩ = (#[.string s.kd, .slice fa s.fs.length fcap] : Array Value)[j]?) (exact ⟨hXm5, hXs5⟩) (first
            | (go_at_call 223; refine (zbW s vs ms[k].wh fa _ fcap vcap _ (by exact HH.out.1.mono hbc) (by exact HH.out.2.2.1.mono hbc) HH.out.2.2.2).mono ?_; rintro e w5 ⟨rfl, hb5⟩; have hbd := hbd.trans (hb5.mono hbd.size); have hbc := hbc.trans (hb5.mono hbc.size); have hXm5 := za hXm4 hzm4 hbd; have hXs5 := za hXs4 (Nat.lt_trans hzr hzm4) hbd; clear hb5))
          have HBX := hid (HB.out.2.trans ((HB4.out.trans (hbd.mono HB4.out.size)).mono hzr))
          have HBY := hid hbc
          clear hbd hbc hXm4 hXs4
          clear htt
          go_wp2_with fail
          exact ⟨⟨k + 1, rfl, by omega, by go_num, HNX.out HG.out, HBX.out⟩, zk hlt⟩
      · have HBX := hid (HB.out.2.trans (HB4.out.mono hzr))
        have HBY := hid HBW4.out
        rcases hfr : ms[k].fr.toList.isEmpty with _ | _
        · rcases hF : (Gate.qC s.fs vs ms[k].fr).toList.isEmpty with _ | _
          · have HG : Hid (Gate.gives s vs p ms[k] = some (Gate.qC s.fs vs ms[k].fr)) := by unfold Hid Gate.gives Gate.isSet; simp [*]
            clear htt
            go_wp2_with fail
            go_quiet (fail)
            go_wp2_with fail
            rw [Exit.noGoto_ret]
            go_ret
            exact ⟨by rw [HSX.out _ HG.out]; rfl, below_drewN HBY.out _⟩
          · have HG : Hid (Gate.gives s vs p ms[k] = none) := by unfold Hid Gate.gives Gate.isSet; simp [*]
            clear htt
            go_wp2_with fail
            go_quiet (fail)
            go_wp2_with fail
            exact ⟨⟨k + 1, rfl, by omega, by go_num, HNX.out HG.out, below_drewN HBX.out _⟩, zk hlt⟩
        · have HG : Hid (Gate.gives s vs p ms[k] = some ms[k].pt) := by unfold Hid Gate.gives Gate.isSet; simp [*]
          clear htt
          go_wp2_with fail
          go_quiet (fail)
          go_wp2_with fail
          rw [Exit.noGoto_ret]
          go_ret
          exact ⟨by rw [HSX.out _ HG.out]; rfl, below_drewN HBY.out _⟩
    · have e : k = ms.length := by omega
      have hn := HN.out
      rw [e, List.take_of_length_le (Nat.le_refl _)] at hn
      have HD : Hid (Gate.decided s ms p vs = vs[p]) := by unfold Hid Gate.decided; rw [hn, Gate.getD_at _ _ _ hpv]; rfl
      subst e
      clear hn HN
      go_wp2_with fail
      rw [Exit.noGoto_ret]
      go_ret
      exact ⟨by rw [HD.out]; rfl, HB.out.1⟩
end Go.Proofs.YtfcdmlnpfoikhaaGreat

namespace Go.Proofs.YtfcdmlnpfoikhaaGreat.Gate
open Go
theorem zlV {fs : List Fld} {vs : List ByteArray} (v : ByteArray) (hv : ∀ x ∈ vs, x.size <= maxLen) : (qC fs vs v).size <= maxLen := by
  have he : ByteArray.empty.size <= maxLen := by show 0 <= _; exact Nat.zero_le _
  unfold qC
  split
  · rename_i j _
    rw [List.getD_eq_getElem?_getD]
    cases h : vs[j]? with
    | none => exact he
    | some x => exact hv x (List.mem_of_getElem? h)
  · exact he
theorem zjo {s : Shp} {ms : List Mnd} {vs : List ByteArray} (p : Nat) (hm : ∀ i (h : i < ms.length), ms[i].Small) (hv : ∀ x ∈ vs, x.size <= maxLen) : (decided s ms p vs).size <= maxLen := by
  unfold decided
  cases hf : ms.findSome? (gives s vs p) with
  | none =>
    show (vs.getD p ByteArray.empty).size <= maxLen
    rw [List.getD_eq_getElem?_getD]
    cases h : vs[p]? with
    | none => show 0 <= _; exact Nat.zero_le _
    | some x => exact hv x (List.mem_of_getElem? h)
  | some x =>
    show x.size <= maxLen
    obtain ⟨m, hmm, hg⟩ := List.exists_of_findSome?_eq_some hf
    obtain ⟨i, hi, rfl⟩ := List.mem_iff_getElem.1 hmm
    unfold gives at hg
    split at hg
    · split at hg
      · split at hg
        · rw [<- Option.some.inj hg]; exact zlV _ hv
        · cases hg
      · rw [<- Option.some.inj hg]; exact (hm i hi).pt
    · cases hg
theorem zbt {s : Shp} {ms : List Mnd} (hm : ∀ i (h : i < ms.length), ms[i].Small) : ∀ (row : List Nat) (vs : List ByteArray), (∀ x ∈ vs, x.size <= maxLen) -> ∀ x ∈ zM (decided s ms) row vs, x.size <= maxLen
  | [], _, hv => hv
  | p :: row, vs, hv => by
    refine zbt hm row (vs.set p (decided s ms p vs)) (fun x hx => ?_)
    rcases List.mem_or_eq_of_mem_set hx with h | h
    · exact hv x h
    · rw [h]; exact zjo p hm hv
end Go.Proofs.YtfcdmlnpfoikhaaGreat.Gate

namespace Go.Proofs.YtfcdmlnpfoikhaaGreat
open Go.RowKit
end Go.Proofs.YtfcdmlnpfoikhaaGreat

namespace Go.Proofs.YtfcdmlnpfoikhaaGreat
open Go.RowKit
set_option maxRecDepth 20000 in
set_option maxHeartbeats 4000000 in
theorem zmN (o : Ob) (s : Shp) (ms : List Mnd) (fa ma ova oha : Option Addr) (fcap mcap cap cap' : Nat) (w : World) (hf : zY w fa s.fs) (hm : qw w ma ms) (ho : qL w o ova oha) (hA : zlo ova o.vs) (hA' : zlo oha o.hs) (hl : o.vs.length <= 1048576) (hl' : o.hs.length <= 1048576) (hc : o.vs.length = s.fs.length)
    (hml : ms.length <= 1048576) (hn : s.fs.length <= 6) (hrd : ∀ q, q < s.fs.length -> ∀ x ∈ Gate.yg s ms q, 0 <= x /\ x < s.fs.length) (hwk : (Gate.zC (Gate.zi s ms) s.fs.length).1 = true) :
    Calls Tryz.prog 210 #[.agg #[.string s.kd, .slice fa s.fs.length fcap], .slice ma ms.length mcap, .agg (oC o ova oha cap cap')] w
      fun e w' => ∃ a dap a' dap' m, e = .returned (.agg (oC o a a' dap dap')) /\ zn w.heap.size w' a (Gate.zM (Gate.decided s ms) (Gate.zC (Gate.zi s ms) s.fs.length).2.row o.vs) /\ (∀ g, a = some g -> g.block < m) /\ w.heap.size <= m /\ zn m w' a' o.hs /\ Below w.heap.size w w' := by
  have HH : Hid (zY w fa s.fs /\ qw w ma ms /\ o.vs.length = s.fs.length /\ ms.length <= 1048576 /\ s.fs.length <= 6 /\ (∀ q, q < s.fs.length -> ∀ x ∈ Gate.yg s ms q, 0 <= x /\ x < s.fs.length) /\ (∀ x ∈ o.vs, x.size <= maxLen)) := ⟨hf, hm, hc, hml, hn, hrd, ho.vals.small⟩
  have HWK := hid hwk
  clear hf hm hc hml hrd hwk
  go_enter Tryz.func210, Tryz.ntmps210
  go_wp2_with fail
  refine (zhW o ova oha cap cap' _ (ho.mono (qP _ _ _ _)) hA hA' hl hl').mono ?_
  rintro e w1 ⟨a, dap, a', dap', m, rfl, ht, hmm, hsm, ht', hb1⟩
  have hX1 : ∀ j, w1.cell? ⟨w.heap.size, j, none⟩ = (#[.string s.kd, .slice fa s.fs.length fcap] : Array Value)[j]? := fun j => cell_of_block ((hb1.block w.heap.size (by simp; omega)).trans (zby _ _ _ _))
  have HS1 : Hid (w1.heap[w.heap.size]? = some (.cells #[.string s.kd, .slice fa s.fs.length fcap] 119)) := (hb1.block w.heap.size (by simp; omega)).trans (zby _ _ _ _)
  have HR1 : Hid (w1.heap[w.heap.size + 1 + 1]? = some (.cells oZ 115)) := (hb1.block (w.heap.size + 1 + 1) (by simp)).trans (zch _ _ _ _)
  have HB1 : Hid (Below w.heap.size w w1) := (qP _ _ _ _).trans (hb1.mono (by simp; omega))
  have hz1 : w.heap.size + 1 + 1 < w1.heap.size := by have := hb1.size; simp at this; omega
  have HT : Hid (zn (w.heap.size + 1 + 1 + 1) w1 a o.vs /\ (∀ g, a = some g -> g.block < m) /\ w.heap.size + 1 + 1 + 1 <= m /\ zn m w1 a' o.hs) := by
    simp only [World.size_alloc] at ht hsm
    exact ⟨ht, hmm, hsm, ht'⟩
  have hz0 : w.heap.size < w1.heap.size := by omega
  clear ht hmm hsm ht' hb1 ho
  have hba := (Below.refl w1.heap.size w1).alloc (Nat.le_refl _) (.cells (oC o a a' dap dap') 115)
  have HBA := hid (HB1.out.trans (hba.mono HB1.out.size))
  have HBB := hid hba
  clear hba
  go_wp2_with fail
  have h := zgm s ms ma fa mcap fcap _ (HH.out.2.1.mono HBA.out) (HH.out.1.mono HBA.out) HH.out.2.2.2.1 HH.out.2.2.2.2.1 HH.out.2.2.2.2.2.1
  rw [HWK.out] at h
  refine h.mono ?_
  rintro e w2 ⟨rv, rfl, hb2, hrow⟩
  have hrow := hrow rfl
  obtain ⟨ra, rcap, rfl⟩ := yM hrow
  have HBC := hid (HBB.out.trans (hb2.mono HBB.out.size))
  have HR2 : Hid (w2.ownsRow (w1.heap.size + 1) 3 1 (.slice ra (Gate.zC (Gate.zi s ms) s.fs.length).2.row.length rcap) (Gate.zC (Gate.zi s ms) s.fs.length).2.row.length (zdz (Gate.zC (Gate.zi s ms) s.fs.length).2.row)) := by
    have := hrow; rw [World.size_alloc] at this; exact this
  have HU2 : Hid (w2.heap[w1.heap.size]? = some (.cells (oC o a a' dap dap') 115)) := (hb2.block _ (by simp)).trans (alloc_at _ _)
  have HTP : Hid (Gate.zjb (Gate.zi s ms) s.fs.length (Gate.zC (Gate.zi s ms) s.fs.length).2.row) := Gate.zc7 (fun p hp q hq => by
    unfold Gate.zi at hq
    obtain ⟨x, hx, rfl⟩ := List.mem_map.1 hq
    have := HH.out.2.2.2.2.2.1 p hp x hx
    omega) HWK.out
  have hz2 := (Array.getElem?_eq_some_iff.1 HU2.out).1
  have HRL : Hid ((Gate.zC (Gate.zi s ms) s.fs.length).2.row.length <= 6) := by
    have h1 := Gate.zbb (Gate.zC (Gate.zi s ms) s.fs.length).2.row (List.range s.fs.length) HTP.out.nodup (fun x hx => List.mem_range.2 ((HTP.out.mem x).1 hx))
    have h2 := HH.out.2.2.2.2.1
    rw [List.length_range] at h1
    show _ <= _; omega
  clear h hrow hb2 hX1
  go_wp2_with fail
  go_loopw [22] (fun iv wr => ∃ j : Nat, j <= (Gate.zC (Gate.zi s ms) s.fs.length).2.row.length /\ iv = .int .i64 j /\ zn (w.heap.size + 1 + 1 + 1) wr a (Gate.zM (Gate.decided s ms) ((Gate.zC (Gate.zi s ms) s.fs.length).2.row.take j) o.vs) /\ zn m wr a' o.hs /\ wr.heap[w.heap.size + 1 + 1]? = some (.cells oZ 115) /\ wr.heap[w1.heap.size]? = some (.cells (oC o a a' dap dap') 115) /\ wr.heap[w.heap.size]? = some (.cells #[.string s.kd, .slice fa s.fs.length fcap] 119) /\ wr.ownsRow (w1.heap.size + 1) 3 1 (.slice ra (Gate.zC (Gate.zi s ms) s.fs.length).2.row.length rcap) (Gate.zC (Gate.zi s ms) s.fs.length).2.row.length (zdz (Gate.zC (Gate.zi s ms) s.fs.length).2.row) /\ Below w.heap.size w wr) (fun iv _ => (Gate.zC (Gate.zi s ms) s.fs.length).2.row.length - (intOf iv).toNat)
  case atStart => exact ⟨0, Nat.zero_le _, rfl, HT.out.1.mono HBC.out, HT.out.2.2.2.mono HBC.out, (HBC.out.block _ hz1).trans HR1.out, HU2.out, (HBC.out.block _ hz0).trans HS1.out, HR2.out, HB1.out.trans (HBC.out.mono HB1.out.size)⟩
  case round =>
    obtain ⟨j, hj, rfl, hinv⟩ := hrel
    have HI : Hid (zn (w.heap.size + 1 + 1 + 1) wr a (Gate.zM (Gate.decided s ms) ((Gate.zC (Gate.zi s ms) s.fs.length).2.row.take j) o.vs) /\ zn m wr a' o.hs /\ wr.heap[w.heap.size + 1 + 1]? = some (.cells oZ 115) /\ wr.heap[w1.heap.size]? = some (.cells (oC o a a' dap dap') 115) /\ wr.heap[w.heap.size]? = some (.cells #[.string s.kd, .slice fa s.fs.length fcap] 119) /\ wr.ownsRow (w1.heap.size + 1) 3 1 (.slice ra (Gate.zC (Gate.zi s ms) s.fs.length).2.row.length rcap) (Gate.zC (Gate.zi s ms) s.fs.length).2.row.length (zdz (Gate.zC (Gate.zi s ms) s.fs.length).2.row) /\ Below w.heap.size w wr) := hinv
    clear hinv
    by_cases hlt : j < (Gate.zC (Gate.zi s ms) s.fs.length).2.row.length
    · have hltI : (j : Int) < ((Gate.zC (Gate.zi s ms) s.fs.length).2.row.length : Int) := by omega
      have hqn : (Gate.zC (Gate.zi s ms) s.fs.length).2.row[j] < s.fs.length := (HTP.out.mem _).1 (List.getElem_mem hlt)
      obtain ⟨rg, rfl, hrc⟩ : ∃ rg, ra = some ⟨rg, 0, none⟩ /\ wr.cell? ⟨rg, j, none⟩ = some (.int .i64 (((Gate.zC (Gate.zi s ms) s.fs.length).2.row[j] : Nat) : Int)) := by
        have hrow := HI.out.2.2.2.2.2.1
        obtain ⟨_, ⟨h0, h1⟩ | ⟨g, cp, cur, h0, h1⟩⟩ := id hrow
        · rw [h1] at hlt; exact absurd hlt (by omega)
        · cases h0
          refine ⟨g, rfl, ?_⟩
          rw [hrow.cellAt j (by omega)]
          simp [zdz, hlt]
      have HTS : Hid ((Gate.zM (Gate.decided s ms) ((Gate.zC (Gate.zi s ms) s.fs.length).2.row.take (j + 1)) o.vs) = (Gate.zM (Gate.decided s ms) ((Gate.zC (Gate.zi s ms) s.fs.length).2.row.take j) o.vs).set (Gate.zC (Gate.zi s ms) s.fs.length).2.row[j] (Gate.decided s ms (Gate.zC (Gate.zi s ms) s.fs.length).2.row[j] (Gate.zM (Gate.decided s ms) ((Gate.zC (Gate.zi s ms) s.fs.length).2.row.take j) o.vs))) := by
        unfold Hid
        rw [List.take_succ_eq_append_getElem hlt, Gate.zb8]
        rfl
      have HTL : Hid ((Gate.zM (Gate.decided s ms) ((Gate.zC (Gate.zi s ms) s.fs.length).2.row.take j) o.vs).length = o.vs.length) := Gate.qX _ _ _
      have HSML : Hid (∀ x ∈ (Gate.zM (Gate.decided s ms) ((Gate.zC (Gate.zi s ms) s.fs.length).2.row.take j) o.vs), x.size <= maxLen) := Gate.zbt HH.out.2.1.small _ _ HH.out.2.2.2.2.2.2
      have hvl : 0 < o.vs.length := by rw [HH.out.2.2.1]; omega
      obtain ⟨g, C, hga, hgl, hgh, hgc⟩ : ∃ g C, a = some ⟨g, 0, none⟩ /\ w.heap.size + 1 + 1 + 1 <= g /\ wr.heap[g]? = some (.cells C 9) /\ ∀ i (h : i < (Gate.zM (Gate.decided s ms) ((Gate.zC (Gate.zi s ms) s.fs.length).2.row.take j) o.vs).length), C[i]? = some (.string (Gate.zM (Gate.decided s ms) ((Gate.zC (Gate.zi s ms) s.fs.length).2.row.take j) o.vs)[i]) := by
        rcases HI.out.1 with ⟨_, h0⟩ | h0
        · have := HTL.out; rw [h0] at this; simp at this; omega
        · exact h0
      have hgm := HT.out.2.1 _ hga
      have hgw1 := HT.out.1.lt _ hga
      subst hga
      revert hqn hrc HTS
      generalize (Gate.zC (Gate.zi s ms) s.fs.length).2.row[j] = q
      intro hqn hrc HTS
      have hqv : q < o.vs.length := by rw [HH.out.2.2.1]; exact hqn
      have hqI : (q : Int) < (o.vs.length : Int) := by omega
      have HCS : Hid (C.size = C.size /\ q < C.size) := by
        refine ⟨rfl, ?_⟩
        rcases Nat.lt_or_ge q C.size with h1 | h1
        · exact h1
        · have h2 := hgc q (by rw [HTL.out]; exact hqv)
          rw [Array.getElem?_eq_none h1] at h2; cases h2
      have hOc := zaV HI.out.2.2.2.1
      have hSc := zaV HI.out.2.2.2.2.1
      have hzw : w1.heap.size < wr.heap.size := (Array.getElem?_eq_some_iff.1 HI.out.2.2.2.1).1
      have HST : Hid (zB wr (some ⟨g, 0, none⟩) (Gate.zM (Gate.decided s ms) ((Gate.zC (Gate.zi s ms) s.fs.length).2.row.take j) o.vs)) := HI.out.1.at (by rw [HTL.out]; unfold maxLen; omega) HSML.out
      have HBD : Hid (Below w.heap.size w wr.drew /\ Below wr.heap.size wr wr.drew) := ⟨HI.out.2.2.2.2.2.2.drew, (Below.refl _ _).drew⟩
      have HGH := hid hgh
      clear hgh hgc
      go_wp2_with fail
      clear hrc
      have hbd := HBD.out.2
      have hOd := za hOc hzw hbd
      have hSd := za hSc (by omega) hbd
      have HDV : Hid (∀ W, Below wr.heap.size wr W -> Calls Tryz.prog 220 #[.agg #[.string s.kd, .slice fa s.fs.length fcap], .slice ma ms.length mcap, .slice (some ⟨g, 0, none⟩) o.vs.length dap, .int .i64 (q : Int)] W fun e w' => e = .returned (.string (Gate.decided s ms q (Gate.zM (Gate.decided s ms) ((Gate.zC (Gate.zi s ms) s.fs.length).2.row.take j) o.vs))) /\ Below W.heap.size W w') := by
        intro W hb
        have hbw := HI.out.2.2.2.2.2.2.trans (hb.mono HI.out.2.2.2.2.2.2.size)
        have h := zfL s ms (Gate.zM (Gate.decided s ms) ((Gate.zC (Gate.zi s ms) s.fs.length).2.row.take j) o.vs) q fa ma (some ⟨g, 0, none⟩) fcap mcap dap W (HH.out.1.mono hbw) (HH.out.2.1.mono hbw) (HST.out.mono hb) (by rw [HTL.out]; exact HH.out.2.2.1) hqn
        rw [HTL.out] at h
        exact h
      go_region_held3 (fun w' => (∀ k, w'.cell? ⟨w1.heap.size, k, none⟩ = (oC o (some ⟨g, 0, none⟩) a' dap dap')[k]?) /\ ∀ k, w'.cell? ⟨w.heap.size, k, none⟩ = (#[.string s.kd, .slice fa s.fs.length fcap] : Array Value)[k]?) (first | (refine ⟨fun k => ?_, fun k => ?_⟩; rw [hOd]; rw [hSd]) | (refine ⟨fun k => ?_, fun k => ?_⟩; rw [hqo]; rw [hqs])) (first
        | (go_at_call 220; refine (HDV.out _ hbd).mono ?_; rintro e w5 ⟨rfl, hb5⟩; have hbd := hbd.trans (hb5.mono hbd.size); have hOd := za hOc hzw hbd; have hSd := za hSc (by omega) hbd; have hg5 := (hbd.block g (by omega)).trans HGH.out; have hcg : w5.cell? ⟨g, q, none⟩ = some (C[q]'HCS.out.2) := (by rw [cell_of_block hg5]; exact Array.getElem?_eq_getElem HCS.out.2); have hfg : w5.frozen? ⟨g, q, none⟩ = false := zh hg5; have hqo : ∀ k, (w5.setCell ⟨g, q, none⟩ (.string (Gate.decided s ms q (Gate.zM (Gate.decided s ms) ((Gate.zC (Gate.zi s ms) s.fs.length).2.row.take j) o.vs)))).cell? ⟨w1.heap.size, k, none⟩ = (oC o (some ⟨g, 0, none⟩) a' dap dap')[k]? := (fun k => (zT (by show w1.heap.size ≠ g; omega)).trans (hOd k)); have hqs : ∀ k, (w5.setCell ⟨g, q, none⟩ (.string (Gate.decided s ms q (Gate.zM (Gate.decided s ms) ((Gate.zC (Gate.zi s ms) s.fs.length).2.row.take j) o.vs)))).cell? ⟨w.heap.size, k, none⟩ = (#[.string s.kd, .slice fa s.fs.length fcap] : Array Value)[k]? := (fun k => (zT (by show w.heap.size ≠ g; omega)).trans (hSd k)); have HBE : Hid (Below wr.heap.size wr w5) := hbd; clear hb5 hg5))
      go_wp2_with fail
      obtain ⟨i1, i2, i3, i4, i5, i6, i7⟩ := HI.out
      have hE := HBE.out
      refine ⟨⟨j + 1, by omega, by rw [wrap_one (by have := HRL.out; omega)], ?_, (i2.mono hE).setCell _ hgm _, (Below.heap_setCell _ _ _ _ (by show w.heap.size + 1 + 1 ≠ g; omega)).trans ((hE.block _ (by omega)).trans i3), (Below.heap_setCell _ _ _ _ (by show w1.heap.size ≠ g; omega)).trans ((hE.block _ hzw).trans i4), (Below.heap_setCell _ _ _ _ (by show w.heap.size ≠ g; omega)).trans ((hE.block _ (by omega)).trans i5), ?_, (i7.trans (hE.mono i7.size)).setCell (p := ⟨g, q, none⟩) (by show w.heap.size <= g; omega) _⟩, qJ hlt (by have := HRL.out; omega)⟩
      · rw [HTS.out]; exact (i1.mono hE).set q _
      · refine jU (yJ i6 hE) (fun g' hg' => Below.heap_setCell _ _ _ _ ?_)
        have := (i6.lt g' hg').1
        show g' ≠ g
        omega
    · have e : j = (Gate.zC (Gate.zi s ms) s.fs.length).2.row.length := by omega
      obtain ⟨i1, i2, i3, i4, i5, i6, i7⟩ := HI.out
      rw [e, List.take_of_length_le (Nat.le_refl _)] at i1
      have hRc : ∀ k, wr.cell? ⟨w.heap.size + 1 + 1, k, none⟩ = oZ[k]? := fun k => cell_of_block i3
      have hRf : ∀ k, wr.frozen? ⟨w.heap.size + 1 + 1, k, none⟩ = false := fun k => zh i3
      have hOc := zaV i4
      have HX := zfw i1 i2 i7
      clear i1 i2 i3 i4 i5 i6 i7 HI
      subst e
      go_wp2_with fail
      refine bodyPost_ret (v := (.agg (oC o a a' dap dap'))) (by simp [results, Tryz.results210, go_sem, hRc]) rfl ?_
      obtain ⟨ht, ht', hB⟩ := HX.out
      exact ⟨a, dap, a', dap', m, rfl, (qW ht _ (by omega) _ _ _ _ _ _ _).low (by omega), HT.out.2.1, by have := HT.out.2.2.1; omega, qW ht' _ (by have := HT.out.2.2.1; omega) _ _ _ _ _ _ _, zam hB _ (by omega) _ _ _ _ _ _ _⟩
end Go.Proofs.YtfcdmlnpfoikhaaGreat
