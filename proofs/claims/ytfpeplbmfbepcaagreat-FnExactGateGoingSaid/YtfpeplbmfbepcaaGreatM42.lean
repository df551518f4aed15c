import Derived.Test.YtfpeplbmfbepcaaGreatM38
import Derived.Test.YtfpeplbmfbepcaaGreatM39
import Derived.Test.YtfpeplbmfbepcaaGreatM32
import Derived.Test.YtfpeplbmfbepcaaGreatM20
import Derived.WalkMore
import Derived.Deep.RegionHeld3
namespace Go.Proofs.YtfpeplbmfbepcaaGreat
open Go.RowKit
namespace Gate
def zaX (ss : List Shp) (m : Mnd) : Bool := zC ss m.kd && zc4 (shapeOf ss m.kd).fs m
def zbQ (ms : List Mnd) (s : Shp) : Bool := decide ((zZ s ms s.fs.length).length = s.fs.length)
def qM (ss : List Shp) (ms : List Mnd) : Bool := zJ ss && decide (ms.length <= 12) && ms.all (zaX ss) && ss.all (zbQ ms)
end Gate
set_option maxHeartbeats 1000000 in
theorem zlp (a : Option Addr) (cap : Nat) (ss : List Shp) (m : Mnd) (w : World) (hw : yI w a ss) (hm : m.Small) :
    Calls Tryz.prog 126 #[.slice a ss.length cap, .agg m.cells] w fun e w' => e = .returned (.bool (Gate.zaX ss m)) /\ Below w.heap.size w w' := by
  by_cases hk : Gate.zC ss m.kd = true
  · refine (zlv a cap ss m w hw hm hk).mono ?_
    rintro e w' ⟨rfl, hb⟩
    exact ⟨by unfold Gate.zaX; rw [hk]; rfl, hb⟩
  · have hkf : Gate.zC ss m.kd = false := by simpa using hk
    have HF : Hid (Gate.zaX ss m = false) := by unfold Hid Gate.zaX; rw [hkf]; rfl
    unfold Mnd.cells
    have hba := (Below.refl w.heap.size w).alloc (Nat.le_refl _) (.cells #[.string m.kd, .string m.fd, .string m.wh, .string m.wi, .string m.pt, .string m.fr] 125)
    go_enter Tryz.func126, Tryz.ntmps126
    go_wp2_with fail
    refine (ze8 _ _ _ _ _ (hw.mono hba) hkf).mono ?_
    rintro e w1 ⟨rfl, rfl⟩
    go_wp2_with fail
    go_ret
    exact ⟨by rw [HF.out]; rfl, hba⟩
set_option maxRecDepth 20000 in
set_option maxHeartbeats 4000000 in
theorem zdL (a a' : Option Addr) (cap cap' : Nat) (ss : List Shp) (ms : List Mnd) (w : World) (hw : yI w a ss) (hm : qy w a' ms) :
    Calls Tryz.prog 88 #[.slice a ss.length cap, .slice a' ms.length cap'] w fun e w' => e = .returned (.bool (Gate.qM ss ms)) /\ Below w.heap.size w w' := by
  have HW := qJ hw hm
  have hl := hw.len
  have hml := hm.len
  unfold maxLen at hl hml
  clear hw hm
  by_cases hok : Gate.zJ ss = true
  rotate_left
  · have hokf : Gate.zJ ss = false := by simpa using hok
    have HF : Hid (Gate.qM ss ms = false) := by unfold Hid Gate.qM; rw [hokf]; simp
    go_enter Tryz.func88, Tryz.ntmps88
    go_wp2_with fail
    have h := zbz a cap ss w HW.out.1
    rw [hokf] at h
    refine h.mono ?_
    rintro e w1 ⟨rfl, hb1⟩
    clear h
    go_wp2_with fail
    go_ret
    exact ⟨by rw [HF.out]; rfl, hb1⟩
  have HOK := hid hok
  by_cases h12 : ms.length <= 12
  rotate_left
  · have HF : Hid (Gate.qM ss ms = false) := by unfold Hid Gate.qM; rw [decide_eq_false h12]; simp
    go_enter Tryz.func88, Tryz.ntmps88
    go_wp2_with fail
    have h := zbz a cap ss w HW.out.1
    rw [hok] at h
    refine h.mono ?_
    rintro e w1 ⟨rfl, hb1⟩
    clear h hok
    go_wp2_with fail
    go_ret
    exact ⟨by rw [HF.out]; rfl, hb1⟩
  have h12I : (ms.length : Int) <= 12 := by omega
  go_enter Tryz.func88, Tryz.ntmps88
  go_wp2_with fail
  have h := zbz a cap ss w HW.out.1
  rw [hok] at h
  refine h.mono ?_
  rintro e w1 ⟨rfl, hb1⟩
  have HB1 := hid hb1
  clear h hok hb1
  go_wp2_with fail
  go_loopw [5] (fun iv wr => ∃ k : Nat, k <= ms.length /\ iv = .int .i64 k /\ (ms.take k).all (Gate.zaX ss) = true /\ Below w.heap.size w wr) (fun iv _ => ms.length - (intOf iv).toNat)
  case atStart => exact ⟨0, Nat.zero_le _, rfl, rfl, HB1.out⟩
  case round =>
    obtain ⟨k, hk, rfl, hall, hB⟩ := hrel
    have HB := hid hB
    have HA := hid hall
    clear hall hB
    by_cases hlt : k < ms.length
    · obtain ⟨b, off, rfl, hb, c0, c1, c2, c3, c4, c5⟩ := HW.out.2.load HB.out k hlt
      have hltI : (k : Int) < (ms.length : Int) := by omega
      have HSM := hid (HW.out.2.small k hlt)
      have HTK : Hid ((ms.take (k + 1)).all (Gate.zaX ss) = Gate.zaX ss ms[k]) := by
        unfold Hid; rw [List.take_succ_eq_append_getElem hlt, List.all_append, HA.out]; simp
      have HNO : Hid (Gate.zaX ss ms[k] = false -> Gate.qM ss ms = false) := by
        intro h
        have : ms.all (Gate.zaX ss) = false := by rw [List.all_eq_false]; exact ⟨_, List.getElem_mem hlt, by rw [h]; simp⟩
        unfold Gate.qM; rw [this]; simp
      go_wp2_with fail
      have h := zlp a cap ss ms[k] wr (HW.out.1.mono HB.out) HSM.out
      rcases hh : Gate.zaX ss ms[k] with _ | _
      · rw [hh] at h
        refine h.mono ?_
        rintro e w3 ⟨rfl, hb3⟩
        have HF := qJ (HNO.out hh) (HB.out.trans (hb3.mono HB.out.size))
        clear h hb3 hh c0 c1 c2 c3 c4 c5
        go_wp2_with fail
        go_ret
        exact ⟨by rw [HF.out.1]; rfl, HF.out.2⟩
      · rw [hh] at h
        refine h.mono ?_
        rintro e w3 ⟨rfl, hb3⟩
        have HY : Hid ((ms.take (k + 1)).all (Gate.zaX ss) = true /\ Below w.heap.size w w3) := ⟨by rw [HTK.out]; exact hh, HB.out.trans (hb3.mono HB.out.size)⟩
        clear h hb3 hh c0 c1 c2 c3 c4 c5
        go_wp2_with fail
        exact ⟨⟨k + 1, by omega, by go_num, HY.out.1, HY.out.2⟩, zi hlt⟩
    · have e : k = ms.length := by omega
      have hall := HA.out
      rw [e, List.take_of_length_le (Nat.le_refl _)] at hall
      have HALL := hid hall
      subst e
      clear hall HA
      go_wp2_with fail
      have HBw := hid HB.out
      clear HB
      go_loopw [6] (fun iv wq => ∃ k : Nat, k <= ss.length /\ iv = .int .i64 k /\ (ss.take k).all (Gate.zbQ ms) = true /\ Below w.heap.size w wq) (fun iv _ => ss.length - (intOf iv).toNat)
      case atStart => exact ⟨0, Nat.zero_le _, rfl, rfl, HBw.out⟩
      case round =>
        obtain ⟨k, hk, rfl, hall, hB⟩ := hrel
        have HB := hid hB
        have HA := hid hall
        clear hall hB
        by_cases hlt : k < ss.length
        · obtain ⟨b, off, rfl, hb, hr⟩ := HW.out.1.rows (by rintro rfl; simp at hlt)
          obtain ⟨fa, fcap, hs0⟩ := hr k hlt
          have HSI : Hid (∀ W, Below w.heap.size w W -> zko W b (off + k * 2) ss[k] fa fcap) := fun W hbb => hs0.mono hb hbb
          have hck := (HSI.out _ HB.out).kind
          have hcl := (HSI.out _ HB.out).list
          have hltI : (k : Int) < (ss.length : Int) := by omega
          have HTK : Hid ((ss.take (k + 1)).all (Gate.zbQ ms) = Gate.zbQ ms ss[k]) := by
            unfold Hid; rw [List.take_succ_eq_append_getElem hlt, List.all_append, HA.out]; simp
          have HNO : Hid (Gate.zbQ ms ss[k] = false -> Gate.qM ss ms = false) := by
            intro h
            have : ss.all (Gate.zbQ ms) = false := by rw [List.all_eq_false]; exact ⟨_, List.getElem_mem hlt, by rw [h]; simp⟩
            unfold Gate.qM; rw [this]; simp
          have HFW := hid (Gate.zeV HOK.out k hlt)
          clear hr hs0
          go_wp2_with fail
          have hbc := HB.out.drew
          have hL := (⟨(HSI.out _ hbc).kind, (HSI.out _ hbc).list⟩ : _ /\ _)
          go_region_held3 (fun w' => w'.cell? ⟨b, off + k * 2, none⟩ = some (.string ss[k].kd) /\ w'.cell? ⟨b, off + k * 2 + 1, none⟩ = some (.slice fa ss[k].fs.length fcap)) (exact hL) (first
            | (go_at_call 127; refine (zkm fa a' fcap cap' ss[k] ms _ (by exact (HSI.out _ hbc).zcE) (by exact HW.out.2.mono hbc) h12 HFW.out).mono ?_; rintro e w5 ⟨v5, rfl, hrow, hb5⟩; obtain ⟨ra, rcap, rfl⟩ := yE hrow; have hbc := hbc.trans (hb5.mono hbc.size); have hL := (⟨(HSI.out _ hbc).kind, (HSI.out _ hbc).list⟩ : _ /\ _); clear hb5 hrow))
          by_cases hrk : (Gate.zZ ss[k] ms ss[k].fs.length).length = ss[k].fs.length
          · have hrI : (((Gate.zZ ss[k] ms ss[k].fs.length).length : Int) != (ss[k].fs.length : Int)) = false := by rw [hrk]; simp
            have HY : Hid ((ss.take (k + 1)).all (Gate.zbQ ms) = true) := by unfold Hid; rw [HTK.out]; unfold Gate.zbQ; exact decide_eq_true hrk
            clear hrk
            go_wp2_with fail
            exact ⟨⟨k + 1, by omega, by go_num, HY.out, hbc⟩, zi hlt⟩
          · have hrI : (((Gate.zZ ss[k] ms ss[k].fs.length).length : Int) != (ss[k].fs.length : Int)) = true := by rw [bne_iff_ne]; omega
            have HF : Hid (Gate.qM ss ms = false) := HNO.out (by unfold Gate.zbQ; exact decide_eq_false hrk)
            clear hrk
            go_wp2_with fail
            go_ret
            exact ⟨by rw [HF.out]; rfl, hbc⟩
        · have e : k = ss.length := by omega
          have hall := HA.out
          rw [e, List.take_of_length_le (Nat.le_refl _)] at hall
          have HF : Hid (Gate.qM ss ms = true) := by unfold Hid Gate.qM; rw [HALL.out, HOK.out, hall, decide_eq_true h12]; rfl
          subst e
          clear hall HA
          go_wp2_with fail
          go_ret
          exact ⟨by rw [HF.out]; rfl, HB.out⟩
end Go.Proofs.YtfpeplbmfbepcaaGreat

namespace Go.Proofs.YtfpeplbmfbepcaaGreat.Gate
theorem zpZ (ws : List ByteArray) (v : ByteArray) : has ws v = true ↔ v ∈ ws := by
  unfold has
  rw [List.any_eq_true]
  constructor
  · rintro ⟨x, hx, he⟩
    have : x = v := by simpa using he
    rw [<- this]; exact hx
  · intro h; exact ⟨v, h, by simp⟩
theorem zm0 {ss : List Shp} (h : zJ ss = true) (i : Nat) (hi : i < ss.length) (j : Nat) (hj : j < ss[i].fs.length) : zea ss ss[i].fs j = true := by
  have h1 := zgi h i hi
  unfold yD at h1
  rw [getD_at ss i _ hi] at h1
  simp only [Bool.and_eq_true] at h1
  have h2 := h1.2
  unfold yH at h2
  simp only [Bool.and_eq_true] at h2
  exact zeO hj h2.2
theorem zl1 {ss : List Shp} (h : zJ ss = true) (i : Nat) (hi : i < ss.length) (j : Nat) (hj : j < ss[i].fs.length) : isSet ss[i].fs[j].nm = true := by
  have h1 := zm0 h i hi j hj
  rw [zfB _ _ _ hj] at h1
  simp only [Bool.and_eq_true] at h1
  have h2 := h1.1.1
  rw [zo2]
  intro e
  rw [e] at h2
  revert h2
  decide
theorem zel {ss : List Shp} (h : zJ ss = true) (i : Nat) (hi : i < ss.length) (j k : Nat) (hj : j < k) (hk : k < ss[i].fs.length) : (ss[i].fs[j]'(by omega)).nm ≠ ss[i].fs[k].nm := by
  have h1 := zm0 h i hi k hk
  rw [zfB _ _ _ hk] at h1
  simp only [Bool.and_eq_true, Bool.not_eq_true'] at h1
  have h2 := h1.1.2
  intro e
  unfold hasName at h2
  rw [List.any_eq_false] at h2
  have hm : ss[i].fs[j]'(by omega) ∈ ss[i].fs.take k := by
    rw [List.mem_iff_getElem]
    exact ⟨j, by simp; omega, by simp⟩
  exact h2 _ hm (by simpa using e)
theorem zpb {ss : List Shp} (h : zJ ss = true) (i : Nat) (hi : i < ss.length) (j k : Nat) (hj : j < ss[i].fs.length) (hk : k < ss[i].fs.length) (e : zaJ ss[i] j = zaJ ss[i] k) : j = k := by
  unfold zaJ at e
  rw [getD_at _ _ _ hj, getD_at _ _ _ hk] at e
  rcases Nat.lt_trichotomy j k with h1 | h1 | h1
  · exact absurd e (zel h i hi j k h1 hk)
  · exact h1
  · exact absurd e.symm (zel h i hi k j h1 hj)
theorem zoK {ss : List Shp} (h : zJ ss = true) (m : Mnd) : jD ss m = zaX ss m := by
  unfold jD zaX
  by_cases hk : zC ss m.kd = true
  · rw [hk, Bool.true_and, Bool.true_and]
    unfold zC at hk
    rw [List.any_eq_true] at hk
    obtain ⟨x, hx, he⟩ := hk
    obtain ⟨i, hi, rfl⟩ := List.mem_iff_getElem.1 hx
    have hkd : ss[i].kd = m.kd := by simpa using he
    rw [<- hkd, zc7 h i hi]
    unfold zaC zc4
    by_cases hp : plain ss[i].fs m.fd = true
    · have hfd : isSet m.fd = true := by
        rcases jA ss[i].fs m.fd with ⟨_, h2⟩ | ⟨k, hk', _, h2, _⟩
        · rw [zaZ h2] at hp; cases hp
        · rw [<- h2]; exact zl1 h i hi k hk'
      have hne : ∀ v, isSet v = false -> v ≠ m.fd := fun v hv e => by rw [e, hfd] at hv; cases hv
      rw [hp, Bool.true_and, Bool.true_and]
      have e : (zL m).all (jr ss[i].fs m) = ((!isSet m.wh || plain ss[i].fs m.wh) && (!isSet m.fr || plain ss[i].fs m.fr) && !decide (m.wh = m.fd) && !decide (m.fr = m.fd)) := by
        unfold zL
        rw [List.all_filter]
        unfold jr
        rcases hw : isSet m.wh with _ | _ <;> rcases hf : isSet m.fr with _ | _
        · simp [hw, hf, hne _ hw, hne _ hf]
        · simp [hw, hf, hne _ hw]
          cases plain ss[i].fs m.fr <;> simp
        · simp [hw, hf, hne _ hf]
          cases plain ss[i].fs m.wh <;> simp
        · simp [hw, hf]
          cases plain ss[i].fs m.wh <;> cases plain ss[i].fs m.fr <;> simp
      rw [e]
    · have hpf : plain ss[i].fs m.fd = false := by simpa using hp
      rw [hpf]; simp
  · have hkf : zC ss m.kd = false := by simpa using hk
    rw [hkf]; rfl
theorem znx {ss : List Shp} {ms : List Mnd} (h : zJ ss = true) (hm : ms.all (jD ss) = true) (i : Nat) (hi : i < ss.length) (row : List Nat) (hrow : ∀ q ∈ row, q < ss[i].fs.length) (j : Nat) (hj : j < ss[i].fs.length) :
    qQ ss[i] ms (row.map (zaJ ss[i])) j = ready (zk ss[i] ms) row j := by
  have hmem : ∀ q, q < ss[i].fs.length -> (has (row.map (zaJ ss[i])) (zaJ ss[i] q) = true ↔ q ∈ row) := by
    intro q hq
    rw [zpZ, List.mem_map]
    constructor
    · rintro ⟨p, hp, e⟩
      rw [<- zpb h i hi p q (hrow p hp) hq e]; exact hp
    · intro hp; exact ⟨q, hp, rfl⟩
  rw [Bool.eq_iff_iff, zgD]
  unfold qQ
  rw [Bool.and_eq_true, Bool.not_eq_true', <- Bool.not_eq_true, hmem j hj]
  refine and_congr Iff.rfl ?_
  unfold zbU
  rw [List.all_eq_true]
  -- what a mend that turns j reads
  have hread : ∀ m ∈ ms, turns m ss[i] j = true -> ∀ v ∈ zL m, ∃ q, q < ss[i].fs.length /\ zT ss[i].fs v = (q : Int) /\ zaJ ss[i] q = v := by
    intro m hmm ht v hv
    unfold turns at ht
    simp only [Bool.and_eq_true, decide_eq_true_eq] at ht
    have h1 := List.all_eq_true.1 hm m hmm
    unfold jD at h1
    rw [ht.1, zc7 h i hi] at h1
    simp only [Bool.and_eq_true] at h1
    have h2 := h1.2
    unfold zaC at h2
    simp only [Bool.and_eq_true] at h2
    have h3 := List.all_eq_true.1 h2.1.2 v hv
    unfold jr at h3
    simp only [Bool.and_eq_true] at h3
    rcases jA ss[i].fs v with ⟨_, h5⟩ | ⟨k, hk, h4, h5, _⟩
    · rw [zaZ h5] at h3; exact absurd h3.2 (by simp)
    · exact ⟨k, hk, h4, by unfold zaJ; rw [getD_at _ _ _ hk]; exact h5⟩
  have hR : ∀ m, yS ss[i].kd (zaJ ss[i] j) (row.map (zaJ ss[i])) m = true ↔ (turns m ss[i] j = true -> ∀ v ∈ zL m, has (row.map (zaJ ss[i])) v = true) := by
    intro m
    have e1 : turns m ss[i] j = (decide (m.kd = ss[i].kd) && decide (m.fd = zaJ ss[i] j)) := rfl
    unfold yS
    rw [<- e1]
    rcases turns m ss[i] j with _ | _
    · simp
    · unfold zL
      rcases hw : isSet m.wh with _ | _ <;> rcases hf : isSet m.fr with _ | _ <;> simp [hw, hf]
  constructor
  · intro hall q hq
    unfold zk at hq
    obtain ⟨x, hx, rfl⟩ := List.mem_map.1 hq
    unfold yg at hx
    obtain ⟨m, hmm, hx⟩ := List.mem_flatMap.1 hx
    by_cases ht : turns m ss[i] j = true
    · rw [if_pos ht] at hx
      obtain ⟨v, hv, rfl⟩ := List.mem_map.1 hx
      obtain ⟨q, hq, e1, e2⟩ := hread m hmm ht v hv
      have := (hR m).1 (hall m hmm) ht v hv
      rw [e1, Int.toNat_natCast]
      rw [<- e2] at this
      exact (hmem q hq).1 this
    · rw [if_neg ht] at hx; cases hx
  · intro hall m hmm
    rw [hR]
    intro ht v hv
    obtain ⟨q, hq, e1, e2⟩ := hread m hmm ht v hv
    rw [<- e2, hmem q hq]
    refine hall q ?_
    unfold zk
    rw [List.mem_map]
    refine ⟨(q : Int), ?_, Int.toNat_natCast _⟩
    unfold yg
    rw [List.mem_flatMap]
    refine ⟨m, hmm, ?_⟩
    rw [if_pos ht, List.mem_map]
    exact ⟨v, hv, e1⟩
theorem find_congr {α : Type} {f g : α -> Bool} : ∀ {l : List α}, (∀ x ∈ l, f x = g x) -> l.find? f = l.find? g
  | [], _ => rfl
  | a :: l, h => by
    have h1 := h a (by simp)
    have h2 := find_congr (f := f) (g := g) (l := l) (fun x hx => h x (by simp [hx]))
    rw [List.find?_cons, List.find?_cons, h1, h2]
theorem zc6 {ss : List Shp} {ms : List Mnd} (h : zJ ss = true) (hm : ms.all (jD ss) = true) (i : Nat) (hi : i < ss.length) : ∀ k, zZ ss[i] ms k = (greedy (zk ss[i] ms) ss[i].fs.length k).map (zaJ ss[i])
  | 0 => rfl
  | k + 1 => by
    show zdS ss[i] ms (zZ ss[i] ms k) = (more (zk ss[i] ms) ss[i].fs.length (greedy (zk ss[i] ms) ss[i].fs.length k)).map (zaJ ss[i])
    rw [zc6 h hm i hi k]
    have hpart := zbK (zk ss[i] ms) ss[i].fs.length k
    have e : (List.range ss[i].fs.length).find? (qQ ss[i] ms ((greedy (zk ss[i] ms) ss[i].fs.length k).map (zaJ ss[i]))) = pick (zk ss[i] ms) ss[i].fs.length (greedy (zk ss[i] ms) ss[i].fs.length k) := by
      unfold pick
      apply find_congr
      intro x hx
      exact znx h hm i hi _ hpart.mem x (List.mem_range.1 hx)
    unfold zdS more
    rw [e]
    cases pick (zk ss[i] ms) ss[i].fs.length (greedy (zk ss[i] ms) ss[i].fs.length k) with
    | none => rfl
    | some q => simp
theorem zma {ss : List Shp} {ms : List Mnd} (h : zJ ss = true) (hm : ms.all (jD ss) = true) (i : Nat) (hi : i < ss.length) : rowOk ms ss[i] = zbQ ms ss[i] := by
  unfold rowOk zbQ
  rw [zc6 h hm i hi, List.length_map]
  refine zhj (fun p hp q hq => ?_)
  unfold zk at hq
  obtain ⟨x, hx, rfl⟩ := List.mem_map.1 hq
  have := ziP h hm i hi p hp x hx
  omega
theorem zfH (ss : List Shp) (ms : List Mnd) : yc ss ms = qM ss ms := by
  unfold yc qM
  by_cases h : zJ ss = true
  · have e1 : ms.all (zaX ss) = ms.all (jD ss) := by congr 1; funext m; exact (zoK h m).symm
    rw [e1, h]
    by_cases hm : ms.all (jD ss) = true
    · have e2 : ss.all (rowOk ms) = ss.all (zbQ ms) := by
        rw [Bool.eq_iff_iff, List.all_eq_true, List.all_eq_true]
        constructor
        · intro ha x hx
          obtain ⟨i, hi, rfl⟩ := List.mem_iff_getElem.1 hx
          rw [<- zma h hm i hi]; exact ha _ hx
        · intro ha x hx
          obtain ⟨i, hi, rfl⟩ := List.mem_iff_getElem.1 hx
          rw [zma h hm i hi]; exact ha _ hx
      rw [e2]; cases decide (ms.length <= 12) <;> simp
    · have hmf : ms.all (jD ss) = false := by simpa using hm
      rw [hmf]; simp
  · have hf : zJ ss = false := by simpa using h
    rw [hf]; simp
end Go.Proofs.YtfpeplbmfbepcaaGreat.Gate

namespace Go.Proofs.YtfpeplbmfbepcaaGreat.Gate
def qD (fs : List Fld) (vs : List ByteArray) (v : ByteArray) : ByteArray := match fs.findIdx? (fun f => decide (f.nm = v)) with | some j => vs.getD j ByteArray.empty | none => ByteArray.empty
def gives (s : Shp) (vs : List ByteArray) (p : Nat) (m : Mnd) : Option ByteArray :=
  if turns m s p = true /\ ¬ (isSet m.wh = true /\ qD s.fs vs m.wh ≠ m.wi) then
    if isSet m.fr = true then (if isSet (qD s.fs vs m.fr) = true then some (qD s.fs vs m.fr) else none) else some m.pt
  else none
def decided (s : Shp) (ms : List Mnd) (p : Nat) (vs : List ByteArray) : ByteArray := (ms.findSome? (gives s vs p)).getD (vs.getD p ByteArray.empty)
theorem zfh {fs : List Fld} {vs : List ByteArray} {v : ByteArray} {j : Nat} (h : zT fs v = (j : Int)) : qD fs vs v = vs.getD j ByteArray.empty := by
  unfold zT at h
  unfold qD
  cases hf : fs.findIdx? (fun f => decide (f.nm = v)) with
  | none => rw [hf] at h; simp at h
  | some k =>
    rw [hf] at h
    have : k = j := by simp only at h; omega
    rw [this]
theorem zeY {fs : List Fld} {vs : List ByteArray} {v : ByteArray} (h : zT fs v = -1) : qD fs vs v = ByteArray.empty := by
  unfold zT at h
  unfold qD
  cases hf : fs.findIdx? (fun f => decide (f.nm = v)) with
  | none => rfl
  | some k => rw [hf] at h; simp only at h; omega
theorem zec {α β : Type} {f g : α -> Option β} : ∀ {l : List α}, (∀ x ∈ l, f x = g x) -> l.findSome? f = l.findSome? g
  | [], _ => rfl
  | a :: l, h => by
    have h1 := h a (by simp)
    have h2 := zec (f := f) (g := g) (l := l) (fun x hx => h x (by simp [hx]))
    rw [List.findSome?_cons, List.findSome?_cons, h1, h2]
theorem zkp {us vs : List ByteArray} {q : Nat} (e : us[q]? = vs[q]?) : us.getD q ByteArray.empty = vs.getD q ByteArray.empty := by
  rw [List.getD_eq_getElem?_getD, List.getD_eq_getElem?_getD, e]
theorem zmY (s : Shp) (ms : List Mnd) (p : Nat) (us vs : List ByteArray) (hr : ∀ q ∈ zk s ms p, us[q]? = vs[q]?) : ms.findSome? (gives s us p) = ms.findSome? (gives s vs p) := by
  apply zec
  intro m hmm
  unfold gives
  by_cases ht : turns m s p = true
  · have hread : ∀ v ∈ zL m, qD s.fs us v = qD s.fs vs v := by
      intro v hv'
      rcases jA s.fs v with ⟨h1, _⟩ | ⟨k, _, h1, _⟩
      · rw [zeY h1, zeY h1]
      · rw [zfh h1, zfh h1]
        apply zkp
        apply hr
        unfold zk
        rw [List.mem_map]
        refine ⟨(k : Int), ?_, Int.toNat_natCast _⟩
        unfold yg
        rw [List.mem_flatMap]
        refine ⟨m, hmm, ?_⟩
        rw [if_pos ht, List.mem_map]
        exact ⟨v, hv', h1⟩
    have hw : isSet m.wh = true -> qD s.fs us m.wh = qD s.fs vs m.wh := fun hs => hread _ (by unfold zL; rw [List.mem_filter]; exact ⟨by simp, hs⟩)
    have hf : isSet m.fr = true -> qD s.fs us m.fr = qD s.fs vs m.fr := fun hs => hread _ (by unfold zL; rw [List.mem_filter]; exact ⟨by simp, hs⟩)
    have c1 : (isSet m.wh = true /\ qD s.fs us m.wh ≠ m.wi) ↔ (isSet m.wh = true /\ qD s.fs vs m.wh ≠ m.wi) := by
      constructor
      · rintro ⟨a, b⟩; exact ⟨a, by rw [<- hw a]; exact b⟩
      · rintro ⟨a, b⟩; exact ⟨a, by rw [hw a]; exact b⟩
    have c2 : (if isSet m.fr = true then (if isSet (qD s.fs us m.fr) = true then some (qD s.fs us m.fr) else none) else some m.pt) = (if isSet m.fr = true then (if isSet (qD s.fs vs m.fr) = true then some (qD s.fs vs m.fr) else none) else some m.pt) := by
      by_cases hsf : isSet m.fr = true
      · rw [hf hsf]
      · rw [if_neg hsf, if_neg hsf]
    rw [c2]
    by_cases hc : turns m s p = true /\ ¬ (isSet m.wh = true /\ qD s.fs us m.wh ≠ m.wi)
    · have hc' : turns m s p = true /\ ¬ (isSet m.wh = true /\ qD s.fs vs m.wh ≠ m.wi) := ⟨hc.1, fun h' => hc.2 (c1.2 h')⟩
      rw [if_pos hc, if_pos hc']
    · have hc' : ¬ (turns m s p = true /\ ¬ (isSet m.wh = true /\ qD s.fs vs m.wh ≠ m.wi)) := fun h' => hc ⟨h'.1, fun h'' => h'.2 (c1.1 h'')⟩
      rw [if_neg hc, if_neg hc']
  · simp [ht]
theorem zjq (s : Shp) (ms : List Mnd) : zqg (zk s ms) s.fs.length (decided s ms) := by
  intro p _ us vs _ _ hr hown
  unfold decided
  rw [zmY s ms p us vs hr, zkp hown]
end Go.Proofs.YtfpeplbmfbepcaaGreat.Gate

namespace Go.Proofs.YtfpeplbmfbepcaaGreat
open Go.RowKit
set_option maxHeartbeats 1000000 in
theorem zca (s : Shp) (vs : List ByteArray) (v : ByteArray) (fa va : Option Addr) (fcap vcap : Nat) (w : World) (hf : zW w fa s.fs) (hv : zA w va vs) (hc : vs.length = s.fs.length) :
    Calls Tryz.prog 227 #[.agg #[.string s.kd, .slice fa s.fs.length fcap], .slice va vs.length vcap, .string v] w fun e w' => e = .returned (.string (Gate.qD s.fs vs v)) /\ Below w.heap.size w w' := by
  have hl := hv.len
  unfold maxLen at hl
  have hba := (Below.refl w.heap.size w).alloc (Nat.le_refl _) (.cells #[.string s.kd, .slice fa s.fs.length fcap] 123)
  rcases Gate.jA s.fs v with ⟨h1, _⟩ | ⟨i, hi, h1, _⟩
  · have HV : Hid (Gate.qD s.fs vs v = ByteArray.empty) := Gate.zeY h1
    go_enter Tryz.func227, Tryz.ntmps227
    go_wp2_with fail
    have h := qG fa fcap s.fs v _ (hf.mono hba)
    rw [h1] at h
    refine h.mono ?_
    rintro e w1 ⟨rfl, hb1⟩
    clear h
    go_wp2_with fail
    go_ret
    exact ⟨by rw [HV.out]; rfl, hba.trans (hb1.mono hba.size)⟩
  · have hiv : i < vs.length := by omega
    have HV : Hid (Gate.qD s.fs vs v = vs[i]) := by unfold Hid; rw [Gate.zfh h1, Gate.getD_at _ _ _ hiv]
    obtain ⟨b, off, rfl, hb, hcell⟩ := hv.cells (by rintro rfl; simp at hiv)
    go_enter Tryz.func227, Tryz.ntmps227
    go_wp2_with fail
    have h := qG fa fcap s.fs v _ (hf.mono hba)
    rw [h1] at h
    refine h.mono ?_
    rintro e w1 ⟨rfl, hb1⟩
    have hB1 : Below w.heap.size w w1 := hba.trans (hb1.mono hba.size)
    have hci : w1.cell? ⟨b, off + i, none⟩ = some (.string vs[i]) := (hB1.cell (p := ⟨b, off + i, none⟩) hb).trans (hcell i hiv)
    have hiI : (i : Int) < (vs.length : Int) := by omega
    have hi0 : decide ((i : Int) < 0) = false := by simp
    clear h hcell hba hb1
    go_wp2_with fail
    go_ret
    exact ⟨by rw [HV.out]; rfl, hB1⟩
end Go.Proofs.YtfpeplbmfbepcaaGreat

namespace Go.Proofs.YtfpeplbmfbepcaaGreat
open Go.RowKit
set_option maxRecDepth 20000 in
set_option maxHeartbeats 4000000 in
theorem zgc (s : Shp) (ms : List Mnd) (vs : List ByteArray) (p : Nat) (fa ma va : Option Addr) (fcap mcap vcap : Nat) (w : World) (hf : zW w fa s.fs) (hm : qy w ma ms) (hv : zA w va vs) (hc : vs.length = s.fs.length) (hp : p < s.fs.length) :
    Calls Tryz.prog 224 #[.agg #[.string s.kd, .slice fa s.fs.length fcap], .slice ma ms.length mcap, .slice va vs.length vcap, .int .i64 p] w fun e w' => e = .returned (.string (Gate.decided s ms p vs)) /\ Below w.heap.size w w' := by
  have hpv : p < vs.length := by omega
  have hl := hv.len
  have hml := hm.len
  unfold maxLen at hl hml
  have HH := zia hf hm hv hc
  obtain ⟨b, off, rfl, hb, hcell⟩ := hv.cells (by rintro rfl; simp at hpv)
  have hcp := hcell p hpv
  have hpI : (p : Int) < (vs.length : Int) := by omega
  clear hf hm hv hcell hc
  go_enter Tryz.func224, Tryz.ntmps224
  go_wp2_with fail
  go_step3
  go_wp2_with fail
  go_step3
  go_wp2_with fail
  go_loopw [9, 19] (fun v0 iv wr => ∃ k : Nat, v0 = .string vs[p] /\ k <= ms.length /\ iv = .int .i64 k /\ (ms.take k).findSome? (Gate.gives s vs p) = none /\ Below (w.heap.size + 1) (w.alloc (.cells #[.string s.kd, .slice fa s.fs.length fcap] 123)) wr) (fun _ iv _ => ms.length - (intOf iv).toNat)
  case atStart => exact ⟨0, rfl, Nat.zero_le _, rfl, rfl, Below.refl _ _⟩
  case round =>
    obtain ⟨k, rfl, hk, rfl, hnone, hBw⟩ := hrel
    have HB : Hid (Below w.heap.size w wr /\ Below (w.heap.size + 1) (w.alloc (.cells #[.string s.kd, .slice fa s.fs.length fcap] 123)) wr) := ⟨((Below.refl _ _).alloc (Nat.le_refl _) _).trans (hBw.mono (by omega)), hBw⟩
    have hzr : w.heap.size < wr.heap.size := by have := hBw.size; simp at this; omega
    have hXr : ∀ j, wr.cell? ⟨w.heap.size, j, none⟩ = (#[.string s.kd, .slice fa s.fs.length fcap] : Array Value)[j]? := fun j => cell_of_block ((hBw.block w.heap.size (by omega)).trans (alloc_at _ _))
    have HN := hid hnone
    clear hnone hBw
    by_cases hlt : k < ms.length
    · obtain ⟨mb, moff, rfl, hmb, c0, c1, c2, c3, c4, c5⟩ := HH.out.2.1.load HB.out.1 k hlt
      have hltI : (k : Int) < (ms.length : Int) := by omega
      have hba := (Below.refl wr.heap.size wr).alloc (Nat.le_refl _) (.cells #[.string ms[k].kd, .string ms[k].fd, .string ms[k].wh, .string ms[k].wi, .string ms[k].pt, .string ms[k].fr] 125)
      have HBA := hid (HB.out.1.trans (hba.mono HB.out.1.size))
      go_wp2_with fail
      have HNX : Hid (Gate.gives s vs p ms[k] = none -> (ms.take (k + 1)).findSome? (Gate.gives s vs p) = none) := by
        intro h
        rw [List.take_succ_eq_append_getElem hlt, List.findSome?_append, HN.out]
        simp [h]
      have HSX : Hid (∀ x, Gate.gives s vs p ms[k] = some x -> Gate.decided s ms p vs = x) := by
        intro x h
        unfold Gate.decided
        have e : ms.findSome? (Gate.gives s vs p) = some x := by
          conv => lhs; rw [<- List.take_append_drop k ms, List.drop_eq_getElem_cons hlt]
          rw [List.findSome?_append, HN.out, List.findSome?_cons, h]
          rfl
        rw [e]; rfl
      refine (zca s vs ms[k].fr fa _ fcap vcap _ (HH.out.1.mono HBA.out) (HH.out.2.2.1.mono HBA.out) HH.out.2.2.2).mono ?_
      rintro e w3 ⟨rfl, hb3⟩
      have HB3 := hid (hba.trans (hb3.mono hba.size))
      have hXm := za (zG wr _ _) (by simp) hb3
      have hzm : wr.heap.size < w3.heap.size := by have := hb3.size; simp at this; omega
      have hXs := za hXr hzr HB3.out
      have HBW3 := hid (HB.out.1.trans (HB3.out.mono HB.out.1.size))
      clear hba hb3 hXr c0 c1 c2 c3 c4 c5
      go_wp2_with fail
      have h := zkw ms[k] s fa fcap p w3 (HH.out.1.mono HBW3.out) hp
      rcases htt : Gate.turns ms[k] s p with _ | _
      · have HG : Hid (Gate.gives s vs p ms[k] = none) := by unfold Hid Gate.gives; simp [htt]
        rw [htt] at h
        refine h.mono ?_
        rintro e w4 ⟨rfl, hb4⟩
        have HBX := hid (HB.out.2.trans ((HB3.out.trans (hb4.mono HB3.out.size)).mono hzr))
        clear h hb4
        clear htt hXm hXs
        go_wp2_with fail
        exact ⟨⟨k + 1, rfl, by omega, by go_num, HNX.out HG.out, HBX.out⟩, zi hlt⟩
      rw [htt] at h
      refine h.mono ?_
      rintro e w4 ⟨rfl, hb4⟩
      have HB4 := hid (HB3.out.trans (hb4.mono HB3.out.size))
      have hXm4 := za hXm hzm hb4
      have hzm4 := Nat.lt_of_lt_of_le hzm hb4.size
      have hXs4 := za hXs (Nat.lt_trans hzr hzm) hb4
      have HBW4 := hid (HB.out.1.trans (HB4.out.mono HB.out.1.size))
      clear h hb4 hXm hXs
      rcases hwh : ms[k].wh.toList.isEmpty with _ | _
      · by_cases ev : Gate.qD s.fs vs ms[k].wh = ms[k].wi
        · have hev : ((Gate.qD s.fs vs ms[k].wh).toList == ms[k].wi.toList) = true := by rw [Gate.beq_toList]; simpa using ev
          have HEV : Hid (Gate.qD s.fs vs ms[k].wh = ms[k].wi) := ev
          clear ev
          go_wp2_with fail
          have hbd : Below w4.heap.size w4 w4.drew := (Below.refl _ _).drew
          have hXm5 := za hXm4 hzm4 hbd
          have hXs5 := za hXs4 (Nat.lt_trans hzr hzm4) hbd
          have hbc := HBW4.out.drew
          go_region_held3 (fun w' => (∀ j, w'.cell? ⟨wr.heap.size, j, none⟩ = (#[.string ms[k].kd, .string ms[k].fd, .string ms[k].wh, .string ms[k].wi, .string ms[k].pt, .string ms[k].fr] : Array Value)[j]?) /\ ∀ j, w'.cell? ⟨w.heap.size, j, none⟩ = (#[.string s.kd, .slice fa s.fs.length fcap] : Array Value)[j]?) (exact ⟨hXm5, hXs5⟩) (first
            | (go_at_call 227; refine (zca s vs ms[k].wh fa _ fcap vcap _ (by exact HH.out.1.mono hbc) (by exact HH.out.2.2.1.mono hbc) HH.out.2.2.2).mono ?_; rintro e w5 ⟨rfl, hb5⟩; have hbd := hbd.trans (hb5.mono hbd.size); have hbc := hbc.trans (hb5.mono hbc.size); have hXm5 := za hXm4 hzm4 hbd; have hXs5 := za hXs4 (Nat.lt_trans hzr hzm4) hbd; clear hb5))
          have HBX := hid (HB.out.2.trans ((HB4.out.trans (hbd.mono HB4.out.size)).mono hzr))
          have HBY : Hid (Below w.heap.size w w5) := hbc
          clear hbd hbc hXm4 hXs4
          rcases hfr : ms[k].fr.toList.isEmpty with _ | _
          · rcases hF : (Gate.qD s.fs vs ms[k].fr).toList.isEmpty with _ | _
            · have HG : Hid (Gate.gives s vs p ms[k] = some (Gate.qD s.fs vs ms[k].fr)) := by unfold Hid Gate.gives Gate.isSet; simp [HEV.out, *]
              clear htt
              go_wp2_with fail
              rw [Exit.noGoto_ret]
              go_ret
              exact ⟨by rw [HSX.out _ HG.out]; rfl, HBY.out⟩
            · have HG : Hid (Gate.gives s vs p ms[k] = none) := by unfold Hid Gate.gives Gate.isSet; simp [HEV.out, *]
              clear htt
              go_wp2_with fail
              exact ⟨⟨k + 1, rfl, by omega, by go_num, HNX.out HG.out, HBX.out⟩, zi hlt⟩
          · have HG : Hid (Gate.gives s vs p ms[k] = some ms[k].pt) := by unfold Hid Gate.gives Gate.isSet; simp [HEV.out, *]
            clear htt
            go_wp2_with fail
            rw [Exit.noGoto_ret]
            go_ret
            exact ⟨by rw [HSX.out _ HG.out]; rfl, HBY.out⟩
        · have hev : ((Gate.qD s.fs vs ms[k].wh).toList == ms[k].wi.toList) = false := by rw [Gate.beq_toList]; simpa using ev
          have HG : Hid (Gate.gives s vs p ms[k] = none) := by unfold Hid Gate.gives Gate.isSet; simp [*]
          clear ev
          go_wp2_with fail
          have hbd : Below w4.heap.size w4 w4.drew := (Below.refl _ _).drew
          have hXm5 := za hXm4 hzm4 hbd
          have hXs5 := za hXs4 (Nat.lt_trans hzr hzm4) hbd
          have hbc := HBW4.out.drew
          go_region_held3 (fun w' => (∀ j, w'.cell? ⟨wr.heap.size, j, none⟩ = (#[.string ms[k].kd, .string ms[k].fd, .string ms[k].wh, .string ms[k].wi, .string ms[k].pt, .string ms[k].fr] : Array Value)[j]?) /\ ∀ j, w'.cell? ⟨w.heap.size, j, none⟩ = (#[.string s.kd, .slice fa s.fs.length fcap] : Array Value)[j]?) (exact ⟨hXm5, hXs5⟩) (first
            | (go_at_call 227; refine (zca s vs ms[k].wh fa _ fcap vcap _ (by exact HH.out.1.mono hbc) (by exact HH.out.2.2.1.mono hbc) HH.out.2.2.2).mono ?_; rintro e w5 ⟨rfl, hb5⟩; have hbd := hbd.trans (hb5.mono hbd.size); have hbc := hbc.trans (hb5.mono hbc.size); have hXm5 := za hXm4 hzm4 hbd; have hXs5 := za hXs4 (Nat.lt_trans hzr hzm4) hbd; clear hb5))
          have HBX := hid (HB.out.2.trans ((HB4.out.trans (hbd.mono HB4.out.size)).mono hzr))
          have HBY := hid hbc
          clear hbd hbc hXm4 hXs4
          clear htt
          go_wp2_with fail
          exact ⟨⟨k + 1, rfl, by omega, by go_num, HNX.out HG.out, HBX.out⟩, zi hlt⟩
      · have HBX := hid (HB.out.2.trans (HB4.out.mono hzr))
        have HBY := hid HBW4.out
        rcases hfr : ms[k].fr.toList.isEmpty with _ | _
        · rcases hF : (Gate.qD s.fs vs ms[k].fr).toList.isEmpty with _ | _
          · have HG : Hid (Gate.gives s vs p ms[k] = some (Gate.qD s.fs vs ms[k].fr)) := by unfold Hid Gate.gives Gate.isSet; simp [*]
            clear htt
            go_wp2_with fail
            go_quiet (fail)
            go_wp2_with fail
            rw [Exit.noGoto_ret]
            go_ret
            exact ⟨by rw [HSX.out _ HG.out]; rfl, below_drewN HBY.out _⟩
          · have HG : Hid (Gate.gives s vs p ms[k] = none) := by unfold Hid Gate.gives Gate.isSet; simp [*]
            clear htt
            go_wp2_with fail
            go_quiet (fail)
            go_wp2_with fail
            exact ⟨⟨k + 1, rfl, by omega, by go_num, HNX.out HG.out, below_drewN HBX.out _⟩, zi hlt⟩
        · have HG : Hid (Gate.gives s vs p ms[k] = some ms[k].pt) := by unfold Hid Gate.gives Gate.isSet; simp [*]
          clear htt
          go_wp2_with fail
          go_quiet (fail)
          go_wp2_with fail
          rw [Exit.noGoto_ret]
          go_ret
          exact ⟨by rw [HSX.out _ HG.out]; rfl, below_drewN HBY.out _⟩
    · have e : k = ms.length := by omega
      have hn := HN.out
      rw [e, List.take_of_length_le (Nat.le_refl _)] at hn
      have HD : Hid (Gate.decided s ms p vs = vs[p]) := by unfold Hid Gate.decided; rw [hn, Gate.getD_at _ _ _ hpv]; rfl
      subst e
      clear hn HN
      go_wp2_with fail
      rw [Exit.noGoto_ret]
      go_ret
      exact ⟨by rw [HD.out]; rfl, HB.out.1⟩
end Go.Proofs.YtfpeplbmfbepcaaGreat

namespace Go.Proofs.YtfpeplbmfbepcaaGreat.Gate
open Go
theorem zmQ {fs : List Fld} {vs : List ByteArray} (v : ByteArray) (hv : ∀ x ∈ vs, x.size <= maxLen) : (qD fs vs v).size <= maxLen := by
  have he : ByteArray.empty.size <= maxLen := by show 0 <= _; exact Nat.zero_le _
  unfold qD
  split
  · rename_i j _
    rw [List.getD_eq_getElem?_getD]
    cases h : vs[j]? with
    | none => exact he
    | some x => exact hv x (List.mem_of_getElem? h)
  · exact he
theorem zjZ {s : Shp} {ms : List Mnd} {vs : List ByteArray} (p : Nat) (hm : ∀ i (h : i < ms.length), ms[i].Small) (hv : ∀ x ∈ vs, x.size <= maxLen) : (decided s ms p vs).size <= maxLen := by
  unfold decided
  cases hf : ms.findSome? (gives s vs p) with
  | none =>
    show (vs.getD p ByteArray.empty).size <= maxLen
    rw [List.getD_eq_getElem?_getD]
    cases h : vs[p]? with
    | none => show 0 <= _; exact Nat.zero_le _
    | some x => exact hv x (List.mem_of_getElem? h)
  | some x =>
    show x.size <= maxLen
    obtain ⟨m, hmm, hg⟩ := List.exists_of_findSome?_eq_some hf
    obtain ⟨i, hi, rfl⟩ := List.mem_iff_getElem.1 hmm
    unfold gives at hg
    split at hg
    · split at hg
      · split at hg
        · rw [<- Option.some.inj hg]; exact zmQ _ hv
        · cases hg
      · rw [<- Option.some.inj hg]; exact (hm i hi).pt
    · cases hg
theorem zbE {s : Shp} {ms : List Mnd} (hm : ∀ i (h : i < ms.length), ms[i].Small) : ∀ (row : List Nat) (vs : List ByteArray), (∀ x ∈ vs, x.size <= maxLen) -> ∀ x ∈ zQ (decided s ms) row vs, x.size <= maxLen
  | [], _, hv => hv
  | p :: row, vs, hv => by
    refine zbE hm row (vs.set p (decided s ms p vs)) (fun x hx => ?_)
    rcases List.mem_or_eq_of_mem_set hx with h | h
    · exact hv x h
    · rw [h]; exact zjZ p hm hv
end Go.Proofs.YtfpeplbmfbepcaaGreat.Gate
