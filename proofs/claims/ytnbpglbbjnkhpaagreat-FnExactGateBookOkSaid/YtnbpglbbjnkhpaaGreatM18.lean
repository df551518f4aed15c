import Derived.Test.YtnbpglbbjnkhpaaGreatM17
import Derived.WalkMore
import Derived.Deep.RegionHeld3
import Derived.Test.YtnbpglbbjnkhpaaGreatM06
import Derived.Test.YtnbpglbbjnkhpaaGreatM12
namespace Go.Proofs.YtnbpglbbjnkhpaaGreat
open Go.RowKit
set_option maxRecDepth 20000 in
set_option maxHeartbeats 4000000 in
theorem zfV (s : Shp) (ms : List Mnd) (vs : List ByteArray) (p : Nat) (fa ma va : Option Addr) (fcap mcap vcap : Nat) (w : World) (hf : zP w fa s.fs) (hm : yS w ma ms) (hv : zD w va vs) (hc : vs.length = s.fs.length) (hp : p < s.fs.length) :
    Calls Tryz.prog 198 #[.agg #[.string s.kd, .slice fa s.fs.length fcap], .slice ma ms.length mcap, .slice va vs.length vcap, .int .i64 p] w fun e w' => e = .returned (.string (Gate.decided s ms p vs)) /\ Below w.heap.size w w' := by
  have hpv : p < vs.length := by omega
  have hl := hv.len
  have hml := hm.len
  unfold maxLen at hl hml
  have HH : Hid (zP w fa s.fs /\ yS w ma ms /\ zD w va vs /\ vs.length = s.fs.length) := ⟨hf, hm, hv, hc⟩
  obtain ⟨b, off, rfl, hb, hcell⟩ := hv.cells (by rintro rfl; simp at hpv)
  have hcp := hcell p hpv
  have hpI : (p : Int) < (vs.length : Int) := by omega
  clear hf hm hv hcell hc
  go_enter Tryz.func198, Tryz.ntmps198
  go_wp2_with fail
  go_step3
  go_wp2_with fail
  go_step3
  go_wp2_with fail
  go_loopw [9, 19] (fun v0 iv wr => ∃ k : Nat, v0 = .string vs[p] /\ k <= ms.length /\ iv = .int .i64 k /\ (ms.take k).findSome? (Gate.gives s vs p) = none /\ Below (w.heap.size + 1) (w.alloc (.cells #[.string s.kd, .slice fa s.fs.length fcap] 127)) wr) (fun _ iv _ => ms.length - (intOf iv).toNat)
  case atStart => exact ⟨0, rfl, Nat.zero_le _, rfl, rfl, Below.refl _ _⟩
  case round =>
    obtain ⟨k, rfl, hk, rfl, hnone, hBw⟩ := hrel
    have HB : Hid (Below w.heap.size w wr /\ Below (w.heap.size + 1) (w.alloc (.cells #[.string s.kd, .slice fa s.fs.length fcap] 127)) wr) := ⟨((Below.refl _ _).alloc (Nat.le_refl _) _).trans (hBw.mono (by omega)), hBw⟩
    have hzr : w.heap.size < wr.heap.size := by have := hBw.size; simp at this; omega
    have hXr : ∀ j, wr.cell? ⟨w.heap.size, j, none⟩ = (#[.string s.kd, .slice fa s.fs.length fcap] : Array Value)[j]? := fun j => cell_of_block ((hBw.block w.heap.size (by omega)).trans (alloc_at _ _))
    have HN : Hid ((ms.take k).findSome? (Gate.gives s vs p) = none) := hnone
    clear hnone hBw
    by_cases hlt : k < ms.length
    · obtain ⟨mb, moff, rfl, hmb, c0, c1, c2, c3, c4, c5⟩ := HH.out.2.1.load HB.out.1 k hlt
      have hltI : (k : Int) < (ms.length : Int) := by omega
      have hba := (Below.refl wr.heap.size wr).alloc (Nat.le_refl _) (.cells #[.string ms[k].kd, .string ms[k].fd, .string ms[k].wh, .string ms[k].wi, .string ms[k].pt, .string ms[k].fr] 129)
      have HBA : Hid (Below w.heap.size w (wr.alloc (.cells #[.string ms[k].kd, .string ms[k].fd, .string ms[k].wh, .string ms[k].wi, .string ms[k].pt, .string ms[k].fr] 129))) := HB.out.1.trans (hba.mono HB.out.1.size)
      go_wp2_with fail
      have HNX : Hid (Gate.gives s vs p ms[k] = none -> (ms.take (k + 1)).findSome? (Gate.gives s vs p) = none) := by
        intro h
        rw [List.take_succ_eq_append_getElem hlt, List.findSome?_append, HN.out]
        simp [h]
      have HSX : Hid (∀ x, Gate.gives s vs p ms[k] = some x -> Gate.decided s ms p vs = x) := by
        intro x h
        unfold Gate.decided
        have e : ms.findSome? (Gate.gives s vs p) = some x := by
          conv => lhs; rw [<- List.take_append_drop k ms, List.drop_eq_getElem_cons hlt]
          rw [List.findSome?_append, HN.out, List.findSome?_cons, h]
          rfl
        rw [e]; rfl
      refine (zbY s vs ms[k].fr fa _ fcap vcap _ (HH.out.1.mono HBA.out) (HH.out.2.2.1.mono HBA.out) HH.out.2.2.2).mono ?_
      rintro e w3 ⟨rfl, hb3⟩
      have HB3 : Hid (Below wr.heap.size wr w3) := hba.trans (hb3.mono hba.size)
      have hXm := za (zl wr _ _) (by simp) hb3
      have hzm : wr.heap.size < w3.heap.size := by have := hb3.size; simp at this; omega
      have hXs := za hXr hzr HB3.out
      have HBW3 : Hid (Below w.heap.size w w3) := HB.out.1.trans (HB3.out.mono HB.out.1.size)
      clear hba hb3 hXr c0 c1 c2 c3 c4 c5
      go_wp2_with fail
      have h := zjd ms[k] s fa fcap p w3 (HH.out.1.mono HBW3.out) hp
      rcases htt : Gate.turns ms[k] s p with _ | _
      · have HG : Hid (Gate.gives s vs p ms[k] = none) := by unfold Hid Gate.gives; simp [htt]
        rw [htt] at h
        refine h.mono ?_
        rintro e w4 ⟨rfl, hb4⟩
        have HBX : Hid (Below (w.heap.size + 1) (w.alloc (.cells #[.string s.kd, .slice fa s.fs.length fcap] 127)) w4) := HB.out.2.trans ((HB3.out.trans (hb4.mono HB3.out.size)).mono hzr)
        clear h hb4
        clear htt hXm hXs
        go_wp2_with fail
        exact ⟨⟨k + 1, rfl, by omega, by go_num, HNX.out HG.out, HBX.out⟩, zw hlt⟩
      rw [htt] at h
      refine h.mono ?_
      rintro e w4 ⟨rfl, hb4⟩
      have HB4 : Hid (Below wr.heap.size wr w4) := HB3.out.trans (hb4.mono HB3.out.size)
      have hXm4 := za hXm hzm hb4
      have hzm4 : wr.heap.size < w4.heap.size := Nat.lt_of_lt_of_le hzm hb4.size
      have hXs4 := za hXs (Nat.lt_trans hzr hzm) hb4
      have HBW4 : Hid (Below w.heap.size w w4) := HB.out.1.trans (HB4.out.mono HB.out.1.size)
      clear h hb4 hXm hXs
      rcases hwh : ms[k].wh.toList.isEmpty with _ | _
      · by_cases ev : Gate.qE s.fs vs ms[k].wh = ms[k].wi
        · have hev : ((Gate.qE s.fs vs ms[k].wh).toList == ms[k].wi.toList) = true := by rw [Gate.beq_toList]; simpa using ev
          have HEV : Hid (Gate.qE s.fs vs ms[k].wh = ms[k].wi) := ev
          clear ev
          go_wp2_with fail
          have hbd : Below w4.heap.size w4 w4.drew := (Below.refl _ _).drew
          have hXm5 := za hXm4 hzm4 hbd
          have hXs5 := za hXs4 (Nat.lt_trans hzr hzm4) hbd
          have hbc : Below w.heap.size w w4.drew := HBW4.out.drew
          go_region_held3 (fun w' => (∀ j, w'.cell? ⟨wr.heap.size, j, none⟩ = (#[.string ms[k].kd, .string ms[k].fd, .string ms[k].wh, .string ms[k].wi, .string ms[k].pt, .string ms[k].fr] : Array Value)[j]?) /\ ∀ j, w'.cell? ⟨w.heap.size, j, none⟩ = (#[.string s.kd, .slice fa s.fs.length fcap] : Array Value)[j]?) (exact ⟨hXm5, hXs5⟩) (first
            | (go_at_call 201; refine (zbY s vs ms[k].wh fa _ fcap vcap _ (by exact HH.out.1.mono hbc) (by exact HH.out.2.2.1.mono hbc) HH.out.2.2.2).mono ?_; rintro e w5 ⟨rfl, hb5⟩; have hbd := hbd.trans (hb5.mono hbd.size); have hbc := hbc.trans (hb5.mono hbc.size); have hXm5 := za hXm4 hzm4 hbd; have hXs5 := za hXs4 (Nat.lt_trans hzr hzm4) hbd; clear hb5))
          have HBX : Hid (Below (w.heap.size + 1) (w.alloc (.cells #[.string s.kd, .slice fa s.fs.length fcap] 127)) w5) := HB.out.2.trans ((HB4.out.trans (hbd.mono HB4.out.size)).mono hzr)
          have HBY : Hid (Below w.heap.size w w5) := hbc
          clear hbd hbc hXm4 hXs4
          rcases hfr : ms[k].fr.toList.isEmpty with _ | _
          · rcases hF : (Gate.qE s.fs vs ms[k].fr).toList.isEmpty with _ | _
            · have HG : Hid (Gate.gives s vs p ms[k] = some (Gate.qE s.fs vs ms[k].fr)) := by unfold Hid Gate.gives Gate.isSet; simp [HEV.out, *]
              clear htt
              go_wp2_with fail
              rw [Exit.noGoto_ret]
              go_ret
              exact ⟨by rw [HSX.out _ HG.out]; rfl, HBY.out⟩
            · have HG : Hid (Gate.gives s vs p ms[k] = none) := by unfold Hid Gate.gives Gate.isSet; simp [HEV.out, *]
              clear htt
              go_wp2_with fail
              exact ⟨⟨k + 1, rfl, by omega, by go_num, HNX.out HG.out, HBX.out⟩, zw hlt⟩
          · have HG : Hid (Gate.gives s vs p ms[k] = some ms[k].pt) := by unfold Hid Gate.gives Gate.isSet; simp [HEV.out, *]
            clear htt
            go_wp2_with fail
            rw [Exit.noGoto_ret]
            go_ret
            exact ⟨by rw [HSX.out _ HG.out]; rfl, HBY.out⟩
        · have hev : ((Gate.qE s.fs vs ms[k].wh).toList == ms[k].wi.toList) = false := by rw [Gate.beq_toList]; simpa using ev
          have HG : Hid (Gate.gives s vs p ms[k] = none) := by unfold Hid Gate.gives Gate.isSet; simp [*]
          clear ev
          go_wp2_with fail
          have hbd : Below w4.heap.size w4 w4.drew := (Below.refl _ _).drew
          have hXm5 := za hXm4 hzm4 hbd
          have hXs5 := za hXs4 (Nat.lt_trans hzr hzm4) hbd
          have hbc : Below w.heap.size w w4.drew := HBW4.out.drew
          go_region_held3 (fun w' => (∀ j, w'.cell? ⟨wr.heap.size, j, none⟩ = (#[.string ms[k].kd, .string ms[k].fd, .string ms[k].wh, .string ms[k].wi, .string ms[k].pt, .string ms[k].fr] : Array Value)[j]?) /\ ∀ j, w'.cell? ⟨w.heap.size, j, none⟩ = (#[.string s.kd, .slice fa s.fs.length fcap] : Array Value)[j]?) (exact ⟨hXm5, hXs5⟩) (first
            | (go_at_call 201; refine (zbY s vs ms[k].wh fa _ fcap vcap _ (by exact HH.out.1.mono hbc) (by exact HH.out.2.2.1.mono hbc) HH.out.2.2.2).mono ?_; rintro e w5 ⟨rfl, hb5⟩; have hbd := hbd.trans (hb5.mono hbd.size); have hbc := hbc.trans (hb5.mono hbc.size); have hXm5 := za hXm4 hzm4 hbd; have hXs5 := za hXs4 (Nat.lt_trans hzr hzm4) hbd; clear hb5))
          have HBX : Hid (Below (w.heap.size + 1) (w.alloc (.cells #[.string s.kd, .slice fa s.fs.length fcap] 127)) w5) := HB.out.2.trans ((HB4.out.trans (hbd.mono HB4.out.size)).mono hzr)
          have HBY : Hid (Below w.heap.size w w5) := hbc
          clear hbd hbc hXm4 hXs4
          clear htt
          go_wp2_with fail
          exact ⟨⟨k + 1, rfl, by omega, by go_num, HNX.out HG.out, HBX.out⟩, zw hlt⟩
      · have HBX : Hid (Below (w.heap.size + 1) (w.alloc (.cells #[.string s.kd, .slice fa s.fs.length fcap] 127)) w4) := HB.out.2.trans (HB4.out.mono hzr)
        have HBY : Hid (Below w.heap.size w w4) := HBW4.out
        rcases hfr : ms[k].fr.toList.isEmpty with _ | _
        · rcases hF : (Gate.qE s.fs vs ms[k].fr).toList.isEmpty with _ | _
          · have HG : Hid (Gate.gives s vs p ms[k] = some (Gate.qE s.fs vs ms[k].fr)) := by unfold Hid Gate.gives Gate.isSet; simp [*]
            clear htt
            go_wp2_with fail
            go_quiet (fail)
            go_wp2_with fail
            rw [Exit.noGoto_ret]
            go_ret
            exact ⟨by rw [HSX.out _ HG.out]; rfl, below_drewN HBY.out _⟩
          · have HG : Hid (Gate.gives s vs p ms[k] = none) := by unfold Hid Gate.gives Gate.isSet; simp [*]
            clear htt
            go_wp2_with fail
            go_quiet (fail)
            go_wp2_with fail
            exact ⟨⟨k + 1, rfl, by omega, by go_num, HNX.out HG.out, below_drewN HBX.out _⟩, zw hlt⟩
        · have HG : Hid (Gate.gives s vs p ms[k] = some ms[k].pt) := by unfold Hid Gate.gives Gate.isSet; simp [*]
          clear htt
          go_wp2_with fail
          go_quiet (fail)
          go_wp2_with fail
          rw [Exit.noGoto_ret]
          go_ret
          exact ⟨by rw [HSX.out _ HG.out]; rfl, below_drewN HBY.out _⟩
    · have e : k = ms.length := by omega
      have hn := HN.out
      rw [e, List.take_of_length_le (Nat.le_refl _)] at hn
      have HD : Hid (Gate.decided s ms p vs = vs[p]) := by unfold Hid Gate.decided; rw [hn, Gate.getD_at _ _ _ hpv]; rfl
      subst e
      clear hn HN
      go_wp2_with fail
      rw [Exit.noGoto_ret]
      go_ret
      exact ⟨by rw [HD.out]; rfl, HB.out.1⟩
end Go.Proofs.YtnbpglbbjnkhpaaGreat

namespace Go.Proofs.YtnbpglbbjnkhpaaGreat.Gate
open Go
theorem zk6 {fs : List Fld} {vs : List ByteArray} (v : ByteArray) (hv : ∀ x ∈ vs, x.size <= maxLen) : (qE fs vs v).size <= maxLen := by
  have he : ByteArray.empty.size <= maxLen := by show 0 <= _; exact Nat.zero_le _
  unfold qE
  split
  · rename_i j _
    rw [List.getD_eq_getElem?_getD]
    cases h : vs[j]? with
    | none => exact he
    | some x => exact hv x (List.mem_of_getElem? h)
  · exact he
theorem zis {s : Shp} {ms : List Mnd} {vs : List ByteArray} (p : Nat) (hm : ∀ i (h : i < ms.length), ms[i].Small) (hv : ∀ x ∈ vs, x.size <= maxLen) : (decided s ms p vs).size <= maxLen := by
  unfold decided
  cases hf : ms.findSome? (gives s vs p) with
  | none =>
    show (vs.getD p ByteArray.empty).size <= maxLen
    rw [List.getD_eq_getElem?_getD]
    cases h : vs[p]? with
    | none => show 0 <= _; exact Nat.zero_le _
    | some x => exact hv x (List.mem_of_getElem? h)
  | some x =>
    show x.size <= maxLen
    obtain ⟨m, hmm, hg⟩ := List.exists_of_findSome?_eq_some hf
    obtain ⟨i, hi, rfl⟩ := List.mem_iff_getElem.1 hmm
    unfold gives at hg
    split at hg
    · split at hg
      · split at hg
        · rw [<- Option.some.inj hg]; exact zk6 _ hv
        · cases hg
      · rw [<- Option.some.inj hg]; exact (hm i hi).pt
    · cases hg
theorem zbt {s : Shp} {ms : List Mnd} (hm : ∀ i (h : i < ms.length), ms[i].Small) : ∀ (row : List Nat) (vs : List ByteArray), (∀ x ∈ vs, x.size <= maxLen) -> ∀ x ∈ zY (decided s ms) row vs, x.size <= maxLen
  | [], _, hv => hv
  | p :: row, vs, hv => by
    refine zbt hm row (vs.set p (decided s ms p vs)) (fun x hx => ?_)
    rcases List.mem_or_eq_of_mem_set hx with h | h
    · exact hv x h
    · rw [h]; exact zis p hm hv
end Go.Proofs.YtnbpglbbjnkhpaaGreat.Gate

namespace Go.Proofs.YtnbpglbbjnkhpaaGreat
open Go.RowKit
theorem zd1 {w : World} {b off : Nat} {ws : List ByteArray} (hw : zD w (some ⟨b, off, none⟩) ws) : ∀ j u, (ws.map Value.string)[j]? = some u -> w.cell? ((⟨b, off, none⟩ : Addr).add j) = some u := by
  intro j u hj
  have hlt : j < ws.length := by
    have := (List.getElem?_eq_some_iff.1 hj).1; simpa using this
  obtain ⟨b', off', he, hb, hc⟩ := hw.cells (by rintro rfl; simp at hlt)
  simp only [Option.some.injEq, Addr.mk.injEq] at he
  obtain ⟨rfl, rfl, _⟩ := he
  have h1 := hc j hlt
  have e1 : (⟨b, off, none⟩ : Addr).add j = ⟨b, off + j, none⟩ := by
    unfold Addr.add; split
    · rename_i h; subst h; simp
    · rfl
  rw [e1, h1]
  rw [List.getElem?_map, List.getElem?_eq_getElem hlt] at hj
  simpa using hj
theorem zeY {ws : List ByteArray} : ∀ u ∈ ws.map Value.string, u.oneCell' = true := by
  intro u hu; simp only [List.mem_map] at hu; obtain ⟨s, _, rfl⟩ := hu; rfl
theorem jo (w : World) (o1 o2 o3 : Obj) : Below w.heap.size w (((w.alloc o1).alloc o2).alloc o3) :=
  (((Below.refl _ _).alloc (Nat.le_refl _) _).alloc (by simp) _).alloc (by simp; omega) _
theorem zbA (w : World) (o1 o2 o3 : Obj) : (((w.alloc o1).alloc o2).alloc o3).heap[w.heap.size + 1 + 1]? = some o3 := by
  have h := alloc_at ((w.alloc o1).alloc o2) o3
  simpa using h
theorem zbu (w : World) (o1 o2 o3 : Obj) : (((w.alloc o1).alloc o2).alloc o3).heap[w.heap.size]? = some o1 := (Below.heap_alloc _ _ _ (by simp; omega)).trans (yh _ _ _).1
theorem ze6 (w : World) (o1 o2 o3 : Obj) : (((w.alloc o1).alloc o2).alloc o3).heap[w.heap.size + 1]? = some o2 := (Below.heap_alloc _ _ _ (by simp)).trans (yh _ _ _).2
theorem zgl {w w1 : World} {o1 o2 o3 : Obj} (hg : (((w.alloc o1).alloc o2).alloc o3).grownBy w1 (some (w.heap.size + 1 + 1))) :
    w1.heap[w.heap.size]? = some o1 /\ w1.heap[w.heap.size + 1]? = some o2 /\ Below w.heap.size w w1 /\ w.heap.size + 1 + 1 < w1.heap.size := by
  refine ⟨(hg.block _ (by simp; omega) (by simp; try omega)).trans (zbu _ _ _ _), (hg.block _ (by simp) (by simp)).trans (ze6 _ _ _ _), (jo _ _ _ _).grown hg (jo _ _ _ _).size (by intro k hk; simp at hk; omega), ?_⟩
  have := hg.size; simp at this; omega
theorem zmp (w : World) (p : Addr) (v : Value) (o3 : Obj) : ((w.setCell p v).alloc o3).heap[w.heap.size]? = some o3 := by
  have h := alloc_at (w.setCell p v) o3
  simpa [World.setCell] using h
theorem ziW {w w1 w2 : World} {a : Value} {C1 C2 : Array Value} {t1 t2 : TypeId} {o3 : Obj} (hk : w1.heap[w.heap.size]? = some (.cells C1 t1)) (hr : w1.heap[w.heap.size + 1]? = some (.cells C2 t2)) (hB : Below w.heap.size w w1) (hz : w.heap.size + 1 + 1 < w1.heap.size)
    (hg : ((w1.setCell ⟨w.heap.size, 3, none⟩ a).alloc o3).grownBy w2 (some w1.heap.size)) :
    w2.heap[w.heap.size]? = some (.cells (C1.setIfInBounds 3 a) t1) /\ w2.heap[w.heap.size + 1]? = some (.cells C2 t2) /\ Below w.heap.size w w2 /\ w1.heap.size < w2.heap.size := by
  have hs : (w1.setCell ⟨w.heap.size, 3, none⟩ a).heap.size = w1.heap.size := by simp [World.setCell]
  refine ⟨(hg.block _ (by simp [World.setCell]; omega) (by simp; omega)).trans ((Below.heap_alloc _ _ _ (by rw [hs]; omega)).trans (zi hk _)),
    (hg.block _ (by simp [World.setCell]; omega) (by simp; omega)).trans ((Below.heap_alloc _ _ _ (by rw [hs]; omega)).trans ((Below.heap_setCell _ _ _ _ (by simp)).trans hr)),
    ((hB.setCell (Nat.le_refl _) _).alloc (by rw [hs]; omega) _).grown hg (by simp [World.setCell]; omega) (by intro k hk; simp at hk; omega), ?_⟩
  have := hg.size; simp [World.setCell] at this; omega
theorem zu.grown {lo : Nat} {w w2 : World} {a : Option Addr} {ws : List ByteArray} {row : Nat} (h : zu lo w a ws) (hg : w.grownBy w2 (some row)) (hr : ∀ g, a = some g -> g.block ≠ row) : zu lo w2 a ws := by
  rcases h with ⟨rfl, rfl⟩ | ⟨g, C, rfl, hl, hh, hc⟩
  · exact Or.inl ⟨rfl, rfl⟩
  · exact Or.inr ⟨g, C, rfl, hl, (hg.block g (Array.getElem?_eq_some_iff.1 hh).1 (by have := hr _ rfl; simpa using this)).trans hh, hc⟩
theorem zu.lt {lo : Nat} {w : World} {a : Option Addr} {ws : List ByteArray} (h : zu lo w a ws) : ∀ g, a = some g -> g.block < w.heap.size := by
  intro g hg
  rcases h with ⟨rfl, _⟩ | ⟨g', C, rfl, _, hh, _⟩
  · cases hg
  · cases hg; exact (Array.getElem?_eq_some_iff.1 hh).1
set_option maxRecDepth 20000 in
set_option maxHeartbeats 1000000 in
theorem zh5 (o : Ob) (b off b' off' cap cap' : Nat) (w : World) (ho : ql w o (some ⟨b, off, none⟩) (some ⟨b', off', none⟩)) (hl : o.vs.length <= 1048576) (hl' : o.hs.length <= 1048576) :
    Calls Tryz.prog 142 #[.agg #[.string o.kd, .string o.nm, .string o.tm, .slice (some ⟨b, off, none⟩) o.vs.length cap, .bool o.en, .slice (some ⟨b', off', none⟩) o.hs.length cap', .int .i64 o.vr]] w
      fun e w' => ∃ a dap a' dap' m, e = .returned (.agg #[.string o.kd, .string o.nm, .string o.tm, .slice a o.vs.length dap, .bool o.en, .slice a' o.hs.length dap', .int .i64 o.vr]) /\ zu w.heap.size w' a o.vs /\ (∀ g, a = some g -> g.block < m) /\ w.heap.size <= m /\ zu m w' a' o.hs /\ Below w.heap.size w w' := by
  obtain ⟨i0, hi, hz0, hz1', hz2⟩ := info_parts Tryz.zb1
  go_enter Tryz.func142, Tryz.ntmps142
  go_wp2_with (first
    | (at_builtin; refine wpList_append_own _ rfl (.tmp 3) (.tmp 5) 87 rfl (w.heap.size + 1 + 1) 9 i0 (.string ByteArray.empty) 1 16 Tryz.underlying87 hi hz0 hz1' hz2 rfl (by decide) (.slice (some ⟨w.heap.size + 1 + 1, 0, none⟩) 0 0) 0 [] rfl ⟨rfl, .inr ⟨w.heap.size + 1 + 1, 0, #[], rfl, Nat.le_refl _, zbA _ _ _ _, Nat.le_refl _, by simp [maxLen], rfl, rfl⟩⟩ ⟨b, off, none⟩ o.vs.length cap (o.vs.map Value.string) rfl (by simp) (zd1 (ho.vals.mono (jo _ _ _ _))) zeY (by unfold maxLen; omega) (by omega) (by simp) ?_; intro v' w1 hown hgr _; simp only [Nat.zero_add, List.nil_append] at hown; obtain ⟨a, dap, rfl, ht1⟩ := zu.zel hown; obtain ⟨hk1, hr1, hB1, hz1⟩ := zgl hgr; have hX1 : ∀ j, w1.cell? ⟨w.heap.size, j, none⟩ = (#[.string o.kd, .string o.nm, .string o.tm, .slice (some ⟨b, off, none⟩) o.vs.length cap, .bool o.en, .slice (some ⟨b', off', none⟩) o.hs.length cap', .int .i64 o.vr] : Array Value)[j]? := fun j => cell_of_block hk1; have hF1 : ∀ j, w1.frozen? ⟨w.heap.size, j, none⟩ = false := fun j => zm hk1; have hzz1 : w.heap.size < w1.heap.size := (by omega); have hone := hB1.setCell (p := ⟨w.heap.size, 3, none⟩) (Nat.le_refl _) (.slice a o.vs.length dap); have HT1 : Hid (zu (w.heap.size + 1 + 1) w1 a o.vs) := ht1; have HK1 : Hid (w1.heap[w.heap.size]? = some (.cells #[.string o.kd, .string o.nm, .string o.tm, .slice (some ⟨b, off, none⟩) o.vs.length cap, .bool o.en, .slice (some ⟨b', off', none⟩) o.hs.length cap', .int .i64 o.vr] 104)) := hk1; have HR1 : Hid (w1.heap[w.heap.size + 1]? = some (.cells #[.string ByteArray.empty, .string ByteArray.empty, .string ByteArray.empty, .slice none 0 0, .bool false, .slice none 0 0, .int .i64 0] 104)) := hr1; clear ht1 hk1 hr1; clear hown hgr)
    | (at_builtin; refine wpList_append_own _ rfl (.tmp 8) (.tmp 10) 87 rfl w1.heap.size 9 i0 (.string ByteArray.empty) 1 16 Tryz.underlying87 hi hz0 hz1' hz2 rfl (by decide) (.slice (some ⟨w1.heap.size, 0, none⟩) 0 0) 0 [] rfl ⟨rfl, .inr ⟨w1.heap.size, 0, #[], rfl, Nat.le_refl _, zmp _ _ _ _, Nat.le_refl _, (by simp [maxLen]), rfl, rfl⟩⟩ ⟨b', off', none⟩ o.hs.length cap' (o.hs.map Value.string) rfl (by simp) (zd1 (ho.holds.mono (hone.alloc hone.size _))) zeY (by unfold maxLen; omega) (by omega) (by simp [World.setCell]) ?_; intro v'' w2 hown hgr _; simp only [Nat.zero_add, List.nil_append] at hown; obtain ⟨a', dap', rfl, ht2⟩ := zu.zel hown; obtain ⟨hk2, hr2, hB2, hz2'⟩ := ziW HK1.out HR1.out hB1 hz1 hgr; have HU2 : Hid (zu w1.heap.size w2 a' o.hs) := ht2; have HT2 : Hid (zu (w.heap.size + 1 + 1) w2 a o.vs) := ((HT1.out.setCell _ (by simp; omega) _).mono ((Below.refl _ _).alloc (Nat.le_refl _) _)).grown hgr (fun g hg => Nat.ne_of_lt (HT1.out.lt g hg)); have hX2 : ∀ j, w2.cell? ⟨w.heap.size, j, none⟩ = (#[.string o.kd, .string o.nm, .string o.tm, .slice a o.vs.length dap, .bool o.en, .slice (some ⟨b', off', none⟩) o.hs.length cap', .int .i64 o.vr] : Array Value)[j]? := fun j => cell_of_block hk2; have hF2 : ∀ j, w2.frozen? ⟨w.heap.size, j, none⟩ = false := fun j => zm hk2; have hY2 : ∀ j, w2.cell? ⟨w.heap.size + 1, j, none⟩ = (#[.string ByteArray.empty, .string ByteArray.empty, .string ByteArray.empty, .slice none 0 0, .bool false, .slice none 0 0, .int .i64 0] : Array Value)[j]? := fun j => cell_of_block hr2; have hG2 : ∀ j, w2.frozen? ⟨w.heap.size + 1, j, none⟩ = false := fun j => zm hr2; have hzz2 : w.heap.size + 1 < w2.heap.size := (by omega); clear hown hgr ht2 hk2 hr2 hX1 hF1))
  refine bodyPost_ret (v := (.agg #[.string o.kd, .string o.nm, .string o.tm, .slice a o.vs.length dap, .bool o.en, .slice a' o.hs.length dap', .int .i64 o.vr])) (by simp [results, Tryz.results142, go_sem, hY2]) rfl ⟨a, dap, a', dap', w1.heap.size, rfl, ((((((((HT2.out.setCell _ (by simp; omega) _).setCell _ (by simp) _).setCell _ (by simp) _).setCell _ (by simp) _).setCell _ (by simp) _).setCell _ (by simp) _).setCell _ (by simp) _).setCell _ (by simp) _).low (by omega), HT1.out.lt, by omega, ((((((((HU2.out.setCell _ (by simp; omega) _).setCell _ (by simp; omega) _).setCell _ (by simp; omega) _).setCell _ (by simp; omega) _).setCell _ (by simp; omega) _).setCell _ (by simp; omega) _).setCell _ (by simp; omega) _).setCell _ (by simp; omega) _), ((((((((hB2.setCell (Nat.le_refl _) _).setCell (by simp) _).setCell (by simp) _).setCell (by simp) _).setCell (by simp) _).setCell (by simp) _).setCell (by simp) _).setCell (by simp) _)⟩
end Go.Proofs.YtnbpglbbjnkhpaaGreat

namespace Go.Proofs.YtnbpglbbjnkhpaaGreat
open Go.RowKit
namespace Gate
def jW (f : Fld) (v : ByteArray) : ByteArray := if v.toList.isEmpty = true then f.df else v
def jJ (fs : List Fld) (vs : List ByteArray) : List ByteArray := List.zipWith jW fs vs
def qU (fs : List Fld) (vs : List ByteArray) (k : Nat) : List ByteArray := (jJ fs vs).take k ++ vs.drop k
theorem qG {fs : List Fld} {vs : List ByteArray} (h : vs.length = fs.length) : (jJ fs vs).length = vs.length := by simp [jJ]; omega
theorem zad {fs : List Fld} {vs : List ByteArray} (h : vs.length = fs.length) (k : Nat) : (qU fs vs k).length = vs.length := by
  simp [qU, qG h]; omega
theorem zf7 (fs : List Fld) (vs : List ByteArray) : qU fs vs 0 = vs := by simp [qU]
theorem zh0 {fs : List Fld} {vs : List ByteArray} (h : vs.length = fs.length) : qU fs vs fs.length = jJ fs vs := by
  unfold qU
  rw [List.take_of_length_le (by rw [qG h]; omega), List.drop_of_length_le (by omega), List.append_nil]
theorem zd2 {fs : List Fld} {vs : List ByteArray} (h : vs.length = fs.length) (k : Nat) (hk : k < fs.length) : (qU fs vs k)[k]? = vs[k]? := by
  unfold qU
  rw [List.getElem?_append_right (by simp; omega)]
  simp [qG h, Nat.min_eq_left (show k <= vs.length by omega)]
theorem zb9 {fs : List Fld} {vs : List ByteArray} (h : vs.length = fs.length) (k : Nat) (hk : k < fs.length) : qU fs vs (k + 1) = (qU fs vs k).set k (jW fs[k] (vs[k]'(by omega))) := by
  have hl := qG h
  have hv : (jJ fs vs)[k]'(by omega) = jW fs[k] (vs[k]'(by omega)) := by simp [jJ]
  unfold qU
  rw [List.set_append_right _ _ (by simp; omega)]
  have e : k - ((jJ fs vs).take k).length = 0 := by simp; omega
  rw [e, List.drop_eq_getElem_cons (show k < vs.length by omega), List.set_cons_zero, List.take_succ_eq_append_getElem (by omega), hv]
  simp
end Gate
theorem zu.set {lo : Nat} {w : World} {g : Nat} {ws : List ByteArray} (h : zu lo w (some ⟨g, 0, none⟩) ws) (k : Nat) (s : ByteArray) : zu lo (w.setCell ⟨g, k, none⟩ (.string s)) (some ⟨g, 0, none⟩) (ws.set k s) := by
  rcases h with ⟨h0, _⟩ | ⟨b, C, h0, hg, hh, hc⟩
  · cases h0
  · cases h0
    refine Or.inr ⟨g, _, rfl, hg, zi hh _, fun i hi => ?_⟩
    have hi' : i < ws.length := by rw [List.length_set] at hi; exact hi
    by_cases e : i = k
    · subst e
      have hsz : i < C.size := by
        rcases Nat.lt_or_ge i C.size with h1 | h1
        · exact h1
        · have := hc i hi'; rw [Array.getElem?_eq_none h1] at this; cases this
      rw [Array.getElem?_setIfInBounds_self_of_lt hsz, List.getElem_set_self]
    · rw [Array.getElem?_setIfInBounds_ne (fun h => e h.symm), hc i hi', List.getElem_set_ne (fun h => e h.symm)]
def zn4 (w : World) (b : Nat) (v0 v1 v2 v3 v4 v5 v6 : Value) : World := ((((((w.setCell ⟨b, 0, none⟩ v0).setCell ⟨b, 1, none⟩ v1).setCell ⟨b, 2, none⟩ v2).setCell ⟨b, 3, none⟩ v3).setCell ⟨b, 4, none⟩ v4).setCell ⟨b, 5, none⟩ v5).setCell ⟨b, 6, none⟩ v6
theorem jq {lo : Nat} {w : World} {a : Option Addr} {ws : List ByteArray} (h : zu lo w a ws) (b : Nat) (hb : b < lo) (v0 v1 v2 v3 v4 v5 v6 : Value) : zu lo (zn4 w b v0 v1 v2 v3 v4 v5 v6) a ws :=
  ((((((h.setCell _ hb _).setCell _ hb _).setCell _ hb _).setCell _ hb _).setCell _ hb _).setCell _ hb _).setCell _ hb _
theorem zal {B : Nat} {w0 w : World} (h : Below B w0 w) (b : Nat) (hb : B <= b) (v0 v1 v2 v3 v4 v5 v6 : Value) : Below B w0 (zn4 w b v0 v1 v2 v3 v4 v5 v6) :=
  ((((((h.setCell (p := ⟨b, 0, none⟩) hb _).setCell (p := ⟨b, 1, none⟩) hb _).setCell (p := ⟨b, 2, none⟩) hb _).setCell (p := ⟨b, 3, none⟩) hb _).setCell (p := ⟨b, 4, none⟩) hb _).setCell (p := ⟨b, 5, none⟩) hb _).setCell (p := ⟨b, 6, none⟩) hb _
end Go.Proofs.YtnbpglbbjnkhpaaGreat
