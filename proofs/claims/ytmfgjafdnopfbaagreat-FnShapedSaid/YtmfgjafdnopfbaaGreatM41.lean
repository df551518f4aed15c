import Derived.Test.YtmfgjafdnopfbaaGreatM40
import Derived.Test.YtmfgjafdnopfbaaGreatM31
import Derived.Deep.CutRange
namespace Go.Proofs.YtmfgjafdnopfbaaGreat
open Go.RowKit
theorem zhW {α β : Type} (f : α -> Option β) (l : List α) (i : Nat) (h : i < l.length) (h0 : (l.take i).findSome? f = none) : (f l[i] = none -> (l.take (i + 1)).findSome? f = none) /\ ∀ v, f l[i] = some v -> l.findSome? f = some v := by
  refine ⟨fun hn => ?_, fun v hv => ?_⟩
  · rw [List.take_succ_eq_append_getElem h, List.findSome?_append, h0]
    simp [hn]
  · have e : (l.take i ++ l.drop i).findSome? f = some v := by
      rw [List.findSome?_append, h0, List.drop_eq_getElem_cons h, List.findSome?_cons, hv]
      rfl
    rwa [List.take_append_drop] at e
theorem ziD {fs : List Fld} {v : ByteArray} {j : Nat} (h : Gate.zG fs v = (j : Int)) : max (Gate.zG fs v) 0 = (j : Int) := by rw [h]; omega
theorem zix {fs : List Fld} {vs : List ByteArray} {v : ByteArray} {j : Nat} (h : Gate.zG fs v = (j : Int)) (hj : j < vs.length) : Gate.ql fs vs v = vs[j] := by rw [Gate.zao h, List.getD_eq_getElem?_getD, List.getElem?_eq_getElem hj]; rfl
set_option maxRecDepth 10000 in
set_option maxHeartbeats 8000000 in
theorem zfB (s : Shp) (ms : List Mnd) (vs : List ByteArray) (nm tm : ByteArray) (en : Bool) (vr : Int) (fa ma va ha : Option Addr) (fc mc vc hn hc : Nat) (w : World) (hf : yc w fa s.fs) (hm : qg w ma ms) (hv : zZ w va vs) (hvl : vs.length = s.fs.length) (hfl : s.fs.length <= 1000) (hml : ms.length <= 1000)
    (HR : Hid (∀ m ∈ ms, m.kd = s.kd -> (m.wh.toList.isEmpty = false -> ∃ j : Nat, j < s.fs.length /\ Gate.zG s.fs m.wh = (j : Int)) /\ (m.fr.toList.isEmpty = false -> ∃ j : Nat, j < s.fs.length /\ Gate.zG s.fs m.fr = (j : Int)) /\ (m.fr.toList.isEmpty = true -> m.pt.toList.isEmpty = false)))
    (HD : Hid (∀ p v, p < s.fs.length -> ms.findSome? (Gate.gives s vs p) = some v -> vs[p]? = some v)) :
    Calls Tryz.prog 12 #[.slice fa s.fs.length fc, .slice ma ms.length mc, .agg #[.string s.kd, .string nm, .string tm, .slice va vs.length vc, .bool en, .slice ha hn hc, .int .i64 vr]] w fun e w' => e = .returned (.bool true) /\ Below w.heap.size w w' := by
  have HW := yK hf hm hv
  have HVL := hid hvl
  clear hf hm hv hvl
  go_enter Tryz.func12, Tryz.ntmps12
  go_upto_region 1 with fail
  refine zn (fun W => Below w.heap.size w W /\ W.heap[w.heap.size]? = some (.cells #[.string s.kd, .string nm, .string tm, .slice va vs.length vc, .bool en, .slice ha hn hc, .int .i64 vr] 27)) ⟨(Below.refl _ _).alloc (Nat.le_refl _) _, (MapKept.heap_alloc w _).1⟩ ?_
  rintro W0 hW0
  obtain ⟨kO, hkO⟩ : ∃ x, x = w.heap.size := ⟨_, rfl⟩
  have hW0' : Below w.heap.size w W0 /\ W0.heap[kO]? = some (.cells #[.string s.kd, .string nm, .string tm, .slice va vs.length vc, .bool en, .slice ha hn hc, .int .i64 vr] 27) := by rw [hkO]; exact hW0
  have HKO := hid hkO
  rw [<- hkO]
  have H0 := hid hW0'
  clear hW0 hW0' hkO
  go_wp2_with fail
  go_loopg [7] s.fs.length (fun g v7 wr => ∃ k : Nat, k + g = s.fs.length /\ v7 = .int .i64 (k : Int) /\ Hid (Below w.heap.size w wr /\ wr.heap[kO]? = some (.cells #[.string s.kd, .string nm, .string tm, .slice va vs.length vc, .bool en, .slice ha hn hc, .int .i64 vr] 27)))
  case atStart => exact ⟨0, by omega, rfl, H0⟩
  case round =>
    clear H0
    obtain ⟨k, hk, rfl, HO⟩ := hrel
    obtain ⟨wo, rfl⟩ : ∃ x, x = wr := ⟨_, rfl⟩
    obtain ⟨go, rfl⟩ : ∃ x, x = gk := ⟨_, rfl⟩
    by_cases hlt : k < s.fs.length
    · have hI : (k : Int) < (s.fs.length : Int) := by omega
      obtain ⟨fb, fo, rfl, hfb, hrf⟩ := HW.out.1.rows (fun e => by rw [e] at hlt; simp at hlt)
      obtain ⟨wa, wc, hfi⟩ := hrf k hlt
      have hfn := hfi.cell 0 (by omega)
      obtain ⟨vb, vo, rfl, hvb, hcv⟩ := HW.out.2.2.cells (fun e => by have hvl := HVL.out; rw [e] at hvl; simp at hvl; omega)
      obtain ⟨fk, hfk⟩ : ∃ f, f = s.fs[k] := ⟨_, rfl⟩
      rw [<- hfk] at hfn
      have hfn : w.cell? ⟨fb, fo + k * 11, none⟩ = some (.string fk.nm) := hfn
      have HFK := hid hfk
      have HFC := qO hfn hcv
      clear hrf hfi hfk hfn hcv
      go_wp2_with fail
      go_loopg [8] ms.length (fun g v8 wr => ∃ i : Nat, i + g = ms.length /\ v8 = .int .i64 (i : Int) /\ Hid ((ms.take i).findSome? (Gate.gives s vs k) = none) /\ Hid (Below w.heap.size w wr /\ wr.heap[kO]? = some (.cells #[.string s.kd, .string nm, .string tm, .slice (some ⟨vb, vo, none⟩) vs.length vc, .bool en, .slice ha hn hc, .int .i64 vr] 27)))
      case atStart => exact ⟨0, by omega, rfl, rfl, HO⟩
      case round =>
        clear HO
        obtain ⟨i, hi, rfl, HN, HO⟩ := hrel
        by_cases hit : i < ms.length
        · have hiI : (i : Int) < (ms.length : Int) := by omega
          obtain ⟨mb, mo, rfl, hmb, c0, c1, c2, c3, c4, c5⟩ := HW.out.2.1.load HO.out.1 i hit
          obtain ⟨m, hmm⟩ : ∃ m, m = ms[i] := ⟨_, rfl⟩
          have HMM := hid hmm
          have hm2 := HR.out m (by rw [hmm]; exact List.getElem_mem hit)
          have hTF := zhW (Gate.gives s vs k) ms i hit HN.out
          rw [<- hmm] at c0 c1 c2 c3 c4 c5 hTF
          have HT := qO hm2 hTF
          clear hmm hm2 hTF
          go_upto_region 8 with fail
          refine zn (fun W => Below w.heap.size w W /\ W.heap[kO]? = some (.cells #[.string s.kd, .string nm, .string tm, .slice (some ⟨vb, vo, none⟩) vs.length vc, .bool en, .slice ha hn hc, .int .i64 vr] 27) /\ W.heap[wr.heap.size]? = some (.cells #[.string m.kd, .string m.fd, .string m.wh, .string m.wi, .string m.pt, .string m.fr] 56)) ⟨HO.out.1.alloc HO.out.1.size _, (((Below.refl _ wr).alloc (Nat.le_refl _) _).block kO (Array.getElem?_eq_some_iff.1 HO.out.2).1).trans HO.out.2, (MapKept.heap_alloc wr _).1⟩ ?_
          rintro W2 hW2
          obtain ⟨kM, hkM⟩ : ∃ x, x = wr.heap.size := ⟨_, rfl⟩
          rw [<- hkM] at hW2 ⊢
          have H2 := hid hW2
          clear hW2 hkM c0 c1 c2 c3 c4 c5
          obtain ⟨app, happ⟩ : ∃ x, x = decide (Gate.turns m s k = true /\ ¬ (Gate.isSet m.wh = true /\ Gate.ql s.fs vs m.wh ≠ m.wi)) := ⟨_, rfl⟩
          have HAP := hid happ
          clear happ
          have hturn : Hid (Gate.turns m s k = (decide (m.kd = s.kd) && decide (m.fd = fk.nm))) := by
            unfold Hid Gate.turns
            rw [HFK.out, List.getD_eq_getElem?_getD, List.getElem?_eq_getElem hlt]
            rfl
          go_cut [59] from 17 to 81 (fun vx W => vx = .bool (!app) /\ Hid (Below w.heap.size w W /\ W.heap[kO]? = some (.cells #[.string s.kd, .string nm, .string tm, .slice (some ⟨vb, vo, none⟩) vs.length vc, .bool en, .slice ha hn hc, .int .i64 vr] 27) /\ W.heap[kM]? = some (.cells #[.string m.kd, .string m.fd, .string m.wh, .string m.wi, .string m.pt, .string m.fr] 56)))
          case first =>
            have hS : (∀ j, W2.drew.cell? ⟨kM, j, none⟩ = (#[.string m.kd, .string m.fd, .string m.wh, .string m.wi, .string m.pt, .string m.fr] : Array Value)[j]?) /\ (∀ j, W2.drew.cell? ⟨kO, j, none⟩ = (#[.string s.kd, .string nm, .string tm, .slice (some ⟨vb, vo, none⟩) vs.length vc, .bool en, .slice ha hn hc, .int .i64 vr] : Array Value)[j]?) /\ W2.drew.cell? ⟨fb, fo + k * 11, none⟩ = some (.string fk.nm) /\ ∀ j (h : j < vs.length), W2.drew.cell? ⟨vb, vo + j, none⟩ = some (.string vs[j]) := ⟨fun j => cell_of_block (w := W2.drew) H2.out.2.2, fun j => cell_of_block (w := W2.drew) H2.out.2.1, (H2.out.1.drew.cell (p := ⟨fb, fo + k * 11, none⟩) hfb).trans HFC.out.1, fun j h => (H2.out.1.drew.cell (p := ⟨vb, vo + j, none⟩) hvb).trans (HFC.out.2 j h)⟩
            have HZ : Hid (Below w.heap.size w W2.drew /\ W2.drew.heap[kO]? = some (.cells #[.string s.kd, .string nm, .string tm, .slice (some ⟨vb, vo, none⟩) vs.length vc, .bool en, .slice ha hn hc, .int .i64 vr] 27) /\ W2.drew.heap[kM]? = some (.cells #[.string m.kd, .string m.fd, .string m.wh, .string m.wi, .string m.pt, .string m.fr] 56)) := ⟨H2.out.1.drew, H2.out.2.1, H2.out.2.2⟩
            by_cases e1 : m.kd = s.kd
            · have hb1 : (m.kd.toList == s.kd.toList) = true := by rw [Gate.beq_toList]; simpa using e1
              by_cases e2 : m.fd = fk.nm
              · have hb2 : (m.fd.toList == fk.nm.toList) = true := by rw [Gate.beq_toList]; simpa using e2
                have HE := qO e1 e2
                clear e1 e2
                rcases hwh : m.wh.toList.isEmpty with _ | _
                · obtain ⟨j, hj, hjx⟩ := (HT.out.1 HE.out.1).1 hwh
                  have hjv : j < vs.length := by rw [HVL.out]; exact hj
                  have hjI : (j : Int) < (vs.length : Int) := by omega
                  have hmx := ziD hjx
                  have hvx := hid (zix (vs := vs) hjx hjv)
                  clear hjx
                  by_cases e3 : vs[j] = m.wi
                  · have hb3 : (vs[j].toList == m.wi.toList) = true := by rw [Gate.beq_toList]; simpa using e3
                    have HE3 := hid e3
                    clear e3
                    refine wp_region_held_drew (S := fun w' => (∀ j, w'.cell? ⟨kM, j, none⟩ = (#[.string m.kd, .string m.fd, .string m.wh, .string m.wi, .string m.pt, .string m.fr] : Array Value)[j]?) /\ (∀ j, w'.cell? ⟨kO, j, none⟩ = (#[.string s.kd, .string nm, .string tm, .slice (some ⟨vb, vo, none⟩) vs.length vc, .bool en, .slice ha hn hc, .int .i64 vr] : Array Value)[j]?) /\ w'.cell? ⟨fb, fo + k * 11, none⟩ = some (.string fk.nm) /\ ∀ j (h : j < vs.length), w'.cell? ⟨vb, vo + j, none⟩ = some (.string vs[j])) (by kernel_rfl) hS (fun hHeld => ?_)
                    refine tG 0 ?_; refine tG 1 ?_; refine tG 2 ?_; refine tG 3 ?_; refine tG 4 ?_; refine tG 5 ?_; refine tG 6 ?_; refine tG 7 ?_; refine tG 8 ?_; refine tG 9 ?_; refine tG 10 ?_; refine tG 11 ?_; refine tG 12 ?_; refine tG 13 ?_; refine tG 14 ?_; refine tG 15 ?_; refine tG 16 ?_; refine tG 17 ?_; refine tG 18 ?_; refine tG 19 ?_; refine tG 20 ?_; refine tG 21 ?_; refine tG 22 ?_; refine tG 23 ?_; refine tG 24 ?_; refine tG 28 ?_; refine tG 29 ?_
                    refine cH 25 rfl fun K hK => ?_
                    go_simp
                    refine (zdc (some ⟨fb, fo, none⟩) fc s.fs m.wh W2.drew (HW.out.1.mono H2.out.1.drew)).mono ?_
                    rintro e w5 ⟨rfl, rfl⟩
                    rw [hmx]
                    (try go_wp2_with fail)
                    refine hK.out _ _ hS (fun hHeld => ?_)
                    clear hK K
                    (try simp only [Act.put, sA, s0, sS])
                    refine tG 26 ?_; refine tG 27 ?_; refine tG 30 ?_; refine tG 31 ?_; refine tG 32 ?_
                    refine wpAnyH_done (by kernel_rfl) ?_ _
                    have hAP : Hid (app = true) := by
                      unfold Hid
                      rw [HAP.out, hturn.out]
                      simp [HE.out.1, HE.out.2, hvx.out, HE3.out]
                    clear hHeld hS
                    go_wp2_with fail
                    go_meet
                    case rel => exact ⟨by rw [hAP.out]; rfl, HZ⟩
                  · have hb3 : (vs[j].toList == m.wi.toList) = false := by rw [Gate.beq_toList]; simpa using e3
                    have HE3 := hid e3
                    clear e3
                    refine wp_region_held_drew (S := fun w' => (∀ j, w'.cell? ⟨kM, j, none⟩ = (#[.string m.kd, .string m.fd, .string m.wh, .string m.wi, .string m.pt, .string m.fr] : Array Value)[j]?) /\ (∀ j, w'.cell? ⟨kO, j, none⟩ = (#[.string s.kd, .string nm, .string tm, .slice (some ⟨vb, vo, none⟩) vs.length vc, .bool en, .slice ha hn hc, .int .i64 vr] : Array Value)[j]?) /\ w'.cell? ⟨fb, fo + k * 11, none⟩ = some (.string fk.nm) /\ ∀ j (h : j < vs.length), w'.cell? ⟨vb, vo + j, none⟩ = some (.string vs[j])) (by kernel_rfl) hS (fun hHeld => ?_)
                    refine tG 0 ?_; refine tG 1 ?_; refine tG 2 ?_; refine tG 3 ?_; refine tG 4 ?_; refine tG 5 ?_; refine tG 6 ?_; refine tG 7 ?_; refine tG 8 ?_; refine tG 9 ?_; refine tG 10 ?_; refine tG 11 ?_; refine tG 12 ?_; refine tG 13 ?_; refine tG 14 ?_; refine tG 15 ?_; refine tG 16 ?_; refine tG 17 ?_; refine tG 18 ?_; refine tG 19 ?_; refine tG 20 ?_; refine tG 21 ?_; refine tG 22 ?_; refine tG 23 ?_; refine tG 24 ?_; refine tG 28 ?_; refine tG 29 ?_
                    refine cH 25 rfl fun K hK => ?_
                    go_simp
                    refine (zdc (some ⟨fb, fo, none⟩) fc s.fs m.wh W2.drew (HW.out.1.mono H2.out.1.drew)).mono ?_
                    rintro e w5 ⟨rfl, rfl⟩
                    rw [hmx]
                    (try go_wp2_with fail)
                    refine hK.out _ _ hS (fun hHeld => ?_)
                    clear hK K
                    (try simp only [Act.put, sA, s0, sS])
                    refine tG 26 ?_; refine tG 27 ?_; refine tG 30 ?_; refine tG 31 ?_; refine tG 32 ?_
                    refine wpAnyH_done (by kernel_rfl) ?_ _
                    have hAP : Hid (app = false) := by
                      unfold Hid
                      rw [HAP.out, hturn.out]
                      simp [HE.out.1, HE.out.2, hvx.out, HE3.out, Gate.isSet, hwh]
                    clear hHeld hS
                    go_wp2_with fail
                    go_meet
                    case rel => exact ⟨by rw [hAP.out]; rfl, HZ⟩
                · skip
                  refine wp_region_held_drew (S := fun w' => (∀ j, w'.cell? ⟨kM, j, none⟩ = (#[.string m.kd, .string m.fd, .string m.wh, .string m.wi, .string m.pt, .string m.fr] : Array Value)[j]?) /\ (∀ j, w'.cell? ⟨kO, j, none⟩ = (#[.string s.kd, .string nm, .string tm, .slice (some ⟨vb, vo, none⟩) vs.length vc, .bool en, .slice ha hn hc, .int .i64 vr] : Array Value)[j]?) /\ w'.cell? ⟨fb, fo + k * 11, none⟩ = some (.string fk.nm) /\ ∀ j (h : j < vs.length), w'.cell? ⟨vb, vo + j, none⟩ = some (.string vs[j])) (by kernel_rfl) hS (fun hHeld => ?_)
                  refine tG 0 ?_; refine tG 1 ?_; refine tG 2 ?_; refine tG 3 ?_; refine tG 4 ?_; refine tG 5 ?_; refine tG 6 ?_; refine tG 7 ?_; refine tG 8 ?_; refine tG 9 ?_; refine tG 10 ?_; refine tG 11 ?_; refine tG 12 ?_; refine tG 13 ?_; refine tG 14 ?_; refine tG 15 ?_; refine tG 16 ?_; refine tG 17 ?_; refine tG 18 ?_; refine tG 19 ?_; refine kG 20 ?_; refine kG 21 ?_; refine kG 22 ?_; refine kG 23 ?_; refine kG 24 ?_; refine kG 25 ?_; refine kG 26 ?_; refine kG 27 ?_; refine kG 28 ?_; refine kG 29 ?_; refine kG 30 ?_; refine tG 31 ?_; refine tG 32 ?_
                  refine wpAnyH_done (by kernel_rfl) ?_ _
                  have hAP : Hid (app = true) := by
                    unfold Hid
                    rw [HAP.out, hturn.out]
                    simp [HE.out.1, HE.out.2, Gate.isSet, hwh]
                  clear hHeld hS
                  go_wp2_with fail
                  go_meet
                  case rel => exact ⟨by rw [hAP.out]; rfl, HZ⟩
              · have hb2 : (m.fd.toList == fk.nm.toList) = false := by rw [Gate.beq_toList]; simpa using e2
                have HE := qO e1 e2
                clear e1 e2
                refine wp_region_held_drew (S := fun w' => (∀ j, w'.cell? ⟨kM, j, none⟩ = (#[.string m.kd, .string m.fd, .string m.wh, .string m.wi, .string m.pt, .string m.fr] : Array Value)[j]?) /\ (∀ j, w'.cell? ⟨kO, j, none⟩ = (#[.string s.kd, .string nm, .string tm, .slice (some ⟨vb, vo, none⟩) vs.length vc, .bool en, .slice ha hn hc, .int .i64 vr] : Array Value)[j]?) /\ w'.cell? ⟨fb, fo + k * 11, none⟩ = some (.string fk.nm) /\ ∀ j (h : j < vs.length), w'.cell? ⟨vb, vo + j, none⟩ = some (.string vs[j])) (by kernel_rfl) hS (fun hHeld => ?_)
                refine tG 0 ?_; refine tG 1 ?_; refine tG 2 ?_; refine tG 3 ?_; refine tG 4 ?_; refine tG 5 ?_; refine tG 6 ?_; refine tG 7 ?_; refine tG 8 ?_; refine tG 9 ?_; refine tG 10 ?_; refine tG 11 ?_; refine tG 12 ?_; refine tG 13 ?_; refine tG 14 ?_; refine tG 15 ?_; refine kG 16 ?_; refine kG 17 ?_; refine kG 18 ?_; refine kG 19 ?_; refine kG 20 ?_; refine kG 21 ?_; refine kG 22 ?_; refine kG 23 ?_; refine kG 24 ?_; refine kG 25 ?_; refine kG 26 ?_; refine kG 27 ?_; refine kG 28 ?_; refine kG 29 ?_; refine kG 30 ?_; refine kG 31 ?_; refine tG 32 ?_
                refine wpAnyH_done (by kernel_rfl) ?_ _
                have hAP : Hid (app = false) := by
                  unfold Hid
                  rw [HAP.out, hturn.out]
                  simp [HE.out.1, HE.out.2]
                clear hHeld hS
                go_wp2_with fail
                go_meet
                case rel => exact ⟨by rw [hAP.out]; rfl, HZ⟩
            · have hb1 : (m.kd.toList == s.kd.toList) = false := by rw [Gate.beq_toList]; simpa using e1
              have HE := hid e1
              clear e1
              refine wp_region_held_drew (S := fun w' => (∀ j, w'.cell? ⟨kM, j, none⟩ = (#[.string m.kd, .string m.fd, .string m.wh, .string m.wi, .string m.pt, .string m.fr] : Array Value)[j]?) /\ (∀ j, w'.cell? ⟨kO, j, none⟩ = (#[.string s.kd, .string nm, .string tm, .slice (some ⟨vb, vo, none⟩) vs.length vc, .bool en, .slice ha hn hc, .int .i64 vr] : Array Value)[j]?) /\ w'.cell? ⟨fb, fo + k * 11, none⟩ = some (.string fk.nm) /\ ∀ j (h : j < vs.length), w'.cell? ⟨vb, vo + j, none⟩ = some (.string vs[j])) (by kernel_rfl) hS (fun hHeld => ?_)
              refine tG 0 ?_; refine tG 1 ?_; refine tG 2 ?_; refine tG 3 ?_; refine tG 4 ?_; refine tG 5 ?_; refine kG 6 ?_; refine kG 7 ?_; refine kG 8 ?_; refine kG 9 ?_; refine kG 10 ?_; refine kG 11 ?_; refine kG 12 ?_; refine kG 13 ?_; refine tG 14 ?_; refine tG 15 ?_; refine kG 16 ?_; refine kG 17 ?_; refine kG 18 ?_; refine kG 19 ?_; refine kG 20 ?_; refine kG 21 ?_; refine kG 22 ?_; refine kG 23 ?_; refine kG 24 ?_; refine kG 25 ?_; refine kG 26 ?_; refine kG 27 ?_; refine kG 28 ?_; refine kG 29 ?_; refine kG 30 ?_; refine kG 31 ?_; refine tG 32 ?_
              refine wpAnyH_done (by kernel_rfl) ?_ _
              have hAP : Hid (app = false) := by
                unfold Hid
                rw [HAP.out, hturn.out]
                simp [HE.out]
              clear hHeld hS
              go_wp2_with fail
              go_meet
              case rel => exact ⟨by rw [hAP.out]; rfl, HZ⟩
          case rest =>
            obtain ⟨rfl, H3⟩ := hcut
            obtain ⟨W3, rfl⟩ : ∃ x, x = wc := ⟨_, rfl⟩
            clear H2
            have cM := fun j => cell_of_block (o := j) H3.out.2.2
            have cO := fun j => cell_of_block (o := j) H3.out.2.1
            have hkv : k < vs.length := by rw [HVL.out]; exact hlt
            have hkvI : (k : Int) < (vs.length : Int) := by omega
            have cV := (H3.out.1.cell (p := ⟨vb, vo + k, none⟩) hvb).trans (HFC.out.2 k hkv)
            have hstep : IntKind.i64.wrap ((i : Int) + 1) = ((i + 1 : Nat) : Int) := by rw [IntKind.wrap_i64]; omega
            have hstepk : IntKind.i64.wrap ((k : Int) + 1) = ((k + 1 : Nat) : Int) := by rw [IntKind.wrap_i64]; omega
            obtain ⟨g1, rfl⟩ : ∃ g, gk = g + 1 := ⟨gk - 1, by omega⟩
            obtain ⟨g2, rfl⟩ : ∃ g, go = g + 1 := ⟨go - 1, by omega⟩
            cases app with
            | false =>
              have HG : Hid (Gate.gives s vs k m = none) := by unfold Hid Gate.gives; rw [if_neg (of_decide_eq_false HAP.out.symm)]
              have HQ := hid (HT.out.2.1 HG.out)
              clear cV
              go_wp2_with fail
              go_roundg g1
              case measure => omega
              case rel => exact ⟨i + 1, by omega, rfl, HQ, ⟨H3.out.1, H3.out.2.1⟩⟩
            | true =>
              have hA : Gate.turns m s k = true /\ ¬ (Gate.isSet m.wh = true /\ Gate.ql s.fs vs m.wh ≠ m.wi) := of_decide_eq_true HAP.out.symm
              have hkd : m.kd = s.kd := by have := hA.1; rw [hturn.out] at this; simp at this; exact this.1
              have HKD := hid hkd
              have HA := hid hA
              clear hkd hA
              rcases hfr : m.fr.toList.isEmpty with _ | _
              · obtain ⟨j, hj, hjx⟩ := (HT.out.1 HKD.out).2.1 hfr
                have hjv : j < vs.length := by rw [HVL.out]; exact hj
                have hjI : (j : Int) < (vs.length : Int) := by omega
                have hmx := ziD hjx
                have hvx := hid (zix (vs := vs) hjx hjv)
                clear hjx
                go_upto_region 11 with fail
                have hS : (∀ j, W3.drew.cell? ⟨kM, j, none⟩ = (#[.string m.kd, .string m.fd, .string m.wh, .string m.wi, .string m.pt, .string m.fr] : Array Value)[j]?) /\ (∀ j, W3.drew.cell? ⟨kO, j, none⟩ = (#[.string s.kd, .string nm, .string tm, .slice (some ⟨vb, vo, none⟩) vs.length vc, .bool en, .slice ha hn hc, .int .i64 vr] : Array Value)[j]?) /\ W3.drew.cell? ⟨fb, fo + k * 11, none⟩ = some (.string fk.nm) /\ ∀ j (h : j < vs.length), W3.drew.cell? ⟨vb, vo + j, none⟩ = some (.string vs[j]) := ⟨fun j => cell_of_block (w := W3.drew) H3.out.2.2, fun j => cell_of_block (w := W3.drew) H3.out.2.1, (H3.out.1.drew.cell (p := ⟨fb, fo + k * 11, none⟩) hfb).trans HFC.out.1, fun j h => (H3.out.1.drew.cell (p := ⟨vb, vo + j, none⟩) hvb).trans (HFC.out.2 j h)⟩
                refine wp_region_held_drew (S := fun w' => (∀ j, w'.cell? ⟨kM, j, none⟩ = (#[.string m.kd, .string m.fd, .string m.wh, .string m.wi, .string m.pt, .string m.fr] : Array Value)[j]?) /\ (∀ j, w'.cell? ⟨kO, j, none⟩ = (#[.string s.kd, .string nm, .string tm, .slice (some ⟨vb, vo, none⟩) vs.length vc, .bool en, .slice ha hn hc, .int .i64 vr] : Array Value)[j]?) /\ w'.cell? ⟨fb, fo + k * 11, none⟩ = some (.string fk.nm) /\ ∀ j (h : j < vs.length), w'.cell? ⟨vb, vo + j, none⟩ = some (.string vs[j])) (by kernel_rfl) hS (fun hHeld => ?_)
                refine tG 0 ?_; refine tG 1 ?_; refine tG 2 ?_; refine tG 3 ?_; refine tG 4 ?_
                refine cH 5 rfl fun K hK => ?_
                go_simp
                refine (zdc (some ⟨fb, fo, none⟩) fc s.fs m.fr W3.drew (HW.out.1.mono H3.out.1.drew)).mono ?_
                rintro e w5 ⟨rfl, rfl⟩
                rw [hmx]
                (try go_wp2_with fail)
                refine hK.out _ _ hS (fun hHeld => ?_)
                clear hK K
                (try simp only [Act.put, sA, s0, sS])
                refine tG 6 ?_; refine tG 7 ?_; refine tG 8 ?_
                refine wpAnyH_done (by kernel_rfl) ?_ _
                obtain ⟨V, hVe⟩ : ∃ x, x = W3.drew := ⟨_, rfl⟩
                have HZ : Hid (Below w.heap.size w V /\ V.heap[kO]? = some (.cells #[.string s.kd, .string nm, .string tm, .slice (some ⟨vb, vo, none⟩) vs.length vc, .bool en, .slice ha hn hc, .int .i64 vr] 27) /\ V.heap[kM]? = some (.cells #[.string m.kd, .string m.fd, .string m.wh, .string m.wi, .string m.pt, .string m.fr] 56)) := by rw [hVe]; exact ⟨H3.out.1.drew, H3.out.2.1, H3.out.2.2⟩
                rw [<- hVe] at hS ⊢
                have cV2 := hS.2.2.2 k hkv
                have cO2 := hS.2.1
                clear hHeld hS hVe H3 cM cO cV hmx
                rcases hF : vs[j].toList.isEmpty with _ | _
                · have HG : Hid (Gate.gives s vs k m = some vs[j]) := by unfold Hid Gate.gives; rw [if_pos HA.out, hvx.out]; simp [Gate.isSet, hfr, hF]
                  have hq := HD.out k _ hlt (HT.out.2.2 _ HG.out)
                  rw [List.getElem?_eq_getElem hkv] at hq
                  have hbe : (vs[k].toList == vs[j].toList) = true := by rw [Gate.beq_toList]; simpa using hq
                  clear hq
                  go_wp2_with fail
                  go_roundg g2
                  case measure => omega
                  case rel => exact ⟨k + 1, by omega, rfl, ⟨HZ.out.1, HZ.out.2.1⟩⟩
                · have HG : Hid (Gate.gives s vs k m = none) := by unfold Hid Gate.gives; rw [if_pos HA.out, hvx.out]; simp [Gate.isSet, hfr, hF]
                  have HQ := hid (HT.out.2.1 HG.out)
                  go_wp2_with fail
                  go_roundg g1
                  case measure => omega
                  case rel => exact ⟨i + 1, by omega, rfl, HQ, ⟨HZ.out.1, HZ.out.2.1⟩⟩
              · have hpt := (HT.out.1 HKD.out).2.2 hfr
                have HG : Hid (Gate.gives s vs k m = some m.pt) := by unfold Hid Gate.gives; rw [if_pos HA.out]; simp [Gate.isSet, hfr]
                have hq := HD.out k _ hlt (HT.out.2.2 _ HG.out)
                rw [List.getElem?_eq_getElem hkv] at hq
                have hbe : (vs[k].toList == m.pt.toList) = true := by rw [Gate.beq_toList]; simpa using hq
                clear hq
                go_wp2_with fail
                go_roundg g2
                case measure => omega
                case rel => exact ⟨k + 1, by omega, rfl, ⟨H3.out.1, H3.out.2.1⟩⟩
        · have hiI : ¬ (i : Int) < (ms.length : Int) := by omega
          have hstepk : IntKind.i64.wrap ((k : Int) + 1) = ((k + 1 : Nat) : Int) := by rw [IntKind.wrap_i64]; omega
          obtain ⟨g2, rfl⟩ : ∃ g, go = g + 1 := ⟨go - 1, by omega⟩
          go_wp2_with fail
          go_roundg g2
          case measure => omega
          case rel => exact ⟨k + 1, by omega, rfl, HO⟩
    · have hI : ¬ (k : Int) < (s.fs.length : Int) := by omega
      go_wp2_with fail
      go_ret
      exact ⟨rfl, HO.out.1⟩
end Go.Proofs.YtmfgjafdnopfbaaGreat
