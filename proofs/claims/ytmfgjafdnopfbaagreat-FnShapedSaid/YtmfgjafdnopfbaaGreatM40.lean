import Derived.Test.YtmfgjafdnopfbaaGreatM30
import Derived.Test.YtmfgjafdnopfbaaGreatM39
import Derived.Test.YtmfgjafdnopfbaaGreatM34
import Derived.Maps.AppendAt
import Derived.Test.YtmfgjafdnopfbaaGreatM28
namespace Go.Proofs.YtmfgjafdnopfbaaGreat
open Go.RowKit
def zh3 (w : World) (fs : List Fld) (k : Nat) (xs : List Value) : Prop :=
  ∀ i, i < k -> ∃ f wa wc, fs[i]? = some f /\ f.Small /\ zZ w wa f.ws /\ ∀ j, j < 11 -> xs[i * 11 + j]? = (f.cells wa wc)[j]?
theorem zh3.snoc {w : World} {fs : List Fld} {k : Nat} {xs : List Value} (h : zh3 w fs k xs) (hl : xs.length = k * 11) {f : Fld} {wa : Option Addr} {wc : Nat} (hf : fs[k]? = some f) (hs : f.Small) (hw : zZ w wa f.ws) : zh3 w fs (k + 1) (xs ++ (f.cells wa wc).toList) := fun i hi => by
  by_cases e : i < k
  · obtain ⟨f', wa', wc', h1, h2, h3, h4⟩ := h i e
    exact ⟨f', wa', wc', h1, h2, h3, fun j hj => by rw [List.getElem?_append_left (by omega)]; exact h4 j hj⟩
  · obtain rfl : i = k := by omega
    refine ⟨f, wa, wc, hf, hs, hw, fun j hj => ?_⟩
    rw [List.getElem?_append_right (by omega), hl, show i * 11 + j - i * 11 = j by omega, Array.getElem?_toList]
def FKp (w0 wr w' : World) : Prop := ∀ b C, w0.heap.size <= b -> wr.heap[b]? = some (.cells C 63) -> w'.heap[b]? = some (.cells C 63)
def ze8 (w0 wr : World) (a : Option Addr) (fs : List Fld) : Prop := ∀ w', Below w0.heap.size w0 w' -> FKp w0 wr w' -> yc w' a fs
theorem ze8.next {w0 wr w2 : World} {a : Option Addr} {fs : List Fld} (h : ze8 w0 wr a fs) (hk : FKp w0 wr w2) : ze8 w0 w2 a fs := fun w' hb hw => h w' hb fun b C h1 h2 => hw b C h1 (hk b C h1 h2)
theorem zhz {w0 wr : World} {lo : Nat} {a : Option Addr} {n cap : Nat} {fs : List Fld} {xs : List Value} (h : wr.ownsRow lo 63 11 (.slice a n cap) n xs) (hlo : w0.heap.size <= lo) (hn : n = fs.length) (hr : zh3 w0 fs n xs) (hl : n <= maxLen) : ze8 w0 wr a fs := fun w' hb hk =>
  ⟨by omega, fun hne => by
    rcases h.2 with ⟨e, e2⟩ | ⟨g, c, cur, e, hg, hC, h1, h2, h3, h4⟩
    · subst e2; exact absurd (List.length_eq_zero_iff.1 hn.symm) hne
    · cases e
      have hC' := hk g cur (by omega) hC
      refine ⟨g, 0, rfl, (Array.getElem?_eq_some_iff.1 hC').1, fun i hi => ?_⟩
      obtain ⟨f, wa, wc, q1, q2, q3, q4⟩ := hr i (by omega)
      have e : fs[i] = f := by rw [List.getElem?_eq_getElem hi] at q1; exact Option.some.inj q1
      rw [e]
      refine ⟨wa, wc, q2, q3.mono hb, fun j hj => ?_⟩
      rw [Nat.zero_add, cell_of_block hC', <- q4 j hj, <- h4, List.getElem?_take, if_pos (by omega)]
      simp⟩
def zfN (w0 wr : World) (ss : List Shp) (k : Nat) (xs : List Value) : Prop :=
  ∀ i, i < k -> ∃ s fa fc, ss[i]? = some s /\ s.kd.size <= maxLen /\ ze8 w0 wr fa s.fs /\ xs[i * 2]? = some (.string s.kd) /\ xs[i * 2 + 1]? = some (.slice fa s.fs.length fc)
theorem zfN.next {w0 wr w2 : World} {ss : List Shp} {k : Nat} {xs : List Value} (h : zfN w0 wr ss k xs) (hk : FKp w0 wr w2) : zfN w0 w2 ss k xs := fun i hi => by
  obtain ⟨s, fa, fc, h1, h2, h3, h4⟩ := h i hi
  exact ⟨s, fa, fc, h1, h2, h3.next hk, h4⟩
theorem zfN.snoc {w0 wr : World} {ss : List Shp} {k : Nat} {xs : List Value} (h : zfN w0 wr ss k xs) (hl : xs.length = k * 2) {s : Shp} {fa : Option Addr} {fc : Nat} (hs : ss[k]? = some s) (hk : s.kd.size <= maxLen) (hf : ze8 w0 wr fa s.fs) : zfN w0 wr ss (k + 1) (xs ++ [.string s.kd, .slice fa s.fs.length fc]) := fun i hi => by
  by_cases e : i < k
  · obtain ⟨s', fa', fc', h1, h2, h3, h4, h5⟩ := h i e
    exact ⟨s', fa', fc', h1, h2, h3, by rw [List.getElem?_append_left (by omega)]; exact h4, by rw [List.getElem?_append_left (by omega)]; exact h5⟩
  · obtain rfl : i = k := by omega
    refine ⟨s, fa, fc, hs, hk, hf, ?_, ?_⟩
    · rw [List.getElem?_append_right (by omega), hl, Nat.sub_self]; rfl
    · rw [List.getElem?_append_right (by omega), hl, show i * 2 + 1 - i * 2 = 1 by omega]; rfl
theorem ziP {w0 w : World} {lo g c : Nat} {ss : List Shp} {xs : List Value} (h : w.ownsRow lo 45 2 (.slice (some ⟨g, 0, none⟩) ss.length c) ss.length xs) (hr : zfN w0 w ss ss.length xs) (hb : Below w0.heap.size w0 w) (hl : ss.length <= maxLen) : yG w (some ⟨g, 0, none⟩) ss :=
  ⟨hl, fun _ => by
    rcases h.2 with ⟨e, _⟩ | ⟨g', c', cur, e, _, hC, h1, h2, h3, h4⟩
    · cases e
    · cases e
      refine ⟨g, 0, rfl, (Array.getElem?_eq_some_iff.1 hC).1, fun i hi => ?_⟩
      obtain ⟨s, fa, fc, q1, q2, q3, q4, q5⟩ := hr i hi
      have e : ss[i] = s := by rw [List.getElem?_eq_getElem hi] at q1; exact Option.some.inj q1
      rw [e]
      refine ⟨fa, fc, q2, q3 w hb (fun _ _ _ h => h), ?_, ?_⟩
      · rw [Nat.zero_add, cell_of_block hC, <- q4, <- h4, List.getElem?_take, if_pos (by omega)]; simp
      · rw [Nat.zero_add, cell_of_block hC, <- q5, <- h4, List.getElem?_take, if_pos (by omega)]; simp⟩
theorem rev_at (fs : List Fld) (k : Nat) (h : k < fs.length) : fs.reverse[k]? = some fs[fs.length - 1 - k] := by
  rw [List.getElem?_reverse h, List.getElem?_eq_getElem]
theorem zib (ss : List Shp) (k : Nat) (h : k < ss.length) : (Gate.qj ss)[k]? = some (Gate.jm ss[k]) := by
  simp [Gate.qj, List.getElem?_eq_getElem h]
set_option maxRecDepth 10000 in
set_option maxHeartbeats 8000000 in
theorem zeb (a : Option Addr) (cap : Nat) (ss : List Shp) (w : World) (h : yG w a ss) (hl : ss.length <= 1000) (hf : ∀ s ∈ ss, s.fs.length <= 900) :
    Calls Tryz.prog 14 #[.slice a ss.length cap] w fun e w' => ∃ g c, e = .returned (.slice (some ⟨g, 0, none⟩) ss.length c) /\ yG w' (some ⟨g, 0, none⟩) (Gate.qj ss) /\ Below w.heap.size w w' := by
  obtain ⟨i1, hi1, hz1, hs1, hb1⟩ := info_parts Tryz.zfh
  obtain ⟨i2, hi2, hz2, hs2, hb2⟩ := info_parts Tryz.zfp
  have HI1 := zae hi1 hz1 hs1 hb1
  have HI2 := zae hi2 hz2 hs2 hb2
  clear hi1 hz1 hs1 hb1 hi2 hz2 hs2 hb2
  have HS := hid h
  clear h
  go_enter Tryz.func14, Tryz.ntmps14
  go_wp2_with fail
  go_loopw [3, 4] (fun vo vi wr => ∃ (g c k : Nat) (xs : List Value), vo = .slice (some ⟨g, 0, none⟩) k c /\ k <= ss.length /\ vi = .int .i64 (k : Int) /\ Hid (wr.ownsRow w.heap.size 45 2 (.slice (some ⟨g, 0, none⟩) k c) k xs /\ zfN w wr (Gate.qj ss) k xs /\ Below w.heap.size w wr)) (fun _ vi _ => ss.length - (intOf vi).toNat)
  case atStart => exact ⟨w.heap.size, 0, 0, [], rfl, by omega, by simp, ⟨⟨rfl, Or.inr ⟨w.heap.size, 0, #[], rfl, Nat.le_refl _, (MapKept.heap_alloc w _).1, Nat.le_refl _, by simp [maxLen], rfl, rfl⟩⟩, fun i hi => absurd hi (by omega), (Below.refl _ _).alloc (Nat.le_refl _) _⟩⟩
  case round =>
    obtain ⟨g, c, k, xs, rfl, hk, rfl, HO⟩ := hrel
    obtain ⟨wo, rfl⟩ : ∃ x, x = wr := ⟨_, rfl⟩
    by_cases hlt : k < ss.length
    · have hI : (k : Int) < (ss.length : Int) := by omega
      obtain ⟨b0, off0, rfl, hb0, hr0⟩ := HS.out.rows (by rintro rfl; simp at hlt)
      obtain ⟨fa, fc, hsh⟩ := hr0 k hlt
      have hck := (HO.out.2.2.cell (p := ⟨b0, off0 + k * 2, none⟩) hb0).trans hsh.kind
      have hfl := hf ss[k] (List.getElem_mem hlt)
      have HF := qO hsh.flds hsh.small
      have hcl := hsh.list
      clear hr0 hsh
      obtain ⟨sk, hsk⟩ : ∃ s, s = ss[k] := ⟨_, rfl⟩
      rw [<- hsk] at hck hcl HF hfl
      have HSK := hid hsk
      clear hsk
      go_upto_region 6 with fail
      refine zn (fun W => W.heap[wo.heap.size]? = some (.cells #[.string sk.kd, .slice none 0 0] 45) /\ Below wo.heap.size wo W) ⟨(MapKept.heap_alloc wo _).1, (Below.refl _ _).alloc (Nat.le_refl _) _⟩ ?_
      rintro W2 ⟨hB2, hb2⟩
      obtain ⟨kS, hkS⟩ : ∃ k, k = wo.heap.size := ⟨_, rfl⟩
      rw [<- hkS] at hB2 hb2 ⊢
      have hwo : w.heap.size <= kS := by rw [hkS]; exact HO.out.2.2.size
      have HKS := hid hkS
      have H2 := qO hB2 hb2
      have hb2w : Below w.heap.size w W2 := HO.out.2.2.trans (hb2.mono hwo)
      have c1 := (hb2w.cell (p := ⟨b0, off0 + k * 2 + 1, none⟩) hb0).trans hcl
      clear hck hB2 hb2 hkS
      have hsub : IntKind.i64.wrap ((sk.fs.length : Int) - 1) = (sk.fs.length : Int) - 1 := by rw [IntKind.wrap_i64]; omega
      go_wp2_with fail
      go_loopw [6] (fun vk wr => ∃ (m : Nat) (va : Option Addr) (vc : Nat) (ys : List Value), m <= sk.fs.length /\ vk = .int .i64 ((sk.fs.length : Int) - 1 - (m : Int)) /\ Hid (wr.heap[kS]? = some (.cells #[.string sk.kd, .slice va m vc] 45) /\ wr.ownsRow kS 63 11 (.slice va m vc) m ys /\ zh3 w sk.fs.reverse m ys /\ Below kS wo wr)) (fun vk _ => (intOf vk + 1).toNat)
      case atStart => exact ⟨0, none, 0, [], by omega, by simp, ⟨H2.out.1, ⟨rfl, Or.inl ⟨rfl, rfl⟩⟩, fun i hi => absurd hi (by omega), H2.out.2⟩⟩
      case round =>
        obtain ⟨m, va, vc, ys, hm, rfl, HM⟩ := hrel
        have hbw : Below w.heap.size w wr := HO.out.2.2.trans (HM.out.2.2.2.mono hwo)
        by_cases hmt : m < sk.fs.length
        · have hge : (0 : Int) <= (sk.fs.length : Int) - 1 - (m : Int) := by omega
          obtain ⟨j, hj⟩ : ∃ j : Nat, j = sk.fs.length - 1 - m := ⟨_, rfl⟩
          have hjI : (sk.fs.length : Int) - 1 - (m : Int) = (j : Int) := by omega
          have hjl : j < sk.fs.length := by omega
          have hjI2 : (j : Int) < (sk.fs.length : Int) := by omega
          have hj0 : (0 : Int) <= (j : Int) := by omega
          have hw2 : IntKind.i64.wrap ((j : Int) - 1) = (sk.fs.length : Int) - 1 - ((m + 1 : Nat) : Int) := by rw [IntKind.wrap_i64]; omega
          obtain ⟨bf, of, rfl, hbf, hrf⟩ := HF.out.1.rows (fun e => by rw [e] at hmt; simp at hmt)
          obtain ⟨wa, wc, hfi⟩ := hrf j hjl
          obtain ⟨f, hfe⟩ : ∃ f, f = sk.fs[j] := ⟨_, rfl⟩
          rw [<- hfe] at hfi
          have hrev : sk.fs.reverse[m]? = some f := by rw [rev_at _ _ hmt, hfe]; congr 2; omega
          have hc1 : wr.drew.cell? ⟨b0, off0 + k * 2 + 1, none⟩ = some (.slice (some ⟨bf, of, none⟩) sk.fs.length fc) := (hbw.drew.cell (p := ⟨b0, off0 + k * 2 + 1, none⟩) hb0).trans hcl
          have hrg : ∀ w', Below w.heap.size w w' -> w'.rangeAt bf (of + j * 11) [.string f.nm, .int .i64 f.kd, .int .i64 f.ls, .int .i64 f.ms, .slice wa f.ws.length wc, .string f.to, .int .i64 f.rl, .bool f.mu, .bool f.fx, .string f.df, .string f.wg] := fun w' hb i v hv => by
            have hi : i < 11 := (List.getElem?_eq_some_iff.1 hv).1
            rw [hb.cell (p := ⟨bf, of + j * 11 + i, none⟩) hbf, hfi.cell i hi]
            rw [<- hv]
            exact (Array.getElem?_toList (xs := f.cells wa wc)).symm
          have HFI := qO hfi.small hfi.strs
          rw [hjI]
          have HJ := hid hj
          clear hrf hfi hfe hj hge hjI
          have hHM := HM.out.1
          have hbd := hid hbw.drew
          have hbo := hid (show Below kS wo wr.drew from HM.out.2.2.2.drew)
          have hown := hid (show wr.drew.ownsRow kS 63 11 (.slice va m vc) m ys from HM.out.2.1)
          go_upto_region 9 with fail
          refine yV (fun w' => w'.cell? ⟨kS, 1, none⟩ = some (.slice va m vc) /\ w'.cell? ⟨b0, off0 + k * 2 + 1, none⟩ = some (.slice (some ⟨bf, of, none⟩) sk.fs.length fc) /\ w'.rangeAt bf (of + j * 11) [.string f.nm, .int .i64 f.kd, .int .i64 f.ls, .int .i64 f.ms, .slice wa f.ws.length wc, .string f.to, .int .i64 f.rl, .bool f.mu, .bool f.fx, .string f.df, .string f.wg]) [13] (by kernel_rfl) ⟨cell_of_block (w := wr.drew) hHM, hc1, hrg _ hbd.out⟩ (fun hHeld => ?_)
          obtain ⟨V, hVe⟩ : ∃ x, x = wr.drew := ⟨_, rfl⟩
          have hHV : V.heap[kS]? = some (.cells #[.string sk.kd, .slice va m vc] 45) := by rw [hVe]; exact hHM
          rw [<- hVe] at hHeld hbd hbo hown ⊢
          clear hVe hHM hc1
          refine tD 0 ?_; refine tD 1 ?_; refine tD 2 ?_; refine tD 3 ?_; refine tD 4 ?_; refine tD 5 ?_; refine tD 6 ?_; refine tD 7 ?_; refine tD 8 ?_
          refine mD 9 (cs := [.string f.nm, .int .i64 f.kd, .int .i64 f.ls, .int .i64 f.ms, .slice wa f.ws.length wc, .string f.to, .int .i64 f.rl, .bool f.mu, .bool f.fx, .string f.df, .string f.wg]) (b := bf) (o := of + j * 11) (fun _ h => h.2.2) Tryz.underlying63 rfl (by show _ = some 11; kernel_rfl) ?_
          refine cD 10 fun K hK => ?_
          go_simp
          obtain ⟨v1, hv1⟩ : ∃ x, x = V.alloc (.cells #[.string f.nm, .int .i64 f.kd, .int .i64 f.ls, .int .i64 f.ms, .slice wa f.ws.length wc, .string f.to, .int .i64 f.rl, .bool f.mu, .bool f.fx, .string f.df, .string f.wg] 63) := ⟨_, rfl⟩
          have hzk := (Array.getElem?_eq_some_iff.1 hHV).1
          have hba : Below V.heap.size V v1 := by rw [hv1]; exact (Below.refl _ _).alloc (Nat.le_refl _) _
          have hH1 := (hba.block kS hzk).trans hHV
          have hnew : v1.heap[V.heap.size]? = some (.cells #[.string f.nm, .int .i64 f.kd, .int .i64 f.ls, .int .i64 f.ms, .slice wa f.ws.length wc, .string f.to, .int .i64 f.rl, .bool f.mu, .bool f.fx, .string f.df, .string f.wg] 63) := by rw [hv1]; exact (MapKept.heap_alloc V _).1
          have hb1 := hid (hbd.out.trans (hba.mono hbd.out.size))
          have hbo1 := hid (hbo.out.trans (hba.mono (show kS <= V.heap.size by omega)))
          have hown1 := hid (show v1.ownsRow kS 63 11 (.slice va m vc) m ys by rw [hv1]; exact hown.out.alloc _)
          (try go_wp2_with fail)
          rw [<- hv1]
          refine hK.out _ _ (fun _ => ⟨cell_of_block hH1, (hb1.out.cell (p := ⟨b0, off0 + k * 2 + 1, none⟩) hb0).trans hcl, hrg _ hb1.out⟩) (fun hHeld => ?_)
          clear hK K hv1 hown hbo hbd hHV
          (try simp only [Act.put, sA, s0, sS])
          replace hHeld := hHeld (by decide)
          obtain ⟨u2, v2, hr2, hown2, hg2, hn2, hat2⟩ := run_append_own_at (P := Tryz.prog) (w := v1) kS 34 34 63 i2 _ 11 128 Tryz.underlying34 HI2.out.1 HI2.out.2.1 HI2.out.2.2.1 HI2.out.2.2.2 rfl (by decide) (.slice va m vc) m ys hown1.out ⟨V.heap.size, 0, none⟩ 1 1 [.string f.nm, .int .i64 f.kd, .int .i64 f.ls, .int .i64 f.ms, .slice wa f.ws.length wc, .string f.to, .int .i64 f.rl, .bool f.mu, .bool f.fx, .string f.df, .string f.wg] rfl (fun i u hu => by rw [Addr.add_mid, Nat.zero_add, cell_of_block hnew]; simpa using hu) (by intro u hu; simp at hu; rcases hu with rfl | rfl | rfl | rfl | rfl | rfl | rfl | rfl | rfl | rfl | rfl <;> rfl) (by unfold maxLen; omega) (by omega) (by have := hba.size; omega)
          have hne2 : u2 ≠ .slice none 0 0 := fun e => by have := (hn2.1 e).2; omega
          obtain ⟨ga, ca, rfl⟩ := zdA hown2 hne2
          have hkg : ∀ g', (Value.slice va m vc).ownBlock = some g' -> kS <= g' /\ g' ≠ kS := fun g' hg => by
            refine ⟨(hown1.out.lt g' hg).1, fun e => ?_⟩
            subst e
            rcases hown1.out.2 with ⟨e, _⟩ | ⟨g3, _, cur, e, _, hC, _⟩
            · rw [e] at hg; cases hg
            · rw [e] at hg; cases hg; rw [hH1] at hC; cases hC
          have hH2 := (hg2.block kS (Array.getElem?_eq_some_iff.1 hH1).1 (fun e => (hkg _ e.symm).2 rfl)).trans hH1
          have hb2 := hid (hb1.out.grown hg2 hb1.out.size (fun g' hg => Nat.le_trans hwo (hkg g' hg).1))
          have hbo2 := hid (hbo1.out.grown hg2 (by have := hba.size; omega) (fun g' hg => (hkg g' hg).1))
          refine cD 11 fun K hK => ?_
          refine jc hr2 rfl rfl rfl ?_
          refine hK.out _ _ (fun _ => ⟨cell_of_block hH2, (hb2.out.cell (p := ⟨b0, off0 + k * 2 + 1, none⟩) hb0).trans hcl, hrg _ hb2.out⟩) (fun hHeld => ?_)
          clear hK K hr2 hg2 hn2 hat2 hne2 hown1 hbo1 hb1 hH1 hnew hba hHeld
          (try simp only [Act.put, sA, s0, sS])
          have cS := fun j => cell_of_block (o := j) hH2
          have fS := fun j => za (o := j) hH2
          refine cD 12 fun K hK => ?_
          go_simp
          refine hK.out _ _ (fun _ => ⟨cell_of_block hH2, (hb2.out.cell (p := ⟨b0, off0 + k * 2 + 1, none⟩) hb0).trans hcl, hrg _ hb2.out⟩) (fun hHeld => ?_)
          clear hK K hHeld
          (try simp only [Act.put, sA, s0, sS])
          refine cD 13 fun K hK => ?_
          go_simp
          (try go_wp2_with fail)
          refine hK.out _ _ (fun h => absurd (by decide) h) (fun _ => ?_)
          clear hK K cS fS
          (try simp only [Act.put, sA, s0, sS])
          refine yx (by kernel_rfl) ?_ _
          have hH3 := zu (o := 1) hH2 (.slice (some ⟨ga, 0, none⟩) (m + 1) ca)
          have hown3 : (v2.setCell ⟨kS, 1, none⟩ (.slice (some ⟨ga, 0, none⟩) (m + 1) ca)).ownsRow kS 63 11 (.slice (some ⟨ga, 0, none⟩) (m + 1) ca) (m + 1) (ys ++ (f.cells wa wc).toList) := by
            refine ⟨hown2.1, ?_⟩
            rcases hown2.2 with h | ⟨g3, c3, cur, e, q1, q2, q3⟩
            · exact Or.inl h
            · cases e
              exact Or.inr ⟨_, _, cur, rfl, q1, (yt (fun e => by subst e; rw [hH2] at q2; cases q2)).trans q2, q3⟩
          have H9 := zae hH3 hown3 (HM.out.2.2.1.snoc HM.out.2.1.1 (wc := wc) hrev HFI.out.1 HFI.out.2) (hbo2.out.setCell (p := ⟨kS, 1, none⟩) (Nat.le_refl _) (.slice (some ⟨ga, 0, none⟩) (m + 1) ca))
          clear hH2 hH3 hown3 hown2 hb2 hbo2 hkg hrg
          go_wp2_with fail
          exact ⟨⟨m + 1, some ⟨ga, 0, none⟩, ca, _, by omega, rfl, ⟨H9.out.1, H9.out.2.1, H9.out.2.2.1, H9.out.2.2.2⟩⟩, by have := HJ.out; simp [intOf]; omega⟩
        · have hge : ¬ (0 : Int) <= (sk.fs.length : Int) - 1 - (m : Int) := by omega
          obtain rfl : m = sk.fs.length := by omega
          clear c1
          have hHM := HM.out.1
          have cS := fun j => cell_of_block (o := j) hHM
          have hkw : kS <= wr.heap.size := by have := (Array.getElem?_eq_some_iff.1 hHM).1; omega
          clear hHM
          have HOW := hid (show (wr.alloc (.cells #[.string sk.kd, .slice va sk.fs.length vc] 45)).ownsRow w.heap.size 45 2 (.slice (some ⟨g, 0, none⟩) k c) k xs from (qF HO.out.1 (by rw [<- HKS.out]; exact HM.out.2.2.2)).alloc _)
          have hnew : (wr.alloc (.cells #[.string sk.kd, .slice va sk.fs.length vc] 45)).heap[wr.heap.size]? = some (.cells #[.string sk.kd, .slice va sk.fs.length vc] 45) := (MapKept.heap_alloc wr _).1
          have HNW := hid hnew
          clear hnew
          go_wp2_with (at_builtin; refine yM ?_)
          show wpList _ _ _ _ _ _
          refine wpList_append_own _ rfl (.tmp 44) (.tmp 46) 23 rfl w.heap.size 45 i1 (.agg #[.string ByteArray.empty, .slice none 0 0]) 2 40 Tryz.underlying23 HI1.out.1 HI1.out.2.1 HI1.out.2.2.1 HI1.out.2.2.2 rfl (by decide) _ _ _ rfl HOW.out ⟨wr.heap.size, 0, none⟩ 1 1 [.string sk.kd, .slice va sk.fs.length vc] rfl rfl (fun i u hu => by rw [Addr.add_mid, Nat.zero_add, cell_of_block HNW.out]; simpa using hu) (by intro u hu; simp at hu; rcases hu with rfl | rfl <;> rfl) (by unfold maxLen; omega) (by omega) (by have := hbw.size; simp; omega) ?_
          intro v' w4 hown' hgr hnil
          have hne2 : v' ≠ .slice none 0 0 := fun e => by have := (hnil.1 e).2; omega
          obtain ⟨ga, ca, rfl⟩ := zdA hown' hne2
          have hfk : FKp w wo w4 := fun b C hb hC => by
            have hlt := (Array.getElem?_eq_some_iff.1 hC).1
            have h1 := (HM.out.2.2.2.block b (by rw [HKS.out]; exact hlt)).trans hC
            have h2 := (((Below.refl _ wr).alloc (Nat.le_refl _) (.cells #[.string sk.kd, .slice va sk.fs.length vc] 45)).block b (Array.getElem?_eq_some_iff.1 h1).1).trans h1
            refine (hgr.block b (Array.getElem?_eq_some_iff.1 h2).1 fun e => ?_).trans h2
            rcases HOW.out.2 with ⟨e2, _⟩ | ⟨g3, _, cur, e2, _, hC3, _⟩
            · cases e2
            · cases e2; cases e; rw [h2] at hC3; cases hC3
          have hfk2 : FKp w wr w4 := fun b C hb h1 => by
            have h2 := (((Below.refl _ wr).alloc (Nat.le_refl _) (.cells #[.string sk.kd, .slice va sk.fs.length vc] 45)).block b (Array.getElem?_eq_some_iff.1 h1).1).trans h1
            refine (hgr.block b (Array.getElem?_eq_some_iff.1 h2).1 fun e => ?_).trans h2
            rcases HOW.out.2 with ⟨e2, _⟩ | ⟨g3, _, cur, e2, _, hC3, _⟩
            · cases e2
            · cases e2; cases e; rw [h2] at hC3; cases hC3
          have hS4 : zfN w w4 (Gate.qj ss) (k + 1) (xs ++ [.string sk.kd, .slice va (Gate.jm sk).fs.length vc]) := (HO.out.2.1.next hfk).snoc (s := Gate.jm sk) (fc := vc) HO.out.1.1 (by rw [zib _ _ hlt, HSK.out]) HF.out.2 ((zhz (fs := sk.fs.reverse) HM.out.2.1 hwo (by simp) HM.out.2.2.1 (by unfold maxLen; omega)).next hfk2)
          rw [show (Gate.jm sk).fs.length = sk.fs.length by simp [Gate.jm]] at hS4
          have hb4 : Below w.heap.size w w4 := (hbw.alloc hbw.size _).grown hgr (by have := hbw.size; simp; omega) (fun g' hg => (HOW.out.lt g' hg).1)
          have HZ := yK hown' hS4 hb4
          clear cS hown' hS4 hb4 hfk hfk2 hgr hnil hne2 HNW HOW
          go_wp2_with fail
          exact ⟨⟨ga, ca, k + 1, _, rfl, by omega, by go_num, HZ⟩, by simp [intOf]; omega⟩
    · have hI : ¬ (k : Int) < (ss.length : Int) := by omega
      obtain rfl : k = ss.length := by omega
      go_wp2_with fail
      go_ret
      refine ⟨g, ⟨c, rfl⟩, ?_, HO.out.2.2⟩
      have hll : (Gate.qj ss).length = ss.length := by simp [Gate.qj]
      have h1 := HO.out.1
      have h2 := HO.out.2.1
      rw [<- hll] at h1 h2
      exact ziP h1 h2 HO.out.2.2 (by rw [hll]; unfold maxLen; omega)
end Go.Proofs.YtmfgjafdnopfbaaGreat

namespace Go.Proofs.YtmfgjafdnopfbaaGreat
open Go.RowKit
set_option maxRecDepth 10000 in
set_option maxHeartbeats 4000000 in
theorem zdI (r p : Nat) (w : World) (hp : p <= 20000) (hr : yF w r p) :
    Calls Tryz.prog 55 #[.pointer (some ⟨r, 0, none⟩)] w fun e w' => ∃ a n cap p', e = .returned (.slice a n cap) /\ qM w.heap.size 1000002 w' (.slice a n cap) /\ n <= 3 /\ p' <= p + 300 /\ yF w' r p' /\ Dr r w w' := by
  have hlt := hr.lt
  go_enter Tryz.func55, Tryz.ntmps55
  go_wp2_with fail
  refine yS (fun W => St w.heap.size r w p W /\ yR w.heap.size 1000002 W (.slice (some ⟨w.heap.size, 0, none⟩) 3 3)) ⟨(St.start hr hlt (Nat.le_refl _)).alloc _, yH w.heap.size 1000002 w [⟨#[107]⟩, ⟨#[110]⟩, ⟨#[122]⟩] (Nat.le_refl _) (by simp) (by simp [maxLen]) (by simp +decide)⟩ ?_
  rintro W0 ⟨hS0, hT0⟩
  refine (zQ 3 r p W0 (by omega) (by omega) (by omega) hS0.rd).mono ?_
  rintro e w1 ⟨q, rfl, hq, hr1, D1⟩
  have hI1 := qO (hS0.call hr1 D1) (((zN (b := 1000002) hlt D1).s _ hT0).cut (show 1 + q <= 3 by omega))
  clear hS0 hT0 hr1 D1 hr
  go_upto_region 3 with fail
  refine zn (fun W => St w.heap.size r w (p + 1) W /\ yR w.heap.size 1000002 W (.slice (some ⟨w.heap.size, 0, none⟩) (1 + q) 3) /\ qM w.heap.size 1000002 W (.slice (some ⟨w1.heap.size, 0, none⟩) 0 0)) ⟨hI1.out.1.alloc _, (zf _ _ _ _).s _ hI1.out.2, jy w.heap.size 1000 _ _ 2 0 w1 #[] hI1.out.1.le rfl (by simp [maxLen]) (by omega) (fun j x hx => by simp at hx)⟩ ?_
  rintro W1 hW1
  have H1 := hid hW1
  clear hW1 hI1
  go_wp2_with fail
  go_loopw [4, 5] (fun vo vi wr => ∃ (a : Option Addr) (i cap p' : Nat), vo = .slice a i cap /\ vi = .int .i64 (i : Int) /\ i <= 1 + q /\ Hid (qM w.heap.size 1000002 wr (.slice a i cap) /\ yR w.heap.size 1000002 wr (.slice (some ⟨w.heap.size, 0, none⟩) (1 + q) 3) /\ St w.heap.size r w p' wr) /\ p' <= p + 1 + i * 80) (fun _ vi _ => 1 + q - (intOf vi).toNat)
  case atStart => exact ⟨_, 0, 0, p + 1, rfl, rfl, by omega, ⟨H1.out.2.2, H1.out.2.1, H1.out.1⟩, by omega⟩
  case round =>
    clear H1
    obtain ⟨a, i, cap, p', rfl, rfl, hi, HI, hp'⟩ := hrel
    obtain ⟨wo, rfl⟩ : ∃ x, x = wr := ⟨_, rfl⟩
    by_cases hiq : i < 1 + q
    · have hiI : (i : Int) < ((1 + q : Nat) : Int) := by omega
      obtain ⟨g_, C_, e_, -, -, -, hc_⟩ := HI.out.2.1.cell hiq
      cases e_
      obtain ⟨x_, hx_, k0, rfl, hk0⟩ := hc_ 0 (by omega)
      have cK : wo.cell? ⟨w.heap.size, i, none⟩ = some (.string k0) := by simpa using hx_
      have hzw : w.heap.size < wo.heap.size := by
        have h1 := World.block_lt_of_cell? wo _ cK
        exact h1
      clear hc_ hx_ C_
      go_wp2_with fail
      refine yS (fun W => St w.heap.size r w p' W /\ W.heap[wo.heap.size]? = some (.cells #[.string k0, .slice none 0 0] 45) /\ Keep w.heap.size 1000002 wo W) ⟨HI.out.2.2.alloc _, (MapKept.heap_alloc wo _).1, zf _ _ _ _⟩ ?_
      rintro W2 ⟨hS2, hB2, hK2⟩
      refine (zQ 5 r p' W2 (by omega) (by omega) (by omega) hS2.rd).mono ?_
      rintro e w3 ⟨q3, rfl, hq3, hr3, D3⟩
      have hz2 : wo.heap.size < W2.heap.size := (Array.getElem?_eq_some_iff.1 hB2).1
      have hS3 := hS2.call hr3 D3
      have hB3 := (zH D3 hz2 (by have := HI.out.2.2.le; omega)).trans hB2
      have hK3 := hK2.trans (zN (b := 1000002) hlt D3)
      clear hS2 hB2 hK2 hr3 D3 hz2
      go_wp2_with fail
      refine (zQ 10 r (p' + 1) w3 (by omega) (by omega) (by omega) hS3.rd).mono ?_
      rintro e w4 ⟨q4, rfl, hq4, hr4, D4⟩
      have hz3 : wo.heap.size < w3.heap.size := (Array.getElem?_eq_some_iff.1 hB3).1
      have H4 := yK (hS3.call hr4 D4) ((zH D4 hz3 (by have := HI.out.2.2.le; omega)).trans hB3) (hK3.trans (zN (b := 1000002) hlt D4))
      clear hS3 hB3 hK3 hr4 D4 hz3 cK
      obtain ⟨kS, hkS⟩ : ∃ k, k = wo.heap.size := ⟨_, rfl⟩
      rw [<- hkS] at H4 ⊢
      have hkr : w.heap.size <= kS := by rw [hkS]; exact HI.out.2.2.le
      by_cases c4 : q4 = 0
      · subst c4
        clear hkS
        go_wp2_with fail
        go_loopw [8] (fun vk w5 => ∃ (k : Nat) (fa : Option Addr) (fc p5 : Nat), vk = .int .i64 (k : Int) /\ k <= 6 /\ Hid (w5.heap[kS]? = some (.cells #[.string k0, .slice fa k fc] 45) /\ qp w.heap.size 1000002 w5 (.slice fa k fc) /\ Keep w.heap.size 1000002 wo w5 /\ St w.heap.size r w p5 w5) /\ p5 <= p' + 2 + 12 * k) (fun vk _ => 6 - (intOf vk).toNat)
        case atStart => exact ⟨0, none, 0, p' + 2, rfl, by omega, ⟨H4.out.2.1, Or.inl rfl, H4.out.2.2, H4.out.1⟩, by omega⟩
        case round =>
          clear H4
          obtain ⟨k, fa, fc, p5, rfl, hk, H5, hp5⟩ := hrel
          by_cases hkn : k < 6
          · have hkI : (k : Int) < (6 : Int) := by omega
            go_upto_region 13 with fail
            have hB5 := H5.out.1
            have H5d := qO (H5.out.2.2.2.drew) ((yY w.heap.size 1000002 wr).f _ H5.out.2.1)
            refine yV (fun w' => w'.cell? ⟨kS, 1, none⟩ = some (.slice fa k fc)) [11] (by kernel_rfl) (cell_of_block (w := wr.drew) hB5) (fun hHeld => ?_)
            refine tD 0 ?_; refine tD 1 ?_; refine tD 2 ?_; refine tD 3 ?_; refine tD 6 ?_
            refine cD 4 fun K hK => ?_
            go_simp
            refine (zal (k : Int) wr.drew (by omega) (by omega)).mono ?_
            rintro e w6 ⟨s6, rfl, hs6, hb6⟩
            have hB6 := (hb6.block kS (Array.getElem?_eq_some_iff.1 hB5).1).trans hB5
            have hS6 := H5d.out.1.below hb6
            have hF6 := (yO hb6).f _ H5d.out.2
            have hK6 := (H5.out.2.2.1.trans (yY _ _ wr)).trans (yO hb6)
            (try go_wp2_with fail)
            refine hK.out _ _ (fun _ => cell_of_block hB6) (fun hHeld => ?_)
            clear hK K hB5 H5d hb6
            (try simp only [Act.put, sA, s0, sS])
            replace hHeld := hHeld (by decide)
            have hs7 : (⟨#[102]⟩ ++ s6 : ByteArray).size <= 1000 := by rw [ByteArray.size_append]; have : (⟨#[102]⟩ : ByteArray).size = 1 := rfl; omega
            have hs6n : ¬ 9223372036854775807 < 1 + s6.size := by omega
            refine tD 5 ?_
            refine cD 7 fun K hK => ?_
            go_simp
            refine (zb8 (⟨#[102]⟩ ++ s6) (some ⟨w.heap.size, 0, none⟩) (1 + q) 3 w.heap.size r p5 w6 hs7 (hK6.s _ HI.out.2.1) (by omega) (by omega) hS6.rd hlt hS6.le).mono ?_
            rintro e w7 ⟨cs, p7, rfl, hA7, hp7, hr7, D7⟩
            have hB7 := (zH D7 (Array.getElem?_eq_some_iff.1 hB6).1 (by omega)).trans hB6
            have H7 := zeY (hS6.call hr7 D7) ((zN hlt D7).f _ hF6) (hK6.trans (zN hlt D7)) hA7 hB7
            clear hr7 D7 hS6 hF6 hK6 hB6 hs6n hs7 hs6
            obtain ⟨fn, fk, fl, fm, fwa, fwn, fwc, ft, fr, fmu, ffx, fdf, fwg, rfl, -⟩ := hA7
            (try go_wp2_with fail)
            refine hK.out _ _ (fun _ => cell_of_block hB7) (fun hHeld => ?_)
            clear hK K
            (try simp only [Act.put, sA, s0, sS])
            replace hHeld := hHeld (by decide)
            refine cD 8 fun K hK => ?_
            go_simp
            obtain ⟨w8, hw8⟩ : ∃ x, x = w7.alloc (.cells #[.string fn, .int .i64 fk, .int .i64 fl, .int .i64 fm, .slice fwa fwn fwc, .string ft, .int .i64 fr, .bool fmu, .bool ffx, .string fdf, .string fwg] 63) := ⟨_, rfl⟩
            have hB8 : w8.heap[kS]? = some (.cells #[.string k0, .slice fa k fc] 45) := by rw [hw8]; exact (((Below.refl _ w7).alloc (Nat.le_refl _) _).block kS (Array.getElem?_eq_some_iff.1 hB7).1).trans hB7
            have H8 := zae (show St w.heap.size r w p7 w8 by rw [hw8]; exact H7.out.1.alloc _) (show qp w.heap.size 1000002 w8 (.slice fa k fc) by rw [hw8]; exact (zf _ _ _ _).f _ H7.out.2.1) (show Keep w.heap.size 1000002 wo w8 by rw [hw8]; exact H7.out.2.2.1.trans (zf _ _ _ _)) (show qp w.heap.size 1000002 w8 (.slice (some ⟨w7.heap.size, 0, none⟩) 1 1) by rw [hw8]; exact zbS H7.out.2.2.2.1 H7.out.1.le (by omega))
            (try go_wp2_with fail)
            rw [<- hw8]
            refine hK.out _ _ (fun _ => cell_of_block hB8) (fun hHeld => ?_)
            clear hK K hw8 H7 hB7
            (try simp only [Act.put, sA, s0, sS])
            replace hHeld := hHeld (by decide)
            obtain ⟨a9, c9, w9, hr9, hK9, hF9, hb9, ho9⟩ := zdg (ty := 34) H8.out.2.1 H8.out.2.2.2 (by omega) (by omega) H8.out.1.le
            have hB9 := ho9 _ _ _ hB8 (by decide)
            have H9 := yK (H8.out.1.down hb9) hF9 (H8.out.2.2.1.trans hK9)
            refine cD 9 fun K hK => ?_
            refine jc hr9 rfl rfl rfl ?_
            refine hK.out _ _ (fun _ => cell_of_block hB9) (fun hHeld => ?_)
            clear hK K hr9 hK9 hF9 hb9 ho9 H8 hB8
            (try simp only [Act.put, sA, s0, sS])
            replace hHeld := hHeld (by decide)
            have cF := fun j => cell_of_block (o := j) hB9
            have fF := fun j => za (o := j) hB9
            refine tD 10 ?_
            refine cD 11 fun K hK => ?_
            go_simp
            (try go_wp2_with fail)
            refine hK.out _ _ (fun h => absurd (by decide) h) (fun _ => ?_)
            clear hK K hHeld cF fF
            (try simp only [Act.put, sA, s0, sS])
            refine yx (by kernel_rfl) ?_ _
            have hB10 := zu (o := 1) hB9 (.slice a9 (k + 1) c9)
            have hK10 : Keep w.heap.size 1000002 w9 (w9.setCell ⟨kS, 1, none⟩ (.slice a9 (k + 1) c9)) := zaO hB9 ⟨fun e => by simp at e, fun e => by simp at e, fun _ => H9.out.2.1, fun e => by simp at e, fun e => by simp at e, fun e => by simp at e⟩
            have H10 := zae hB10 (hK10.f _ H9.out.2.1) (H9.out.2.2.trans hK10) (H9.out.1.set (o := 1) (v := .slice a9 (k + 1) c9) hkr)
            clear hB9 hB10 hK10 H9
            go_wp2_with fail
            exact ⟨⟨k + 1, a9, c9, p7, by go_num, by omega, ⟨H10.out.1, H10.out.2.1, H10.out.2.2.1, H10.out.2.2.2⟩, by omega⟩, by simp [intOf]; omega⟩
          · have hkI : ¬ (k : Int) < (6 : Int) := by omega
            have hkN : 6 = k := by omega
            subst hkN
            have hB5 := H5.out.1
            have cF := fun j => cell_of_block (o := j) hB5
            have hz5 := (Array.getElem?_eq_some_iff.1 hB5).1
            clear hB5
            go_wp2_with (at_builtin; refine yM ?_)
            have hu := jU hk0 H5.out.2.1 H5.out.2.2.2.le (by omega)
            have hv := (zf w.heap.size 1000002 wr (.cells #[.string k0, .slice fa 6 fc] 45)).k _ (H5.out.2.2.1.k _ HI.out.1)
            obtain ⟨a6, c6, w6, hr6, hK6, hF6, hb6, -⟩ := zch (ty := 23) hv hu (by omega) (by omega) (H5.out.2.2.2.alloc _).le
            have H6 := yK hF6 (hK6.s _ ((zf w.heap.size 1000002 wr (.cells #[.string k0, .slice fa 6 fc] 45)).s _ (H5.out.2.2.1.s _ HI.out.2.1))) ((H5.out.2.2.2.alloc _).down hb6)
            show wpList _ _ _ _ _ _
            refine wpList_append_run hr6 rfl rfl rfl rfl ?_
            clear hr6 hK6 hF6 hb6 hu hv cF
            go_wp2_with fail
            exact ⟨⟨a6, i + 1, c6, p5, rfl, by go_num, by omega, ⟨H6.out.1, H6.out.2.1, H6.out.2.2⟩, by omega⟩, by simp [intOf]; omega⟩
      · have n4 : ((q4 : Int) == 0) = false := by rw [beq_eq_false_iff_ne]; omega
        clear hkS
        go_wp2_with fail
        go_loopw [8] (fun vk w5 => ∃ (k : Nat) (fa : Option Addr) (fc p5 : Nat), vk = .int .i64 (k : Int) /\ k <= q3 /\ Hid (w5.heap[kS]? = some (.cells #[.string k0, .slice fa k fc] 45) /\ qp w.heap.size 1000002 w5 (.slice fa k fc) /\ Keep w.heap.size 1000002 wo w5 /\ St w.heap.size r w p5 w5) /\ p5 <= p' + 2 + 12 * k) (fun vk _ => q3 - (intOf vk).toNat)
        case atStart => exact ⟨0, none, 0, p' + 2, rfl, by omega, ⟨H4.out.2.1, Or.inl rfl, H4.out.2.2, H4.out.1⟩, by omega⟩
        case round =>
          clear H4
          obtain ⟨k, fa, fc, p5, rfl, hk, H5, hp5⟩ := hrel
          by_cases hkn : k < q3
          · have hkI : (k : Int) < (q3 : Int) := by omega
            go_upto_region 13 with fail
            have hB5 := H5.out.1
            have H5d := qO (H5.out.2.2.2.drew) ((yY w.heap.size 1000002 wr).f _ H5.out.2.1)
            refine yV (fun w' => w'.cell? ⟨kS, 1, none⟩ = some (.slice fa k fc)) [11] (by kernel_rfl) (cell_of_block (w := wr.drew) hB5) (fun hHeld => ?_)
            refine tD 0 ?_; refine tD 1 ?_; refine tD 2 ?_; refine tD 3 ?_; refine tD 6 ?_
            refine cD 4 fun K hK => ?_
            go_simp
            refine (zal (k : Int) wr.drew (by omega) (by omega)).mono ?_
            rintro e w6 ⟨s6, rfl, hs6, hb6⟩
            have hB6 := (hb6.block kS (Array.getElem?_eq_some_iff.1 hB5).1).trans hB5
            have hS6 := H5d.out.1.below hb6
            have hF6 := (yO hb6).f _ H5d.out.2
            have hK6 := (H5.out.2.2.1.trans (yY _ _ wr)).trans (yO hb6)
            (try go_wp2_with fail)
            refine hK.out _ _ (fun _ => cell_of_block hB6) (fun hHeld => ?_)
            clear hK K hB5 H5d hb6
            (try simp only [Act.put, sA, s0, sS])
            replace hHeld := hHeld (by decide)
            have hs7 : (⟨#[102]⟩ ++ s6 : ByteArray).size <= 1000 := by rw [ByteArray.size_append]; have : (⟨#[102]⟩ : ByteArray).size = 1 := rfl; omega
            have hs6n : ¬ 9223372036854775807 < 1 + s6.size := by omega
            refine tD 5 ?_
            refine cD 7 fun K hK => ?_
            go_simp
            refine (zb8 (⟨#[102]⟩ ++ s6) (some ⟨w.heap.size, 0, none⟩) (1 + q) 3 w.heap.size r p5 w6 hs7 (hK6.s _ HI.out.2.1) (by omega) (by omega) hS6.rd hlt hS6.le).mono ?_
            rintro e w7 ⟨cs, p7, rfl, hA7, hp7, hr7, D7⟩
            have hB7 := (zH D7 (Array.getElem?_eq_some_iff.1 hB6).1 (by omega)).trans hB6
            have H7 := zeY (hS6.call hr7 D7) ((zN hlt D7).f _ hF6) (hK6.trans (zN hlt D7)) hA7 hB7
            clear hr7 D7 hS6 hF6 hK6 hB6 hs6n hs7 hs6
            obtain ⟨fn, fk, fl, fm, fwa, fwn, fwc, ft, fr, fmu, ffx, fdf, fwg, rfl, -⟩ := hA7
            (try go_wp2_with fail)
            refine hK.out _ _ (fun _ => cell_of_block hB7) (fun hHeld => ?_)
            clear hK K
            (try simp only [Act.put, sA, s0, sS])
            replace hHeld := hHeld (by decide)
            refine cD 8 fun K hK => ?_
            go_simp
            obtain ⟨w8, hw8⟩ : ∃ x, x = w7.alloc (.cells #[.string fn, .int .i64 fk, .int .i64 fl, .int .i64 fm, .slice fwa fwn fwc, .string ft, .int .i64 fr, .bool fmu, .bool ffx, .string fdf, .string fwg] 63) := ⟨_, rfl⟩
            have hB8 : w8.heap[kS]? = some (.cells #[.string k0, .slice fa k fc] 45) := by rw [hw8]; exact (((Below.refl _ w7).alloc (Nat.le_refl _) _).block kS (Array.getElem?_eq_some_iff.1 hB7).1).trans hB7
            have H8 := zae (show St w.heap.size r w p7 w8 by rw [hw8]; exact H7.out.1.alloc _) (show qp w.heap.size 1000002 w8 (.slice fa k fc) by rw [hw8]; exact (zf _ _ _ _).f _ H7.out.2.1) (show Keep w.heap.size 1000002 wo w8 by rw [hw8]; exact H7.out.2.2.1.trans (zf _ _ _ _)) (show qp w.heap.size 1000002 w8 (.slice (some ⟨w7.heap.size, 0, none⟩) 1 1) by rw [hw8]; exact zbS H7.out.2.2.2.1 H7.out.1.le (by omega))
            (try go_wp2_with fail)
            rw [<- hw8]
            refine hK.out _ _ (fun _ => cell_of_block hB8) (fun hHeld => ?_)
            clear hK K hw8 H7 hB7
            (try simp only [Act.put, sA, s0, sS])
            replace hHeld := hHeld (by decide)
            obtain ⟨a9, c9, w9, hr9, hK9, hF9, hb9, ho9⟩ := zdg (ty := 34) H8.out.2.1 H8.out.2.2.2 (by omega) (by omega) H8.out.1.le
            have hB9 := ho9 _ _ _ hB8 (by decide)
            have H9 := yK (H8.out.1.down hb9) hF9 (H8.out.2.2.1.trans hK9)
            refine cD 9 fun K hK => ?_
            refine jc hr9 rfl rfl rfl ?_
            refine hK.out _ _ (fun _ => cell_of_block hB9) (fun hHeld => ?_)
            clear hK K hr9 hK9 hF9 hb9 ho9 H8 hB8
            (try simp only [Act.put, sA, s0, sS])
            replace hHeld := hHeld (by decide)
            have cF := fun j => cell_of_block (o := j) hB9
            have fF := fun j => za (o := j) hB9
            refine tD 10 ?_
            refine cD 11 fun K hK => ?_
            go_simp
            (try go_wp2_with fail)
            refine hK.out _ _ (fun h => absurd (by decide) h) (fun _ => ?_)
            clear hK K hHeld cF fF
            (try simp only [Act.put, sA, s0, sS])
            refine yx (by kernel_rfl) ?_ _
            have hB10 := zu (o := 1) hB9 (.slice a9 (k + 1) c9)
            have hK10 : Keep w.heap.size 1000002 w9 (w9.setCell ⟨kS, 1, none⟩ (.slice a9 (k + 1) c9)) := zaO hB9 ⟨fun e => by simp at e, fun e => by simp at e, fun _ => H9.out.2.1, fun e => by simp at e, fun e => by simp at e, fun e => by simp at e⟩
            have H10 := zae hB10 (hK10.f _ H9.out.2.1) (H9.out.2.2.trans hK10) (H9.out.1.set (o := 1) (v := .slice a9 (k + 1) c9) hkr)
            clear hB9 hB10 hK10 H9
            go_wp2_with fail
            exact ⟨⟨k + 1, a9, c9, p7, by go_num, by omega, ⟨H10.out.1, H10.out.2.1, H10.out.2.2.1, H10.out.2.2.2⟩, by omega⟩, by simp [intOf]; omega⟩
          · have hkI : ¬ (k : Int) < (q3 : Int) := by omega
            have hkN : q3 = k := by omega
            subst hkN
            have hB5 := H5.out.1
            have cF := fun j => cell_of_block (o := j) hB5
            have hz5 := (Array.getElem?_eq_some_iff.1 hB5).1
            clear hB5
            go_wp2_with (at_builtin; refine yM ?_)
            have hu := jU hk0 H5.out.2.1 H5.out.2.2.2.le (by omega)
            have hv := (zf w.heap.size 1000002 wr (.cells #[.string k0, .slice fa q3 fc] 45)).k _ (H5.out.2.2.1.k _ HI.out.1)
            obtain ⟨a6, c6, w6, hr6, hK6, hF6, hb6, -⟩ := zch (ty := 23) hv hu (by omega) (by omega) (H5.out.2.2.2.alloc _).le
            have H6 := yK hF6 (hK6.s _ ((zf w.heap.size 1000002 wr (.cells #[.string k0, .slice fa q3 fc] 45)).s _ (H5.out.2.2.1.s _ HI.out.2.1))) ((H5.out.2.2.2.alloc _).down hb6)
            show wpList _ _ _ _ _ _
            refine wpList_append_run hr6 rfl rfl rfl rfl ?_
            clear hr6 hK6 hF6 hb6 hu hv cF
            go_wp2_with fail
            exact ⟨⟨a6, i + 1, c6, p5, rfl, by go_num, by omega, ⟨H6.out.1, H6.out.2.1, H6.out.2.2⟩, by omega⟩, by simp [intOf]; omega⟩
    · have hiI : ¬ (i : Int) < ((1 + q : Nat) : Int) := by omega
      go_wp2_with fail
      go_ret
      obtain ⟨h1, h2, h3⟩ := HI.out
      exact ⟨a, i, cap, rfl, h1, by omega, p', by omega, h3.rd, h3.fr⟩
end Go.Proofs.YtmfgjafdnopfbaaGreat
