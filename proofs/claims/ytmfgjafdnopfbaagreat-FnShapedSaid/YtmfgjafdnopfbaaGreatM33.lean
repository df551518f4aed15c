import Derived.Test.YtmfgjafdnopfbaaGreatM31
import Derived.Test.YtmfgjafdnopfbaaGreatM23
import Derived.Test.YtmfgjafdnopfbaaGreatM08
import Derived.Test.YtmfgjafdnopfbaaGreatM18
import Derived.Test.YtmfgjafdnopfbaaGreatM27
namespace Go.Proofs.YtmfgjafdnopfbaaGreat
open Go.RowKit
end Go.Proofs.YtmfgjafdnopfbaaGreat

namespace Go.Proofs.YtmfgjafdnopfbaaGreat.Gate
theorem zeh {α : Type} (l : List α) (d : α) (p : Nat) (hp : p < l.length) : l.reverse.getD (l.length - 1 - p) d = l.getD p d := by
  rw [List.getD_eq_getElem?_getD, List.getD_eq_getElem?_getD, List.getElem?_reverse (by omega)]
  have : l.length - 1 - (l.length - 1 - p) = p := by omega
  rw [this]
theorem ziM {α : Type} (l : List α) (x : α) (p : Nat) (hp : p < l.length) : l.reverse.set (l.length - 1 - p) x = (l.set p x).reverse := by
  apply List.ext_getElem?
  intro i
  rcases Nat.lt_or_ge i l.length with h | h
  · rw [List.getElem?_set, List.getElem?_reverse (l := l.set p x) (by simpa using h), List.getElem?_set, List.length_set, List.length_reverse]
    by_cases e : l.length - 1 - p = i
    · subst e
      have : p = l.length - 1 - (l.length - 1 - p) := by omega
      rw [if_pos rfl, if_pos h, if_pos this, if_pos hp]
    · have : ¬ p = l.length - 1 - i := by omega
      rw [if_neg e, if_neg this, List.getElem?_reverse h]
  · rw [List.getElem?_eq_none (by simpa using h), List.getElem?_eq_none (by simpa using h)]
theorem ze9 (m : Mnd) (s : Shp) (p : Nat) (hp : p < s.fs.length) : turns m (jm s) (s.fs.length - 1 - p) = turns m s p := by
  unfold turns jm
  simp only
  rw [zeh s.fs zbr p hp]
theorem zhL {s : Shp} {ms : List Mnd} (hnd : (s.fs.map Fld.nm).Nodup) (hrd : ∀ q, q < s.fs.length -> ∀ x ∈ yg s ms q, 0 <= x /\ x < s.fs.length) {p q : Nat} (hp : p < s.fs.length) (hq : q ∈ zi (jm s) ms (s.fs.length - 1 - p)) : ∃ q0, q0 ∈ zi s ms p /\ q0 < s.fs.length /\ q = s.fs.length - 1 - q0 := by
  unfold zi at hq
  obtain ⟨x, hx, rfl⟩ := List.mem_map.1 hq
  unfold yg at hx
  obtain ⟨m, hm, hx⟩ := List.mem_flatMap.1 hx
  rw [ze9 m s p hp] at hx
  by_cases ht : turns m s p = true
  · rw [if_pos ht] at hx
    obtain ⟨v, hv, rfl⟩ := List.mem_map.1 hx
    have hin : zG s.fs v ∈ yg s ms p := by
      unfold yg
      exact List.mem_flatMap.2 ⟨m, hm, by rw [if_pos ht]; exact List.mem_map.2 ⟨v, hv, rfl⟩⟩
    obtain ⟨h0, h1⟩ := hrd p hp _ hin
    obtain ⟨k, hk⟩ := Int.eq_ofNat_of_zero_le h0
    have hk' : k < s.fs.length := by omega
    refine ⟨k, List.mem_map.2 ⟨_, hin, by rw [hk]; rfl⟩, hk', ?_⟩
    show (zG s.fs.reverse v).toNat = _
    rw [zdX hnd hk' hk]
    rfl
  · rw [if_neg ht] at hx; cases hx
theorem zf3 {s : Shp} {ms : List Mnd} {row : List Nat} (hnd : (s.fs.map Fld.nm).Nodup) (hrd : ∀ q, q < s.fs.length -> ∀ x ∈ yg s ms q, 0 <= x /\ x < s.fs.length) (h : zb5 (zi s ms) s.fs.length row) : zb5 (zi (jm s) ms) s.fs.length (row.map fun p => s.fs.length - 1 - p) := by
  refine ⟨?_, fun q => ?_, ?_⟩
  · unfold List.Nodup
    rw [List.pairwise_map]
    refine List.Pairwise.imp_of_mem ?_ h.nodup
    intro a b ha hb hab e
    have := (h.mem a).1 ha
    have := (h.mem b).1 hb
    omega
  · rw [List.mem_map]
    constructor
    · rintro ⟨p, hp, rfl⟩
      have := (h.mem p).1 hp
      omega
    · intro hq
      exact ⟨s.fs.length - 1 - q, (h.mem _).2 (by omega), by omega⟩
  · intro r1 p r2 e q hq
    obtain ⟨l1, l2, e1, rfl, e2⟩ := List.map_eq_append_iff.1 e
    obtain ⟨p', l3, rfl, rfl, rfl⟩ := List.map_eq_cons_iff.1 e2
    have hp' : p' < s.fs.length := (h.mem p').1 (by rw [e1]; simp)
    obtain ⟨q0, h0, h1, rfl⟩ := zhL hnd hrd hp' hq
    exact List.mem_map.2 ⟨q0, h.ahead l1 p' l3 e1 q0 h0, rfl⟩
theorem zh0 {rd : Nat -> List Nat} {n : Nat} {row : List Nat} (h : zb5 rd n row) : (zA rd n).1 = true := by
  have hr := h.zeg
  rw [zb7 (fun p hp q hq => (hr.2 p hp q hq).1), zcv hr n (Nat.le_refl _)]
  simp
theorem zfk {fs : List Fld} {vs : List ByteArray} (hnd : (fs.map Fld.nm).Nodup) (hl : vs.length = fs.length) (v : ByteArray) : ql fs.reverse vs.reverse v = ql fs vs v := by
  rcases qI fs v with ⟨h1, h2⟩ | ⟨k, hk, h1, _⟩
  · rw [zbl h1]
    refine zbl (zaV _ _ ?_)
    rw [<- Bool.not_eq_true, zcl, List.map_reverse, List.mem_reverse, List.mem_map]
    rintro ⟨f, hf, e⟩
    rw [List.find?_eq_none] at h2
    exact h2 f hf (by simpa using e)
  · rw [zao h1, zao (zdX hnd hk h1), <- hl]
    exact zeh vs _ k (by omega)
theorem zhw {s : Shp} {vs : List ByteArray} (hnd : (s.fs.map Fld.nm).Nodup) (hl : vs.length = s.fs.length) (p : Nat) (hp : p < s.fs.length) (m : Mnd) : gives (jm s) vs.reverse (s.fs.length - 1 - p) m = gives s vs p m := by
  unfold gives
  rw [ze9 m s p hp]
  show (if turns m s p = true /\ ¬ (isSet m.wh = true /\ ql s.fs.reverse vs.reverse m.wh ≠ m.wi) then (if isSet m.fr = true then (if isSet (ql s.fs.reverse vs.reverse m.fr) = true then some (ql s.fs.reverse vs.reverse m.fr) else none) else some m.pt) else none) = _
  rw [zfk hnd hl, zfk hnd hl]
theorem zf6 {s : Shp} {ms : List Mnd} {vs : List ByteArray} (hnd : (s.fs.map Fld.nm).Nodup) (hl : vs.length = s.fs.length) (p : Nat) (hp : p < s.fs.length) : decided (jm s) ms (s.fs.length - 1 - p) vs.reverse = decided s ms p vs := by
  unfold decided
  rw [zbi (g := gives s vs p) (fun m _ => zhw hnd hl p hp m), <- hl, zeh vs _ p (by omega)]
theorem zdP {s : Shp} {ms : List Mnd} (hnd : (s.fs.map Fld.nm).Nodup) : ∀ (row : List Nat) (vs : List ByteArray), (∀ p ∈ row, p < s.fs.length) -> vs.length = s.fs.length -> zD (decided (jm s) ms) (row.map fun p => s.fs.length - 1 - p) vs.reverse = (zD (decided s ms) row vs).reverse
  | [], _, _, _ => rfl
  | p :: row, vs, hr, hl => by
    have hp := hr p (by simp)
    show zD (decided (jm s) ms) (row.map _) (vs.reverse.set (s.fs.length - 1 - p) (decided (jm s) ms (s.fs.length - 1 - p) vs.reverse)) = (zD (decided s ms) row (vs.set p (decided s ms p vs))).reverse
    rw [zf6 hnd hl p hp, <- zdP hnd row (vs.set p (decided s ms p vs)) (fun q hq => hr q (by simp [hq])) (by simpa using hl), <- ziM vs _ p (by omega), hl]
theorem zf1 {ss : List Shp} {ms : List Mnd} (h : yh ss ms = true) : yh (qj ss) ms = true := by
  unfold yh at h ⊢
  simp only [Bool.and_eq_true, decide_eq_true_eq] at h ⊢
  obtain ⟨⟨⟨h1, h2⟩, h3⟩, h4⟩ := h
  have hnd : ∀ i (hi : i < ss.length), (ss[i].fs.map Fld.nm).Nodup := by
    intro i hi
    have := zbO h2 i hi
    unfold yQ at this
    rw [getD_at ss i _ hi] at this
    simp only [Bool.and_eq_true] at this
    exact ((zb3 ss _).1 this.2).2.2
  refine ⟨⟨⟨h1, zfC h2⟩, ?_⟩, ?_⟩
  · rw [List.all_eq_true] at h3 ⊢
    intro m hm
    have := h3 m hm
    unfold qZ at this ⊢
    rw [zce, zbt]
    rw [Bool.and_eq_true] at this ⊢
    refine ⟨this.1, ?_⟩
    have h9 := this.1
    unfold zy at h9
    rw [List.any_eq_true] at h9
    obtain ⟨x, hx, he⟩ := h9
    obtain ⟨i, hi, rfl⟩ := List.mem_iff_getElem.1 hx
    have e9 : shapeOf ss m.kd = ss[i] := by
      have : ss[i].kd = m.kd := by simpa using he
      rw [<- this]; exact zaY h2 i hi
    rw [e9] at this ⊢
    show jk ss[i].fs.reverse m = true
    rw [zgV (hnd i hi)]
    exact this.2
  · rw [List.all_eq_true] at h4 ⊢
    intro x hx
    unfold qj at hx
    obtain ⟨s, hs, rfl⟩ := List.mem_map.1 hx
    obtain ⟨i, hi, rfl⟩ := List.mem_iff_getElem.1 hs
    have hw := h4 ss[i] (List.getElem_mem hi)
    unfold rowOk at hw ⊢
    have hrd := zdj h2 h3 i hi
    have ht := zaw (fun p hp q hq => by
      unfold zi at hq
      obtain ⟨x, hx, rfl⟩ := List.mem_map.1 hq
      have := hrd p hp x hx
      omega) hw
    have h9 := zh0 (zf3 (hnd i hi) hrd ht)
    have e9 : (jm ss[i]).fs.length = ss[i].fs.length := by unfold jm; simp
    rw [e9]
    exact h9
end Go.Proofs.YtmfgjafdnopfbaaGreat.Gate

namespace Go.Proofs.YtmfgjafdnopfbaaGreat
open Go.RowKit
set_option maxRecDepth 20000 in
set_option maxHeartbeats 4000000 in
theorem zei (o : Ob) (s : Shp) (ms : List Mnd) (fa ma ova oha : Option Addr) (fcap mcap cap cap' : Nat) (w : World) (hf : yc w fa s.fs) (hm : qg w ma ms) (ho : qX w o ova oha) (hA : jO ova o.vs) (hA' : jO oha o.hs) (hl : o.vs.length <= 1048576) (hl' : o.hs.length <= 1048576) (hc : o.vs.length = s.fs.length)
    (hml : ms.length <= 1048576) (hn : s.fs.length <= 6) (hrd : ∀ q, q < s.fs.length -> ∀ x ∈ Gate.yg s ms q, 0 <= x /\ x < s.fs.length) (hwk : (Gate.zA (Gate.zi s ms) s.fs.length).1 = true) :
    Calls Tryz.prog 19 #[.agg #[.string s.kd, .slice fa s.fs.length fcap], .slice ma ms.length mcap, .agg #[.string o.kd, .string o.nm, .string o.tm, .slice ova o.vs.length cap, .bool o.en, .slice oha o.hs.length cap', .int .i64 o.vr]] w
      fun e w' => ∃ a dap a' dap' m, e = .returned (.agg #[.string o.kd, .string o.nm, .string o.tm, .slice a o.vs.length dap, .bool o.en, .slice a' o.hs.length dap', .int .i64 o.vr]) /\ zk w.heap.size w' a (Gate.zD (Gate.decided s ms) (Gate.zA (Gate.zi s ms) s.fs.length).2.row o.vs) /\ (∀ g, a = some g -> g.block < m) /\ w.heap.size <= m /\ zk m w' a' o.hs /\ Below w.heap.size w w' := by
  have HH : Hid (yc w fa s.fs /\ qg w ma ms /\ o.vs.length = s.fs.length /\ ms.length <= 1048576 /\ s.fs.length <= 6 /\ (∀ q, q < s.fs.length -> ∀ x ∈ Gate.yg s ms q, 0 <= x /\ x < s.fs.length) /\ (∀ x ∈ o.vs, x.size <= maxLen)) := ⟨hf, hm, hc, hml, hn, hrd, ho.vals.small⟩
  have HWK := hid hwk
  clear hf hm hc hml hrd hwk
  go_enter Tryz.func19, Tryz.ntmps19
  go_wp2_with fail
  refine (zen o ova oha cap cap' _ (ho.mono (jv _ _ _ _)) hA hA' hl hl').mono ?_
  rintro e w1 ⟨a, dap, a', dap', m, rfl, ht, hmm, hsm, ht', hb1⟩
  have hX1 : ∀ j, w1.cell? ⟨w.heap.size, j, none⟩ = (#[.string s.kd, .slice fa s.fs.length fcap] : Array Value)[j]? := fun j => cell_of_block ((hb1.block w.heap.size (by simp; omega)).trans (zbu _ _ _ _))
  have HS1 : Hid (w1.heap[w.heap.size]? = some (.cells #[.string s.kd, .slice fa s.fs.length fcap] 45)) := (hb1.block w.heap.size (by simp; omega)).trans (zbu _ _ _ _)
  have HR1 : Hid (w1.heap[w.heap.size + 1 + 1]? = some (.cells oZ 27)) := (hb1.block (w.heap.size + 1 + 1) (by simp)).trans (zaI _ _ _ _)
  have HB1 : Hid (Below w.heap.size w w1) := (jv _ _ _ _).trans (hb1.mono (by simp; omega))
  have hz1 : w.heap.size + 1 + 1 < w1.heap.size := by have := hb1.size; simp at this; omega
  have HT : Hid (zk (w.heap.size + 1 + 1 + 1) w1 a o.vs /\ (∀ g, a = some g -> g.block < m) /\ w.heap.size + 1 + 1 + 1 <= m /\ zk m w1 a' o.hs) := by
    simp only [World.size_alloc] at ht hsm
    exact ⟨ht, hmm, hsm, ht'⟩
  have hz0 : w.heap.size < w1.heap.size := by omega
  clear ht hmm hsm ht' hb1 ho
  have hba := (Below.refl w1.heap.size w1).alloc (Nat.le_refl _) (.cells (oC o a a' dap dap') 27)
  have HBA := hid (HB1.out.trans (hba.mono HB1.out.size))
  have HBB := hid hba
  clear hba
  go_wp2_with fail
  have h := zdQ s ms ma fa mcap fcap _ (HH.out.2.1.mono HBA.out) (HH.out.1.mono HBA.out) HH.out.2.2.2.1 HH.out.2.2.2.2.1 HH.out.2.2.2.2.2.1
  rw [HWK.out] at h
  refine h.mono ?_
  rintro e w2 ⟨rv, rfl, hb2, hrow⟩
  have hrow := hrow rfl
  obtain ⟨ra, rcap, rfl⟩ := qB hrow
  have HBC := hid (HBB.out.trans (hb2.mono HBB.out.size))
  have HR2 : Hid (w2.ownsRow (w1.heap.size + 1) 3 1 (.slice ra (Gate.zA (Gate.zi s ms) s.fs.length).2.row.length rcap) (Gate.zA (Gate.zi s ms) s.fs.length).2.row.length (zcc (Gate.zA (Gate.zi s ms) s.fs.length).2.row)) := by
    have := hrow; rw [World.size_alloc] at this; exact this
  have HU2 : Hid (w2.heap[w1.heap.size]? = some (.cells (oC o a a' dap dap') 27)) := (hb2.block _ (by simp)).trans (alloc_at _ _)
  have HTP : Hid (Gate.zb5 (Gate.zi s ms) s.fs.length (Gate.zA (Gate.zi s ms) s.fs.length).2.row) := Gate.zaw (fun p hp q hq => by
    unfold Gate.zi at hq
    obtain ⟨x, hx, rfl⟩ := List.mem_map.1 hq
    have := HH.out.2.2.2.2.2.1 p hp x hx
    omega) HWK.out
  have hz2 := (Array.getElem?_eq_some_iff.1 HU2.out).1
  have HRL : Hid ((Gate.zA (Gate.zi s ms) s.fs.length).2.row.length <= 6) := by
    have h1 := Gate.zat (Gate.zA (Gate.zi s ms) s.fs.length).2.row (List.range s.fs.length) HTP.out.nodup (fun x hx => List.mem_range.2 ((HTP.out.mem x).1 hx))
    have h2 := HH.out.2.2.2.2.1
    rw [List.length_range] at h1
    show _ <= _; omega
  clear h hrow hb2 hX1
  go_wp2_with fail
  go_loopw [22] (fun iv wr => ∃ j : Nat, j <= (Gate.zA (Gate.zi s ms) s.fs.length).2.row.length /\ iv = .int .i64 j /\ zk (w.heap.size + 1 + 1 + 1) wr a (Gate.zD (Gate.decided s ms) ((Gate.zA (Gate.zi s ms) s.fs.length).2.row.take j) o.vs) /\ zk m wr a' o.hs /\ wr.heap[w.heap.size + 1 + 1]? = some (.cells #[.string ByteArray.empty, .string ByteArray.empty, .string ByteArray.empty, .slice none 0 0, .bool false, .slice none 0 0, .int .i64 0] 27) /\ wr.heap[w1.heap.size]? = some (.cells #[.string o.kd, .string o.nm, .string o.tm, .slice a o.vs.length dap, .bool o.en, .slice a' o.hs.length dap', .int .i64 o.vr] 27) /\ wr.heap[w.heap.size]? = some (.cells #[.string s.kd, .slice fa s.fs.length fcap] 45) /\ wr.ownsRow (w1.heap.size + 1) 3 1 (.slice ra (Gate.zA (Gate.zi s ms) s.fs.length).2.row.length rcap) (Gate.zA (Gate.zi s ms) s.fs.length).2.row.length (zcc (Gate.zA (Gate.zi s ms) s.fs.length).2.row) /\ Below w.heap.size w wr) (fun iv _ => (Gate.zA (Gate.zi s ms) s.fs.length).2.row.length - (intOf iv).toNat)
  case atStart => exact ⟨0, Nat.zero_le _, rfl, HT.out.1.mono HBC.out, HT.out.2.2.2.mono HBC.out, (HBC.out.block _ hz1).trans HR1.out, HU2.out, (HBC.out.block _ hz0).trans HS1.out, HR2.out, HB1.out.trans (HBC.out.mono HB1.out.size)⟩
  case round =>
    obtain ⟨j, hj, rfl, hinv⟩ := hrel
    have HI : Hid (zk (w.heap.size + 1 + 1 + 1) wr a (Gate.zD (Gate.decided s ms) ((Gate.zA (Gate.zi s ms) s.fs.length).2.row.take j) o.vs) /\ zk m wr a' o.hs /\ wr.heap[w.heap.size + 1 + 1]? = some (.cells oZ 27) /\ wr.heap[w1.heap.size]? = some (.cells (oC o a a' dap dap') 27) /\ wr.heap[w.heap.size]? = some (.cells #[.string s.kd, .slice fa s.fs.length fcap] 45) /\ wr.ownsRow (w1.heap.size + 1) 3 1 (.slice ra (Gate.zA (Gate.zi s ms) s.fs.length).2.row.length rcap) (Gate.zA (Gate.zi s ms) s.fs.length).2.row.length (zcc (Gate.zA (Gate.zi s ms) s.fs.length).2.row) /\ Below w.heap.size w wr) := hinv
    clear hinv
    by_cases hlt : j < (Gate.zA (Gate.zi s ms) s.fs.length).2.row.length
    · have hltI : (j : Int) < ((Gate.zA (Gate.zi s ms) s.fs.length).2.row.length : Int) := by omega
      have hqn : (Gate.zA (Gate.zi s ms) s.fs.length).2.row[j] < s.fs.length := (HTP.out.mem _).1 (List.getElem_mem hlt)
      obtain ⟨rg, rfl, hrc⟩ : ∃ rg, ra = some ⟨rg, 0, none⟩ /\ wr.cell? ⟨rg, j, none⟩ = some (.int .i64 (((Gate.zA (Gate.zi s ms) s.fs.length).2.row[j] : Nat) : Int)) := by
        have hrow := HI.out.2.2.2.2.2.1
        obtain ⟨_, ⟨h0, h1⟩ | ⟨g, cp, cur, h0, h1⟩⟩ := id hrow
        · rw [h1] at hlt; exact absurd hlt (by omega)
        · cases h0
          refine ⟨g, rfl, ?_⟩
          rw [hrow.cellAt j (by omega)]
          simp [zcc, hlt]
      have HTS : Hid ((Gate.zD (Gate.decided s ms) ((Gate.zA (Gate.zi s ms) s.fs.length).2.row.take (j + 1)) o.vs) = (Gate.zD (Gate.decided s ms) ((Gate.zA (Gate.zi s ms) s.fs.length).2.row.take j) o.vs).set (Gate.zA (Gate.zi s ms) s.fs.length).2.row[j] (Gate.decided s ms (Gate.zA (Gate.zi s ms) s.fs.length).2.row[j] (Gate.zD (Gate.decided s ms) ((Gate.zA (Gate.zi s ms) s.fs.length).2.row.take j) o.vs))) := by
        unfold Hid
        rw [List.take_succ_eq_append_getElem hlt, Gate.zbe]
        rfl
      have HTL : Hid ((Gate.zD (Gate.decided s ms) ((Gate.zA (Gate.zi s ms) s.fs.length).2.row.take j) o.vs).length = o.vs.length) := Gate.qH _ _ _
      have HSML : Hid (∀ x ∈ (Gate.zD (Gate.decided s ms) ((Gate.zA (Gate.zi s ms) s.fs.length).2.row.take j) o.vs), x.size <= maxLen) := Gate.j6 HH.out.2.1.small _ _ HH.out.2.2.2.2.2.2
      have hvl : 0 < o.vs.length := by rw [HH.out.2.2.1]; omega
      obtain ⟨g, C, hga, hgl, hgh, hgc⟩ : ∃ g C, a = some ⟨g, 0, none⟩ /\ w.heap.size + 1 + 1 + 1 <= g /\ wr.heap[g]? = some (.cells C 9) /\ ∀ i (h : i < (Gate.zD (Gate.decided s ms) ((Gate.zA (Gate.zi s ms) s.fs.length).2.row.take j) o.vs).length), C[i]? = some (.string (Gate.zD (Gate.decided s ms) ((Gate.zA (Gate.zi s ms) s.fs.length).2.row.take j) o.vs)[i]) := by
        rcases HI.out.1 with ⟨_, h0⟩ | h0
        · have := HTL.out; rw [h0] at this; simp at this; omega
        · exact h0
      have hgm := HT.out.2.1 _ hga
      have hgw1 := HT.out.1.lt _ hga
      subst hga
      revert hqn hrc HTS
      generalize (Gate.zA (Gate.zi s ms) s.fs.length).2.row[j] = q
      intro hqn hrc HTS
      have hqv : q < o.vs.length := by rw [HH.out.2.2.1]; exact hqn
      have hqI : (q : Int) < (o.vs.length : Int) := by omega
      have HCS : Hid (C.size = C.size /\ q < C.size) := by
        refine ⟨rfl, ?_⟩
        rcases Nat.lt_or_ge q C.size with h1 | h1
        · exact h1
        · have h2 := hgc q (by rw [HTL.out]; exact hqv)
          rw [Array.getElem?_eq_none h1] at h2; cases h2
      have hOc := zak HI.out.2.2.2.1
      have hSc := zak HI.out.2.2.2.2.1
      have hzw : w1.heap.size < wr.heap.size := (Array.getElem?_eq_some_iff.1 HI.out.2.2.2.1).1
      have HST : Hid (zZ wr (some ⟨g, 0, none⟩) (Gate.zD (Gate.decided s ms) ((Gate.zA (Gate.zi s ms) s.fs.length).2.row.take j) o.vs)) := HI.out.1.at (by rw [HTL.out]; unfold maxLen; omega) HSML.out
      have HBD : Hid (Below w.heap.size w wr.drew /\ Below wr.heap.size wr wr.drew) := ⟨HI.out.2.2.2.2.2.2.drew, (Below.refl _ _).drew⟩
      have HGH := hid hgh
      clear hgh hgc
      go_wp2_with fail
      clear hrc
      have hbd := HBD.out.2
      have hOd := ze hOc hzw hbd
      have hSd := ze hSc (by omega) hbd
      have HDV : Hid (∀ W, Below wr.heap.size wr W -> Calls Tryz.prog 34 #[.agg #[.string s.kd, .slice fa s.fs.length fcap], .slice ma ms.length mcap, .slice (some ⟨g, 0, none⟩) o.vs.length dap, .int .i64 (q : Int)] W fun e w' => e = .returned (.string (Gate.decided s ms q (Gate.zD (Gate.decided s ms) ((Gate.zA (Gate.zi s ms) s.fs.length).2.row.take j) o.vs))) /\ Below W.heap.size W w') := by
        intro W hb
        have hbw := HI.out.2.2.2.2.2.2.trans (hb.mono HI.out.2.2.2.2.2.2.size)
        have h := zdC s ms (Gate.zD (Gate.decided s ms) ((Gate.zA (Gate.zi s ms) s.fs.length).2.row.take j) o.vs) q fa ma (some ⟨g, 0, none⟩) fcap mcap dap W (HH.out.1.mono hbw) (HH.out.2.1.mono hbw) (HST.out.mono hb) (by rw [HTL.out]; exact HH.out.2.2.1) hqn
        rw [HTL.out] at h
        exact h
      go_region_held3 (fun w' => (∀ k, w'.cell? ⟨w1.heap.size, k, none⟩ = (#[.string o.kd, .string o.nm, .string o.tm, .slice (some ⟨g, 0, none⟩) o.vs.length dap, .bool o.en, .slice a' o.hs.length dap', .int .i64 o.vr] : Array Value)[k]?) /\ ∀ k, w'.cell? ⟨w.heap.size, k, none⟩ = (#[.string s.kd, .slice fa s.fs.length fcap] : Array Value)[k]?) (first | (refine ⟨fun k => ?_, fun k => ?_⟩; rw [hOd]; rw [hSd]) | (refine ⟨fun k => ?_, fun k => ?_⟩; rw [hqo]; rw [hqs])) (first
        | (go_at_call 34; refine (HDV.out _ hbd).mono ?_; rintro e w5 ⟨rfl, hb5⟩; have hbd := hbd.trans (hb5.mono hbd.size); have hOd := ze hOc hzw hbd; have hSd := ze hSc (by omega) hbd; have hg5 := (hbd.block g (by omega)).trans HGH.out; have hcg : w5.cell? ⟨g, q, none⟩ = some (C[q]'HCS.out.2) := (by rw [cell_of_block hg5]; exact Array.getElem?_eq_getElem HCS.out.2); have hfg : w5.frozen? ⟨g, q, none⟩ = false := za hg5; have hqo : ∀ k, (w5.setCell ⟨g, q, none⟩ (.string (Gate.decided s ms q (Gate.zD (Gate.decided s ms) ((Gate.zA (Gate.zi s ms) s.fs.length).2.row.take j) o.vs)))).cell? ⟨w1.heap.size, k, none⟩ = (#[.string o.kd, .string o.nm, .string o.tm, .slice (some ⟨g, 0, none⟩) o.vs.length dap, .bool o.en, .slice a' o.hs.length dap', .int .i64 o.vr] : Array Value)[k]? := (fun k => (zX (by show w1.heap.size ≠ g; omega)).trans (hOd k)); have hqs : ∀ k, (w5.setCell ⟨g, q, none⟩ (.string (Gate.decided s ms q (Gate.zD (Gate.decided s ms) ((Gate.zA (Gate.zi s ms) s.fs.length).2.row.take j) o.vs)))).cell? ⟨w.heap.size, k, none⟩ = (#[.string s.kd, .slice fa s.fs.length fcap] : Array Value)[k]? := (fun k => (zX (by show w.heap.size ≠ g; omega)).trans (hSd k)); have HBE : Hid (Below wr.heap.size wr w5) := hbd; clear hb5 hg5))
      go_wp2_with fail
      obtain ⟨i1, i2, i3, i4, i5, i6, i7⟩ := HI.out
      have hE := HBE.out
      refine ⟨⟨j + 1, by omega, by rw [wrap_one (by have := HRL.out; omega)], ?_, (i2.mono hE).setCell _ hgm _, (Below.heap_setCell _ _ _ _ (by show w.heap.size + 1 + 1 ≠ g; omega)).trans ((hE.block _ (by omega)).trans i3), (Below.heap_setCell _ _ _ _ (by show w1.heap.size ≠ g; omega)).trans ((hE.block _ hzw).trans i4), (Below.heap_setCell _ _ _ _ (by show w.heap.size ≠ g; omega)).trans ((hE.block _ (by omega)).trans i5), ?_, (i7.trans (hE.mono i7.size)).setCell (p := ⟨g, q, none⟩) (by show w.heap.size <= g; omega) _⟩, zcJ hlt (by have := HRL.out; omega)⟩
      · rw [HTS.out]; exact (i1.mono hE).set q _
      · refine jV (qF i6 hE) (fun g' hg' => Below.heap_setCell _ _ _ _ ?_)
        have := (i6.lt g' hg').1
        show g' ≠ g
        omega
    · have e : j = (Gate.zA (Gate.zi s ms) s.fs.length).2.row.length := by omega
      obtain ⟨i1, i2, i3, i4, i5, i6, i7⟩ := HI.out
      rw [e, List.take_of_length_le (Nat.le_refl _)] at i1
      have hRc : ∀ k, wr.cell? ⟨w.heap.size + 1 + 1, k, none⟩ = (oZ : Array Value)[k]? := fun k => cell_of_block i3
      have hRf : ∀ k, wr.frozen? ⟨w.heap.size + 1 + 1, k, none⟩ = false := fun k => za i3
      have hOc := zak i4
      have HX := yK i1 i2 i7
      clear i1 i2 i3 i4 i5 i6 i7 HI
      subst e
      go_wp2_with fail
      refine bodyPost_ret (v := (.agg #[.string o.kd, .string o.nm, .string o.tm, .slice a o.vs.length dap, .bool o.en, .slice a' o.hs.length dap', .int .i64 o.vr])) (by simp [results, Tryz.results19, go_sem, hRc]) rfl ?_
      obtain ⟨ht, ht', hB⟩ := HX.out
      exact ⟨a, dap, a', dap', m, rfl, (yB ht _ (by omega) _ _ _ _ _ _ _).low (by omega), HT.out.2.1, by have := HT.out.2.2.1; omega, yB ht' _ (by have := HT.out.2.2.1; omega) _ _ _ _ _ _ _, qm hB _ (by omega) _ _ _ _ _ _ _⟩
end Go.Proofs.YtmfgjafdnopfbaaGreat

namespace Go.Proofs.YtmfgjafdnopfbaaGreat
open Go.RowKit
def Gate.zJ (ss : List Shp) (ms : List Mnd) (o : Ob) : Bool := Gate.zy ss o.kd && (decide (o.vs.length = (Gate.shapeOf ss o.kd).fs.length) && Gate.yh ss ms)
namespace Gate
theorem zcx {ss : List Shp} {v : ByteArray} (h : zy ss v = true) : ∃ i, ∃ hi : i < ss.length, shapeOf ss v = ss[i] := by
  unfold zy at h
  rw [List.any_eq_true] at h
  obtain ⟨x, hx, he⟩ := h
  unfold shapeOf
  cases hf : ss.find? (fun s => decide (s.kd = v)) with
  | none => rw [List.find?_eq_none] at hf; exact absurd he (hf x hx)
  | some y =>
    obtain ⟨i, hi, rfl⟩ := List.mem_iff_getElem.1 (List.mem_of_find?_eq_some hf)
    exact ⟨i, hi, rfl⟩
theorem je {ss : List Shp} {ms : List Mnd} {o : Ob} (h : zJ ss ms o = true) : o.vs.length = (shapeOf ss o.kd).fs.length /\ (shapeOf ss o.kd).fs.length <= 6 /\ (∀ q, q < (shapeOf ss o.kd).fs.length -> ∀ x ∈ yg (shapeOf ss o.kd) ms q, 0 <= x /\ x < (shapeOf ss o.kd).fs.length) /\ (zA (zi (shapeOf ss o.kd) ms) (shapeOf ss o.kd).fs.length).1 = true := by
  unfold zJ at h
  simp only [Bool.and_eq_true, decide_eq_true_eq] at h
  obtain ⟨hk, hl, hm⟩ := h
  obtain ⟨i, hi, e⟩ := zcx hk
  unfold yh at hm
  simp only [Bool.and_eq_true, decide_eq_true_eq] at hm
  obtain ⟨⟨⟨h12, hs⟩, ha⟩, hr⟩ := hm
  rw [e] at hl ⊢
  refine ⟨hl, zc4 hs i hi, zdj hs ha i hi, ?_⟩
  have := List.all_eq_true.1 hr ss[i] (List.getElem_mem hi)
  exact this
def jl (ss : List Shp) (ms : List Mnd) (o : Ob) : List ByteArray := zD (decided (shapeOf ss o.kd) ms) (zA (zi (shapeOf ss o.kd) ms) (shapeOf ss o.kd).fs.length).2.row o.vs
def yJ (ss : List Shp) (ms : List Mnd) (o : Ob) : List ByteArray := if zJ ss ms o = true then jl ss ms o else o.vs
theorem zas (ss : List Shp) (ms : List Mnd) (o : Ob) : (yJ ss ms o).length = o.vs.length := by
  unfold yJ
  split
  · exact qH _ _ _
  · rfl
end Gate
namespace Gate
def qA (ss : List Shp) (o : Ob) : Ob := ⟨o.kd, o.nm, o.tm, qG (shapeOf ss o.kd).fs o.vs, o.en, o.hs, o.vr⟩
def zC (ss : List Shp) (ms : List Mnd) (o : Ob) : List ByteArray := if zJ ss ms o = true then jl ss ms (qA ss o) else o.vs
theorem zc8 {ss : List Shp} {ms : List Mnd} {o : Ob} (h : zJ ss ms o = true) : (qA ss o).vs.length = o.vs.length := qo (je h).1
theorem qL (ss : List Shp) (ms : List Mnd) (o : Ob) : (zC ss ms o).length = o.vs.length := by
  unfold zC
  split
  · rename_i h; rw [<- zc8 h]; exact qH _ _ _
  · rfl
end Gate
theorem zfV {fs : List Fld} {vs : List ByteArray} (hf : zbL fs) (hv : ∀ s ∈ vs, s.size <= maxLen) (hl : vs.length = fs.length) : ∀ s ∈ Gate.qG fs vs, s.size <= maxLen := by
  intro s hm
  obtain ⟨i, hi, rfl⟩ := List.mem_iff_getElem.1 hm
  have h2 := Gate.qo hl
  have e : (Gate.qG fs vs)[i] = Gate.qY (fs[i]'(by omega)) (vs[i]'(by omega)) := by simp [Gate.qG]
  rw [e]
  unfold Gate.qY
  split
  · exact (hf.small i (by omega)).1.df
  · exact hv _ (List.getElem_mem _)
theorem zhn (o : Ob) (us : List ByteArray) (hnn : us.length = o.vs.length) (s : Shp) (ms : List Mnd) (fa ma ova oha : Option Addr) (fcap mcap cap cap' : Nat) (w : World) (hf : yc w fa s.fs) (hm : qg w ma ms) (hsm : o.Small) (ho : zZ w ova us) (ho' : zZ w oha o.hs) (hA : jO ova us) (hA' : jO oha o.hs) (hl : o.vs.length <= 1048576) (hl' : o.hs.length <= 1048576) (hc : o.vs.length = s.fs.length)
    (hml : ms.length <= 1048576) (hn : s.fs.length <= 6) (hrd : ∀ q, q < s.fs.length -> ∀ x ∈ Gate.yg s ms q, 0 <= x /\ x < s.fs.length) (hwk : (Gate.zA (Gate.zi s ms) s.fs.length).1 = true) :
    Calls Tryz.prog 19 #[.agg #[.string s.kd, .slice fa s.fs.length fcap], .slice ma ms.length mcap, .agg #[.string o.kd, .string o.nm, .string o.tm, .slice ova o.vs.length cap, .bool o.en, .slice oha o.hs.length cap', .int .i64 o.vr]] w
      fun e w' => ∃ a dap a' dap' m, e = .returned (.agg #[.string o.kd, .string o.nm, .string o.tm, .slice a o.vs.length dap, .bool o.en, .slice a' o.hs.length dap', .int .i64 o.vr]) /\ zk w.heap.size w' a (Gate.zD (Gate.decided s ms) (Gate.zA (Gate.zi s ms) s.fs.length).2.row us) /\ (∀ g, a = some g -> g.block < m) /\ w.heap.size <= m /\ zk m w' a' o.hs /\ Below w.heap.size w w' := by
  have h := zei ⟨o.kd, o.nm, o.tm, us, o.en, o.hs, o.vr⟩ s ms fa ma ova oha fcap mcap cap cap' w hf hm ⟨⟨hsm.kd, hsm.nm, hsm.tm⟩, ho, ho'⟩ hA hA' (by show us.length <= _; omega) hl' (by show us.length = _; omega) hml hn hrd hwk
  simp only [hnn] at h
  exact h
end Go.Proofs.YtmfgjafdnopfbaaGreat
