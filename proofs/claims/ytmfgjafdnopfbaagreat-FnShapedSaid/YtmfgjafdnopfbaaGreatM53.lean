import Derived.Test.YtmfgjafdnopfbaaGreatM41
import Derived.Test.YtmfgjafdnopfbaaGreatM51
import Derived.Test.YtmfgjafdnopfbaaGreatM38
import Derived.Test.YtmfgjafdnopfbaaGreatM39
import Derived.Test.YtmfgjafdnopfbaaGreatM27
import Derived.Test.YtmfgjafdnopfbaaGreatM25
import Derived.Test.YtmfgjafdnopfbaaGreatM31
import Derived.Test.YtmfgjafdnopfbaaGreatM52
namespace Go.Proofs.YtmfgjafdnopfbaaGreat
open Go.RowKit
theorem zdW {ss : List Shp} {ms : List Mnd} {o : Ob} (hm : ∀ i (h : i < ms.length), ms[i].Small) (ho : ∀ s ∈ o.vs, s.size <= maxLen) : ∀ s ∈ Gate.yJ ss ms o, s.size <= maxLen := by
  unfold Gate.yJ
  split
  · exact Gate.j6 hm _ _ ho
  · exact ho
theorem ze4 {ss : List Shp} {ms : List Mnd} {o : Ob} (hs : zdL ss) (hm : ∀ i (h : i < ms.length), ms[i].Small) (ho : ∀ s ∈ o.vs, s.size <= maxLen) : ∀ s ∈ Gate.zC ss ms o, s.size <= maxLen := by
  unfold Gate.zC
  split
  · rename_i h
    have hf := zet (o := o) hs ho
    have e : Gate.jh ss o = (Gate.qA ss o).vs := by
      unfold Gate.zJ at h
      simp only [Bool.and_eq_true, decide_eq_true_eq] at h
      unfold Gate.jh
      have hk : Gate.zT ss = true := by have h3 := h.2.2; unfold Gate.yh at h3; simp only [Bool.and_eq_true] at h3; exact h3.1.1.2
      rw [if_pos ⟨h.1, hk, h.2.1⟩]
      rfl
    rw [e] at hf
    exact Gate.j6 hm _ _ hf
  · exact ho
theorem jB.ob {o : Ob} {vs : List ByteArray} {w w' : World} {e : Ending} (h : jB o vs w e w') (a : Ob) (ha : a = Gate.qJ o vs) (hl : vs.length = o.vs.length) (hln : o.vs.length <= 1000) (hlh : o.hs.length <= 1000) (hs : o.Small) (hvs : ∀ s ∈ vs, s.size <= maxLen) (hhs : ∀ s ∈ o.hs, s.size <= maxLen) :
    ∃ x c y d, e = .returned (.agg #[.string a.kd, .string a.nm, .string a.tm, .slice x a.vs.length c, .bool a.en, .slice y a.hs.length d, .int .i64 a.vr]) /\ qX w' a x y /\ jO x a.vs /\ jO y a.hs /\ Below w.heap.size w w' := by
  obtain ⟨x, c, y, d, m, rfl, h1, h2, h3, h4, h5⟩ := h
  subst ha
  refine ⟨x, c, y, d, ?_, ⟨⟨hs.kd, hs.nm, hs.tm⟩, h1.at (by rw [hl]; unfold maxLen; omega) hvs, h4.at (by unfold maxLen; omega) hhs⟩, h1.ziN, h4.ziN, h5⟩
  show _ = Ending.returned (.agg #[.string o.kd, .string o.nm, .string o.tm, .slice x vs.length c, .bool o.en, .slice y o.hs.length d, .int .i64 o.vr])
  rw [hl]
theorem jW (a : Ob) (x y x' y' : Option Addr) (c d c' d' : Nat) (w : World) (h : qX w a x y) (h' : qX w a x' y') :
    Calls Tryz.prog 6 #[.agg #[.string a.kd, .string a.nm, .string a.tm, .slice x a.vs.length c, .bool a.en, .slice y a.hs.length d, .int .i64 a.vr], .agg #[.string a.kd, .string a.nm, .string a.tm, .slice x' a.vs.length c', .bool a.en, .slice y' a.hs.length d', .int .i64 a.vr]] w fun e w' => e = .returned (.bool true) /\ Below w.heap.size w w' :=
  zgE a.kd a.nm a.tm a.en a.vr a.vs a.hs x y x' y' c d c' d' w h.vals h.holds h'.vals h'.holds
theorem zh8 {w : World} {g k j : Nat} {v : Value} {ws : List ByteArray} (h : zZ w (some ⟨g, 0, none⟩) ws) (hne : g ≠ k) : zZ (w.setCell ⟨k, j, none⟩ v) (some ⟨g, 0, none⟩) ws :=
  ⟨h.len, h.small, fun hn => by
    obtain ⟨b, off, e, hb, hc⟩ := h.cells hn
    cases e
    refine ⟨g, 0, rfl, by rw [show (w.setCell ⟨k, j, none⟩ v).heap.size = w.heap.size by simp [World.setCell]]; exact hb, fun i hi => ?_⟩
    rw [World.cell?_of_block (a := ⟨g, 0 + i, none⟩) (yt hne)]
    exact hc i hi⟩
theorem za9 {lo k o : Nat} {w : World} {a : Option Addr} {ws : List ByteArray} {C : Array Value} {t : TypeId} {vs : List Value} (h : zk lo w a ws) (hC : w.heap[k]? = some (.cells C t)) (ht : t ≠ 9) : zk lo (w.setCells k o vs) a ws := by
  rcases h with h | ⟨g, C', h1, h2, h3, h4⟩
  · exact Or.inl h
  · exact Or.inr ⟨g, C', h1, h2, (zbk (fun e => by subst e; rw [hC] at h3; cases h3; exact ht rfl) _ _ _).trans h3, h4⟩
theorem jB.own {o : Ob} {vs : List ByteArray} {w w' : World} {e : Ending} (h : jB o vs w e w') (a : Ob) (ha : a = Gate.qJ o vs) (hl : vs.length = o.vs.length) :
    ∃ x c y d, e = .returned (.agg #[.string a.kd, .string a.nm, .string a.tm, .slice x a.vs.length c, .bool a.en, .slice y a.hs.length d, .int .i64 a.vr]) /\ (zk 0 w' x a.vs /\ zk 0 w' y a.hs) /\ Below w.heap.size w w' := by
  obtain ⟨x, c, y, d, m, rfl, h1, h2, h3, h4, h5⟩ := h
  subst ha
  refine ⟨x, c, y, d, ?_, ⟨h1.low (Nat.zero_le _), h4.low (Nat.zero_le _)⟩, h5⟩
  show _ = Ending.returned (.agg #[.string o.kd, .string o.nm, .string o.tm, .slice x vs.length c, .bool o.en, .slice y o.hs.length d, .int .i64 o.vr])
  rw [hl]
namespace Gate
theorem ziw {fs : List Fld} {v : ByteArray} (h : plain fs v = true) : ∃ j : Nat, j < fs.length /\ zG fs v = (j : Int) := by
  unfold zG
  cases hf : fs.findIdx? (fun f => decide (f.nm = v)) with
  | none =>
    rw [List.findIdx?_eq_none_iff] at hf
    have : fs.find? (fun f => decide (f.nm = v)) = none := by
      rw [List.find?_eq_none]
      intro x hx
      simpa using hf x hx
    rw [jI this] at h
    cases h
  | some k =>
    rw [List.findIdx?_eq_some_iff_getElem] at hf
    exact ⟨k, hf.1, rfl⟩
theorem zf9 {ss : List Shp} {ms : List Mnd} (hok : yh ss ms = true) (kd : ByteArray) : ∀ m ∈ ms, m.kd = kd -> (m.wh.toList.isEmpty = false -> ∃ j : Nat, j < (shapeOf ss kd).fs.length /\ zG (shapeOf ss kd).fs m.wh = (j : Int)) /\ (m.fr.toList.isEmpty = false -> ∃ j : Nat, j < (shapeOf ss kd).fs.length /\ zG (shapeOf ss kd).fs m.fr = (j : Int)) /\ (m.fr.toList.isEmpty = true -> m.pt.toList.isEmpty = false) := fun m hm e => by
  subst e
  unfold yh at hok
  simp only [Bool.and_eq_true] at hok
  have h1 := List.all_eq_true.1 hok.1.2 m hm
  unfold qZ jk at h1
  simp only [Bool.and_eq_true] at h1
  have hr : ∀ v, v ∈ zK m -> ∃ j : Nat, j < (shapeOf ss m.kd).fs.length /\ zG (shapeOf ss m.kd).fs v = (j : Int) := fun v hv => by
    have h2 := List.all_eq_true.1 h1.2.1.2 v hv
    unfold qK at h2
    simp only [Bool.and_eq_true] at h2
    exact ziw h2.2
  refine ⟨fun h => hr _ ?_, fun h => hr _ ?_, fun h => ?_⟩
  · unfold zK isSet; simp [h]
  · unfold zK isSet; simp [h]
  · have h2 := h1.2.2
    unfold yw isSet at h2
    rw [h] at h2
    cases hp : m.pt.toList.isEmpty with
    | false => rfl
    | true => rw [hp] at h2; simp at h2
theorem zgP {ss : List Shp} {ms : List Mnd} (hok : yh ss ms = true) (o : Ob) (hl : (shapeOf ss o.kd).fs.length = o.vs.length) (p : Nat) (v : ByteArray) (hp : p < (shapeOf ss o.kd).fs.length) (h : ms.findSome? (gives ⟨o.kd, (shapeOf ss o.kd).fs⟩ (zC ss ms o) p) = some v) : (zC ss ms o)[p]? = some v := by
  have hk : zy ss o.kd = true := by
    cases hk : zy ss o.kd with
    | true => rfl
    | false => rw [za1 ss o.kd hk] at hp; exact absurd hp (by simp [jD])
  have hm : zJ ss ms o = true := by unfold zJ; rw [hk, hok, decide_eq_true hl.symm]; rfl
  have e : (⟨o.kd, (shapeOf ss o.kd).fs⟩ : Shp) = shapeOf ss o.kd := by
    have := zeA hk
    cases hs : shapeOf ss o.kd with
    | mk k f => rw [hs] at this; simp at this; rw [this]
  rw [e] at h
  unfold zC at h ⊢
  rw [if_pos hm] at h ⊢
  have hlen := zc8 hm
  rcases zc9 (s := shapeOf ss o.kd) (vs := (qA ss o).vs) (zbA hm) (by rw [hlen]; exact hl.symm) p hp with ⟨h1, _⟩ | ⟨u, h1, h2⟩
  · have h3 := h1.symm.trans h
    cases h3
  · have h3 := h1.symm.trans h
    cases h3
    exact h2
end Gate
end Go.Proofs.YtmfgjafdnopfbaaGreat
