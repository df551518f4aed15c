import Derived.Test.YtmfgjafdnopfbaaGreatM53
namespace Go.Proofs.YtmfgjafdnopfbaaGreat
open Go.RowKit
set_option maxRecDepth 10000 in
set_option maxHeartbeats 8000000 in
theorem zd5 (ac : Option Addr) (m cc : Nat) (w : World) (hu : zcq w ac m) (hc : m <= cc) :
    Calls Tryz.prog 3 #[.slice ac m cc] w fun e w' => e = .returned (.bool true) /\ Below w.heap.size w w' := by
  have hml := hu.len
  unfold maxLen at hml
  by_cases hbig : m <= 1048576
  rotate_left
  · have hI : (1048576 : Int) < (m : Int) := by omega
    go_enter Tryz.func3, Tryz.ntmps3
    go_wp2_with fail
    go_ret
    exact ⟨rfl, Below.refl _ _⟩
  have hI : ¬ (1048576 : Int) < (m : Int) := by omega
  go_enter Tryz.func3, Tryz.ntmps3
  go_wp2_with fail
  refine (zez zgT ac m cc w hu hc).mono ?_
  rintro e w1 ⟨ss, ms, o, sa, ma, va, ha, sc, mc, vc, hc', rfl, hS, hM, hO, hOv, hOh, hnv, hnh, hlv, hlh, hlm, hls, hlf, hb1⟩
  obtain ⟨hc, rfl⟩ : ∃ x, x = hc' := ⟨_, rfl⟩
  have HD := yK hS hM (show qX w1 o va ha /\ jO va o.vs /\ jO ha o.hs from ⟨hO, hOv, hOh⟩)
  have HL := zae hlv hlh hlm (show ss.length <= 1000 /\ ∀ s ∈ ss, s.fs.length <= 900 from ⟨hls, hlf⟩)
  have HN := qO hnv hnh
  clear hS hM hO hOv hOh hnv hnh hlv hlh hlm hls hlf hu hml
  go_upto_region 4 with fail
  refine zn (fun W => Below w.heap.size w W /\ Below w1.heap.size w1 W /\ W.heap[w1.heap.size]? = some (.cells #[.string o.kd, .string o.nm, .string o.tm, .slice va o.vs.length vc, .bool o.en, .slice ha o.hs.length hc, .int .i64 o.vr] 27)) ⟨hb1.alloc hb1.size _, (Below.refl _ _).alloc (Nat.le_refl _) _, (MapKept.heap_alloc w1 _).1⟩ ?_
  rintro W2 hW2
  obtain ⟨kO, hkO⟩ : ∃ x, x = w1.heap.size := ⟨_, rfl⟩
  rw [<- hkO] at hW2 ⊢
  have hW2' : Below w.heap.size w W2 /\ Below w1.heap.size w1 W2 /\ W2.heap[kO]? = some (.cells #[.string o.kd, .string o.nm, .string o.tm, .slice va o.vs.length vc, .bool o.en, .slice ha o.hs.length hc, .int .i64 o.vr] 27) := ⟨hW2.1, by rw [<- hkO]; exact hW2.2.1, hW2.2.2⟩
  have HKO := hid (show w.heap.size <= kO by rw [hkO]; exact hb1.size)
  have H2 := hid hW2'
  have cO := fun j => cell_of_block (o := j) hW2.2.2
  clear hW2 hW2' hkO hb1
  go_wp2_with fail
  refine (zco sa ma sc mc ss ms o va ha vc hc W2 (HD.out.1.mono H2.out.2.1) (HD.out.2.1.mono H2.out.2.1) (HD.out.2.2.1.mono H2.out.2.1) HD.out.2.2.2.1 HD.out.2.2.2.2 (by have := HL.out; omega) (by have := HL.out; omega) (by have := HL.out; omega)).mono ?_
  rintro e w3 hp3
  obtain ⟨a, haE⟩ : ∃ a, a = Gate.qJ o (Gate.zC ss ms o) := ⟨_, rfl⟩
  have HSM : Hid ((∀ s ∈ Gate.zC ss ms o, s.size <= maxLen) /\ (∀ s ∈ o.hs, s.size <= maxLen) /\ (∀ s ∈ o.vs, s.size <= maxLen) /\ ∀ i (h : i < ms.length), ms[i].Small) := ⟨ze4 HD.out.1.smalls HD.out.2.1.small HD.out.2.2.1.vals.small, HD.out.2.2.1.holds.small, HD.out.2.2.1.vals.small, HD.out.2.1.small⟩
  have HOBO : Hid (∀ (vs : List ByteArray) (w w' : World) (e : Ending), jB o vs w e w' -> ∀ b : Ob, b = Gate.qJ o vs -> vs.length = o.vs.length -> (∀ s ∈ vs, s.size <= maxLen) -> ∃ x c y d, e = .returned (.agg #[.string b.kd, .string b.nm, .string b.tm, .slice x b.vs.length c, .bool b.en, .slice y b.hs.length d, .int .i64 b.vr]) /\ qX w' b x y /\ jO x b.vs /\ jO y b.hs /\ Below w.heap.size w w') := fun vs w w' e h b hb hl hvs => h.ob b hb hl HL.out.1 HL.out.2.1 HD.out.2.2.1.small hvs HSM.out.2.1
  have HOBA : Hid (∀ (vs : List ByteArray) (w w' : World) (e : Ending), jB a vs w e w' -> vs = Gate.zC ss ms o -> ∃ x c y d, e = .returned (.agg #[.string a.kd, .string a.nm, .string a.tm, .slice x a.vs.length c, .bool a.en, .slice y a.hs.length d, .int .i64 a.vr]) /\ qX w' a x y /\ jO x a.vs /\ jO y a.hs /\ Below w.heap.size w w') := fun vs w w' e h he => by
    subst he
    subst haE
    exact h.ob (Gate.qJ o (Gate.zC ss ms o)) rfl rfl (by show (Gate.zC ss ms o).length <= 1000; rw [Gate.qL]; exact HL.out.1) HL.out.2.1 ⟨HD.out.2.2.1.small.kd, HD.out.2.2.1.small.nm, HD.out.2.2.1.small.tm⟩ HSM.out.1 HSM.out.2.1
  obtain ⟨xa, ac', ya, ad, rfl, hA3, hxa, hya, hb3⟩ := HOBO.out _ _ _ _ hp3 a haE (Gate.qL ss ms o) HSM.out.1
  obtain ⟨ac, rfl⟩ : ∃ x, x = ac' := ⟨_, rfl⟩
  have hAl : a.vs.length = o.vs.length := by rw [haE]; exact Gate.qL ss ms o
  have hAh : a.hs.length = o.hs.length := by rw [haE]; rfl
  have HAL := qO hAl hAh
  have HAE := hid haE
  have H3 : Hid (Below w.heap.size w w3 /\ Below w1.heap.size w1 w3 /\ w3.heap[kO]? = some (.cells #[.string o.kd, .string o.nm, .string o.tm, .slice va o.vs.length vc, .bool o.en, .slice ha o.hs.length hc, .int .i64 o.vr] 27) /\ qX w3 a xa ya) := ⟨H2.out.1.trans (hb3.mono H2.out.1.size), H2.out.2.1.trans (hb3.mono H2.out.2.1.size), (hb3.block _ (Array.getElem?_eq_some_iff.1 H2.out.2.2).1).trans H2.out.2.2, hA3⟩
  have HXA := qO hxa hya
  clear hA3 hb3 hp3 haE hAl hAh cO H2 hxa hya
  go_upto_region 5 with fail
  refine zn (fun W => Below w.heap.size w W /\ Below w1.heap.size w1 W /\ W.heap[kO]? = some (.cells #[.string o.kd, .string o.nm, .string o.tm, .slice va o.vs.length vc, .bool o.en, .slice ha o.hs.length hc, .int .i64 o.vr] 27) /\ W.heap[w3.heap.size]? = some (.cells #[.string a.kd, .string a.nm, .string a.tm, .slice xa a.vs.length ac, .bool a.en, .slice ya a.hs.length ad, .int .i64 a.vr] 27) /\ qX W a xa ya) ⟨H3.out.1.alloc H3.out.1.size _, H3.out.2.1.alloc H3.out.2.1.size _, (((Below.refl _ w3).alloc (Nat.le_refl _) _).block kO (Array.getElem?_eq_some_iff.1 H3.out.2.2.1).1).trans H3.out.2.2.1, (MapKept.heap_alloc w3 _).1, H3.out.2.2.2.mono ((Below.refl _ w3).alloc (Nat.le_refl _) _)⟩ ?_
  rintro W4 ⟨h41, h42, h43, h44, h45⟩
  obtain ⟨kA, hkA⟩ : ∃ x, x = w3.heap.size := ⟨_, rfl⟩
  rw [<- hkA] at h44 ⊢
  have HB : Hid (∀ W, Below W4.heap.size W4 W -> ((∀ j, W.cell? ⟨kO, j, none⟩ = (#[.string o.kd, .string o.nm, .string o.tm, .slice va o.vs.length vc, .bool o.en, .slice ha o.hs.length hc, .int .i64 o.vr] : Array Value)[j]?) /\ (∀ j, W.cell? ⟨kA, j, none⟩ = (#[.string a.kd, .string a.nm, .string a.tm, .slice xa a.vs.length ac, .bool a.en, .slice ya a.hs.length ad, .int .i64 a.vr] : Array Value)[j]?)) /\ (yG W sa ss /\ qg W ma ms) /\ (qX W o va ha /\ qX W a xa ya) /\ Below w.heap.size w W) := fun W h => ⟨⟨fun j => cell_of_block ((h.block _ (Array.getElem?_eq_some_iff.1 h43).1).trans h43), fun j => cell_of_block ((h.block _ (Array.getElem?_eq_some_iff.1 h44).1).trans h44)⟩, ⟨(HD.out.1.mono h42).mono h, (HD.out.2.1.mono h42).mono h⟩, ⟨(HD.out.2.2.1.mono h42).mono h, h45.mono h⟩, h41.trans (h.mono h41.size)⟩
  have HW := zae HD.out.2.2.2.1 HD.out.2.2.2.2 HXA.out.1 HXA.out.2
  have HSL := qO HD.out.1.smalls HD.out.2.2.1.small
  have HOC := qO h43 h44
  clear h41 h42 h43 h44 h45 hkA H3 HXA HD HKO
  have H10 : Hid (Below W4.heap.size W4 W4.drew) := (Below.refl _ W4).drew
  refine yV (fun w' => (∀ j, w'.cell? ⟨kO, j, none⟩ = (#[.string o.kd, .string o.nm, .string o.tm, .slice va o.vs.length vc, .bool o.en, .slice ha o.hs.length hc, .int .i64 o.vr] : Array Value)[j]?) /\ (∀ j, w'.cell? ⟨kA, j, none⟩ = (#[.string a.kd, .string a.nm, .string a.tm, .slice xa a.vs.length ac, .bool a.en, .slice ya a.hs.length ad, .int .i64 a.vr] : Array Value)[j]?)) [] (by kernel_rfl) (HB.out _ H10.out).1 (fun hHeld => ?_)
  obtain ⟨v10, hVe⟩ : ∃ x, x = W4.drew := ⟨_, rfl⟩
  rw [<- hVe] at H10 hHeld ⊢
  clear hVe
  refine mD 0 (cs := (#[.string a.kd, .string a.nm, .string a.tm, .slice xa a.vs.length ac, .bool a.en, .slice ya a.hs.length ad, .int .i64 a.vr] : Array Value).toList) (b := kA) (o := 0) (fun w' h j v hv => by rw [Nat.zero_add, h.2 j]; simpa using hv) Tryz.underlying27 rfl (by show _ = some 7; kernel_rfl) ?_
  refine tD 1 ?_; refine tD 2 ?_
  refine mD 3 (cs := (#[.string o.kd, .string o.nm, .string o.tm, .slice va o.vs.length vc, .bool o.en, .slice ha o.hs.length hc, .int .i64 o.vr] : Array Value).toList) (b := kO) (o := 0) (fun w' h j v hv => by rw [Nat.zero_add, h.1 j]; simpa using hv) Tryz.underlying27 rfl (by show _ = some 7; kernel_rfl) ?_
  refine cD 4 fun K hK => ?_
  go_simp
  refine (zeK sa ma sc mc ss ms o va ha vc hc v10 (HB.out _ H10.out).2.1.1 (HB.out _ H10.out).2.1.2 (HB.out _ H10.out).2.2.1.1 HW.out.1 HW.out.2.1 HN.out.1 HN.out.2 (by have := HL.out; omega) (by have := HL.out; omega)).mono ?_
  rintro e w11 hp
  obtain ⟨x5, c5, y5, d5, rfl, hO5, -, -, hb11⟩ := HOBO.out _ _ _ _ hp a HAE.out (Gate.qL ss ms o) HSM.out.1
  have HO5 := hid hO5
  clear hp hO5
  have H11 : Hid (Below W4.heap.size W4 w11) := H10.out.trans (hb11.mono H10.out.size)
  (try go_wp2_with fail)
  refine hK.out _ _ (fun _ => (HB.out _ H11.out).1) (fun hHeld => ?_)
  clear hK K hb11
  (try simp only [Act.put, sA, s0, sS])
  replace hHeld := hHeld (by decide)
  refine cD 5 fun K hK => ?_
  go_simp
  refine (jW a xa ya x5 y5 ac ad c5 d5 w11 (HB.out _ H11.out).2.2.1.2 HO5.out).mono ?_
  rintro e w12 ⟨rfl, hb12⟩
  have H12 : Hid (Below W4.heap.size W4 w12) := H11.out.trans (hb12.mono H11.out.size)
  (try go_wp2_with fail)
  refine hK.out _ _ (fun _ => (HB.out _ H12.out).1) (fun hHeld => ?_)
  clear hK K hb12
  (try simp only [Act.put, sA, s0, sS])
  replace hHeld := hHeld (by decide)
  refine tD 6 ?_; refine tD 7 ?_; refine tD 8 ?_; refine tD 9 ?_
  refine mD 10 (cs := (#[.string a.kd, .string a.nm, .string a.tm, .slice xa a.vs.length ac, .bool a.en, .slice ya a.hs.length ad, .int .i64 a.vr] : Array Value).toList) (b := kA) (o := 0) (fun w' h j v hv => by rw [Nat.zero_add, h.2 j]; simpa using hv) Tryz.underlying27 rfl (by show _ = some 7; kernel_rfl) ?_
  refine mD 12 (cs := (#[.string a.kd, .string a.nm, .string a.tm, .slice xa a.vs.length ac, .bool a.en, .slice ya a.hs.length ad, .int .i64 a.vr] : Array Value).toList) (b := kA) (o := 0) (fun w' h j v hv => by rw [Nat.zero_add, h.2 j]; simpa using hv) Tryz.underlying27 rfl (by show _ = some 7; kernel_rfl) ?_
  refine cD 11 fun K hK => ?_
  go_simp
  refine (zco sa ma sc mc ss ms a xa ya ac ad w12 (HB.out _ H12.out).2.1.1 (HB.out _ H12.out).2.1.2 (HB.out _ H12.out).2.2.1.2 HW.out.2.2.1 HW.out.2.2.2 (by have := HL.out; have := HAL.out; omega) (by have := HL.out; have := HAL.out; omega) (by have := HL.out; omega)).mono ?_
  rintro e w13 hp
  obtain ⟨x6, c6, y6, d6, rfl, hO6, -, -, hb13⟩ := HOBA.out _ _ _ _ hp (by rw [HAE.out]; exact Gate.zfD ss ms o)
  have HO6 := hid hO6
  clear hp hO6
  have H13 : Hid (Below W4.heap.size W4 w13) := H12.out.trans (hb13.mono H12.out.size)
  (try go_wp2_with fail)
  refine hK.out _ _ (fun _ => (HB.out _ H13.out).1) (fun hHeld => ?_)
  clear hK K hb13
  (try simp only [Act.put, sA, s0, sS])
  replace hHeld := hHeld (by decide)
  refine cD 13 fun K hK => ?_
  go_simp
  refine (jW a x6 y6 xa ya c6 d6 ac ad w13 HO6.out (HB.out _ H13.out).2.2.1.2).mono ?_
  rintro e w14 ⟨rfl, hb14⟩
  have H14 : Hid (Below W4.heap.size W4 w14) := H13.out.trans (hb14.mono H13.out.size)
  (try go_wp2_with fail)
  refine hK.out _ _ (fun _ => (HB.out _ H14.out).1) (fun hHeld => ?_)
  clear hK K hb14
  (try simp only [Act.put, sA, s0, sS])
  replace hHeld := hHeld (by decide)
  refine tD 14 ?_; refine tD 15 ?_
  refine yx (by kernel_rfl) ?_ _
  clear hHeld HO5 HO6
  go_wp2_with fail
  refine (zca sa ma sc mc ss ms w14 (HB.out _ H14.out).2.1.1 (HB.out _ H14.out).2.1.2 (by have := HL.out; omega)).mono ?_
  rintro e w20 ⟨rfl, hb20⟩
  have H20 : Hid (Below W4.heap.size W4 w20) := H14.out.trans (hb20.mono H14.out.size)
  clear hb20
  cases hok : Gate.yh ss ms with
  | false =>
    have hn := Gate.zg0 hok o
    have hao : a = o := by rw [HAE.out, hn.1]; rfl
    have HNO := qO hn.2 hao
    clear hn hao hok
    go_upto_region 8 with fail
    have H30 : Hid (Below W4.heap.size W4 w20.drew) := H20.out.drew
    refine yV (fun w' => (∀ j, w'.cell? ⟨kO, j, none⟩ = (#[.string o.kd, .string o.nm, .string o.tm, .slice va o.vs.length vc, .bool o.en, .slice ha o.hs.length hc, .int .i64 o.vr] : Array Value)[j]?) /\ (∀ j, w'.cell? ⟨kA, j, none⟩ = (#[.string a.kd, .string a.nm, .string a.tm, .slice xa a.vs.length ac, .bool a.en, .slice ya a.hs.length ad, .int .i64 a.vr] : Array Value)[j]?)) [] (by kernel_rfl) (HB.out _ H30.out).1 (fun hHeld => ?_)
    obtain ⟨v30, hVe⟩ : ∃ x, x = w20.drew := ⟨_, rfl⟩
    rw [<- hVe] at H30 hHeld ⊢
    clear hVe
    refine mD 0 (cs := (#[.string a.kd, .string a.nm, .string a.tm, .slice xa a.vs.length ac, .bool a.en, .slice ya a.hs.length ad, .int .i64 a.vr] : Array Value).toList) (b := kA) (o := 0) (fun w' h j v hv => by rw [Nat.zero_add, h.2 j]; simpa using hv) Tryz.underlying27 rfl (by show _ = some 7; kernel_rfl) ?_
    refine mD 1 (cs := (#[.string o.kd, .string o.nm, .string o.tm, .slice va o.vs.length vc, .bool o.en, .slice ha o.hs.length hc, .int .i64 o.vr] : Array Value).toList) (b := kO) (o := 0) (fun w' h j v hv => by rw [Nat.zero_add, h.1 j]; simpa using hv) Tryz.underlying27 rfl (by show _ = some 7; kernel_rfl) ?_
    have h8 := jW a xa ya va ha ac ad vc hc v30 (HB.out _ H30.out).2.2.1.2 (by rw [HNO.out.2]; exact (HB.out _ H30.out).2.2.1.1)
    rw [show (#[.string a.kd, .string a.nm, .string a.tm, .slice va a.vs.length vc, .bool a.en, .slice ha a.hs.length hc, .int .i64 a.vr] : Array Value) = #[.string o.kd, .string o.nm, .string o.tm, .slice va o.vs.length vc, .bool o.en, .slice ha o.hs.length hc, .int .i64 o.vr] by rw [HNO.out.2]] at h8
    have H8 := hid h8
    clear h8
    refine cD 2 fun K hK => ?_
    go_simp
    refine (H8.out).mono ?_
    rintro e w31 ⟨rfl, hb31⟩
    have H31 : Hid (Below W4.heap.size W4 w31) := H30.out.trans (hb31.mono H30.out.size)
    (try go_wp2_with fail)
    refine hK.out _ _ (fun _ => (HB.out _ H31.out).1) (fun hHeld => ?_)
    clear hK K hb31
    (try simp only [Act.put, sA, s0, sS])
    replace hHeld := hHeld (by decide)
    refine tD 3 ?_; refine tD 4 ?_; refine tD 5 ?_
    refine mD 6 (cs := (#[.string o.kd, .string o.nm, .string o.tm, .slice va o.vs.length vc, .bool o.en, .slice ha o.hs.length hc, .int .i64 o.vr] : Array Value).toList) (b := kO) (o := 0) (fun w' h j v hv => by rw [Nat.zero_add, h.1 j]; simpa using hv) Tryz.underlying27 rfl (by show _ = some 7; kernel_rfl) ?_
    refine mD 8 (cs := (#[.string o.kd, .string o.nm, .string o.tm, .slice va o.vs.length vc, .bool o.en, .slice ha o.hs.length hc, .int .i64 o.vr] : Array Value).toList) (b := kO) (o := 0) (fun w' h j v hv => by rw [Nat.zero_add, h.1 j]; simpa using hv) Tryz.underlying27 rfl (by show _ = some 7; kernel_rfl) ?_
    refine cD 7 fun K hK => ?_
    go_simp
    refine (jE sa ma sc mc ss ms o va ha vc hc w31 (HB.out _ H31.out).2.1.1 (HB.out _ H31.out).2.1.2 (HB.out _ H31.out).2.2.1.1 HW.out.1 HW.out.2.1 (by have := HL.out; omega) (by have := HL.out; omega) (by have := HL.out; omega)).mono ?_
    rintro e w32 hp
    obtain ⟨x8, c8, y8, d8, rfl, hO8, -, -, hb32⟩ := HOBO.out _ _ _ _ hp o (by rw [HNO.out.1]; rfl) (by rw [HNO.out.1]) (by rw [HNO.out.1]; exact HSM.out.2.2.1)
    have HO8 := hid hO8
    clear hp hO8
    have H32 : Hid (Below W4.heap.size W4 w32) := H31.out.trans (hb32.mono H31.out.size)
    (try go_wp2_with fail)
    refine hK.out _ _ (fun _ => (HB.out _ H32.out).1) (fun hHeld => ?_)
    clear hK K hb32
    (try simp only [Act.put, sA, s0, sS])
    replace hHeld := hHeld (by decide)
    refine cD 9 fun K hK => ?_
    go_simp
    refine (jW o x8 y8 va ha c8 d8 vc hc w32 HO8.out (HB.out _ H32.out).2.2.1.1).mono ?_
    rintro e w33 ⟨rfl, hb33⟩
    have H33 : Hid (Below W4.heap.size W4 w33) := H32.out.trans (hb33.mono H32.out.size)
    (try go_wp2_with fail)
    refine hK.out _ _ (fun _ => (HB.out _ H33.out).1) (fun hHeld => ?_)
    clear hK K hb33
    (try simp only [Act.put, sA, s0, sS])
    replace hHeld := hHeld (by decide)
    refine tD 10 ?_; refine tD 11 ?_
    refine yx (by kernel_rfl) ?_ _
    clear hHeld HO8
    go_wp2_with fail
    go_ret
    exact ⟨rfl, (HB.out _ H33.out).2.2.2⟩
  | true =>
    have HOK := hid hok
    clear hok
    go_upto_region 9 with fail
    have H40 : Hid (Below W4.heap.size W4 w20.drew) := H20.out.drew
    refine yV (fun w' => (∀ j, w'.cell? ⟨kO, j, none⟩ = (#[.string o.kd, .string o.nm, .string o.tm, .slice va o.vs.length vc, .bool o.en, .slice ha o.hs.length hc, .int .i64 o.vr] : Array Value)[j]?) /\ (∀ j, w'.cell? ⟨kA, j, none⟩ = (#[.string a.kd, .string a.nm, .string a.tm, .slice xa a.vs.length ac, .bool a.en, .slice ya a.hs.length ad, .int .i64 a.vr] : Array Value)[j]?)) [] (by kernel_rfl) (HB.out _ H40.out).1 (fun hHeld => ?_)
    obtain ⟨v40, hVe⟩ : ∃ x, x = w20.drew := ⟨_, rfl⟩
    rw [<- hVe] at H40 hHeld ⊢
    clear hVe
    refine tD 0 ?_
    refine mD 1 (cs := (#[.string a.kd, .string a.nm, .string a.tm, .slice xa a.vs.length ac, .bool a.en, .slice ya a.hs.length ad, .int .i64 a.vr] : Array Value).toList) (b := kA) (o := 0) (fun w' h j v hv => by rw [Nat.zero_add, h.2 j]; simpa using hv) Tryz.underlying27 rfl (by show _ = some 7; kernel_rfl) ?_
    refine mD 3 (cs := (#[.string a.kd, .string a.nm, .string a.tm, .slice xa a.vs.length ac, .bool a.en, .slice ya a.hs.length ad, .int .i64 a.vr] : Array Value).toList) (b := kA) (o := 0) (fun w' h j v hv => by rw [Nat.zero_add, h.2 j]; simpa using hv) Tryz.underlying27 rfl (by show _ = some 7; kernel_rfl) ?_
    refine cD 2 fun K hK => ?_
    go_simp
    refine (zfF sa sc ss a xa ya ac ad v40 (HB.out _ H40.out).2.1.1 (HB.out _ H40.out).2.2.1.2 HW.out.2.2.1 HW.out.2.2.2 (by have := HL.out; have := HAL.out; omega) (by have := HL.out; have := HAL.out; omega)).mono ?_
    rintro e w41 hp
    obtain ⟨x9, c9, y9, d9, rfl, hO9, -, -, hb41⟩ := HOBA.out _ _ _ _ hp (by rw [HAE.out]; exact Gate.zgd HOK.out o)
    have HO9 := hid hO9
    clear hp hO9
    have H41 : Hid (Below W4.heap.size W4 w41) := H40.out.trans (hb41.mono H40.out.size)
    (try go_wp2_with fail)
    refine hK.out _ _ (fun _ => (HB.out _ H41.out).1) (fun hHeld => ?_)
    clear hK K hb41
    (try simp only [Act.put, sA, s0, sS])
    replace hHeld := hHeld (by decide)
    refine cD 4 fun K hK => ?_
    go_simp
    refine (jW a x9 y9 xa ya c9 d9 ac ad w41 HO9.out (HB.out _ H41.out).2.2.1.2).mono ?_
    rintro e w42 ⟨rfl, hb42⟩
    have H42 : Hid (Below W4.heap.size W4 w42) := H41.out.trans (hb42.mono H41.out.size)
    (try go_wp2_with fail)
    refine hK.out _ _ (fun _ => (HB.out _ H42.out).1) (fun hHeld => ?_)
    clear hK K hb42
    (try simp only [Act.put, sA, s0, sS])
    replace hHeld := hHeld (by decide)
    refine tD 5 ?_; refine tD 6 ?_; refine tD 7 ?_; refine tD 8 ?_
    refine mD 9 (cs := (#[.string a.kd, .string a.nm, .string a.tm, .slice xa a.vs.length ac, .bool a.en, .slice ya a.hs.length ad, .int .i64 a.vr] : Array Value).toList) (b := kA) (o := 0) (fun w' h j v hv => by rw [Nat.zero_add, h.2 j]; simpa using hv) Tryz.underlying27 rfl (by show _ = some 7; kernel_rfl) ?_
    refine mD 11 (cs := (#[.string a.kd, .string a.nm, .string a.tm, .slice xa a.vs.length ac, .bool a.en, .slice ya a.hs.length ad, .int .i64 a.vr] : Array Value).toList) (b := kA) (o := 0) (fun w' h j v hv => by rw [Nat.zero_add, h.2 j]; simpa using hv) Tryz.underlying27 rfl (by show _ = some 7; kernel_rfl) ?_
    refine cD 10 fun K hK => ?_
    go_simp
    refine (jE sa ma sc mc ss ms a xa ya ac ad w42 (HB.out _ H42.out).2.1.1 (HB.out _ H42.out).2.1.2 (HB.out _ H42.out).2.2.1.2 HW.out.2.2.1 HW.out.2.2.2 (by have := HL.out; have := HAL.out; omega) (by have := HL.out; have := HAL.out; omega) (by have := HL.out; omega)).mono ?_
    rintro e w43 hp
    obtain ⟨x10, c10, y10, d10, rfl, hO10, -, -, hb43⟩ := HOBA.out _ _ _ _ hp (by rw [HAE.out]; exact Gate.zeT ss ms o)
    have HO10 := hid hO10
    clear hp hO10
    have H43 : Hid (Below W4.heap.size W4 w43) := H42.out.trans (hb43.mono H42.out.size)
    (try go_wp2_with fail)
    refine hK.out _ _ (fun _ => (HB.out _ H43.out).1) (fun hHeld => ?_)
    clear hK K hb43
    (try simp only [Act.put, sA, s0, sS])
    replace hHeld := hHeld (by decide)
    refine cD 12 fun K hK => ?_
    go_simp
    refine (jW a x10 y10 xa ya c10 d10 ac ad w43 HO10.out (HB.out _ H43.out).2.2.1.2).mono ?_
    rintro e w44 ⟨rfl, hb44⟩
    have H44 : Hid (Below W4.heap.size W4 w44) := H43.out.trans (hb44.mono H43.out.size)
    (try go_wp2_with fail)
    refine hK.out _ _ (fun _ => (HB.out _ H44.out).1) (fun hHeld => ?_)
    clear hK K hb44
    (try simp only [Act.put, sA, s0, sS])
    replace hHeld := hHeld (by decide)
    refine tD 13 ?_; refine tD 14 ?_
    refine yx (by kernel_rfl) ?_ _
    clear hHeld HO9 HO10
    have cO := (HB.out _ H44.out).1.1
    go_wp2_with fail
    refine (zgU sa sc ss o.kd w44 (HB.out _ H44.out).2.1.1).mono ?_
    rintro e w50 ⟨fa, fc, rfl, hF50, hb50⟩
    have H50 : Hid (Below W4.heap.size W4 w50 /\ yc w50 fa (Gate.shapeOf ss o.kd).fs) := ⟨H44.out.trans (hb50.mono H44.out.size), hF50⟩
    clear hF50 hb50 cO
    have cO := (HB.out _ H50.out.1).1.1
    have cA := (HB.out _ H50.out.1).1.2
    go_upto_region 12 with fail
    go_cut [86] from 10 (fun vx W => vx = .bool false /\ Hid (Below W4.heap.size W4 W))
    case first =>
      by_cases hlen : (Gate.shapeOf ss o.kd).fs.length = o.vs.length
      · have hlI : (((Gate.shapeOf ss o.kd).fs.length : Int) == (o.vs.length : Int)) = true := by rw [beq_iff_eq]; omega
        have HLE := hid hlen
        clear hlen
        have key := zfB ⟨a.kd, (Gate.shapeOf ss o.kd).fs⟩ ms a.vs a.nm a.tm a.en a.vr fa ma xa ya fc mc ac a.hs.length ad w50 H50.out.2 (HB.out _ H50.out.1).2.1.2 (HB.out _ H50.out.1).2.2.1.2.vals (by rw [HAL.out.1]; exact HLE.out.symm) (by show (Gate.shapeOf ss o.kd).fs.length <= 1000; rw [HLE.out]; exact HL.out.1) (by have := HL.out; omega) (by rw [HAE.out]; exact Gate.zf9 HOK.out o.kd) (by rw [HAE.out]; exact fun p v hp h => Gate.zgP HOK.out o HLE.out p v hp h)
        have KEY := hid key
        clear key
        go_wp2_with fail
        refine KEY.out.mono ?_
        rintro e w51 ⟨rfl, hb51⟩
        have H51 : Hid (Below W4.heap.size W4 w51) := H50.out.1.trans (hb51.mono H50.out.1.size)
        clear hb51 KEY
        go_wp2_with fail
        go_meet
        case rel => exact ⟨rfl, H51⟩
      · have hlI : (((Gate.shapeOf ss o.kd).fs.length : Int) == (o.vs.length : Int)) = false := by rw [beq_eq_false_iff_ne]; omega
        clear hlen
        go_wp2_with fail
        go_meet
        case rel => exact ⟨rfl, hid H50.out.1⟩
    case rest =>
      obtain ⟨rfl, H52⟩ := hcut
      obtain ⟨W52, rfl⟩ : ∃ x, x = wc := ⟨_, rfl⟩
      clear cO cA H50
      have cO := (HB.out _ H52.out).1.1
      go_upto_region 15 with fail
      refine zn (fun W => Below W4.heap.size W4 W /\ W.heap[W52.heap.size]? = some (.cells #[.string o.kd, .string o.nm, .string o.tm, .slice va o.vs.length vc, .bool o.en, .slice ha o.hs.length hc, .int .i64 o.vr] 27)) ⟨H52.out.alloc H52.out.size _, (MapKept.heap_alloc W52 _).1⟩ ?_
      rintro W53 ⟨h531, h532⟩
      obtain ⟨kP, hkP⟩ : ∃ x, x = W52.heap.size := ⟨_, rfl⟩
      rw [<- hkP] at h532 ⊢
      have hlP : W4.heap.size <= kP := by rw [hkP]; exact H52.out.size
      have H53 := qO h531 h532
      clear h531 h532 hkP H52 cO
      have cO := (HB.out _ H53.out.1).1.1
      go_wp2_with fail
      refine (zbK va vc o.vs W53 (HB.out _ H53.out.1).2.2.1.1.vals (by have := HL.out; omega)).mono ?_
      rintro e w54 ⟨gt, ct, rfl, hT54, hb54, hgt⟩
      have hgk : gt ≠ kP := by have := (Array.getElem?_eq_some_iff.1 H53.out.2).1; omega
      have h541 := H53.out.1.trans (hb54.mono H53.out.1.size)
      have h542 := (hb54.block _ (Array.getElem?_eq_some_iff.1 H53.out.2).1).trans H53.out.2
      have H54 := yK h541 h542 hT54
      have cP := fun j => cell_of_block (o := j) h542
      have fP := fun j => za (o := j) h542
      have zP := (Array.getElem?_eq_some_iff.1 h542).1
      clear hb54 hT54 h541 h542 cO H53 hgt
      obtain ⟨q, hqE⟩ : ∃ q, q = Gate.qJ o o.vs.reverse := ⟨_, rfl⟩
      have hql : q.vs.length = o.vs.length := by rw [hqE]; exact List.length_reverse ..
      have HQ : Hid (q = Gate.qJ o o.vs.reverse /\ q.vs.length = o.vs.length) := ⟨hqE, hql⟩
      clear hqE hql
      go_upto_region 16 with fail
      have HC : Hid (((#[.string o.kd, .string o.nm, .string o.tm, .slice va o.vs.length vc, .bool o.en, .slice ha o.hs.length hc, .int .i64 o.vr] : Array Value).setIfInBounds 3 (.slice (some ⟨gt, 0, none⟩) o.vs.length ct)) = #[.string q.kd, .string q.nm, .string q.tm, .slice (some ⟨gt, 0, none⟩) q.vs.length ct, .bool q.en, .slice ha q.hs.length hc, .int .i64 q.vr]) := by
        unfold Hid
        rw [HQ.out.2, HQ.out.1]
        rfl
      refine zn (fun W => Below W4.heap.size W4 W /\ W.heap[kP]? = some (.cells #[.string q.kd, .string q.nm, .string q.tm, .slice (some ⟨gt, 0, none⟩) q.vs.length ct, .bool q.en, .slice ha q.hs.length hc, .int .i64 q.vr] 27) /\ qX W q (some ⟨gt, 0, none⟩) ha) ⟨H54.out.1.setCell (p := ⟨kP, 3, none⟩) hlP _, by rw [zu H54.out.2.1, HC.out], ?_⟩ ?_
      · have ho := (HB.out _ (H54.out.1.setCell (p := ⟨kP, 3, none⟩) hlP (.slice (some ⟨gt, 0, none⟩) o.vs.length ct))).2.2.1.1
        rw [HQ.out.1]
        refine ⟨⟨ho.small.kd, ho.small.nm, ho.small.tm⟩, ?_, ho.holds⟩
        exact zh8 H54.out.2.2 hgk
      rintro W55 ⟨h551, h552, h553⟩
      have hqs : q.Small := h553.small
      have HQS := yK hqs (show (∀ s ∈ q.vs, s.size <= maxLen) from h553.vals.small) (show (∀ s ∈ q.hs, s.size <= maxLen) from h553.holds.small)
      have HB2 : Hid (∀ W, Below W55.heap.size W55 W -> ((∀ j, W.cell? ⟨kO, j, none⟩ = (#[.string o.kd, .string o.nm, .string o.tm, .slice va o.vs.length vc, .bool o.en, .slice ha o.hs.length hc, .int .i64 o.vr] : Array Value)[j]?) /\ (∀ j, W.cell? ⟨kP, j, none⟩ = (#[.string q.kd, .string q.nm, .string q.tm, .slice (some ⟨gt, 0, none⟩) q.vs.length ct, .bool q.en, .slice ha q.hs.length hc, .int .i64 q.vr] : Array Value)[j]?)) /\ (yG W sa ss /\ qg W ma ms) /\ (qX W o va ha /\ qX W q (some ⟨gt, 0, none⟩) ha) /\ Below w.heap.size w W) := fun W h => by
        have hw4 := h551.trans (h.mono h551.size)
        have hq := HB.out _ hw4
        exact ⟨⟨hq.1.1, fun j => cell_of_block ((h.block _ (Array.getElem?_eq_some_iff.1 h552).1).trans h552)⟩, hq.2.1, ⟨hq.2.2.1.1, h553.mono h⟩, hq.2.2.2⟩
      have hqh : q.hs.length = o.hs.length := by rw [HQ.out.1]; rfl
      have HQL := qO (show q.vs.length <= 1000 by rw [HQ.out.2]; exact HL.out.1) (show q.hs.length <= 1000 by rw [hqh]; exact HL.out.2.1)
      have HQO : Hid (jO (some ⟨gt, 0, none⟩) q.vs /\ jO ha q.hs) := ⟨Or.inr ⟨gt, 0, rfl⟩, by rw [HQ.out.1]; exact HW.out.2.1⟩
      clear h551 h552 h553 hqs hqh H54 cP fP zP HC
      obtain ⟨HB', hHB'⟩ : ∃ x : Unit, x = () := ⟨_, rfl⟩
      clear HB HB' hHB'
      have HB := HB2
      clear HB2
      have HRV : Hid (∀ vs, vs = Gate.yJ (Gate.qj ss) ms q -> vs.length = q.vs.length /\ ∀ s ∈ vs, s.size <= maxLen) := fun vs e => by
        subst e
        exact ⟨Gate.zas _ _ _, zdW HSM.out.2.2.2 HQS.out.2.1⟩
      obtain ⟨b, hbE⟩ : ∃ b, b = Gate.qJ q (Gate.yJ (Gate.qj ss) ms q) := ⟨_, rfl⟩
      have HBE := hid hbE
      clear hbE
      have HBS : Hid (∀ W x y, zk 0 W x b.vs -> zk 0 W y b.hs -> qX W b x y) := fun W x y h1 h2 => by
        have e1 := HBE.out
        refine ⟨by rw [e1]; exact ⟨HQS.out.1.kd, HQS.out.1.nm, HQS.out.1.tm⟩, h1.at ?_ ?_, h2.at ?_ ?_⟩
        · rw [e1]; show (Gate.yJ (Gate.qj ss) ms q).length <= maxLen; rw [(HRV.out _ rfl).1]; have := HQL.out; unfold maxLen; omega
        · rw [e1]; exact (HRV.out _ rfl).2
        · rw [e1]; show q.hs.length <= maxLen; have := HQL.out; unfold maxLen; omega
        · rw [e1]; exact HQS.out.2.2
      go_cut [9] from 10 (fun vx W => ∃ (kB : Nat) (xb : Option Addr) (cb : Nat) (yb : Option Addr) (db : Nat), vx = .pointer (some ⟨kB, 0, none⟩) /\ Hid (Below W55.heap.size W55 W /\ W.heap[kB]? = some (.cells #[.string b.kd, .string b.nm, .string b.tm, .slice xb b.vs.length cb, .bool b.en, .slice yb b.hs.length db, .int .i64 b.vr] 27) /\ qX W b xb yb))
      case first =>
        have H60 : Hid (Below W55.heap.size W55 W55.drew) := (Below.refl _ W55).drew
        refine yV (fun w' => (∀ j, w'.cell? ⟨kO, j, none⟩ = (#[.string o.kd, .string o.nm, .string o.tm, .slice va o.vs.length vc, .bool o.en, .slice ha o.hs.length hc, .int .i64 o.vr] : Array Value)[j]?) /\ (∀ j, w'.cell? ⟨kP, j, none⟩ = (#[.string q.kd, .string q.nm, .string q.tm, .slice (some ⟨gt, 0, none⟩) q.vs.length ct, .bool q.en, .slice ha q.hs.length hc, .int .i64 q.vr] : Array Value)[j]?)) [] (by kernel_rfl) (HB.out _ H60.out).1 (fun hHeld => ?_)
        obtain ⟨v60, hVe⟩ : ∃ x, x = W55.drew := ⟨_, rfl⟩
        rw [<- hVe] at H60 hHeld ⊢
        clear hVe
        refine tD 0 ?_; refine tD 2 ?_
        refine mD 3 (cs := (#[.string q.kd, .string q.nm, .string q.tm, .slice (some ⟨gt, 0, none⟩) q.vs.length ct, .bool q.en, .slice ha q.hs.length hc, .int .i64 q.vr] : Array Value).toList) (b := kP) (o := 0) (fun w' h j v hv => by rw [Nat.zero_add, h.2 j]; simpa using hv) Tryz.underlying27 rfl (by show _ = some 7; kernel_rfl) ?_
        refine c2D 1 5 (fun K hK => ?_) (fun K hK => ?_)
        ·
          go_simp
          refine (zeb sa sc ss v60 (HB.out _ H60.out).2.1.1 HL.out.2.2.2.1 HL.out.2.2.2.2).mono ?_
          rintro e w61 ⟨gr, cr, rfl, hR61, hb61⟩
          have HRR := hid hR61
          clear hR61
          have H61 : Hid (Below W55.heap.size W55 w61) := H60.out.trans (hb61.mono H60.out.size)
          (try go_wp2_with fail)
          refine hK.out _ _ (fun _ => (HB.out _ H61.out).1) (fun hHeld => ?_)
          clear hK K hb61
          (try simp only [Act.put, sA, s0, sS])
          replace hHeld := hHeld (by decide)
          refine c2D 4 5 (fun K hK => ?_) (fun K hK => ?_)
          ·
            go_simp
            have hmm := jE (some ⟨gr, 0, none⟩) ma cr mc (Gate.qj ss) ms q (some ⟨gt, 0, none⟩) ha ct hc w61 HRR.out (HB.out _ H61.out).2.1.2 (HB.out _ H61.out).2.2.1.2 HQO.out.1 HQO.out.2 (by have := HQL.out; omega) (by have := HQL.out; omega) (by have := HL.out; omega)
            rw [show (Gate.qj ss).length = ss.length by simp [Gate.qj]] at hmm
            refine hmm.mono ?_
            clear hmm
            rintro e w62 hp
            obtain ⟨xb, cb, yb, db, rfl, hO62, hb62⟩ := hp.own b HBE.out (HRV.out _ rfl).1
            have HOB := hid hO62
            clear hp hO62
            have H62 : Hid (Below W55.heap.size W55 w62) := H61.out.trans (hb62.mono H61.out.size)
            have HRR := hid (HRR.out.mono hb62)
            (try go_wp2_with fail)
            refine hK.out _ _ (fun _ => (HB.out _ H62.out).1) (fun hHeld => ?_)
            clear hK K hb62
            (try simp only [Act.put, sA, s0, sS])
            replace hHeld := hHeld (by decide)
            refine cD 5 fun K hK => ?_
            go_simp
            obtain ⟨w63, hw63⟩ : ∃ x, x = w62.alloc (.cells #[.string ⟨#[]⟩, .string ⟨#[]⟩, .string ⟨#[]⟩, .slice none 0 0, .bool false, .slice none 0 0, .int .i64 0] 27) := ⟨_, rfl⟩
            have hb63 : Below w62.heap.size w62 w63 := by rw [hw63]; exact (Below.refl _ _).alloc (Nat.le_refl _) _
            have HZB : Hid (w63.heap[w62.heap.size]? = some (.cells #[.string ⟨#[]⟩, .string ⟨#[]⟩, .string ⟨#[]⟩, .slice none 0 0, .bool false, .slice none 0 0, .int .i64 0] 27)) := by rw [hw63]; exact hid (MapKept.heap_alloc w62 _).1
            have HZL : Hid (W55.heap.size <= w62.heap.size) := H62.out.size
            have H63 : Hid (Below W55.heap.size W55 w63) := H62.out.trans (hb63.mono H62.out.size)
            have HRR := hid (HRR.out.mono hb63)
            have HOB := qO (HOB.out.1.mono hb63) (HOB.out.2.mono hb63)
            (try go_wp2_with fail)
            rw [<- hw63]
            refine hK.out _ _ (fun _ => (HB.out _ H63.out).1) (fun hHeld => ?_)
            clear hK K hb63 hw63
            (try simp only [Act.put, sA, s0, sS])
            replace hHeld := hHeld (by decide)
            refine cD 6 fun K hK => ?_
            refine wp_store_mid 27 (.tmp 9) (.tmp 96) rfl w62.heap.size 0 #[.string b.kd, .string b.nm, .string b.tm, .slice xb b.vs.length cb, .bool b.en, .slice yb b.hs.length db, .int .i64 b.vr] rfl rfl (zU HZB.out (by simp)) (by show _ = some 7; kernel_rfl) (by simp [Value.oneCell']) ?_
            have hq64 := jL HZL.out (#[.string b.kd, .string b.nm, .string b.tm, .slice xb b.vs.length cb, .bool b.en, .slice yb b.hs.length db, .int .i64 b.vr] : Array Value).toList 0 w63 H63.out
            refine hK.out _ _ (fun _ => (HB.out _ hq64).1) (fun _ => ?_)
            clear hK K hHeld
            (try simp only [Act.put])
            refine yx (by kernel_rfl) ?_ _
            refine jT (fun W => Below W55.heap.size W55 W /\ W.heap[w62.heap.size]? = some (.cells #[.string b.kd, .string b.nm, .string b.tm, .slice xb b.vs.length cb, .bool b.en, .slice yb b.hs.length db, .int .i64 b.vr] 27) /\ qX W b xb yb) ⟨hq64, zI (X := #[.string b.kd, .string b.nm, .string b.tm, .slice xb b.vs.length cb, .bool b.en, .slice yb b.hs.length db, .int .i64 b.vr]) HZB.out rfl, HBS.out _ _ _ (za9 HOB.out.1 HZB.out (by decide)) (za9 HOB.out.2 HZB.out (by decide))⟩ ?_
            rintro WZ hWZ
            have HZ := hid hWZ
            clear hWZ hq64 HZB HZL HOB H63
            go_wp2_with fail
            go_meet
            case rel => exact ⟨_, xb, cb, yb, db, rfl, HZ⟩
          ·
            go_simp
            obtain ⟨w65, hw65⟩ : ∃ x, x = w61.alloc (.cells #[.string ⟨#[]⟩, .string ⟨#[]⟩, .string ⟨#[]⟩, .slice none 0 0, .bool false, .slice none 0 0, .int .i64 0] 27) := ⟨_, rfl⟩
            have hb65 : Below w61.heap.size w61 w65 := by rw [hw65]; exact (Below.refl _ _).alloc (Nat.le_refl _) _
            have HZB : Hid (w65.heap[w61.heap.size]? = some (.cells #[.string ⟨#[]⟩, .string ⟨#[]⟩, .string ⟨#[]⟩, .slice none 0 0, .bool false, .slice none 0 0, .int .i64 0] 27)) := by rw [hw65]; exact hid (MapKept.heap_alloc w61 _).1
            have HZL : Hid (W55.heap.size <= w61.heap.size) := H61.out.size
            have H65 : Hid (Below W55.heap.size W55 w65) := H61.out.trans (hb65.mono H61.out.size)
            have HRR := hid (HRR.out.mono hb65)
            (try go_wp2_with fail)
            rw [<- hw65]
            refine hK.out _ _ (fun _ => (HB.out _ H65.out).1) (fun hHeld => ?_)
            clear hK K hb65 hw65
            (try simp only [Act.put, sA, s0, sS])
            replace hHeld := hHeld (by decide)
            refine cD 4 fun K hK => ?_
            go_simp
            have hmm := jE (some ⟨gr, 0, none⟩) ma cr mc (Gate.qj ss) ms q (some ⟨gt, 0, none⟩) ha ct hc w65 HRR.out (HB.out _ H65.out).2.1.2 (HB.out _ H65.out).2.2.1.2 HQO.out.1 HQO.out.2 (by have := HQL.out; omega) (by have := HQL.out; omega) (by have := HL.out; omega)
            rw [show (Gate.qj ss).length = ss.length by simp [Gate.qj]] at hmm
            refine hmm.mono ?_
            clear hmm
            rintro e w66 hp
            obtain ⟨xb, cb, yb, db, rfl, hO66, hb66⟩ := hp.own b HBE.out (HRV.out _ rfl).1
            have HOB := hid hO66
            clear hp hO66
            have H66 : Hid (Below W55.heap.size W55 w66) := H65.out.trans (hb66.mono H65.out.size)
            have HRR := hid (HRR.out.mono hb66)
            have HZB := hid ((hb66.block _ (Array.getElem?_eq_some_iff.1 HZB.out).1).trans HZB.out)
            (try go_wp2_with fail)
            refine hK.out _ _ (fun _ => (HB.out _ H66.out).1) (fun hHeld => ?_)
            clear hK K hb66
            (try simp only [Act.put, sA, s0, sS])
            replace hHeld := hHeld (by decide)
            refine cD 6 fun K hK => ?_
            refine wp_store_mid 27 (.tmp 9) (.tmp 96) rfl w61.heap.size 0 #[.string b.kd, .string b.nm, .string b.tm, .slice xb b.vs.length cb, .bool b.en, .slice yb b.hs.length db, .int .i64 b.vr] rfl rfl (zU HZB.out (by simp)) (by show _ = some 7; kernel_rfl) (by simp [Value.oneCell']) ?_
            have hq67 := jL HZL.out (#[.string b.kd, .string b.nm, .string b.tm, .slice xb b.vs.length cb, .bool b.en, .slice yb b.hs.length db, .int .i64 b.vr] : Array Value).toList 0 w66 H66.out
            refine hK.out _ _ (fun _ => (HB.out _ hq67).1) (fun _ => ?_)
            clear hK K hHeld
            (try simp only [Act.put])
            refine yx (by kernel_rfl) ?_ _
            refine jT (fun W => Below W55.heap.size W55 W /\ W.heap[w61.heap.size]? = some (.cells #[.string b.kd, .string b.nm, .string b.tm, .slice xb b.vs.length cb, .bool b.en, .slice yb b.hs.length db, .int .i64 b.vr] 27) /\ qX W b xb yb) ⟨hq67, zI (X := #[.string b.kd, .string b.nm, .string b.tm, .slice xb b.vs.length cb, .bool b.en, .slice yb b.hs.length db, .int .i64 b.vr]) HZB.out rfl, HBS.out _ _ _ (za9 HOB.out.1 HZB.out (by decide)) (za9 HOB.out.2 HZB.out (by decide))⟩ ?_
            rintro WZ hWZ
            have HZ := hid hWZ
            clear hWZ hq67 HZB HZL HOB H66
            go_wp2_with fail
            go_meet
            case rel => exact ⟨_, xb, cb, yb, db, rfl, HZ⟩
        ·
          go_simp
          obtain ⟨w68, hw68⟩ : ∃ x, x = v60.alloc (.cells #[.string ⟨#[]⟩, .string ⟨#[]⟩, .string ⟨#[]⟩, .slice none 0 0, .bool false, .slice none 0 0, .int .i64 0] 27) := ⟨_, rfl⟩
          have hb68 : Below v60.heap.size v60 w68 := by rw [hw68]; exact (Below.refl _ _).alloc (Nat.le_refl _) _
          have HZB : Hid (w68.heap[v60.heap.size]? = some (.cells #[.string ⟨#[]⟩, .string ⟨#[]⟩, .string ⟨#[]⟩, .slice none 0 0, .bool false, .slice none 0 0, .int .i64 0] 27)) := by rw [hw68]; exact hid (MapKept.heap_alloc v60 _).1
          have HZL : Hid (W55.heap.size <= v60.heap.size) := H60.out.size
          have H68 : Hid (Below W55.heap.size W55 w68) := H60.out.trans (hb68.mono H60.out.size)
          (try go_wp2_with fail)
          rw [<- hw68]
          refine hK.out _ _ (fun _ => (HB.out _ H68.out).1) (fun hHeld => ?_)
          clear hK K hb68 hw68
          (try simp only [Act.put, sA, s0, sS])
          replace hHeld := hHeld (by decide)
          refine cD 1 fun K hK => ?_
          go_simp
          refine (zeb sa sc ss w68 (HB.out _ H68.out).2.1.1 HL.out.2.2.2.1 HL.out.2.2.2.2).mono ?_
          rintro e w69 ⟨gr, cr, rfl, hR69, hb69⟩
          have HRR := hid hR69
          clear hR69
          have H69 : Hid (Below W55.heap.size W55 w69) := H68.out.trans (hb69.mono H68.out.size)
          have HZB := hid ((hb69.block _ (Array.getElem?_eq_some_iff.1 HZB.out).1).trans HZB.out)
          (try go_wp2_with fail)
          refine hK.out _ _ (fun _ => (HB.out _ H69.out).1) (fun hHeld => ?_)
          clear hK K hb69
          (try simp only [Act.put, sA, s0, sS])
          replace hHeld := hHeld (by decide)
          refine cD 4 fun K hK => ?_
          go_simp
          have hmm := jE (some ⟨gr, 0, none⟩) ma cr mc (Gate.qj ss) ms q (some ⟨gt, 0, none⟩) ha ct hc w69 HRR.out (HB.out _ H69.out).2.1.2 (HB.out _ H69.out).2.2.1.2 HQO.out.1 HQO.out.2 (by have := HQL.out; omega) (by have := HQL.out; omega) (by have := HL.out; omega)
          rw [show (Gate.qj ss).length = ss.length by simp [Gate.qj]] at hmm
          refine hmm.mono ?_
          clear hmm
          rintro e w70 hp
          obtain ⟨xb, cb, yb, db, rfl, hO70, hb70⟩ := hp.own b HBE.out (HRV.out _ rfl).1
          have HOB := hid hO70
          clear hp hO70
          have H70 : Hid (Below W55.heap.size W55 w70) := H69.out.trans (hb70.mono H69.out.size)
          have HRR := hid (HRR.out.mono hb70)
          have HZB := hid ((hb70.block _ (Array.getElem?_eq_some_iff.1 HZB.out).1).trans HZB.out)
          (try go_wp2_with fail)
          refine hK.out _ _ (fun _ => (HB.out _ H70.out).1) (fun hHeld => ?_)
          clear hK K hb70
          (try simp only [Act.put, sA, s0, sS])
          replace hHeld := hHeld (by decide)
          refine cD 6 fun K hK => ?_
          refine wp_store_mid 27 (.tmp 9) (.tmp 96) rfl v60.heap.size 0 #[.string b.kd, .string b.nm, .string b.tm, .slice xb b.vs.length cb, .bool b.en, .slice yb b.hs.length db, .int .i64 b.vr] rfl rfl (zU HZB.out (by simp)) (by show _ = some 7; kernel_rfl) (by simp [Value.oneCell']) ?_
          have hq71 := jL HZL.out (#[.string b.kd, .string b.nm, .string b.tm, .slice xb b.vs.length cb, .bool b.en, .slice yb b.hs.length db, .int .i64 b.vr] : Array Value).toList 0 w70 H70.out
          refine hK.out _ _ (fun _ => (HB.out _ hq71).1) (fun _ => ?_)
          clear hK K hHeld
          (try simp only [Act.put])
          refine yx (by kernel_rfl) ?_ _
          refine jT (fun W => Below W55.heap.size W55 W /\ W.heap[v60.heap.size]? = some (.cells #[.string b.kd, .string b.nm, .string b.tm, .slice xb b.vs.length cb, .bool b.en, .slice yb b.hs.length db, .int .i64 b.vr] 27) /\ qX W b xb yb) ⟨hq71, zI (X := #[.string b.kd, .string b.nm, .string b.tm, .slice xb b.vs.length cb, .bool b.en, .slice yb b.hs.length db, .int .i64 b.vr]) HZB.out rfl, HBS.out _ _ _ (za9 HOB.out.1 HZB.out (by decide)) (za9 HOB.out.2 HZB.out (by decide))⟩ ?_
          rintro WZ hWZ
          have HZ := hid hWZ
          clear hWZ hq71 HZB HZL HOB H70
          go_wp2_with fail
          go_meet
          case rel => exact ⟨_, xb, cb, yb, db, rfl, HZ⟩
      case rest =>
        obtain ⟨kB, xb, cb, yb, db, rfl, H70⟩ := hcut
        obtain ⟨W70, rfl⟩ : ∃ x, x = wc := ⟨_, rfl⟩
        have HB3 : Hid (∀ W, Below W70.heap.size W70 W -> ((∀ j, W.cell? ⟨kO, j, none⟩ = (#[.string o.kd, .string o.nm, .string o.tm, .slice va o.vs.length vc, .bool o.en, .slice ha o.hs.length hc, .int .i64 o.vr] : Array Value)[j]?) /\ (∀ j, W.cell? ⟨kB, j, none⟩ = (#[.string b.kd, .string b.nm, .string b.tm, .slice xb b.vs.length cb, .bool b.en, .slice yb b.hs.length db, .int .i64 b.vr] : Array Value)[j]?)) /\ (yG W sa ss /\ qg W ma ms) /\ (qX W o va ha /\ qX W b xb yb) /\ Below w.heap.size w W) := fun W h => by
          have hw4 := H70.out.1.trans (h.mono H70.out.1.size)
          have hq := HB.out _ hw4
          exact ⟨⟨hq.1.1, fun j => cell_of_block ((h.block _ (Array.getElem?_eq_some_iff.1 H70.out.2.1).1).trans H70.out.2.1)⟩, hq.2.1, ⟨hq.2.2.1.1, H70.out.2.2.mono h⟩, hq.2.2.2⟩
        clear HB
        have HB := HB3
        clear HB3
        have HBL := hid (show b.vs.length <= 1000 by rw [HBE.out]; show (Gate.yJ (Gate.qj ss) ms q).length <= 1000; rw [Gate.zas]; exact HQL.out.1)
        have HBR : Hid (b.vs.reverse = Gate.yJ ss ms o /\ b.vs.length = (Gate.yJ ss ms o).length) := by
          have h1 : b.vs.reverse = Gate.yJ ss ms o := by rw [HBE.out, HQ.out.1]; exact Gate.zhd HOK.out o
          exact ⟨h1, by rw [<- h1, List.length_reverse]⟩
        go_upto_region 17 with fail
        have H80 : Hid (Below W70.heap.size W70 W70.drew) := (Below.refl _ W70).drew
        refine yV (fun w' => (∀ j, w'.cell? ⟨kO, j, none⟩ = (#[.string o.kd, .string o.nm, .string o.tm, .slice va o.vs.length vc, .bool o.en, .slice ha o.hs.length hc, .int .i64 o.vr] : Array Value)[j]?) /\ (∀ j, w'.cell? ⟨kB, j, none⟩ = (#[.string b.kd, .string b.nm, .string b.tm, .slice xb b.vs.length cb, .bool b.en, .slice yb b.hs.length db, .int .i64 b.vr] : Array Value)[j]?)) [] (by kernel_rfl) (HB.out _ H80.out).1 (fun hHeld => ?_)
        obtain ⟨v80, hVe⟩ : ∃ x, x = W70.drew := ⟨_, rfl⟩
        rw [<- hVe] at H80 hHeld ⊢
        clear hVe
        refine tD 0 ?_; refine tD 1 ?_; refine tD 3 ?_; refine tD 4 ?_
        refine mD 5 (cs := (#[.string o.kd, .string o.nm, .string o.tm, .slice va o.vs.length vc, .bool o.en, .slice ha o.hs.length hc, .int .i64 o.vr] : Array Value).toList) (b := kO) (o := 0) (fun w' h j v hv => by rw [Nat.zero_add, h.1 j]; simpa using hv) Tryz.underlying27 rfl (by show _ = some 7; kernel_rfl) ?_
        refine cD 2 fun K hK => ?_
        go_simp
        refine (zbK xb cb b.vs v80 (HB.out _ H80.out).2.2.1.2.vals (by have := HBL.out; omega)).mono ?_
        rintro e w81 ⟨gu, cu, rfl, hT, hb81, -⟩
        have HT := hid hT
        clear hT
        have H81 : Hid (Below W70.heap.size W70 w81) := H80.out.trans (hb81.mono H80.out.size)
        (try go_wp2_with fail)
        refine hK.out _ _ (fun _ => (HB.out _ H81.out).1) (fun hHeld => ?_)
        clear hK K hb81
        (try simp only [Act.put, sA, s0, sS])
        replace hHeld := hHeld (by decide)
        refine cD 6 fun K hK => ?_
        go_simp
        refine (jE sa ma sc mc ss ms o va ha vc hc w81 (HB.out _ H81.out).2.1.1 (HB.out _ H81.out).2.1.2 (HB.out _ H81.out).2.2.1.1 HW.out.1 HW.out.2.1 (by have := HL.out; omega) (by have := HL.out; omega) (by have := HL.out; omega)).mono ?_
        rintro e w82 hp
        obtain ⟨x9, c9, y9, d9, m9, rfl, hO9, -, -, -, hb82⟩ := hp
        have HO9 := hid hO9
        clear hO9
        have H82 : Hid (Below W70.heap.size W70 w82) := H81.out.trans (hb82.mono H81.out.size)
        have HT := hid (HT.out.mono hb82)
        (try go_wp2_with fail)
        refine hK.out _ _ (fun _ => (HB.out _ H82.out).1) (fun hHeld => ?_)
        clear hK K hb82
        (try simp only [Act.put, sA, s0, sS])
        replace hHeld := hHeld (by decide)
        have hfd : ∀ w : World, (Instr.field 27 (.agg #[.string o.kd, .string o.nm, .string o.tm, .slice x9 o.vs.length c9, .bool o.en, .slice y9 o.hs.length d9, .int .i64 o.vr]) 3).run Tryz.prog w = .ok (.slice x9 o.vs.length c9) w := fun _ => by kernel_rfl
        refine tD 7 ?_
        clear hfd
        have hx := zc3 (some ⟨gu, 0, none⟩) x9 cu c9 (Gate.yJ ss ms o) w82 (by rw [<- HBR.out.1]; exact HT.out) (HO9.out.at (by rw [Gate.zas]; have := HL.out; unfold maxLen; omega) (zdW HSM.out.2.2.2 HSM.out.2.2.1))
        rw [show Value.slice (some ⟨gu, 0, none⟩) (Gate.yJ ss ms o).length cu = .slice (some ⟨gu, 0, none⟩) b.vs.length cu by rw [HBR.out.2], show Value.slice x9 (Gate.yJ ss ms o).length c9 = .slice x9 o.vs.length c9 by rw [Gate.zas]] at hx
        have HX := hid hx
        clear hx
        refine cD 8 fun K hK => ?_
        go_simp
        refine (HX.out).mono ?_
        rintro e w83 ⟨rfl, hb83⟩
        have H83 : Hid (Below W70.heap.size W70 w83) := H82.out.trans (hb83.mono H82.out.size)
        (try go_wp2_with fail)
        refine hK.out _ _ (fun _ => (HB.out _ H83.out).1) (fun hHeld => ?_)
        clear hK K hb83
        (try simp only [Act.put, sA, s0, sS])
        replace hHeld := hHeld (by decide)
        refine tD 9 ?_
        refine yx (by kernel_rfl) ?_ _
        clear hHeld HX HT HO9
        go_wp2_with fail
        go_ret
        exact ⟨rfl, (HB.out _ H83.out).2.2.2⟩
end Go.Proofs.YtmfgjafdnopfbaaGreat
