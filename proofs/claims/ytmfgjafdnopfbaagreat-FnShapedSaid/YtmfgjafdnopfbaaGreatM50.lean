import Derived.Test.YtmfgjafdnopfbaaGreatM49
namespace Go.Proofs.YtmfgjafdnopfbaaGreat
open Go.RowKit
abbrev zi8 (nm : ByteArray) (mo : Int) (mu fi : Bool) (df we : ByteArray) : Array Value := #[.string nm, .int .i64 1, .int .i64 1, .int .i64 mo, .slice none 0 0, .string ByteArray.empty, .int .i64 0, .bool mu, .bool fi, .string df, .string we]
abbrev zij (nm df : ByteArray) (a : Option Addr) (n c : Nat) : Array Value := #[.string nm, .int .i64 2, .int .i64 0, .int .i64 0, .slice a n c, .string ByteArray.empty, .int .i64 0, .bool false, .bool false, .string df, .string ByteArray.empty]
abbrev ziu (nm to : ByteArray) (ro : Int) : Array Value := #[.string nm, .int .i64 4, .int .i64 0, .int .i64 0, .slice none 0 0, .string to, .int .i64 ro, .bool false, .bool false, .string ByteArray.empty, .string ByteArray.empty]
theorem zfy (lo b : Nat) (w : World) (nm : ByteArray) (mo : Int) (mu fi : Bool) (df we : ByteArray) (h1 : nm.size <= 4000000) (h2 : df.size <= 4000000) (h3 : we.size <= 4000000) (h4 : 1 <= b /\ -(b : Int) <= mo /\ mo <= b) : yD lo b w #[.string nm, .int .i64 1, .int .i64 1, .int .i64 mo, .slice none 0 0, .string ByteArray.empty, .int .i64 0, .bool mu, .bool fi, .string df, .string we] :=
  ⟨_, _, _, _, _, _, _, _, _, _, _, _, _, rfl, h1, by omega, by omega, by omega, Or.inl rfl, by simp, by omega, h2, h3⟩
theorem zee (lo b : Nat) (w : World) (nm df : ByteArray) (a : Option Addr) {n c : Nat} (h1 : nm.size <= 4000000) (h2 : df.size <= 4000000) (h4 : 2 <= b) (h3 : yR lo b w (.slice a n c)) : yD lo b w #[.string nm, .int .i64 2, .int .i64 0, .int .i64 0, .slice a n c, .string ByteArray.empty, .int .i64 0, .bool false, .bool false, .string df, .string ByteArray.empty] :=
  ⟨_, _, _, _, _, _, _, _, _, _, _, _, _, rfl, h1, by omega, by omega, by omega, h3, by simp, by omega, h2, by simp⟩
theorem zgy (lo b : Nat) (w : World) (nm to : ByteArray) (ro : Int) (h1 : nm.size <= 4000000) (h2 : to.size <= 4000000) (h3 : 4 <= b /\ -(b : Int) <= ro /\ ro <= b) : yD lo b w #[.string nm, .int .i64 4, .int .i64 0, .int .i64 0, .slice none 0 0, .string to, .int .i64 ro, .bool false, .bool false, .string ByteArray.empty, .string ByteArray.empty] :=
  ⟨_, _, _, _, _, _, _, _, _, _, _, _, _, rfl, h1, by omega, by omega, by omega, Or.inl rfl, h2, by omega, by simp, by simp⟩
theorem zfL {lo b : Nat} {w : World} : ∀ (l : List (Array Value)), (∀ cs ∈ l, yD lo b w cs) -> (l.flatMap (·.toList)).length = l.length * 11 /\ ∀ j x, (l.flatMap (·.toList))[j]? = some x -> zcd lo b w (j % 11) x
  | [], _ => ⟨rfl, fun j x h => by simp at h⟩
  | cs :: l, h => by
    obtain ⟨h1, h2⟩ := zfL l fun c hc => h c (List.mem_cons_of_mem _ hc)
    obtain ⟨g1, g2⟩ := (h cs (List.mem_cons_self ..)).cell
    have e1 : cs.toList.length = 11 := by simpa using g1
    refine ⟨by rw [List.flatMap_cons, List.length_append, h1, e1, List.length_cons]; omega, fun j x hx => ?_⟩
    rw [List.flatMap_cons, List.getElem?_append, e1] at hx
    split at hx
    · rename_i hj
      rw [Nat.mod_eq_of_lt hj]
      exact g2 j x (by simpa using hx)
    · have := h2 _ x hx
      rwa [show (j - 11) % 11 = j % 11 by omega] at this
theorem zew (lo b : Nat) (w : World) (l : List (Array Value)) (h : ∀ cs ∈ l, yD lo b w cs) (hlo : lo <= w.heap.size) (hl : l.length <= 900) : qp lo b (w.alloc (.cells (l.flatMap (·.toList)).toArray 63)) (.slice (some ⟨w.heap.size, 0, none⟩) l.length l.length) :=
  jy lo 900 _ _ 11 l.length w _ hlo (by simpa using (zfL l h).1) (by unfold maxLen; omega) hl fun j x hx => zdf (zf lo b w _).s _ _ ((zfL l h).2 j x (by simpa using hx))
theorem zeF {lo b : Nat} {w : World} {k o : Nat} {v : Value} {C : Array Value} (hk : w.heap[k]? = some (.cells C 38)) : Keep lo b w (w.setCell ⟨k, o, none⟩ v) :=
  zaO hk ⟨fun e => by simp at e, fun e => by simp at e, fun e => by simp at e, fun e => by simp at e, fun e => by simp at e, fun e => by simp at e⟩
theorem zik (lo b g n : Nat) (w : World) (ss : List ByteArray) (hg : w.heap.size = g) (hn : ss.length = n * 6) (hlo : lo <= w.heap.size) (hl : n <= 1000) (hsm : ∀ s ∈ ss, s.size <= 4000000) : yE lo b (w.alloc (.cells (jJ ss) 56)) (.slice (some ⟨g, 0, none⟩) n n) := by
  subst hg
  exact jy lo 1000 _ _ 6 n w _ hlo (by simpa [jJ] using hn) (by unfold maxLen; omega) hl fun j x hx => by
    simp only [jJ, List.getElem?_toArray, List.getElem?_map] at hx
    cases h : ss[j]? with
    | none => rw [h] at hx; cases hx
    | some s => rw [h] at hx; cases hx; exact ⟨s, rfl, hsm s (List.mem_of_getElem? h)⟩
theorem zhE (lo b g : Nat) (w : World) (k1 k2 k3 : ByteArray) (v1 v2 v3 : Value) (hg : w.heap.size = g) (hlo : lo <= w.heap.size) (h1 : k1.size <= 4000000) (h2 : k2.size <= 4000000) (h3 : k3.size <= 4000000) (f1 : qp lo b w v1) (f2 : qp lo b w v2) (f3 : qp lo b w v3) : qM lo b (w.alloc (.cells #[.string k1, v1, .string k2, v2, .string k3, v3] 45)) (.slice (some ⟨g, 0, none⟩) 3 3) := by
  subst hg
  exact jy lo 1000 _ _ 2 3 w _ hlo (by simp) (by simp [maxLen]) (by omega) fun j x hx => by
    rcases j with _ | _ | _ | _ | _ | _ | j <;> simp at hx <;> subst hx
    · exact ⟨_, rfl, h1⟩
    · exact (zf _ _ _ _).f _ f1
    · exact ⟨_, rfl, h2⟩
    · exact (zf _ _ _ _).f _ f2
    · exact ⟨_, rfl, h3⟩
    · exact (zf _ _ _ _).f _ f3
theorem zhP (lo b g n : Nat) (w : World) (l : List (Array Value)) (hg : w.heap.size = g) (hn : l.length = n) (h : ∀ cs ∈ l, yD lo b w cs) (hlo : lo <= w.heap.size) (hl : l.length <= 900) : qp lo b (w.alloc (.cells (l.flatMap (·.toList)).toArray 63)) (.slice (some ⟨g, 0, none⟩) n n) := by
  subst hg
  subst hn
  exact zew lo b w l h hlo hl
theorem zfP {w w' : World} {o : Obj} (h : Below (w.alloc o).heap.size (w.alloc o) w') : Below w.heap.size w w' := ((Below.refl _ _).alloc (Nat.le_refl _) _).trans (h.mono (by simp))
theorem ji {a b c : World} (h : Below a.heap.size a b) (k : Below b.heap.size b c) : Below a.heap.size a c := h.trans (k.mono h.size)
theorem zhf (w : World) (o p : Obj) : Below w.heap.size w ((w.alloc o).alloc p) := ((Below.refl _ _).alloc (Nat.le_refl _) _).alloc (by simp) _
theorem zjb (w : World) (o p : Obj) : ((w.alloc o).alloc p).heap[w.heap.size + 1]? = some p := by have h := (MapKept.heap_alloc (w.alloc o) p).1; simpa using h
set_option maxRecDepth 10000 in
set_option maxHeartbeats 4000000 in
theorem zc2 (nm : ByteArray) (mo : Int) (mu fi : Bool) (df we : ByteArray) (w : World) :
    Calls Tryz.prog 78 #[.string nm, .int .i64 mo, .bool mu, .bool fi, .string df, .string we] w fun e w' => e = .returned (.agg #[.string nm, .int .i64 1, .int .i64 1, .int .i64 mo, .slice none 0 0, .string ByteArray.empty, .int .i64 0, .bool mu, .bool fi, .string df, .string we]) /\ Below w.heap.size w w' := by
  go_enter Tryz.func78, Tryz.ntmps78
  go_wp2_with fail
  refine bodyPost_ret (v := .agg #[.string nm, .int .i64 1, .int .i64 1, .int .i64 mo, .slice none 0 0, .string ByteArray.empty, .int .i64 0, .bool mu, .bool fi, .string df, .string we]) (by simp [results, Tryz.results78, go_sem]; try rfl) rfl ⟨rfl, ?_⟩
  exact (Below.refl _ _).alloc (Nat.le_refl _) _
set_option maxRecDepth 10000 in
set_option maxHeartbeats 4000000 in
theorem zcg (nm : ByteArray) (df : ByteArray) (a : Option Addr) (n c : Nat) (w : World) :
    Calls Tryz.prog 79 #[.string nm, .slice a n c, .string df] w fun e w' => e = .returned (.agg #[.string nm, .int .i64 2, .int .i64 0, .int .i64 0, .slice a n c, .string ByteArray.empty, .int .i64 0, .bool false, .bool false, .string df, .string ByteArray.empty]) /\ Below w.heap.size w w' := by
  go_enter Tryz.func79, Tryz.ntmps79
  go_wp2_with fail
  refine bodyPost_ret (v := .agg #[.string nm, .int .i64 2, .int .i64 0, .int .i64 0, .slice a n c, .string ByteArray.empty, .int .i64 0, .bool false, .bool false, .string df, .string ByteArray.empty]) (by simp [results, Tryz.results79, go_sem]; try rfl) rfl ⟨rfl, ?_⟩
  exact (Below.refl _ _).alloc (Nat.le_refl _) _
set_option maxRecDepth 10000 in
set_option maxHeartbeats 4000000 in
theorem zcy (nm to : ByteArray) (ro : Int) (w : World) :
    Calls Tryz.prog 80 #[.string nm, .string to, .int .i64 ro] w fun e w' => e = .returned (.agg #[.string nm, .int .i64 4, .int .i64 0, .int .i64 0, .slice none 0 0, .string to, .int .i64 ro, .bool false, .bool false, .string ByteArray.empty, .string ByteArray.empty]) /\ Below w.heap.size w w' := by
  go_enter Tryz.func80, Tryz.ntmps80
  go_wp2_with fail
  refine bodyPost_ret (v := .agg #[.string nm, .int .i64 4, .int .i64 0, .int .i64 0, .slice none 0 0, .string to, .int .i64 ro, .bool false, .bool false, .string ByteArray.empty, .string ByteArray.empty]) (by simp [results, Tryz.results80, go_sem]; try rfl) rfl ⟨rfl, ?_⟩
  exact (Below.refl _ _).alloc (Nat.le_refl _) _
set_option maxRecDepth 10000 in
set_option maxHeartbeats 8000000 in
theorem zfx (w : World) :
    Calls Tryz.prog 53 #[] w fun e w' => ∃ sa sc ma mc ta tc, e = .returned (.agg #[.slice sa 3 sc, .slice ma 3 mc, .slice ta 3 tc]) /\ qM w.heap.size 1000002 w' (.slice sa 3 sc) /\ yE w.heap.size 1000002 w' (.slice ma 3 mc) /\ Below w.heap.size w w' := by
  go_enter Tryz.func53, Tryz.ntmps53
  go_wp2_with fail
  refine yS (fun W => W.heap[w.heap.size]? = some (.cells #[.slice none 0 0, .slice none 0 0, .slice none 0 0] 38) /\ w.heap.size < W.heap.size /\ Below w.heap.size w W) ⟨(MapKept.heap_alloc w _).1, by simp, (Below.refl _ _).alloc (Nat.le_refl _) _⟩ ?_
  rintro W0 ⟨r0, z0, b0⟩
  refine (zc2 _ _ _ _ _ _ _).mono ?_
  rintro e w1 ⟨rfl, b1⟩
  go_wp2_with fail
  refine (zcg _ _ _ _ _ _).mono ?_
  rintro e w2 ⟨rfl, b2⟩
  have T2 := hid ((yO (lo := w.heap.size) (b := 1000002) b2).s _ (yH w.heap.size 1000002 w1 [⟨#[97]⟩, ⟨#[98]⟩, ⟨#[99]⟩] (by have := b0.size; have := b1.size; omega) (by simp) (by simp [maxLen]) (by simp +decide)))
  have c2 := ji b1 (zfP b2)
  clear b1 b2
  go_wp2_with fail
  refine yS (fun W => W.heap[w2.heap.size + 1]? = some (.cells #[.string ⟨#[98, 101, 114, 116, 104]⟩, .slice (some ⟨w2.heap.size, 0, none⟩) 2 2] 45) /\ w2.heap.size + 1 < W.heap.size /\ Below W0.heap.size W0 W /\ qp w.heap.size 1000002 W (.slice (some ⟨w2.heap.size, 0, none⟩) 2 2)) ⟨zjb _ _ _, by simp, ji c2 (zhf _ _ _), (zf _ _ _ _).f _ (zew w.heap.size 1000002 w2 [zi8 ⟨#[114, 111, 111, 109]⟩ 64 true false ⟨#[]⟩ ⟨#[114, 111, 111, 109]⟩, zij ⟨#[122, 111, 110, 101]⟩ ⟨#[97]⟩ (some ⟨w1.heap.size, 0, none⟩) 3 3] (by intro cs hcs; simp only [List.mem_cons, List.not_mem_nil, or_false] at hcs; rcases hcs with rfl | rfl <;> first | exact zfy _ _ _ _ _ _ _ _ _ (by decide) (by decide) (by decide) (by decide) | exact zee _ _ _ _ _ _ (by decide) (by decide) (by decide) T2.out | exact zgy _ _ _ _ _ _ (by decide) (by decide) (by decide)) (by have := b0.size; have := c2.size; omega) (by simp))⟩ ?_
  rintro W1 ⟨x1, y1, d1, F1⟩
  replace F1 := hid F1
  clear T2
  have hz2 : W0.heap.size <= w2.heap.size := c2.size
  clear c2
  refine (zc2 _ _ _ _ _ _ _).mono ?_
  rintro e w3 ⟨rfl, b3⟩
  go_wp2_with fail
  refine (zcg _ _ _ _ _ _).mono ?_
  rintro e w4 ⟨rfl, b4⟩
  go_wp2_with fail
  refine (zcy _ _ _ _).mono ?_
  rintro e w5 ⟨rfl, b5⟩
  go_wp2_with fail
  refine (zcy _ _ _ _).mono ?_
  rintro e w6 ⟨rfl, b6⟩
  go_wp2_with fail
  refine (zcy _ _ _ _).mono ?_
  rintro e w7 ⟨rfl, b7⟩
  have T4 := hid ((yO b7).s _ ((yO b6).s _ ((yO b5).s _ ((yO (lo := w.heap.size) (b := 1000002) b4).s _ (yH w.heap.size 1000002 w3 [⟨#[98, 105, 103]⟩, ⟨#[115, 109, 97, 108, 108]⟩] (by have := b0.size; have := d1.size; have := b3.size; omega) (by simp) (by simp [maxLen]) (by simp +decide))))))
  have c7 := ji b3 (ji (zfP b4) (ji b5 (ji b6 b7)))
  clear b3 b4 b5 b6 b7
  go_wp2_with fail
  refine yS (fun W => W.heap[w7.heap.size + 1]? = some (.cells #[.string ⟨#[106, 111, 98]⟩, .slice (some ⟨w7.heap.size, 0, none⟩) 5 5] 45) /\ w7.heap.size + 1 < W.heap.size /\ Below W1.heap.size W1 W /\ qp w.heap.size 1000002 W (.slice (some ⟨w7.heap.size, 0, none⟩) 5 5)) ⟨zjb _ _ _, by simp, ji c7 (zhf _ _ _), (zf _ _ _ _).f _ (zew w.heap.size 1000002 w7 [zi8 ⟨#[110, 101, 101, 100]⟩ 32 false false ⟨#[49]⟩ ⟨#[110, 101, 101, 100]⟩, zij ⟨#[109, 111, 100, 101]⟩ ⟨#[]⟩ (some ⟨w3.heap.size, 0, none⟩) 2 2, ziu ⟨#[111, 110]⟩ ⟨#[98, 101, 114, 116, 104]⟩ 1, ziu ⟨#[118, 111, 108]⟩ ⟨#[118, 111, 108]⟩ 2, ziu ⟨#[111, 102]⟩ ⟨#[106, 111, 98]⟩ 3] (by intro cs hcs; simp only [List.mem_cons, List.not_mem_nil, or_false] at hcs; rcases hcs with rfl | rfl | rfl | rfl | rfl <;> first | exact zfy _ _ _ _ _ _ _ _ _ (by decide) (by decide) (by decide) (by decide) | exact zee _ _ _ _ _ _ (by decide) (by decide) (by decide) T4.out | exact zgy _ _ _ _ _ _ (by decide) (by decide) (by decide)) (by have := b0.size; have := d1.size; have := c7.size; omega) (by simp))⟩ ?_
  rintro W2 ⟨x2, y2, d2, F2⟩
  replace F2 := hid F2
  clear T4
  have hz7 : W1.heap.size <= w7.heap.size := c7.size
  clear c7
  refine (zc2 _ _ _ _ _ _ _).mono ?_
  rintro e w8 ⟨rfl, b8⟩
  go_wp2_with fail
  refine (zcg _ _ _ _ _ _).mono ?_
  rintro e w9 ⟨rfl, b9⟩
  have T9 := hid ((yO (lo := w.heap.size) (b := 1000002) b9).s _ (yH w.heap.size 1000002 w8 [⟨#[102, 97, 115, 116]⟩, ⟨#[115, 108, 111, 119]⟩] (by have := b0.size; have := d1.size; have := d2.size; have := b8.size; omega) (by simp) (by simp [maxLen]) (by simp +decide)))
  have c9 := ji b8 (zfP b9)
  have HF := qO ((yO (ji d2 c9)).f _ F1.out) ((yO c9).f _ F2.out)
  clear F1 F2
  have X1 := ((ji d2 c9).block _ y1).trans x1
  have X2 := (c9.block _ y2).trans x2
  have X0 := ((ji d1 (ji d2 c9)).block _ z0).trans r0
  have HB : Hid (Below w.heap.size w w9) := ji b0 (ji d1 (ji d2 c9)) |>.mono (by omega)
  have e1 := fun j => cell_of_block (o := j) X1
  have e2 := fun j => cell_of_block (o := j) X2
  have e0 := fun j => cell_of_block (o := j) X0
  have f0 := fun j => za (o := j) X0
  have q1 : w2.heap.size + 1 < w9.heap.size := Nat.lt_of_lt_of_le y1 (ji d2 c9).size
  have q2 : w7.heap.size + 1 < w9.heap.size := Nat.lt_of_lt_of_le y2 c9.size
  have q0 : w.heap.size < w9.heap.size := Nat.lt_of_lt_of_le z0 (ji d1 (ji d2 c9)).size
  have gw20 : w2.heap.size < w9.heap.size := by omega
  have gw21 : w2.heap.size < w9.heap.size + 1 := by omega
  have gw22 : w2.heap.size < w9.heap.size + 1 + 1 := by omega
  have gw23 : w2.heap.size < w9.heap.size + 1 + 1 + 1 := by omega
  have gw24 : w2.heap.size < w9.heap.size + 1 + 1 + 1 + 1 := by omega
  have gw25 : w2.heap.size < w9.heap.size + 1 + 1 + 1 + 1 + 1 := by omega
  have gw70 : w7.heap.size < w9.heap.size := by omega
  have gw71 : w7.heap.size < w9.heap.size + 1 := by omega
  have gw72 : w7.heap.size < w9.heap.size + 1 + 1 := by omega
  have gw73 : w7.heap.size < w9.heap.size + 1 + 1 + 1 := by omega
  have gw74 : w7.heap.size < w9.heap.size + 1 + 1 + 1 + 1 := by omega
  have gw75 : w7.heap.size < w9.heap.size + 1 + 1 + 1 + 1 + 1 := by omega
  have gw0 : w.heap.size < w9.heap.size := by omega
  have gw1 : w.heap.size < w9.heap.size + 1 := by omega
  have gw2 : w.heap.size < w9.heap.size + 1 + 1 := by omega
  have gw3 : w.heap.size < w9.heap.size + 1 + 1 + 1 := by omega
  have gw4 : w.heap.size < w9.heap.size + 1 + 1 + 1 + 1 := by omega
  have gw5 : w.heap.size < w9.heap.size + 1 + 1 + 1 + 1 + 1 := by omega
  have HX0 := hid X0
  clear b8 b9 c9 x1 x2 r0 X0 X1 X2 d1 d2 b0 z0 y1 y2 hz2 hz7
  go_wp2_with fail
  have hz9 : w.heap.size <= w9.heap.size := by omega
  obtain ⟨V, hV⟩ : ∃ V, V = ((w9.setCell ⟨w.heap.size, 0, none⟩ (.slice (some ⟨w9.heap.size + 1 + 1 + 1 + 1, 0, none⟩) 3 3)).setCell ⟨w.heap.size, 1, none⟩ (.slice (some ⟨w9.heap.size + 1 + 1, 0, none⟩) 3 3)).setCell ⟨w.heap.size, 2, none⟩ (.slice (some ⟨w9.heap.size + 1 + 1 + 1, 0, none⟩) 3 3) := ⟨_, rfl⟩
  have hKV : Keep w.heap.size 1000002 w9 V := by rw [hV]; exact (zeF HX0.out).trans ((zeF (zu HX0.out _)).trans (zeF (zu (zu HX0.out _) _)))
  have hzV : V.heap.size = w9.heap.size := by rw [hV]; simp
  refine bodyPost_ret (v := .agg #[.slice (some ⟨w9.heap.size + 1 + 1 + 1 + 1, 0, none⟩) 3 3, .slice (some ⟨w9.heap.size + 1 + 1, 0, none⟩) 3 3, .slice (some ⟨w9.heap.size + 1 + 1 + 1, 0, none⟩) 3 3]) (by simp [results, Tryz.results53, go_sem, e0, gw0, gw1, gw2, gw3, gw4]) rfl ⟨_, _, _, _, _, _, rfl, ?_, ?_, ?_⟩
  · rw [<- hV]
    refine zhE _ _ _ _ _ _ _ _ _ _ (by simp [hzV]) (by simp [hzV]; omega) (by decide) (by decide) (by decide) ?_ ?_ ?_
    · exact (zf _ _ _ _).f _ ((zf _ _ _ _).f _ ((zf _ _ _ _).f _ ((zf _ _ _ _).f _ (hKV.f _ HF.out.1))))
    · exact (zf _ _ _ _).f _ ((zf _ _ _ _).f _ ((zf _ _ _ _).f _ ((zf _ _ _ _).f _ (hKV.f _ HF.out.2))))
    · refine (zf _ _ _ _).f _ ((zf _ _ _ _).f _ ((zf _ _ _ _).f _ (zhP w.heap.size 1000002 w9.heap.size 3 V [zi8 ⟨#[115, 105, 122, 101]⟩ 100 true true ⟨#[]⟩ ⟨#[100, 105, 115, 107]⟩, zij ⟨#[99, 108, 97, 115, 115]⟩ ⟨#[]⟩ (some ⟨w8.heap.size, 0, none⟩) 2 2, #[.string ⟨#[110, 111, 116, 101]⟩, .int .i64 3, .int .i64 1, .int .i64 20, .slice none 0 0, .string ⟨#[]⟩, .int .i64 0, .bool false, .bool false, .string ⟨#[]⟩, .string ⟨#[]⟩]] hzV rfl ?_ (by omega) (by simp))))
      intro cs hcs
      simp only [List.mem_cons, List.not_mem_nil, or_false] at hcs
      rcases hcs with rfl | rfl | rfl
      · exact zfy _ _ _ _ _ _ _ _ _ (by decide) (by decide) (by decide) (by decide)
      · exact zee _ _ _ _ _ _ (by decide) (by decide) (by decide) (hKV.s _ T9.out)
      · exact ⟨_, _, _, _, _, _, _, _, _, _, _, _, _, rfl, by decide, by decide, by decide, by decide, Or.inl rfl, by decide, by decide, by decide, by decide⟩
  · rw [<- hV]
    exact (zf _ _ _ _).m _ ((zf _ _ _ _).m _ (zik w.heap.size 1000002 (w9.heap.size + 1 + 1) 3 _ [⟨#[106, 111, 98]⟩, ⟨#[110, 101, 101, 100]⟩, ⟨#[109, 111, 100, 101]⟩, ⟨#[98, 105, 103]⟩, ⟨#[56]⟩, ⟨#[]⟩, ⟨#[118, 111, 108]⟩, ⟨#[110, 111, 116, 101]⟩, ⟨#[99, 108, 97, 115, 115]⟩, ⟨#[102, 97, 115, 116]⟩, ⟨#[]⟩, ⟨#[99, 108, 97, 115, 115]⟩, ⟨#[98, 101, 114, 116, 104]⟩, ⟨#[114, 111, 111, 109]⟩, ⟨#[122, 111, 110, 101]⟩, ⟨#[99]⟩, ⟨#[52]⟩, ⟨#[]⟩] (by simp [hzV]) rfl (by simp [hzV]; omega) (by omega) (by simp +decide)))
  · have h3 : w.heap.size <= w.heap.size := Nat.le_refl _
    iterate 5 refine Below.alloc ?_ (by first | (simp; omega) | simp) _
    iterate 3 refine Below.setCell ?_ h3 _
    exact HB.out
end Go.Proofs.YtmfgjafdnopfbaaGreat
