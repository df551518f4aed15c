import Derived.Test.YtmfgjafdnopfbaaGreatM50
import Derived.Test.YtmfgjafdnopfbaaGreatM31
import Derived.Deep.CutRange
import Derived.Maps.AppendAt
namespace Go.Proofs.YtmfgjafdnopfbaaGreat
open Go.RowKit
theorem ziA {lo lo2 b : Nat} {w : World} (hl : lo2 <= lo) (j : Nat) (x : Value) (h : zcd lo b w j x) : zcd lo2 b w j x := by
  rcases j with _ | _ | _ | _ | _ | _ | _ | _ | _ | _ | _ | j
  case succ.succ.succ.succ.zero => exact qE.low (show yR lo b w x from h) hl
  all_goals exact h
theorem ziI {lo lo2 b : Nat} {w : World} {v : Value} (hl : lo2 <= lo) (h : qp lo b w v) : qp lo2 b w v := (qE.imp h (ziA hl)).low hl
theorem ziv {lo lo2 b : Nat} {w : World} (hl : lo2 <= lo) (j : Nat) (x : Value) (h : zd3 lo b w j x) : zd3 lo2 b w j x := by
  rcases j with _ | _ | j
  · exact h
  · exact ziI hl h
  · exact h
theorem zfg {lo lo2 b : Nat} {w : World} {v : Value} (hl : lo2 <= lo) (h : qM lo b w v) : qM lo2 b w v := (qE.imp h (ziv hl)).low hl
def zb4 : Prop := ∀ (a : Option Addr) (n cap lo r p : Nat) (w : World), qM lo 1000002 w (.slice a n cap) -> n <= 900 -> p <= 20000 -> yF w r p -> r < lo -> lo <= w.heap.size ->
  Calls Tryz.prog 56 #[.pointer (some ⟨r, 0, none⟩), .slice a n cap] w fun e w' => ∃ (a' : Option Addr) (n' cap' p' : Nat), e = .returned (.slice a' n' cap') /\ yE lo 1000004 w' (.slice a' n' cap') /\ n' <= 900 /\ p' <= p + 200 /\ yF w' r p' /\ Below lo (clr r w) (clr r w') /\ ∀ b, Keep lo b w w'
set_option maxRecDepth 10000 in
set_option maxHeartbeats 4000000 in
theorem zh1 (hD : zb4) (lo r p : Nat) (w : World) (hp : p <= 10000) (hr : yF w r p) (hlo : r < lo) (hlw : lo <= w.heap.size) :
    Calls Tryz.prog 31 #[.pointer (some ⟨r, 0, none⟩)] w fun e w' => ∃ (a : Option Addr) (n cap : Nat) (a' : Option Addr) (n' cap' p' : Nat), e = .returned (.tuple #[.slice a n cap, .slice a' n' cap']) /\ qM lo 1000004 w' (.slice a n cap) /\ yE lo 1000004 w' (.slice a' n' cap') /\ p' <= p + 700 /\ yF w' r p' /\ Below lo (clr r w) (clr r w') := by
  go_enter Tryz.func31, Tryz.ntmps31
  go_wp2_with fail
  refine (zfx w).mono ?_
  rintro e w1 ⟨sa, sc, ma, mc, ta, tc, rfl, hS1, hM1, hb1⟩
  have H1 := yK ((St.start hr hlo hlw).below hb1) (zfg hlw hS1) (hM1.low hlw)
  clear hS1 hM1 hb1 hr
  go_upto_region 2 with fail
  refine zn (fun W => St lo r w p W.drew /\ qM lo 1000002 W.drew (.slice sa 3 sc) /\ yE lo 1000002 W.drew (.slice ma 3 mc) /\ W.drew.heap[w1.heap.size]? = some (.cells #[.slice sa 3 sc, .slice ma 3 mc, .slice ta 3 tc] 38)) ⟨(H1.out.1.alloc _).drew, (yY _ _ _).k _ ((zf _ _ _ _).k _ H1.out.2.1), (yY _ _ _).m _ ((zf _ _ _ _).m _ H1.out.2.2), (MapKept.heap_alloc w1 _).1⟩ ?_
  rintro W2 ⟨hS2, hV2, hM2, hC2⟩
  have H2 := yK hS2 hV2 hM2
  have cL := fun j => cell_of_block (o := j) hC2
  clear hS2 hV2 hM2 hC2 H1
  refine wp_region_held_drew (S := fun w' => ∀ j, w'.cell? ⟨w1.heap.size, j, none⟩ = (#[.slice sa 3 sc, .slice ma 3 mc, .slice ta 3 tc] : Array Value)[j]?) (by kernel_rfl) cL (fun hHeld => ?_)
  refine tG 0 ?_; refine tG 1 ?_; refine tG 2 ?_; refine tG 3 ?_; refine tG 4 ?_; refine tG 5 ?_
  refine wpAnyH_done (by kernel_rfl) ?_ _
  clear hHeld cL
  obtain ⟨V2, hV2⟩ : ∃ x, x = W2.drew := ⟨_, rfl⟩
  rw [<- hV2] at H2 ⊢
  clear hV2
  go_wp2_with fail
  refine (zQ 3 r p V2 (by omega) (by omega) (by omega) H2.out.1.rd).mono ?_
  rintro e w3 ⟨q3, rfl, hq3, hr3, D3⟩
  have H3 := yK (H2.out.1.call hr3 D3) ((zN hlo D3).k _ H2.out.2.1) ((zN (b := 1000002) hlo D3).m _ H2.out.2.2)
  clear hr3 D3 H2
  rcases Nat.eq_zero_or_pos q3 with h3 | h3
  · subst h3
    go_wp2_with fail
    refine (zQ 16 r (p + 1) w3 (by omega) (by omega) (by omega) H3.out.1.rd).mono ?_
    rintro e w6 ⟨q6, rfl, hq6, hr6, D6⟩
    have H6 := yK (H3.out.1.call hr6 D6) ((zN hlo D6).k _ H3.out.2.1) ((zN (b := 1000004) hlo D6).m _ H3.out.2.2)
    clear hr6 D6 H3
    by_cases e0 : q6 = 0
    · subst e0
      go_wp2_with fail
      refine (zbp sa 3 sc lo r (p + 1 + 1) w6 H6.out.2.1 (by omega) (by omega) H6.out.1.rd hlo H6.out.1.le).mono ?_
      rintro e w7 ⟨a7, n7, c7, p7, rfl, hV7, hn7, hp7, hr7, B7, hM7⟩
      have H7 := yK (H6.out.1.go hr7 B7) hV7 (hM7 _ H6.out.2.2)
      clear hr7 B7 hV7 hM7 H6
      go_wp2_with fail
      exact bodyPost_ret (v := .tuple #[.slice a7 n7 c7, .slice ma 3 mc]) (by simp [results, Tryz.results31, go_sem]) rfl ⟨a7, n7, c7, ma, 3, mc, p7, rfl, H7.out.2.1, H7.out.2.2, by omega, H7.out.1.rd, H7.out.1.fr⟩
    have n0 : ((q6 : Int) == 0) = false := by rw [beq_eq_false_iff_ne]; omega
    by_cases e1 : q6 = 1
    · subst e1
      go_wp2_with fail
      refine (zbE ma 3 mc lo r (p + 1 + 1) w6 H6.out.2.2 (by omega) (by omega) H6.out.1.rd hlo H6.out.1.le).mono ?_
      rintro e w7 ⟨a7, n7, c7, p7, rfl, hM7, hn7, hp7, hr7, B7, hK7⟩
      have H7 := yK (H6.out.1.go hr7 B7) (hK7.k _ (zaB (by omega) H6.out.2.1)) hM7
      clear hr7 B7 hM7 hK7 H6
      go_wp2_with fail
      exact bodyPost_ret (v := .tuple #[.slice sa 3 sc, .slice a7 n7 c7]) (by simp [results, Tryz.results31, go_sem]) rfl ⟨sa, 3, sc, a7, n7, c7, p7, rfl, H7.out.2.1, H7.out.2.2, by omega, H7.out.1.rd, H7.out.1.fr⟩
    have n1 : ((q6 : Int) == 1) = false := by rw [beq_eq_false_iff_ne]; omega
    go_wp2_with fail
    exact bodyPost_ret (v := .tuple #[.slice sa 3 sc, .slice ma 3 mc]) (by simp [results, Tryz.results31, go_sem]) rfl ⟨sa, 3, sc, ma, 3, mc, p + 1 + 1, rfl, zaB (by omega) H6.out.2.1, H6.out.2.2, by omega, H6.out.1.rd, H6.out.1.fr⟩
  · have h3I : (0 : Int) < (q3 : Int) := by omega
    go_wp2_with fail
    refine (zdI r (p + 1) w3 (by omega) H3.out.1.rd).mono ?_
    rintro e w4 ⟨da, dn, dc, p4, rfl, hV4, hn4, hp4, hr4, D4⟩
    have H4 := qO (H3.out.1.call hr4 D4) (zfg H3.out.1.le hV4)
    clear hr4 D4 hV4 H3
    go_wp2_with fail
    refine (hD da dn dc lo r p4 w4 H4.out.2 (by omega) (by omega) H4.out.1.rd hlo H4.out.1.le).mono ?_
    rintro e w5 ⟨ea, en, ec, p5, rfl, hM5, hn5, hp5, hr5, B5, hK5⟩
    have H5 := yK (H4.out.1.go hr5 B5) ((hK5 1000002).k _ H4.out.2) hM5
    clear hr5 B5 hM5 hK5 H4
    go_wp2_with fail
    refine (zQ 16 r (p5) w5 (by omega) (by omega) (by omega) H5.out.1.rd).mono ?_
    rintro e w6 ⟨q6, rfl, hq6, hr6, D6⟩
    have H6 := yK (H5.out.1.call hr6 D6) ((zN hlo D6).k _ H5.out.2.1) ((zN (b := 1000004) hlo D6).m _ H5.out.2.2)
    clear hr6 D6 H5
    by_cases e0 : q6 = 0
    · subst e0
      go_wp2_with fail
      refine (zbp da dn dc lo r (p5 + 1) w6 H6.out.2.1 (by omega) (by omega) H6.out.1.rd hlo H6.out.1.le).mono ?_
      rintro e w7 ⟨a7, n7, c7, p7, rfl, hV7, hn7, hp7, hr7, B7, hM7⟩
      have H7 := yK (H6.out.1.go hr7 B7) hV7 (hM7 _ H6.out.2.2)
      clear hr7 B7 hV7 hM7 H6
      go_wp2_with fail
      exact bodyPost_ret (v := .tuple #[.slice a7 n7 c7, .slice ea en ec]) (by simp [results, Tryz.results31, go_sem]) rfl ⟨a7, n7, c7, ea, en, ec, p7, rfl, H7.out.2.1, H7.out.2.2, by omega, H7.out.1.rd, H7.out.1.fr⟩
    have n0 : ((q6 : Int) == 0) = false := by rw [beq_eq_false_iff_ne]; omega
    by_cases e1 : q6 = 1
    · subst e1
      go_wp2_with fail
      refine (zbE ea en ec lo r (p5 + 1) w6 H6.out.2.2 (by omega) (by omega) H6.out.1.rd hlo H6.out.1.le).mono ?_
      rintro e w7 ⟨a7, n7, c7, p7, rfl, hM7, hn7, hp7, hr7, B7, hK7⟩
      have H7 := yK (H6.out.1.go hr7 B7) (hK7.k _ (zaB (by omega) H6.out.2.1)) hM7
      clear hr7 B7 hM7 hK7 H6
      go_wp2_with fail
      exact bodyPost_ret (v := .tuple #[.slice da dn dc, .slice a7 n7 c7]) (by simp [results, Tryz.results31, go_sem]) rfl ⟨da, dn, dc, a7, n7, c7, p7, rfl, H7.out.2.1, H7.out.2.2, by omega, H7.out.1.rd, H7.out.1.fr⟩
    have n1 : ((q6 : Int) == 1) = false := by rw [beq_eq_false_iff_ne]; omega
    go_wp2_with fail
    exact bodyPost_ret (v := .tuple #[.slice da dn dc, .slice ea en ec]) (by simp [results, Tryz.results31, go_sem]) rfl ⟨da, dn, dc, ea, en, ec, p5 + 1, rfl, zaB (by omega) H6.out.2.1, H6.out.2.2, by omega, H6.out.1.rd, H6.out.1.fr⟩
end Go.Proofs.YtmfgjafdnopfbaaGreat

namespace Go.Proofs.YtmfgjafdnopfbaaGreat
open Go.RowKit
theorem zck {B r lo : Nat} {w w' : World} (h : Below lo (clr r w) (clr r w')) (h1 : B <= r) (h2 : r < lo) : Below B w w' :=
  ⟨h.os, h.tape, h.output, by have := h.size; rwa [jA, jA] at this, fun k hk => by
    have h3 := h.block k (by omega)
    rwa [zam w (by omega), zam w' (by omega)] at h3⟩
theorem zgk {lo b k o : Nat} (h : k < lo) (w : World) (vs : List Value) : Keep lo b w (w.setCells k o vs) := (zaH fun k' hk _ => zbk (by omega) vs o w).keep
theorem zjd {lo b : Nat} {w : World} {kd nm tm : ByteArray} {va ha : Option Addr} {vn vc hn hc : Nat} {en : Bool} {vr : Int} (h : ObA lo b w #[.string kd, .string nm, .string tm, .slice va vn vc, .bool en, .slice ha hn hc, .int .i64 vr]) : ∃ o : Ob, o.kd = kd /\ o.nm = nm /\ o.tm = tm /\ o.vs.length = vn /\ o.en = en /\ o.hs.length = hn /\ o.vr = vr /\ qX w o va ha /\ jO va o.vs /\ jO ha o.hs /\ (va = none -> vc = 0) /\ (ha = none -> hc = 0) /\ o.vs.length <= 1000 /\ o.hs.length <= 1000 := by
  obtain ⟨_, _, _, _, _, _, _, _, _, _, _, e, h1, h2, h3, h4, h5, _⟩ := h
  cases e
  obtain ⟨vs, g1, g2, g3, g4, g5⟩ := zfE h4
  obtain ⟨hs, k1, k2, k3, k4, k5⟩ := zfE h5
  exact ⟨⟨kd, nm, tm, vs, en, hs, vr⟩, rfl, rfl, rfl, g1, rfl, k1, rfl, ⟨⟨jH h1, jH h2, jH h3⟩, g2, k2⟩, g3, k3, g4, k4, by rw [g1]; exact g5, by rw [k1]; exact k5⟩
theorem zg8 {lo b : Nat} {w : World} {a : Option Addr} {cap : Nat} {ss : List Shp} (h : qM lo b w (.slice a ss.length cap)) (hs : yG w a ss) : ss.length <= 1000 /\ ∀ s ∈ ss, s.fs.length <= 900 := by
  obtain ⟨_, _, _, e, hn, -⟩ := qE.slice h
  cases e
  refine ⟨hn, fun s hm => ?_⟩
  obtain ⟨i, hi, rfl⟩ := List.getElem_of_mem hm
  obtain ⟨g, kd, fa, fn, fc, C, rfl, -, -, -, -, c1, -, hf⟩ := qM.at h hi
  obtain ⟨b', off, e, -, hr⟩ := hs.rows (List.ne_nil_of_mem hm)
  cases e
  obtain ⟨fa', fc', hsh⟩ := hr i hi
  have e := hsh.list
  rw [Nat.zero_add, c1] at e
  cases e
  obtain ⟨_, _, _, e, hn, -⟩ := qE.slice hf
  cases e
  exact hn
def zgL (w : World) (e : Ending) (w' : World) : Prop := ∃ (ss : List Shp) (ms : List Mnd) (o : Ob) (sa ma va ha : Option Addr) (sc mc c c' : Nat), e = .returned (.tuple #[.slice sa ss.length sc, .slice ma ms.length mc, .agg #[.string o.kd, .string o.nm, .string o.tm, .slice va o.vs.length c, .bool o.en, .slice ha o.hs.length c', .int .i64 o.vr]]) /\ yG w' sa ss /\ qg w' ma ms /\ qX w' o va ha /\ jO va o.vs /\ jO ha o.hs /\ (va = none -> c = 0) /\ (ha = none -> c' = 0) /\ o.vs.length <= 1000 /\ o.hs.length <= 1000 /\ ms.length <= 1000 /\ ss.length <= 1000 /\ (∀ s ∈ ss, s.fs.length <= 900) /\ Below w.heap.size w w'
def zhV (w : World) (e : Ending) (w' : World) : Prop := ∃ (lo : Nat) (a : Option Addr) (n cap : Nat) (a' : Option Addr) (n' cap' : Nat) (cs : Array Value), w.heap.size <= lo /\ e = .returned (.tuple #[.slice a n cap, .slice a' n' cap', .agg cs]) /\ qM lo 1000004 w' (.slice a n cap) /\ yE lo 1000004 w' (.slice a' n' cap') /\ ObA lo 1000004 w' cs /\ Below w.heap.size w w'
set_option maxRecDepth 10000 in
set_option maxHeartbeats 4000000 in
theorem zep (hD : zb4) (ac : Option Addr) (m cc : Nat) (w : World) (hu : zcq w ac m) (hc : m <= cc) :
    Calls Tryz.prog 16 #[.slice ac m cc] w (zhV w) := by
  have hb0 := (Below.refl w.heap.size w).alloc (Nat.le_refl _) (.cells #[.string ⟨#[]⟩, .string ⟨#[]⟩, .string ⟨#[]⟩, .slice none 0 0, .bool false, .slice none 0 0, .int .i64 0] 27)
  go_enter Tryz.func16, Tryz.ntmps16
  go_wp2_with fail
  refine yS (fun W => zcq W ac m /\ Below w.heap.size w W /\ W.heap[w.heap.size]? = some (.cells #[.string ⟨#[]⟩, .string ⟨#[]⟩, .string ⟨#[]⟩, .slice none 0 0, .bool false, .slice none 0 0, .int .i64 0] 27)) ⟨hu.mono hb0, hb0, (MapKept.heap_alloc w _).1⟩ ?_
  rintro W0 ⟨hu0, hb, hR0⟩
  clear hb0
  refine (zgW ac m cc W0 hu0 hc).mono ?_
  rintro e w1 ⟨rfl, hr1, hb1⟩
  have hzR := (Array.getElem?_eq_some_iff.1 hR0).1
  have H1 := yK hr1 (hb.trans (hb1.mono hb.size)) ((hb1.block _ hzR).trans hR0)
  have hlt := hr1.lt
  clear hu0 hb hR0 hr1 hb1
  obtain ⟨r, hr⟩ : ∃ r, r = W0.heap.size := ⟨_, rfl⟩
  rw [<- hr] at H1 hlt hzR ⊢
  clear hr
  go_wp2_with fail
  refine (zh1 hD (r + 1) r 0 w1 (by omega) H1.out.1 (by omega) hlt).mono ?_
  rintro e w2 ⟨a, n, cap, a', n', cap', p2, rfl, hV2, hM2, hp2, hr2, B2⟩
  have hS2 : St (r + 1) r w1 p2 w2 := ⟨hr2, B2, by omega, hlt⟩
  have H2 := zae hV2 hM2 (H1.out.2.1.trans (zck B2 (by omega) (by omega))) hS2
  have hR2 := ((zck (B := r) B2 (Nat.le_refl _) (by omega)).block w.heap.size hzR).trans H1.out.2.2
  clear hV2 hM2 hr2 B2 hS2 H1
  go_wp2_with fail
  refine (zhs a n cap (r + 1) r p2 w2 H2.out.1 (by omega) H2.out.2.2.2.rd (by omega) H2.out.2.2.2.le).mono ?_
  rintro e w3 ⟨cs, p3, rfl, hA3, hp3, hr3, D3⟩
  have hk3 := zN (lo := r + 1) (b := 1000004) (Nat.lt_succ_self r) D3
  have H3 := zae (hk3.k _ H2.out.1) (hk3.m _ H2.out.2.1) (hA3.low H2.out.2.2.2.le) (H2.out.2.2.1.trans (zck (lo := w2.heap.size) D3 (by omega) (by have := H2.out.2.2.2.le; omega)))
  have hR3 := (zH D3 (Array.getElem?_eq_some_iff.1 hR2).1 (by omega)).trans hR2
  obtain ⟨kd, nm, tm, va, vn, vc, en, ha, hn, hc', vr, rfl, -⟩ := hA3
  have cR := fun j => cell_of_block (o := j) hR3
  have fR := fun j => za (o := j) hR3
  have zR := (Array.getElem?_eq_some_iff.1 hR3).1
  clear hr3 D3 hk3 H2 hR2
  go_wp2_with fail
  have hkf : Keep (r + 1) 1000004 w3 (w3.setCells w.heap.size 0 [.string kd, .string nm, .string tm, .slice va vn vc, .bool en, .slice ha hn hc', .int .i64 vr]) := zgk (by omega) _ _
  have hRF : (w3.setCells w.heap.size 0 [.string kd, .string nm, .string tm, .slice va vn vc, .bool en, .slice ha hn hc', .int .i64 vr]).heap[w.heap.size]? = some (.cells #[.string kd, .string nm, .string tm, .slice va vn vc, .bool en, .slice ha hn hc', .int .i64 vr] 27) := zI (X := #[.string kd, .string nm, .string tm, .slice va vn vc, .bool en, .slice ha hn hc', .int .i64 vr]) hR3 rfl
  have HF := zae (hkf.k _ H3.out.1) (hkf.m _ H3.out.2.1) (H3.out.2.2.1.qw hkf.s) (jL (Nat.le_refl _) [.string kd, .string nm, .string tm, .slice va vn vc, .bool en, .slice ha hn hc', .int .i64 vr] 0 w3 H3.out.2.2.2)
  clear hkf H3 cR fR zR hR3
  change bodyPost _ _ _ _ _ (w3.setCells w.heap.size 0 [.string kd, .string nm, .string tm, .slice va vn vc, .bool en, .slice ha hn hc', .int .i64 vr])
  revert hRF HF
  generalize w3.setCells w.heap.size 0 [.string kd, .string nm, .string tm, .slice va vn vc, .bool en, .slice ha hn hc', .int .i64 vr] = WF
  intro hRF HF
  have cR := fun j => cell_of_block (o := j) hRF
  refine bodyPost_ret (v := .tuple #[.slice a n cap, .slice a' n' cap', .agg #[.string kd, .string nm, .string tm, .slice va vn vc, .bool en, .slice ha hn hc', .int .i64 vr]]) (by simp [results, Tryz.results16, go_sem, cR]) rfl ?_
  exact ⟨r + 1, a, n, cap, a', n', cap', _, by omega, rfl, HF.out.1, HF.out.2.1, HF.out.2.2.1, HF.out.2.2.2⟩
set_option maxRecDepth 10000 in
set_option maxHeartbeats 4000000 in
theorem zez (hD : zb4) (ac : Option Addr) (m cc : Nat) (w : World) (hu : zcq w ac m) (hc : m <= cc) :
    Calls Tryz.prog 4 #[.slice ac m cc] w (zgL w) := by
  have hb0 := (Below.refl w.heap.size w).alloc (Nat.le_refl _) (.cells #[.string ⟨#[]⟩, .string ⟨#[]⟩, .string ⟨#[]⟩, .slice none 0 0, .bool false, .slice none 0 0, .int .i64 0] 27)
  go_enter Tryz.func4, Tryz.ntmps4
  go_wp2_with fail
  refine yS (fun W => zcq W ac m /\ Below w.heap.size w W /\ W.heap[w.heap.size]? = some (.cells #[.string ⟨#[]⟩, .string ⟨#[]⟩, .string ⟨#[]⟩, .slice none 0 0, .bool false, .slice none 0 0, .int .i64 0] 27)) ⟨hu.mono hb0, hb0, (MapKept.heap_alloc w _).1⟩ ?_
  rintro W0 ⟨hu0, hb, hR0⟩
  clear hb0
  have hzR := (Array.getElem?_eq_some_iff.1 hR0).1
  refine (zep hD ac m cc W0 hu0 hc).mono ?_
  rintro e w3 ⟨lo, a, n, cap, a', n', cap', cs, hlo, rfl, hV3, hM3, hA3, hb3⟩
  have H3 := zae hV3 hM3 hA3 (hb.trans (hb3.mono hb.size))
  have hR3 := (hb3.block _ hzR).trans hR0
  obtain ⟨kd, nm, tm, va, vn, vc, en, ha, hn, hc', vr, rfl, -⟩ := hA3
  have cR := fun j => cell_of_block (o := j) hR3
  have fR := fun j => za (o := j) hR3
  have zR := (Array.getElem?_eq_some_iff.1 hR3).1
  clear hu0 hb hR0 hV3 hM3 hb3
  go_wp2_with fail
  have hkf : Keep lo 1000004 w3 (w3.setCells w.heap.size 0 [.string kd, .string nm, .string tm, .slice va vn vc, .bool en, .slice ha hn hc', .int .i64 vr]) := zgk (by omega) _ _
  have hRF : (w3.setCells w.heap.size 0 [.string kd, .string nm, .string tm, .slice va vn vc, .bool en, .slice ha hn hc', .int .i64 vr]).heap[w.heap.size]? = some (.cells #[.string kd, .string nm, .string tm, .slice va vn vc, .bool en, .slice ha hn hc', .int .i64 vr] 27) := zI (X := #[.string kd, .string nm, .string tm, .slice va vn vc, .bool en, .slice ha hn hc', .int .i64 vr]) hR3 rfl
  have HF := zae (hkf.k _ H3.out.1) (hkf.m _ H3.out.2.1) (H3.out.2.2.1.qw hkf.s) (jL (Nat.le_refl _) [.string kd, .string nm, .string tm, .slice va vn vc, .bool en, .slice ha hn hc', .int .i64 vr] 0 w3 H3.out.2.2.2)
  clear hkf H3 cR fR zR hR3
  change bodyPost _ _ _ _ _ (w3.setCells w.heap.size 0 [.string kd, .string nm, .string tm, .slice va vn vc, .bool en, .slice ha hn hc', .int .i64 vr])
  revert hRF HF
  generalize w3.setCells w.heap.size 0 [.string kd, .string nm, .string tm, .slice va vn vc, .bool en, .slice ha hn hc', .int .i64 vr] = WF
  intro hRF HF
  have cR := fun j => cell_of_block (o := j) hRF
  refine bodyPost_ret (v := .tuple #[.slice a n cap, .slice a' n' cap', .agg #[.string kd, .string nm, .string tm, .slice va vn vc, .bool en, .slice ha hn hc', .int .i64 vr]]) (by simp [results, Tryz.results4, go_sem, cR]) rfl ?_
  obtain ⟨ss, hsl, hss⟩ := zhe HF.out.1
  obtain ⟨ms, hml, hms, hmn⟩ := zhl HF.out.2.1
  obtain ⟨o, q1, q2, q3, q4, q5, q6, q7, h1, h2, h3, h4, h5, h6, h7⟩ := zjd HF.out.2.2.1
  have hfew := zg8 (by rw [hsl]; exact HF.out.1) hss
  exact ⟨ss, ms, o, a, a', va, ha, cap, cap', vc, hc', by rw [hsl, hml, q1, q2, q3, q4, q5, q6, q7], hss, hms, h1, h2, h3, h4, h5, h6, h7, by rw [hml]; exact hmn, hfew.1, hfew.2, HF.out.2.2.2⟩
end Go.Proofs.YtmfgjafdnopfbaaGreat

namespace Go.Proofs.YtmfgjafdnopfbaaGreat
open Go.RowKit
theorem za7 {lo b : Nat} {w : World} {a : Option Addr} {n cap : Nat} {c : Option Addr} {m cp : Nat} {ty : TypeId} (hv : yE lo b w (.slice a n cap)) (hu : yE lo b w (.slice c m cp)) (hnm : n + m <= 1000) (hlo : lo <= w.heap.size) :
    ∃ a' cap' w', (Builtin.append_ #[24, 24] ty #[.slice a n cap, .slice c m cp]).run Tryz.prog w = .ok (.slice a' (n + m) cap') w' /\ yE lo b w' (.slice a' (n + m) cap') /\ Below lo w w' /\ w.grownBy w' (Value.slice a n cap).ownBlock /\ ∀ B2, Keep lo B2 w w' := by
  obtain ⟨i0, hi, hz0, hz1, hz2⟩ := info_parts Tryz.zeD
  have key := fun B2 => zbg lo 1000 B2 (fun _ => zbM) 24 ty 56 i0 _ 6 _ Tryz.underlying24 hi hz0 hz1 hz2 rfl (by omega) zgH (fun _ x _ h => zbj x h) w (fun j x h => ⟨fun e => by simp at e, fun e => by simp at e, fun e => by simp at e, fun _ => h, fun e => by simp at e, fun e => by simp at e⟩) a n cap c m cp hv hu (by omega) (by omega) hlo
  obtain ⟨a', cap', w', h1, h2, h3, h4, h5⟩ := key b
  refine ⟨a', cap', w', h1, h2.more hnm, (Below.refl lo w).grown h4 hlo fun k hk => ?_, h4, fun B2 => ?_⟩
  · rcases hv with h | ⟨g, _, _, _, h, h6, _⟩
    · cases h; cases hk
    · cases h; cases hk; exact h6
  · obtain ⟨a2, c2, w2, g1, _, g3, _⟩ := key B2
    have e := h1.symm.trans g1
    injection e with _ e2
    rw [e2]
    exact g3.keep
end Go.Proofs.YtmfgjafdnopfbaaGreat

namespace Go.Proofs.YtmfgjafdnopfbaaGreat
open Go.RowKit
section
variable {P : Program} {ops : Array Oper} {Q : Exit -> Act -> World -> Prop} {md : Region.Mode} {S : World -> Prop} {X : List Nat}
theorem c2D (i j : Nat) {oi oj : Oper} {fuel : Nat} {listed : Array Bool} {a : Act} {w : World}
    (h1 : ∀ K : Act -> World -> Prop, Shut (∀ a w, (i ∉ X -> S w) -> ((i ∉ X -> S w) -> jY P md ops Q S X fuel (listed.setIfInBounds i true) a w) -> K a w) -> Oper.wp P oi a w K Q)
    (h2 : ∀ K : Act -> World -> Prop, Shut (∀ a w, (j ∉ X -> S w) -> ((j ∉ X -> S w) -> jY P md ops Q S X fuel (listed.setIfInBounds j true) a w) -> K a w) -> Oper.wp P oj a w K Q)
    (hi : nth ops.toList i = some oi := by rfl) (hj : nth ops.toList j = some oj := by rfl) (hr : Region.ready md ops listed = [i, j] := by kernel_rfl)
    (hwi : Region.wanted oi (yielded ops a.tmps) = true := by rfl) (hwj : Region.wanted oj (yielded ops a.tmps) = true := by rfl) : jY P md ops Q S X (fuel + 1) listed a w :=
  ⟨fun h0 => (by rw [hr] at h0; cases h0), fun k hk => by
    rw [hr] at hk
    rcases (by simpa using hk : k = i \/ k = j) with e | e
    · subst e
      exact wpOp_step (jZ hi) (fun K hK => by rw [if_pos hwi]; exact h1 K (fun a w hS hW => hK a w ⟨hS, hW hS⟩))
    · subst e
      exact wpOp_step (jZ hj) (fun K hK => by rw [if_pos hwj]; exact h2 K (fun a w hS hW => hK a w ⟨hS, hW hS⟩))⟩
end
structure MX (lo r : Nat) (w0 : World) (v : Value) (B : List (Nat × Array Value × TypeId)) (T : World -> Prop) (p : Nat) (w : World) : Prop where
  st : St lo r w0 p w
  kp : ∀ b, Keep lo b w0 w
  row : yE lo 1000004 w v
  bx : ∀ x ∈ B, lo <= x.1 /\ x.2.2 ≠ 56 /\ w.heap[x.1]? = some (.cells x.2.1 x.2.2)
  tk : ∀ w w', (∀ b, Keep lo b w w') -> T w -> T w'
  ty : T w
section
variable {lo r : Nat} {w0 : World} {v : Value} {B : List (Nat × Array Value × TypeId)} {T : World -> Prop} {p p' : Nat} {w w' : World}
theorem MX.go (h : MX lo r w0 v B T p w) (hs : St lo r w0 p' w') (hk : ∀ b, Keep lo b w w') (hx : ∀ (k : Nat) (C : Array Value) (t : TypeId), lo <= k -> t ≠ 56 -> w.heap[k]? = some (.cells C t) -> w'.heap[k]? = some (.cells C t)) : MX lo r w0 v B T p' w' :=
  ⟨hs, fun b => (h.kp b).trans (hk b), (hk _).m _ h.row, fun x hm => ⟨(h.bx x hm).1, (h.bx x hm).2.1, hx _ _ _ (h.bx x hm).1 (h.bx x hm).2.1 (h.bx x hm).2.2⟩, h.tk, h.tk _ _ hk h.ty⟩
theorem MX.call (h : MX lo r w0 v B T p w) (hr : yF w' r p') (hd : Dr r w w') : MX lo r w0 v B T p' w' :=
  h.go (h.st.call hr hd) (fun _ => zN h.st.c1 hd) fun k _ _ hl _ hC => (zH hd (Array.getElem?_eq_some_iff.1 hC).1 (by have := h.st.c1; omega)).trans hC
theorem MX.below (h : MX lo r w0 v B T p w) (hb : Below w.heap.size w w') : MX lo r w0 v B T p w' :=
  h.go (h.st.below hb) (fun _ => yO hb) fun k _ _ _ _ hC => (hb.block k (Array.getElem?_eq_some_iff.1 hC).1).trans hC
theorem MX.alloc (h : MX lo r w0 v B T p w) (o : Obj) : MX lo r w0 v B T p (w.alloc o) := h.below ((Below.refl _ _).alloc (Nat.le_refl _) _)
theorem MX.drew (h : MX lo r w0 v B T p w) : MX lo r w0 v B T p w.drew := h.below (Below.refl _ _).drew
theorem MX.typed (h : MX lo r w0 v B T p w) {T' : World -> Prop} (hk : ∀ w w', (∀ b, Keep lo b w w') -> T' w -> T' w') (ht : T' w) : MX lo r w0 v B T' p w := ⟨h.st, h.kp, h.row, h.bx, hk, ht⟩
theorem MX.box (h : MX lo r w0 v B T p w) {k : Nat} {C : Array Value} {t : TypeId} (hl : lo <= k) (ht : t ≠ 56) (hC : w.heap[k]? = some (.cells C t)) : MX lo r w0 v ((k, C, t) :: B) T p w :=
  ⟨h.st, h.kp, h.row, fun x hm => by
    rcases List.mem_cons.1 hm with e | e
    · subst e; exact ⟨hl, ht, hC⟩
    · exact h.bx x e, h.tk, h.ty⟩
theorem MX.to (h : MX lo r w0 v B T p w) {u : Value} {B' : List (Nat × Array Value × TypeId)} (hu : yE lo 1000004 w u) (hB : ∀ x ∈ B', x ∈ B) : MX lo r w0 u B' T p w := ⟨h.st, h.kp, hu, fun x hm => h.bx x (hB x hm), h.tk, h.ty⟩
theorem MX.set (h : MX lo r w0 v B T p w) {k j : Nat} {s : ByteArray} {C : Array Value} (hl : lo <= k) (hC : w.heap[k]? = some (.cells C 56)) (hs : s.size <= 4000000) : MX lo r w0 v B T p (w.setCell ⟨k, j, none⟩ (.string s)) :=
  h.go (h.st.set hl) (fun b => zfe hC ⟨s, rfl, hs⟩) fun k' C' t _ ht hC' => (yt (fun e => by subst e; rw [hC] at hC'; cases hC'; exact ht rfl)).trans hC'
theorem MX.grow {o : Option Nat} (h : MX lo r w0 v B T p w) (hk : ∀ b, Keep lo b w w') (hb : Below lo w w') (hg : w.grownBy w' o) (ho : ∀ g C t, o = some g -> w.heap[g]? = some (.cells C t) -> t = 56) : MX lo r w0 v B T p w' :=
  h.go (h.st.down hb) hk fun k C t _ ht hC => (hg.block k (Array.getElem?_eq_some_iff.1 hC).1 fun e => ht (ho k C t e.symm hC)).trans hC
end
theorem zie {lo : Nat} {T U : World -> Prop} (h : ∀ w w', (∀ b, Keep lo b w w') -> T w -> T w') (k : ∀ w w', (∀ b, Keep lo b w w') -> U w -> U w') : ∀ w w', (∀ b, Keep lo b w w') -> (T w /\ U w) -> (T w' /\ U w') := fun w w' hk hx => ⟨h w w' hk hx.1, k w w' hk hx.2⟩
theorem ziV {lo b : Nat} {v : Value} : ∀ w w', (∀ b, Keep lo b w w') -> qp lo b w v -> qp lo b w' v := fun _ _ hk h => (hk b).f v h
theorem ziY {lo b : Nat} {cs : Array Value} : ∀ w w', (∀ b, Keep lo b w w') -> yD lo b w cs -> yD lo b w' cs := fun _ _ hk h => h.keep (hk b)
theorem zd8 {lo b : Nat} {v : Value} : ∀ w w', (∀ b, Keep lo b w w') -> yE lo b w v -> yE lo b w' v := fun _ _ hk h => (hk b).m v h
theorem zbD {lo b : Nat} {w : World} {a : Option Addr} {n cap : Nat} (h : yE lo b w (.slice a n cap)) : ∀ (g : Nat) (C : Array Value) (t : TypeId), (Value.slice a n cap).ownBlock = some g -> w.heap[g]? = some (.cells C t) -> t = 56 := fun g C t e hC => by
  rcases h with h | ⟨g', _, _, _, h, _, h7, _⟩
  · cases h; cases e
  · cases h; cases e; rw [hC] at h7; cases h7; rfl
theorem MX.field {lo r : Nat} {w0 : World} {v : Value} {B : List (Nat × Array Value × TypeId)} {T : World -> Prop} {p p' k : Nat} {V w' : World} {C cs : Array Value} (h0 : MX lo r w0 v B T p V) (hd : Dr r V w') (hr : yF w' r p') (hk : V.heap.size <= k) (hC : w'.heap[k]? = some (.cells C 63)) (h11 : C.size = 11) (hA : yD lo 1000002 w' cs) : MX lo r w0 v ((k, cs, 63) :: B) (fun W => T W /\ yD lo 1000002 W cs) p' (w'.setCells k 0 cs.toList) := by
  have hl := h0.st.le
  have h1 := h0.call (qU (o := 0) hr (show r < k by have := h0.st.c1; omega) cs.toList) (qR (o := 0) hd hk cs.toList)
  exact (h1.box (by omega) (by decide) (zI hC (by rw [h11, hA.cell.1]))).typed (zie h1.tk ziY) ⟨h1.ty, hA.qw (yj hC (by decide) _)⟩
theorem zdG {lo b : Nat} {w w' : World} {g m cp k cap' : Nat} {c a' : Option Addr} {ty : TypeId} (hg : w.heap[g]? = some (.cells #[] 56)) (hu : yE lo b w (.slice c m cp)) (hm : m <= 1000) (h : (Builtin.append_ #[24, 24] ty #[.slice (some ⟨g, 0, none⟩) 0 0, .slice c m cp]).run Tryz.prog w = .ok (.slice a' k cap') w') : (Value.slice a' k cap').ownBlock = some g \/ (Value.slice a' k cap').ownBlock = some w.heap.size := by
  obtain ⟨i0, hi, hz0, hz1, hz2⟩ := info_parts Tryz.zeD
  cases c with
  | none =>
    have hm : m = 0 /\ cp = 0 := by
      rcases hu with h | ⟨_, _, _, _, h, _⟩
      · cases h; exact ⟨rfl, rfl⟩
      · cases h
    obtain ⟨rfl, rfl⟩ := hm
    have e : (Builtin.append_ #[24, 24] ty #[.slice (some ⟨g, 0, none⟩) 0 0, .slice none 0 0]).run Tryz.prog w = .ok (.slice (some ⟨g, 0, none⟩) 0 0) w := by
      simp [Builtin.append_, run_underlying Tryz.underlying24, sizeOf, typeInfo, hi, Builtin.lenOf, Builtin.firstCells, storeCells, go_sem, Result.andThen]
    rw [e] at h
    injection h with h1 h2
    rw [<- h1]
    exact Or.inl rfl
  | some c0 =>
    obtain ⟨gu, Cu, rfl, u1, u2, u3, u4, u5, u6, u7, u8, u9, u10⟩ := qE.span hu
    obtain ⟨v', w2, e2, hown, hgr, _, hat⟩ := run_append_own_at (P := Tryz.prog) (w := w) 0 24 ty 56 i0 _ 6 96 Tryz.underlying24 hi hz0 hz1 hz2 rfl (by decide) (.slice (some ⟨g, 0, none⟩) 0 0) 0 [] ⟨rfl, Or.inr ⟨g, 0, #[], rfl, Nat.zero_le _, hg, Nat.le_refl _, by simp [maxLen], rfl, rfl⟩⟩ ⟨gu, 0, none⟩ m cp _ u7 u8 (fun u hu => by
      obtain ⟨j, hj⟩ := List.getElem?_of_mem hu
      exact zbj u (u9 j u hj)) (by unfold maxLen; omega) (by omega) (Nat.zero_le _)
    rw [e2] at h
    injection h with h1 h2
    rw [<- h1]
    exact hat
theorem jT {K : Act -> World -> Prop} {Q' : Exit -> Act -> World -> Prop} {e : Exit} {a : Act} {w : World} (R : World -> Prop) (hR : R w) (h : ∀ w', R w' -> Exit.then K Q' e a w') : Exit.then K Q' e a w := h w hR
end Go.Proofs.YtmfgjafdnopfbaaGreat
