import Derived.Test.YtmfgjafdnopfbaaGreatM24
import Derived.Test.YtmfgjafdnopfbaaGreatM12
import Derived.Test.YtmfgjafdnopfbaaGreatM22
import Derived.Test.YtmfgjafdnopfbaaGreatM11
import Derived.Test.YtmfgjafdnopfbaaGreatM21
import Derived.Test.YtmfgjafdnopfbaaGreatM08
import Derived.Deep.QuietTactic
import Derived.Deep.RegionHeld3
import Derived.Test.YtmfgjafdnopfbaaGreatM06
import Derived.Test.YtmfgjafdnopfbaaGreatM01
import Derived.Test.YtmfgjafdnopfbaaGreatM04
import Derived.Deep.OwnRows
import Derived.MapKept
import Derived.Test.YtmfgjafdnopfbaaGreatM15
import Derived.Laws.IdiomStrings
namespace Go.Proofs.YtmfgjafdnopfbaaGreat
open Go.RowKit
namespace Gate
theorem qI (fs : List Fld) (v : ByteArray) : (zG fs v = -1 /\ fs.find? (fun f => decide (f.nm = v)) = none) \/ ∃ i, ∃ h : i < fs.length, zG fs v = (i : Int) /\ fs[i].nm = v /\ fs.find? (fun f => decide (f.nm = v)) = some fs[i] := by
  cases hf : fs.findIdx? (fun f => decide (f.nm = v)) with
  | none =>
    left
    refine ⟨by unfold zG; rw [hf], ?_⟩
    rw [List.findIdx?_eq_none_iff] at hf
    rw [List.find?_eq_none]
    intro x hx
    have := hf x hx
    simpa using this
  | some i =>
    right
    rw [List.findIdx?_eq_some_iff_getElem] at hf
    obtain ⟨hi, h1, h2⟩ := hf
    refine ⟨i, hi, ?_, by simpa using h1, ?_⟩
    · unfold zG
      have : fs.findIdx? (fun f => decide (f.nm = v)) = some i := by rw [List.findIdx?_eq_some_iff_getElem]; exact ⟨hi, h1, h2⟩
      rw [this]
    · rw [List.find?_eq_some_iff_append]
      refine ⟨h1, fs.take i, fs.drop (i + 1), ?_, ?_⟩
      · conv => lhs; rw [<- List.take_append_drop i fs, List.drop_eq_getElem_cons hi]
      · intro a ha
        obtain ⟨k, hk, rfl⟩ := List.mem_iff_getElem.1 ha
        have hk' : k < i := by simp at hk; omega
        have := h2 k hk'
        simpa using this
def plain (fs : List Fld) (v : ByteArray) : Bool := match fs.find? (fun f => decide (f.nm = v)) with | some f => decide (f.kd ≠ 4) | none => false
def zaE (fs : List Fld) (v : ByteArray) : Fld := (fs.find? fun f => decide (f.nm = v)).getD zbr
theorem jI {fs : List Fld} {v : ByteArray} (h : fs.find? (fun f => decide (f.nm = v)) = none) : plain fs v = false := by unfold plain; rw [h]
theorem zev {fs : List Fld} {v : ByteArray} {f : Fld} (h : fs.find? (fun f => decide (f.nm = v)) = some f) : plain fs v = decide (f.kd ≠ 4) := by unfold plain; rw [h]
end Gate
theorem zi1 (k : Int) : Ending.returned (.bool (k != 4)) = Ending.returned (.bool (decide (k ≠ 4))) := by
  by_cases h : k = 4
  · subst h; rfl
  · have h1 : (k != 4) = true := by rw [bne_iff_ne]; exact h
    rw [h1, decide_eq_true h]
set_option maxHeartbeats 1000000 in
theorem zbd (a : Option Addr) (cap : Nat) (fs : List Fld) (v : ByteArray) (w : World) (hw : yc w a fs) :
    Calls Tryz.prog 46 #[.slice a fs.length cap, .string v] w fun e w' => e = .returned (.bool (Gate.plain fs v)) /\ Below w.heap.size w w' := by
  have hl := hw.len
  unfold maxLen at hl
  rcases Gate.qI fs v with ⟨h1, h2⟩ | ⟨i, hi, h1, h2, h3⟩
  · have HP : Hid (Gate.plain fs v = false) := Gate.jI h2
    go_enter Tryz.func46, Tryz.ntmps46
    go_wp2_with fail
    have h := qQ a cap fs v w hw
    rw [h1] at h
    refine h.mono ?_
    rintro e w1 ⟨rfl, hb1⟩
    clear h
    go_wp2_with fail
    go_ret
    exact ⟨by rw [HP.out]; rfl, hb1⟩
  · have HP : Hid (Gate.plain fs v = decide (fs[i].kd ≠ 4)) := Gate.zev h3
    obtain ⟨b, off, rfl, hb, hr⟩ := hw.rows (by rintro rfl; simp at hi)
    obtain ⟨wa, wcap, hf0⟩ := hr i hi
    go_enter Tryz.func46, Tryz.ntmps46
    go_wp2_with fail
    have h := qQ (some ⟨b, off, none⟩) cap fs v w hw
    rw [h1] at h
    refine h.mono ?_
    rintro e w1 ⟨rfl, hb1⟩
    obtain ⟨c0, c1, c2, c3, c4, c5, c6, c7, c8, c9, c10⟩ := (hf0.mono hb hb1).load
    have hiI : (i : Int) < (fs.length : Int) := by omega
    have hge : decide ((i : Int) ≥ 0) = true := by simp
    have hb1w : b < w1.heap.size := Nat.lt_of_lt_of_le hb hb1.size
    clear h hw hr hf0 h3 h2 h1
    go_wp2_with fail
    go_ret
    exact ⟨by rw [HP.out]; exact zi1 fs[i].kd, hb1⟩
end Go.Proofs.YtmfgjafdnopfbaaGreat

namespace Go.Proofs.YtmfgjafdnopfbaaGreat
open Go.RowKit
namespace Gate
def qz (ss : List Shp) (o : Ob) : List ByteArray := if yL ss o = true then qG (shapeOf ss o.kd).fs o.vs else o.vs
theorem zgO {ss : List Shp} {o : Ob} (h : zT ss = true) : jh ss o = qz ss o := by
  unfold jh qz yL
  by_cases h1 : zy ss o.kd = true
  · by_cases h2 : o.vs.length = (shapeOf ss o.kd).fs.length
    · rw [if_pos ⟨h1, h, h2⟩, if_pos (by rw [h1]; simp [h2])]
    · rw [if_neg (fun hh => h2 hh.2.2), if_neg (by rw [h1]; simp [h2])]
  · rw [if_neg (fun hh => h1 hh.1), if_neg (by simp [h1])]
end Gate
set_option maxHeartbeats 1000000 in
theorem zcP (a0 : Option Addr) (cap0 : Nat) (ss : List Shp) (o : Ob) (a a' : Option Addr) (cap cap' : Nat) (w0 w : World) (hw0 : yG w0 a0 ss) (hbb : Below w0.heap.size w0 w) (hc : Gate.yL ss o = true) :
    Calls Tryz.prog 71 #[.slice a0 ss.length cap0, .agg #[.string o.kd, .string o.nm, .string o.tm, .slice a o.vs.length cap, .bool o.en, .slice a' o.hs.length cap', .int .i64 o.vr]] w fun e w' => ∃ fa fcap, e = .returned (.tuple #[.slice fa (Gate.shapeOf ss o.kd).fs.length fcap, .bool true]) /\ yc w0 fa (Gate.shapeOf ss o.kd).fs /\ Below w.heap.size w w' := by
  unfold Gate.yL at hc
  simp only [Bool.and_eq_true, decide_eq_true_eq] at hc
  have HK := hid hc.1
  have HL := hid hc.2
  clear hc
  have hw := hw0.mono hbb
  have hl := hw.len
  unfold maxLen at hl
  go_enter Tryz.func71, Tryz.ntmps71
  go_wp2_with fail
  refine (jr _ _ _ _ _ (hw.mono ((Below.refl _ _).alloc (Nat.le_refl _) _)) HK.out).mono ?_
  rintro e w1 ⟨ix, hix, rfl, hsh, rfl⟩
  have HSh := hid hsh
  clear hsh
  obtain ⟨b, off, rfl, hb0, hr⟩ := hw0.rows (by rintro rfl; simp at hix)
  obtain ⟨fa, fcap, hs0⟩ := hr ix hix
  have hs := hs0.mono hb0 hbb
  have hcl := hs.list
  have hfl := hs0.flds
  have hixI : (ix : Int) < (ss.length : Int) := by omega
  have hix0 : decide ((ix : Int) < 0) = false := by simp
  have hneq : ((ss[ix].fs.length : Int) != (o.vs.length : Int)) = false := by have h1 := HL.out; have h2 := HSh.out; rw [h2] at h1; simp [h1]
  have hbw := Nat.lt_of_lt_of_le hb0 hbb.size
  clear hr hs
  go_wp2_with fail
  go_quiet (fail)
  go_wp2_with fail
  go_ret2
  rw [HSh.out]
  exact ⟨fa, fcap, rfl, hfl, below_drewN ((Below.refl _ _).alloc (Nat.le_refl _) _) _⟩
end Go.Proofs.YtmfgjafdnopfbaaGreat

namespace Go.Proofs.YtmfgjafdnopfbaaGreat
open Go.RowKit
theorem zi6 {fs : List Fld} (h : zbL fs) : ∀ f ∈ fs, f.df.size <= maxLen := by
  intro f hf
  obtain ⟨i, hi, rfl⟩ := List.mem_iff_getElem.1 hf
  exact (h.small i hi).1.df
theorem zet {ss : List Shp} {o : Ob} (hs : zdL ss) (ho : ∀ s ∈ o.vs, s.size <= maxLen) : ∀ s ∈ Gate.jh ss o, s.size <= maxLen := by
  unfold Gate.jh
  split
  · rename_i h
    have hf : zbL (Gate.shapeOf ss o.kd).fs := by
      obtain ⟨hk, _, _⟩ := h
      unfold Gate.zy at hk
      rw [List.any_eq_true] at hk
      obtain ⟨x, hx, he⟩ := hk
      unfold Gate.shapeOf
      cases hfi : ss.find? (fun s => decide (s.kd = o.kd)) with
      | none => rw [List.find?_eq_none] at hfi; exact absurd he (hfi x hx)
      | some y =>
        obtain ⟨i, hi, rfl⟩ := List.mem_iff_getElem.1 (List.mem_of_find?_eq_some hfi)
        exact (hs.small i hi).2.2
    intro s hm
    obtain ⟨i, hi, rfl⟩ := List.mem_iff_getElem.1 hm
    have hl := Gate.qo h.2.2
    have e : (Gate.qG (Gate.shapeOf ss o.kd).fs o.vs)[i] = Gate.qY ((Gate.shapeOf ss o.kd).fs[i]'(by have := h.2.2; omega)) (o.vs[i]'(by omega)) := by simp [Gate.qG]
    rw [e]
    unfold Gate.qY
    split
    · exact zi6 hf _ (List.getElem_mem _)
    · exact ho _ (List.getElem_mem _)
  · exact ho
end Go.Proofs.YtmfgjafdnopfbaaGreat

namespace Go.Proofs.YtmfgjafdnopfbaaGreat
open Go.RowKit
end Go.Proofs.YtmfgjafdnopfbaaGreat

namespace Go.Proofs.YtmfgjafdnopfbaaGreat
open Go.RowKit
theorem zh5 (k : Nat) : (Lib.decDigits k).length <= k + 1 := by
  induction k using Nat.strongRecOn with
  | _ k ih =>
    rw [Lib.decDigits]
    split
    · simp
    · have := ih (k / 10) (by omega)
      rw [List.length_append, List.length_singleton]
      omega
set_option maxHeartbeats 1000000 in
theorem ziH (n : Int) (r p : Nat) (w : World) (hn : n < 1) (hr : yF w r p) (hp : p <= 50000) :
    Calls Tryz.prog 54 #[.pointer (some ⟨r, 0, none⟩), .int .i64 n] w fun e w' => e = .returned (.int .i64 0) /\ yF w' r (p + 1) /\ Dr r w w' := by
  obtain ⟨a, m, cap, hm, hb, hu⟩ := hr.rd
  have c0 : w.cell? ⟨r, 0, none⟩ = some (.slice a m cap) := cell_of_block hb
  have c1 : w.cell? ⟨r, 1, none⟩ = some (.int .i64 (p : Int)) := cell_of_block hb
  have f1 : w.frozen? ⟨r, 1, none⟩ = false := za hb
  have hnl : decide (n < 1) = true := by simp; omega
  have hlt := hr.lt
  have HR : Hid (yF (w.setCell ⟨r, 1, none⟩ (.int .i64 ((p : Int) + 1))) r (p + 1)) := by
    refine ⟨a, m, cap, hm, (zu hb _).trans (by simp), fun hp => ?_⟩
    obtain ⟨b, off, ha, hbr, hc⟩ := hu hp
    refine ⟨b, off, ha, hbr, fun i hi => ?_⟩
    obtain ⟨x, x0, x1, hx⟩ := hc i hi
    refine ⟨x, x0, x1, ?_⟩
    simp only [World.cell?, yt (by omega : b ≠ r)]
    exact hx
  have HB : Hid (Dr r w (w.setCell ⟨r, 1, none⟩ (.int .i64 ((p : Int) + 1)))) := zdS r _ w _ _
  clear hb hr hu
  go_enter Tryz.func54, Tryz.ntmps54
  go_wp2_with fail
  go_ret
  exact ⟨rfl, HR.out, HB.out⟩
theorem zcp (n : Int) (r p : Nat) (w : World) (hN : n <= 4194304) (hp : p <= 50000) (hr : yF w r p) :
    Calls Tryz.prog 54 #[.pointer (some ⟨r, 0, none⟩), .int .i64 n] w fun e w' => ∃ k : Nat, e = .returned (.int .i64 (k : Int)) /\ (k = 0 \/ (k : Int) < n) /\ yF w' r (p + 1) /\ Dr r w w' := by
  by_cases h : n < 1
  · refine (ziH n r p w h hr hp).mono ?_
    rintro e w1 ⟨rfl, h1, h2⟩
    exact ⟨0, rfl, Or.inl rfl, h1, h2⟩
  · refine (zgt n r p w (by omega) hN hp hr).mono ?_
    rintro e w1 ⟨k, rfl, hk, h1, -, h2⟩
    exact ⟨k, rfl, Or.inr hk, h1, h2⟩
theorem zQ (n r p : Nat) (w : World) (h1 : 1 <= n) (hN : n <= 1048576) (hp : p <= 50000) (hr : yF w r p) :
    Calls Tryz.prog 54 #[.pointer (some ⟨r, 0, none⟩), .int .i64 (n : Int)] w fun e w' => ∃ k : Nat, e = .returned (.int .i64 (k : Int)) /\ k < n /\ yF w' r (p + 1) /\ Dr r w w' := by
  refine (zgt n r p w (by omega) (by omega) hp hr).mono ?_
  rintro e w1 ⟨k, rfl, hk, h1, -, h2⟩
  exact ⟨k, rfl, by omega, h1, h2⟩
theorem zid {y : Nat} (h : y < 256) (W : World) (b : Nat) (hc : W.cell? ⟨b, 0, none⟩ = some (.int .u8 (y : Int))) :
    (convert 22 9 (.slice (some ⟨b, 0, none⟩) 1 1)).run Tryz.prog W = .ok (.string ⟨#[UInt8.ofNat y]⟩) W := by
  refine run_convert_bytes_back W _ _ 5 ⟨b, 0, none⟩ 1 [UInt8.ofNat y] Tryz.underlying22 Tryz.underlying5 Tryz.underlying9 ?_
  intro j hj
  have e : j = 0 := by simp at hj; omega
  subst e
  have e2 : ((([UInt8.ofNat y] : List UInt8)[0]).toNat : Int) = (y : Int) := by
    show ((UInt8.ofNat y).toNat : Int) = _
    rw [UInt8.toNat_ofNat']; omega
  rw [e2]
  exact hc
set_option maxRecDepth 10000 in
set_option maxHeartbeats 1000000 in
theorem zal (x : Int) (w : World) (h0 : -3000000 <= x) (h1 : x <= 3000000) :
    Calls Tryz.prog 82 #[.int .i64 x] w fun e w' => ∃ s : ByteArray, e = .returned (.string s) /\ (s.size : Int) <= max x 0 + 1 /\ Below w.heap.size w w' := by
  by_cases hx : x < 0
  · have hI : x < 10 := by omega
    obtain ⟨y, hy⟩ : ∃ y : Nat, (y : Int) = (48 + x) % 256 := ⟨((48 + x) % 256).toNat, by omega⟩
    have hy2 : y < 256 := by omega
    obtain ⟨d, HD⟩ : ∃ d : ByteArray, Hid (⟨#[UInt8.ofNat y]⟩ = d) := ⟨_, rfl⟩
    have hbk : (convert 22 9 (.slice (some ⟨w.heap.size, 0, none⟩) 1 1)).run Tryz.prog (w.alloc (.cells #[.int .u8 ((48 + x) % 256)] 5)) = .ok (.string d) (w.alloc (.cells #[.int .u8 ((48 + x) % 256)] 5)) := by rw [<- HD.out, <- hy]; exact zid hy2 _ _ (zo w _ _ 0)
    clear hy
    go_enter Tryz.func82, Tryz.ntmps82
    go_wp2_with fail
    go_ret
    exact ⟨d, rfl, by rw [<- HD.out]; show ((1 : Nat) : Int) <= _; omega, (Below.refl _ _).alloc (Nat.le_refl _) _⟩
  · obtain ⟨n, rfl⟩ := Int.eq_ofNat_of_zero_le (by omega : 0 <= x)
    refine (zht n (by omega) w).mono ?_
    rintro e w1 ⟨rfl, hb⟩
    refine ⟨_, rfl, ?_, hb⟩
    have := zh5 n
    have e3 : (⟨(Lib.decDigits n).toArray⟩ : ByteArray).size = (Lib.decDigits n).length := by simp [ByteArray.size]
    rw [e3]
    omega
set_option maxHeartbeats 1000000 in
theorem zac (s : ByteArray) (x : Int) (w : World) (hs : s.size <= 1) (hx : x <= 3000000) (hx0 : -9000000 <= x) :
    Calls Tryz.prog 85 #[.string s, .int .i64 x] w fun e w' => ∃ t : ByteArray, e = .returned (.string t) /\ t.size <= 3000000 /\ w' = w := by
  by_cases hneg : x <= 0
  · go_enter Tryz.func85, Tryz.ntmps85
    go_wp2_with fail
    have h2 : ¬ (0 < x) := by omega
    go_loopw [0, 1, 5] (fun vs vn vo wr => vs = .string s /\ vn = .int .i64 x /\ vo = .string ByteArray.empty /\ wr = w) (fun _ _ _ _ => 0)
    case atStart => exact ⟨rfl, rfl, rfl, rfl⟩
    case round =>
      obtain ⟨rfl, rfl, rfl, rfl⟩ := hrel
      go_wp2_with fail
      go_ret
      exact ⟨_, rfl, by simp, rfl⟩
  · obtain ⟨n, rfl⟩ := Int.eq_ofNat_of_zero_le (by omega : 0 <= x)
    have hn : n <= 3000000 := by omega
    clear hneg hx hx0
    go_enter Tryz.func85, Tryz.ntmps85
    go_wp2_with fail
    go_loopw [0, 1, 5] (fun vs vn vo wr => ∃ (S O : ByteArray) (m : Nat), vs = .string S /\ vn = .int .i64 (m : Int) /\ vo = .string O /\ m <= 3000000 /\ S.size <= 6000000 /\ O.size + m * S.size <= 3000000 /\ wr = w) (fun _ vn _ _ => (intOf vn).toNat)
    case atStart =>
      refine ⟨s, ByteArray.empty, n, rfl, rfl, rfl, hn, by omega, ?_, rfl⟩
      have := Nat.mul_le_mul_left n hs
      simp; omega
    case round =>
      obtain ⟨S, O, m, rfl, rfl, rfl, hm, hS, hO, rfl⟩ := hrel
      have hst := zhC m S.size
      have HST : Hid (m * S.size = m / 2 * (S.size + S.size) + m % 2 * S.size /\ O.size + m * S.size <= 3000000) := ⟨hst, hO⟩
      clear hst hO
      rcases Nat.eq_zero_or_pos m with h0 | h0
      · subst h0
        have hO : O.size <= 3000000 := by have := HST.out.2; omega
        go_wp2_with fail
        go_ret
        exact ⟨O, rfl, hO, rfl⟩
      · have hS2 : S.size <= 3000000 /\ O.size <= 3000000 := by
          have h1 := HST.out.2
          have h2 := Nat.mul_le_mul_right S.size h0
          omega
        have hmI : (0 : Int) < (m : Int) := by omega
        by_cases hod : m % 2 = 1
        · have hodI : ((m : Int) % 2 == 1) = true := by rw [beq_iff_eq]; omega
          go_wp2_with fail
          refine ⟨⟨S ++ S, O ++ S, m / 2, rfl, by simp, rfl, by omega, by rw [ByteArray.size_append]; omega, ?_, trivial⟩, by simp [intOf]; omega⟩
          have h1 := HST.out.1
          have h2 := HST.out.2
          rw [hod, Nat.one_mul] at h1
          rw [ByteArray.size_append, ByteArray.size_append]
          omega
        · have hodI : ((m : Int) % 2 == 1) = false := by rw [beq_eq_false_iff_ne]; omega
          go_wp2_with fail
          refine ⟨⟨S ++ S, O, m / 2, rfl, by simp, rfl, by omega, by rw [ByteArray.size_append]; omega, ?_, trivial⟩, by simp [intOf]; omega⟩
          have h1 := HST.out.1
          have h2 := HST.out.2
          have h3 : m % 2 = 0 := by omega
          rw [h3, Nat.zero_mul] at h1
          rw [ByteArray.size_append]
          omega
set_option maxHeartbeats 1000000 in
theorem qC (a : Option Addr) (n cap lo b r p : Nat) (w : World) (hs : yR lo b w (.slice a n cap)) (h1 : 1 <= n) (hb : n <= 1048576) (hp : p <= 50000) (hr : yF w r p) (hlo : r < lo) :
    Calls Tryz.prog 61 #[.pointer (some ⟨r, 0, none⟩), .slice a n cap] w fun e w' => ∃ s : ByteArray, e = .returned (.string s) /\ s.size <= 4000000 /\ yF w' r (p + 1) /\ Dr r w w' := by
  obtain ⟨g, C, rfl, -⟩ := hs.cell h1
  have HS : Hid (yR lo b w (.slice (some ⟨g, 0, none⟩) n cap)) := hs
  clear hs
  go_enter Tryz.func61, Tryz.ntmps61
  go_wp2_with fail
  refine (zQ n r p w h1 hb hp hr).mono ?_
  rintro e w1 ⟨k, rfl, hk, hr1, hB⟩
  obtain ⟨g', C', e1, -, -, -, hc⟩ := ((zN hlo hB).s _ HS.out).cell hk
  cases e1
  obtain ⟨x, hx, s, rfl, hsz⟩ := hc 0 (by omega)
  have c0 : w1.cell? ⟨g, k, none⟩ = some (.string s) := by simpa using hx
  clear hc hx
  have hkI : (k : Int) < (n : Int) := by omega
  go_wp2_with fail
  go_ret
  exact ⟨s, rfl, hsz, hr1, hB⟩
end Go.Proofs.YtmfgjafdnopfbaaGreat
