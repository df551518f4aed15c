import Derived.Test.YtponiggfclcbgaaGreatM04
namespace Go.Proofs.YtponiggfclcbgaaGreat
open Go.RowKit

set_option maxHeartbeats 1000000 in
theorem shapeOf_any (a : Option Addr) (cap : Nat) (ss : List Shp) (v : ByteArray) (w : World) (hw : ShpsAt w a ss) :
    Calls Tryz.prog 56 #[.slice a ss.length cap, .string v] w fun e w' => ∃ fa fcap, e = .returned (.tuple #[.agg #[.string (Gate.shapeOf ss v).kd, .slice fa (Gate.shapeOf ss v).fs.length fcap], .bool (Gate.hasKind ss v)]) ∧
      FldsAt w fa (Gate.shapeOf ss v).fs ∧ Below w.heap.size w w' := by
  have hl := hw.len
  unfold maxLen at hl
  go_enter Tryz.func56, Tryz.ntmps56
  go_wp2
  go_loopw [10] (fun i wr => ∃ k : Nat, k ≤ ss.length ∧ i = .int .i64 k ∧ Gate.hasKind (ss.take k) v = false ∧ Below (w.heap.size + 1) (w.alloc (.cells #[.string ByteArray.empty, .slice none 0 0] 69)) wr) (fun i _ => ss.length - (intOf i).toNat)
  case atStart => exact ⟨0, Nat.zero_le _, rfl, rfl, Below.refl _ _⟩
  case round =>
    obtain ⟨k, hk, rfl, hno, hbl⟩ := hrel
    have hsz : w.heap.size < wr.heap.size := by have := hbl.size; simp at this; omega
    have hB0 : Below w.heap.size w wr := ((Below.refl _ _).alloc (Nat.le_refl _) _).trans (hbl.mono (by omega))
    have hX0 : wr.cell? ⟨w.heap.size, 0, none⟩ = some (.string ByteArray.empty) := (hbl.cell (p := ⟨w.heap.size, 0, none⟩) (by simp)).trans (by rw [World.cell?_alloc_at _ _ _ _ rfl]; rfl)
    have hX1 : wr.cell? ⟨w.heap.size, 1, none⟩ = some (.slice none 0 0) := (hbl.cell (p := ⟨w.heap.size, 1, none⟩) (by simp)).trans (by rw [World.cell?_alloc_at _ _ _ _ rfl]; rfl)
    have hF0 : wr.frozen? ⟨w.heap.size, 0, none⟩ = false := (hbl.frozen (p := ⟨w.heap.size, 0, none⟩) (by simp)).trans (by rw [World.frozen?_alloc_at _ _ _ _ rfl])
    have hF1 : wr.frozen? ⟨w.heap.size, 1, none⟩ = false := (hbl.frozen (p := ⟨w.heap.size, 1, none⟩) (by simp)).trans (by rw [World.frozen?_alloc_at _ _ _ _ rfl])
    by_cases hlt : k < ss.length
    · obtain ⟨b, off, rfl, hb, hr⟩ := hw.rows (by rintro rfl; simp at hlt)
      obtain ⟨fa, fcap, hs⟩ := hr k hlt
      have hck := (hB0.cell (p := ⟨b, off + k * 2, none⟩) hb).trans hs.kind
      have hcl := (hB0.cell (p := ⟨b, off + k * 2 + 1, none⟩) hb).trans hs.list
      have hfl := hs.flds
      clear hw hr hs
      by_cases he : ss[k].kd = v
      · have hbe : (ss[k].kd.toList == v.toList) = true := by rw [Gate.beq_toList]; simpa using he
        have HA : Hid (Gate.hasKind ss v = true) := Gate.hasKind_at ss v k hlt he
        have HB : Hid (Gate.shapeOf ss v = ss[k]) := Gate.shapeOf_at ss v k hlt hno he
        clear he hno
        go_wp2
        refine bodyPost_ret (v := .tuple #[.agg #[.string ss[k].kd, .slice fa ss[k].fs.length fcap], .bool true]) (by simp [results, Tryz.results56, go_sem, hX0, hX1, hsz]) rfl ⟨fa, fcap, by rw [HA.out, HB.out], by rw [HB.out]; exact hfl, ?_⟩
        exact ((hB0.setCell (Nat.le_refl _) _).setCell (Nat.le_refl _) _).alloc (by simp [World.setCell]; omega) _
      · have hbe : (ss[k].kd.toList == v.toList) = false := by rw [Gate.beq_toList]; simpa using he
        have HS : Hid (Gate.hasKind (ss.take (k + 1)) v = false) := by unfold Hid; rw [Gate.hasKind_snoc ss v k hlt, hno, decide_eq_false he]; rfl
        clear he hno hX0 hX1 hF0 hF1
        go_wp2
        go_roundw
        case rel => exact ⟨k + 1, by omega, by go_num, HS.out, hbl.alloc (by omega) _⟩
        case measure => simp [intOf]; omega
    · have HA : Hid (Gate.hasKind ss v = false) := by rw [← Gate.hasKind_all ss v k (by omega)]; exact hno
      have HB : Hid (Gate.shapeOf ss v = Gate.noShape) := Gate.shapeOf_none ss v HA.out
      clear hno hw
      go_wp2
      refine bodyPost_ret (v := .tuple #[.agg #[.string ByteArray.empty, .slice none 0 0], .bool false]) (by simp [results, Tryz.results56, go_sem, hX0, hX1]; rfl) rfl ⟨none, 0, by rw [HA.out, HB.out]; rfl, by rw [HB.out]; exact ⟨by simp [Gate.noShape, maxLen], fun h => absurd rfl h⟩, ?_⟩
      exact (hB0.setCell (Nat.le_refl _) _).setCell (Nat.le_refl _) _

end Go.Proofs.YtponiggfclcbgaaGreat

namespace Go.Proofs.YtponiggfclcbgaaGreat
open Go.RowKit

set_option maxHeartbeats 1000000 in
theorem linkSound_any (nm : ByteArray) (ls ms : Int) (a : Option Addr) (cap : Nat) (ws : List ByteArray) (to : ByteArray) (rl : Int) (mu fx : Bool) (df wg : ByteArray) (a0 : Option Addr) (cap0 : Nat) (ss : List Shp) (w : World) (hw : ShpsAt w a0 ss) :
    Calls Tryz.prog 160 #[.agg #[.string nm, .int .i64 4, .int .i64 ls, .int .i64 ms, .slice a ws.length cap, .string to, .int .i64 rl, .bool mu, .bool fx, .string df, .string wg], .slice a0 ss.length cap0] w fun e w' => e = .returned (.bool (Gate.soundOf ss ⟨nm, 4, ls, ms, ws, to, rl, mu, fx, df, wg⟩)) ∧ Below w.heap.size w w' := by
  have HF : Hid (Gate.soundOf ss ⟨nm, 4, ls, ms, ws, to, rl, mu, fx, df, wg⟩ = (Gate.hasKind ss to && (decide (1 ≤ rl) && decide (rl ≤ 3)) && df.toList.isEmpty && (decide (rl ≠ 2) || !mu))) := by simp [Gate.soundOf, Hid]
  by_cases hk : Gate.hasKind ss to = true
  rotate_left
  · have hk' : Gate.hasKind ss to = false := by simpa using hk
    have HK : Hid (Gate.hasKind ss to = false) := hk'
    clear hk hk'
    go_enter Tryz.func160, Tryz.ntmps160
    go_wp2_with fail
    refine (shapeOf_any _ _ _ _ _ (hw.mono ((Below.refl _ _).alloc (Nat.le_refl _) _))).mono ?_
    rintro e w1 ⟨fa, fcap, rfl, _, hb1⟩
    rw [HK.out]
    have hX1 := box_later (box_new w _ _) (by simp) hb1
    have hz1 : w.heap.size < w1.heap.size := by have := hb1.size; simp at this; omega
    have hB1 : Below w.heap.size w w1 := ((Below.refl _ _).alloc (Nat.le_refl _) _).trans (hb1.mono (by simp))
    clear hb1 hw
    go_wp2_with fail
    go_ret
    exact ⟨ret_bool (by rw [HF.out, HK.out]; rfl), hB1.alloc (by omega) _⟩
  have HK : Hid (Gate.hasKind ss to = true) := hk
  clear hk
  by_cases hd : df.toList.isEmpty = true
  rotate_left
  · have hd' : df.toList.isEmpty = false := by simpa using hd
    clear hd
    go_enter Tryz.func160, Tryz.ntmps160
    go_wp2_with fail
    refine (shapeOf_any _ _ _ _ _ (hw.mono ((Below.refl _ _).alloc (Nat.le_refl _) _))).mono ?_
    rintro e w1 ⟨fa, fcap, rfl, _, hb1⟩
    rw [HK.out]
    have hX1 := box_later (box_new w _ _) (by simp) hb1
    have hz1 : w.heap.size < w1.heap.size := by have := hb1.size; simp at this; omega
    have hB1 : Below w.heap.size w w1 := ((Below.refl _ _).alloc (Nat.le_refl _) _).trans (hb1.mono (by simp))
    clear hb1 hw
    go_wp2_with fail
    go_ret
    exact ⟨ret_bool (by rw [HF.out, HK.out, hd']; simp), hB1.alloc (by omega) _⟩
  by_cases h1 : rl = 1
  · subst h1
    go_enter Tryz.func160, Tryz.ntmps160
    go_wp2_with fail
    refine (shapeOf_any _ _ _ _ _ (hw.mono ((Below.refl _ _).alloc (Nat.le_refl _) _))).mono ?_
    rintro e w1 ⟨fa, fcap, rfl, _, hb1⟩
    rw [HK.out]
    have hX1 := box_later (box_new w _ _) (by simp) hb1
    have hz1 : w.heap.size < w1.heap.size := by have := hb1.size; simp at this; omega
    have hB1 : Below w.heap.size w w1 := ((Below.refl _ _).alloc (Nat.le_refl _) _).trans (hb1.mono (by simp))
    clear hb1 hw
    go_wp2_with fail
    go_ret
    exact ⟨ret_bool (by rw [HF.out, HK.out, hd]; rfl), hB1.alloc (by omega) _⟩
  by_cases h3 : rl = 3
  · subst h3
    go_enter Tryz.func160, Tryz.ntmps160
    go_wp2_with fail
    refine (shapeOf_any _ _ _ _ _ (hw.mono ((Below.refl _ _).alloc (Nat.le_refl _) _))).mono ?_
    rintro e w1 ⟨fa, fcap, rfl, _, hb1⟩
    rw [HK.out]
    have hX1 := box_later (box_new w _ _) (by simp) hb1
    have hz1 : w.heap.size < w1.heap.size := by have := hb1.size; simp at this; omega
    have hB1 : Below w.heap.size w w1 := ((Below.refl _ _).alloc (Nat.le_refl _) _).trans (hb1.mono (by simp))
    clear hb1 hw
    go_wp2_with fail
    go_ret
    exact ⟨ret_bool (by rw [HF.out, HK.out, hd]; rfl), hB1.alloc (by omega) _⟩
  by_cases h2 : rl = 2
  · subst h2
    clear h1 h3
    go_enter Tryz.func160, Tryz.ntmps160
    go_wp2_with fail
    refine (shapeOf_any _ _ _ _ _ (hw.mono ((Below.refl _ _).alloc (Nat.le_refl _) _))).mono ?_
    rintro e w1 ⟨fa, fcap, rfl, _, hb1⟩
    rw [HK.out]
    have hX1 := box_later (box_new w _ _) (by simp) hb1
    have hz1 : w.heap.size < w1.heap.size := by have := hb1.size; simp at this; omega
    have hB1 : Below w.heap.size w w1 := ((Below.refl _ _).alloc (Nat.le_refl _) _).trans (hb1.mono (by simp))
    clear hb1 hw
    go_wp2_with fail
    go_ret
    exact ⟨ret_bool (by rw [HF.out, HK.out, hd]; rfl), hB1.alloc (by omega) _⟩
  · have HR : Hid ((decide (1 ≤ rl) && decide (rl ≤ 3)) = false) := by unfold Hid; rw [Bool.eq_false_iff]; simp; omega
    have e1 : (rl == 1) = false := by simpa using h1
    have e2 : (rl == 2) = false := by simpa using h2
    have e3 : (rl == 3) = false := by simpa using h3
    clear h1 h2 h3
    go_enter Tryz.func160, Tryz.ntmps160
    go_wp2_with fail
    refine (shapeOf_any _ _ _ _ _ (hw.mono ((Below.refl _ _).alloc (Nat.le_refl _) _))).mono ?_
    rintro e w1 ⟨fa, fcap, rfl, _, hb1⟩
    rw [HK.out]
    have hX1 := box_later (box_new w _ _) (by simp) hb1
    have hz1 : w.heap.size < w1.heap.size := by have := hb1.size; simp at this; omega
    have hB1 : Below w.heap.size w w1 := ((Below.refl _ _).alloc (Nat.le_refl _) _).trans (hb1.mono (by simp))
    clear hb1 hw
    go_wp2_with fail
    go_ret
    exact ⟨ret_bool (by rw [HF.out, HK.out, HR.out]; simp), hB1.alloc (by omega) _⟩

end Go.Proofs.YtponiggfclcbgaaGreat

namespace Go.Proofs.YtponiggfclcbgaaGreat
open Go.RowKit

set_option maxHeartbeats 400000 in
theorem nameIs_any (nm : ByteArray) (kd ls ms : Int) (sl : Value) (to : ByteArray) (rl : Int) (mu fx : Bool) (df wg : ByteArray) (v : ByteArray) (bn : Nat) (w : World) (hb : bn < w.heap.size) (hn : w.cell? ⟨bn, 0, none⟩ = some (.string v)) :
    Calls Tryz.prog 111 #[.agg #[.string nm, .int .i64 kd, .int .i64 ls, .int .i64 ms, sl, .string to, .int .i64 rl, .bool mu, .bool fx, .string df, .string wg], .pointer (some ⟨bn, 0, none⟩)] w fun e w' => e = .returned (.bool (nm.toList == v.toList)) ∧ Below w.heap.size w w' := by
  go_enter Tryz.func111, Tryz.ntmps111
  go_wp2
  go_ret
  exact ⟨rfl, (Below.refl _ _).alloc (Nat.le_refl _) _⟩

theorem FldIn.load {w : World} {b off : Nat} {f : Fld} {a : Option Addr} {cap : Nat} (h : FldIn w b off f a cap) :
    w.cell? ⟨b, off, none⟩ = some (.string f.nm) ∧ w.cell? ⟨b, off + 1, none⟩ = some (.int .i64 f.kd) ∧ w.cell? ⟨b, off + 2, none⟩ = some (.int .i64 f.ls) ∧ w.cell? ⟨b, off + 3, none⟩ = some (.int .i64 f.ms) ∧
    w.cell? ⟨b, off + 4, none⟩ = some (.slice a f.ws.length cap) ∧ w.cell? ⟨b, off + 5, none⟩ = some (.string f.to) ∧ w.cell? ⟨b, off + 6, none⟩ = some (.int .i64 f.rl) ∧ w.cell? ⟨b, off + 7, none⟩ = some (.bool f.mu) ∧
    w.cell? ⟨b, off + 8, none⟩ = some (.bool f.fx) ∧ w.cell? ⟨b, off + 9, none⟩ = some (.string f.df) ∧ w.cell? ⟨b, off + 10, none⟩ = some (.string f.wg) :=
  ⟨h.cell 0 (by omega), h.cell 1 (by omega), h.cell 2 (by omega), h.cell 3 (by omega), h.cell 4 (by omega), h.cell 5 (by omega), h.cell 6 (by omega), h.cell 7 (by omega), h.cell 8 (by omega), h.cell 9 (by omega), h.cell 10 (by omega)⟩

set_option maxHeartbeats 1000000 in
theorem IndexFunc_any (a : Option Addr) (cap : Nat) (fs : List Fld) (v : ByteArray) (bn : Nat) (w : World) (hw : FldsAt w a fs) (hbn : bn < w.heap.size) (hn : w.cell? ⟨bn, 0, none⟩ = some (.string v)) :
    Calls Tryz.prog 110 #[.slice a fs.length cap, .func (.func 111) #[] #[.pointer (some ⟨bn, 0, none⟩)]] w fun e w' => e = .returned (.int .i64 (Gate.fieldIx fs v)) ∧ Below w.heap.size w w' := by
  have hl := hw.len
  unfold maxLen at hl
  go_enter Tryz.func110, Tryz.ntmps110
  go_wp2
  go_loopw [8] (fun i wr => ∃ k : Nat, k ≤ fs.length ∧ i = .int .i64 k ∧ Gate.hasName (fs.take k) v = false ∧ Below w.heap.size w wr) (fun i _ => fs.length - (intOf i).toNat)
  case atStart => exact ⟨0, Nat.zero_le _, rfl, rfl, Below.refl _ _⟩
  case round =>
    obtain ⟨k, hk, rfl, hno, hB⟩ := hrel
    by_cases hlt : k < fs.length
    · obtain ⟨b, off, rfl, hb, hr⟩ := hw.rows (by rintro rfl; simp at hlt)
      obtain ⟨wa, wcap, hf⟩ := hr k hlt
      obtain ⟨c0, c1, c2, c3, c4, c5, c6, c7, c8, c9, c10⟩ := (hf.mono hb hB).load
      have hn1 := (hB.cell (p := ⟨bn, 0, none⟩) hbn).trans hn
      have hbn1 : bn < wr.heap.size := Nat.lt_of_lt_of_le hbn hB.size
      clear hw hr hf hn
      by_cases he : fs[k].nm = v
      · have HA : Hid (Gate.fieldIx fs v = k) := Gate.fieldIx_at fs v k hlt hno he
        have HE : Hid ((fs[k].nm.toList == v.toList) = true) := by unfold Hid; rw [Gate.beq_toList]; simpa using he
        clear he hno
        go_wp2_with fail
        refine (as_bool HE.out (nameIs_any _ _ _ _ _ _ _ _ _ _ _ _ _ _ hbn1 hn1)).mono ?_
        rintro e w2 ⟨rfl, hb2⟩
        go_wp2_with fail
        go_ret
        exact ⟨ret_int HA.out.symm, hB.trans (hb2.mono hB.size)⟩
      · have HS : Hid (Gate.hasName (fs.take (k + 1)) v = false) := by unfold Hid; rw [Gate.hasName_snoc fs v k hlt, hno, decide_eq_false he]; rfl
        have HE : Hid ((fs[k].nm.toList == v.toList) = false) := by unfold Hid; rw [Gate.beq_toList]; simpa using he
        clear he hno
        go_wp2_with fail
        refine (as_bool HE.out (nameIs_any _ _ _ _ _ _ _ _ _ _ _ _ _ _ hbn1 hn1)).mono ?_
        rintro e w2 ⟨rfl, hb2⟩
        go_wp2_with fail
        exact ⟨⟨k + 1, by omega, by go_num, HS.out, hB.trans (hb2.mono hB.size)⟩, by simp [intOf]; omega⟩
    · have HA : Hid (Gate.fieldIx fs v = -1) := Gate.fieldIx_none fs v (by rw [← Gate.hasName_all fs v k (by omega)]; exact hno)
      clear hno hw
      go_wp2
      go_ret
      exact ⟨ret_int HA.out.symm, hB⟩

set_option maxHeartbeats 400000 in
theorem fieldPlace_any (a : Option Addr) (cap : Nat) (fs : List Fld) (v : ByteArray) (w : World) (hw : FldsAt w a fs) :
    Calls Tryz.prog 85 #[.slice a fs.length cap, .string v] w fun e w' => e = .returned (.int .i64 (Gate.fieldIx fs v)) ∧ Below w.heap.size w w' := by
  go_enter Tryz.func85, Tryz.ntmps85
  go_wp2_with fail
  refine (IndexFunc_any _ _ _ v _ _ (hw.mono ((Below.refl _ _).alloc (Nat.le_refl _) _)) (by simp) (by rw [World.cell?_alloc_at _ _ _ _ rfl]; rfl)).mono ?_
  rintro e w2 ⟨rfl, hb2⟩
  go_wp2_with fail
  go_ret
  exact ⟨rfl, ((Below.refl _ _).alloc (Nat.le_refl _) _).trans (hb2.mono (by simp))⟩

end Go.Proofs.YtponiggfclcbgaaGreat
