import Derived.Test.YtnbpglbbjnkhpaaGreatM01
import Derived.Test.YtnbpglbbjnkhpaaGreatM02
import Derived.Deep.OwnRows
import Derived.MapKept
namespace Go.Proofs.YtnbpglbbjnkhpaaGreat.Gate
def up (P : Nat -> Bool) (n : Nat) : Bool := (List.range n).all P
theorem qR (P : Nat -> Bool) (n : Nat) : up P (n + 1) = (up P n && P n) := by simp [up, List.range_succ, List.all_append]
theorem zas {P : Nat -> Bool} {k n : Nat} (h : k < n) (hk : P k = false) : up P n = false := by
  unfold up; rw [List.all_eq_false]; exact ⟨k, List.mem_range.2 h, by simp [hk]⟩
theorem zf4 {P : Nat -> Bool} {k n : Nat} (h : k < n) (hu : up P n = true) : P k = true := by
  unfold up at hu; rw [List.all_eq_true] at hu; exact hu k (List.mem_range.2 h)
def less (a b : ByteArray) : Bool := Op.bytesLess a.toList b.toList
def zcA (ws : List ByteArray) (i : Nat) : Bool := zx (ws.getD i ByteArray.empty) && (decide (i = 0) || less (ws.getD (i - 1) ByteArray.empty) (ws.getD i ByteArray.empty))
def asc (ws : List ByteArray) : Bool := up (zcA ws) ws.length
theorem getD_at {α : Type} (l : List α) (i : Nat) (d : α) (h : i < l.length) : l.getD i d = l[i] := by
  rw [List.getD_eq_getElem?_getD, List.getElem?_eq_getElem h]; rfl
theorem zhT {ws : List ByteArray} {k : Nat} (h : k < ws.length) (hn : zx ws[k] = false) : zcA ws k = false := by
  unfold zcA; rw [getD_at ws k _ h, hn]; rfl
theorem zgd {ws : List ByteArray} (h : 0 < ws.length) (hn : zx ws[0] = true) : zcA ws 0 = true := by
  unfold zcA; rw [getD_at ws 0 _ h, hn]; rfl
theorem zc0 {ws : List ByteArray} {k : Nat} (h : k + 1 < ws.length) (hn : zx ws[k + 1] = true) : zcA ws (k + 1) = less ws[k] ws[k + 1] := by
  unfold zcA; rw [getD_at ws (k + 1) _ h, Nat.add_sub_cancel, getD_at ws k _ (by omega), hn]; simp
def yD (kd ls ms : Int) (n : Nat) (to : ByteArray) (rl : Int) (wg : ByteArray) : Bool :=
  if kd = 1 then decide (n = 0) && to.toList.isEmpty && decide (rl = 0)
  else if kd = 2 then decide (ls = 0) && decide (ms = 0) && to.toList.isEmpty && decide (rl = 0) && wg.toList.isEmpty
  else if kd = 3 then decide (n = 0) && to.toList.isEmpty && decide (rl = 0) && wg.toList.isEmpty
  else if kd = 4 then decide (ls = 0) && decide (ms = 0) && decide (n = 0) && wg.toList.isEmpty
  else false
def jh (ls ms lo hi : Int) : Bool := decide (lo <= ls) && decide (ls <= ms) && decide (ms <= hi)
def zG (ss : List Shp) (k : ByteArray) : Bool := ss.any fun s => decide (s.kd = k)
def zS (ss : List Shp) (f : Fld) : Bool :=
  if f.kd = 1 then jh f.ls f.ms 0 1000000 && (f.wg.toList.isEmpty || zx f.wg)
  else if f.kd = 2 then decide (1 <= f.ws.length) && decide (f.ws.length <= 6) && asc f.ws
  else if f.kd = 3 then jh f.ls f.ms 1 40
  else if f.kd = 4 then zG ss f.to && (decide (1 <= f.rl) && decide (f.rl <= 3)) && f.df.toList.isEmpty && (decide (f.rl ≠ 2) || !f.mu)
  else false
def bare (f : Fld) : Bool := yD f.kd f.ls f.ms f.ws.length f.to f.rl f.wg
def zdP (f : Fld) (v : ByteArray) : Bool := fits f.kd f.ls f.ms f.ws v
def zoc (f : Fld) : Bool := f.df.toList.isEmpty || zdP f f.df
def yE (ss : List Shp) (f : Fld) : Bool := bare f && zS ss f && zoc f
def zbN : Shp := ⟨ByteArray.empty, []⟩
def shapeOf (ss : List Shp) (k : ByteArray) : Shp := (ss.find? fun s => decide (s.kd = k)).getD zbN
theorem zey (ss : List Shp) (v : ByteArray) (k : Nat) (h : k < ss.length) : zG (ss.take (k + 1)) v = (zG (ss.take k) v || decide (ss[k].kd = v)) := by
  unfold zG; rw [List.take_succ_eq_append_getElem h, List.any_append]; simp
theorem zhJ (ss : List Shp) (v : ByteArray) (k : Nat) (h : k < ss.length) (e : ss[k].kd = v) : zG ss v = true := by
  unfold zG; rw [List.any_eq_true]; exact ⟨ss[k], List.getElem_mem h, by simpa using e⟩
theorem zgh (ss : List Shp) (v : ByteArray) (k : Nat) (h : ss.length <= k) : zG (ss.take k) v = zG ss v := by rw [List.take_of_length_le h]
theorem zet (ss : List Shp) (v : ByteArray) (k : Nat) (h : k < ss.length) (hb : zG (ss.take k) v = false) (e : ss[k].kd = v) : shapeOf ss v = ss[k] := by
  unfold shapeOf
  have hn : (ss.take k).find? (fun s => decide (s.kd = v)) = none := by
    rw [List.find?_eq_none]; intro x hx; unfold zG at hb; rw [List.any_eq_false] at hb; exact hb x hx
  conv => lhs; rw [<- List.take_append_drop k ss]
  rw [List.find?_append, hn, List.drop_eq_getElem_cons h, List.find?_cons_of_pos (by simpa using e)]; rfl
theorem zjJ (ss : List Shp) (v : ByteArray) (hb : zG ss v = false) : shapeOf ss v = zbN := by
  unfold shapeOf
  have hn : ss.find? (fun s => decide (s.kd = v)) = none := by
    rw [List.find?_eq_none]; intro x hx; unfold zG at hb; rw [List.any_eq_false] at hb; exact hb x hx
  rw [hn]; rfl
def hasName (fs : List Fld) (v : ByteArray) : Bool := fs.any fun f => decide (f.nm = v)
def zN (fs : List Fld) (v : ByteArray) : Int := match fs.findIdx? (fun f => decide (f.nm = v)) with | some i => i | none => -1
theorem zc1 (fs : List Fld) (v : ByteArray) (k : Nat) (h : k < fs.length) : hasName (fs.take (k + 1)) v = (hasName (fs.take k) v || decide (fs[k].nm = v)) := by
  unfold hasName; rw [List.take_succ_eq_append_getElem h, List.any_append]; simp
theorem zgn (fs : List Fld) (v : ByteArray) (k : Nat) (h : fs.length <= k) : hasName (fs.take k) v = hasName fs v := by rw [List.take_of_length_le h]
theorem zdd (fs : List Fld) (v : ByteArray) (k : Nat) (h : k < fs.length) (hb : hasName (fs.take k) v = false) (e : fs[k].nm = v) : zN fs v = k := by
  unfold zN
  have hf : fs.findIdx? (fun f => decide (f.nm = v)) = some k := by
    rw [List.findIdx?_eq_some_iff_getElem]
    refine ⟨h, by simpa using e, fun j hj => ?_⟩
    unfold hasName at hb
    rw [List.any_eq_false] at hb
    have hm : fs[j] ∈ fs.take k := by
      rw [List.mem_iff_getElem]
      exact ⟨j, by simp; omega, by simp⟩
    exact hb _ hm
  rw [hf]
theorem ze1 (fs : List Fld) (v : ByteArray) (hb : hasName fs v = false) : zN fs v = -1 := by
  unfold zN
  have hf : fs.findIdx? (fun f => decide (f.nm = v)) = none := by
    rw [List.findIdx?_eq_none_iff]
    intro x hx
    unfold hasName at hb
    rw [List.any_eq_false] at hb
    simpa using hb x hx
  rw [hf]
theorem ziL (fs : List Fld) (v : ByteArray) (k : Nat) (h : k < fs.length) (hh : hasName (fs.take k) v = true) : ∃ j, j < k /\ zN fs v = j := by
  unfold hasName at hh
  rw [List.any_eq_true] at hh
  obtain ⟨x, hx, he⟩ := hh
  obtain ⟨j, hj, rfl⟩ := List.mem_iff_getElem.1 hx
  have hjk : j < k := by simp at hj; omega
  have hjl : j < fs.length := by omega
  have hv : fs[j].nm = v := by simpa using he
  cases hf : fs.findIdx? (fun f => decide (f.nm = v)) with
  | none =>
    rw [List.findIdx?_eq_none_iff] at hf
    have := hf fs[j] (List.getElem_mem hjl)
    simp [hv] at this
  | some i =>
    refine ⟨i, ?_, by unfold zN; rw [hf]⟩
    rw [List.findIdx?_eq_some_iff_getElem] at hf
    obtain ⟨hi, _, hmin⟩ := hf
    rcases Nat.lt_or_ge i k with h1 | h1
    · exact h1
    · exfalso
      have := hmin j (by omega)
      simp [hv] at this
def za1 : Fld := ⟨ByteArray.empty, 0, 0, 0, [], ByteArray.empty, 0, false, false, ByteArray.empty, ByteArray.empty⟩
def zdf (ss : List Shp) (fs : List Fld) (i : Nat) : Bool :=
  zx (fs.getD i za1).nm && !hasName (fs.take i) (fs.getD i za1).nm && yE ss (fs.getD i za1)
def yQ (ss : List Shp) (fs : List Fld) : Bool := decide (fs.length <= 6) && up (zdf ss fs) fs.length
theorem zg2 (ss : List Shp) (fs : List Fld) (i : Nat) (h : i < fs.length) : zdf ss fs i = (zx fs[i].nm && !hasName (fs.take i) fs[i].nm && yE ss fs[i]) := by
  unfold zdf; rw [getD_at fs i _ h]
def yP (ss : List Shp) (i : Nat) : Bool :=
  zx (ss.getD i zbN).kd && (decide (i = 0) || less (ss.getD (i - 1) zbN).kd (ss.getD i zbN).kd) && yQ ss (ss.getD i zbN).fs
def zZ (ss : List Shp) : Bool := decide (ss.length <= 6) && up (yP ss) ss.length
theorem zej (ss : List Shp) (h : 0 < ss.length) : yP ss 0 = (zx ss[0].kd && yQ ss ss[0].fs) := by
  unfold yP; rw [getD_at ss 0 _ h]; simp
theorem ze4 (ss : List Shp) (k : Nat) (h : k + 1 < ss.length) : yP ss (k + 1) = (zx ss[k + 1].kd && less ss[k].kd ss[k + 1].kd && yQ ss ss[k + 1].fs) := by
  unfold yP; rw [getD_at ss (k + 1) _ h, Nat.add_sub_cancel, getD_at ss k _ (by omega)]; simp
theorem zbm : ∀ x : List UInt8, Op.bytesLess x x = false
  | [] => rfl
  | a :: x => by
    simp only [Op.bytesLess, Bool.or_eq_false_iff, decide_eq_false_iff_not, Bool.and_eq_false_iff]
    exact ⟨fun h => by simp at h, Or.inr (zbm x)⟩
theorem zaK : ∀ x y z : List UInt8, Op.bytesLess x y = true -> Op.bytesLess y z = true -> Op.bytesLess x z = true
  | _, [], _, h, _ => by simp [Op.bytesLess] at h
  | [], _ :: _, [], _, h => by simp [Op.bytesLess] at h
  | [], _ :: _, _ :: _, _, _ => rfl
  | _ :: _, _ :: _, [], _, h => by simp [Op.bytesLess] at h
  | a :: x, b :: y, c :: z, h, k => by
    simp only [Op.bytesLess, Bool.or_eq_true, decide_eq_true_eq, Bool.and_eq_true, beq_iff_eq] at h k ⊢
    rcases h with h | ⟨rfl, h⟩
    · rcases k with k | ⟨rfl, k⟩
      · exact Or.inl (UInt8.lt_trans h k)
      · exact Or.inl h
    · rcases k with k | ⟨rfl, k⟩
      · exact Or.inl k
      · exact Or.inr ⟨rfl, zaK x y z h k⟩
end Go.Proofs.YtnbpglbbjnkhpaaGreat.Gate

namespace Go.Proofs.YtnbpglbbjnkhpaaGreat
open Go.RowKit
def Fld.sz (f : Fld) : Nat := jT f.nm f.ws f.to f.df f.wg
def zfj (fs : List Fld) : Nat := (fs.map Fld.sz).sum
def zam (fs : List Fld) : Nat := fs.length + zfj fs
def Shp.sz (s : Shp) : Nat := s.kd.size + zam s.fs
def zez (ss : List Shp) : Nat := (ss.map Shp.sz).sum
def zan (ss : List Shp) : Nat := ss.length + zez ss
theorem zgD (nm : ByteArray) (kd ls ms : Int) (a : Option Addr) (cap : Nat) (ws : List ByteArray) (to : ByteArray) (rl : Int) (mu fx : Bool) (df wg : ByteArray) (left : Int) (w : World) (hw : zD w a ws) (h0 : 0 <= left) (h1 : left <= 1048576)
    (hnm : nm.size <= maxLen) (hto : to.size <= maxLen) (hdf : df.size <= maxLen) (hwg : wg.size <= maxLen) (h : (jT nm ws to df wg : Int) <= left) :
    Calls Tryz.prog 134 #[.agg #[.string nm, .int .i64 kd, .int .i64 ls, .int .i64 ms, .slice a ws.length cap, .string to, .int .i64 rl, .bool mu, .bool fx, .string df, .string wg], .int .i64 left] w fun e w' => e = .returned (.int .i64 (left - jT nm ws to df wg)) /\ Below w.heap.size w w' := by
  refine (zds nm kd ls ms a cap ws to rl mu fx df wg left w hw h0 h1 hnm hto hdf hwg).mono ?_
  rintro e w' ⟨rfl, hb⟩
  exact ⟨zo (zM h), hb⟩
theorem zhO (nm : ByteArray) (kd ls ms : Int) (a : Option Addr) (cap : Nat) (ws : List ByteArray) (to : ByteArray) (rl : Int) (mu fx : Bool) (df wg : ByteArray) (left : Int) (w : World) (hw : zD w a ws) (h0 : 0 <= left) (h1 : left <= 1048576)
    (hnm : nm.size <= maxLen) (hto : to.size <= maxLen) (hdf : df.size <= maxLen) (hwg : wg.size <= maxLen) (h : ¬ (jT nm ws to df wg : Int) <= left) :
    Calls Tryz.prog 134 #[.agg #[.string nm, .int .i64 kd, .int .i64 ls, .int .i64 ms, .slice a ws.length cap, .string to, .int .i64 rl, .bool mu, .bool fx, .string df, .string wg], .int .i64 left] w fun e w' => e = .returned (.int .i64 (-1)) /\ Below w.heap.size w w' := by
  refine (zds nm kd ls ms a cap ws to rl mu fx df wg left w hw h0 h1 hnm hto hdf hwg).mono ?_
  rintro e w' ⟨rfl, hb⟩
  exact ⟨zo (zC h), hb⟩
set_option maxHeartbeats 1000000 in
theorem zcS (a : Option Addr) (cap : Nat) (fs : List Fld) (left : Int) (w : World) (hw : zP w a fs) (h0 : 0 <= left) (h1 : left <= 1048576) :
    Calls Tryz.prog 84 #[.slice a fs.length cap, .int .i64 left] w fun e w' => e = .returned (.int .i64 (zL (zam fs) left)) /\ Below w.heap.size w w' := by
  have hl := hw.len
  unfold maxLen at hl
  by_cases hfit : (fs.length : Int) <= left
  · go_enter Tryz.func84, Tryz.ntmps84
    go_wp2_with fail
    go_loopw [1, 5] (fun l i wr => ∃ k : Nat, k <= fs.length /\ i = .int .i64 k /\ 0 <= left - fs.length - zfj (fs.take k) /\ l = .int .i64 (left - fs.length - zfj (fs.take k)) /\ Below w.heap.size w wr) (fun _ i _ => fs.length - (intOf i).toNat)
    case atStart => exact ⟨0, Nat.zero_le _, rfl, by simp [zfj]; omega, by simp [zfj], Below.refl _ _⟩
    case round =>
      obtain ⟨k, hk, rfl, hpos, rfl, hB⟩ := hrel
      by_cases hlt : k < fs.length
      · obtain ⟨b, off, rfl, hb, hr⟩ := hw.rows (by rintro rfl; simp at hlt)
        obtain ⟨wa, wcap, hf0⟩ := hr k hlt
        have hf := hf0.mono hb hB
        obtain ⟨c0, c1, c2, c3, c4, c5, c6, c7, c8, c9, c10⟩ := hf.load
        have hsm := hf.small
        have hst := hf.strs
        have HS : Hid (zfj (fs.take (k + 1)) = zfj (fs.take k) + fs[k].sz) := zaB Fld.sz fs k hlt
        have hle : zfj (fs.take (k + 1)) <= zfj fs := zbX Fld.sz fs (k + 1)
        clear hw hr hf0 hf
        by_cases hneg : (jT fs[k].nm fs[k].ws fs[k].to fs[k].df fs[k].wg : Int) <= left - fs.length - zfj (fs.take k)
        · have HNG : Hid ((jT fs[k].nm fs[k].ws fs[k].to fs[k].df fs[k].wg : Int) <= left - fs.length - zfj (fs.take k)) := hneg
          clear hle
          go_wp2_with fail
          refine (zgD _ _ _ _ _ _ _ _ _ _ _ _ _ _ _ hst hpos (by omega) hsm.nm hsm.to hsm.df hsm.wg HNG.out).mono ?_
          rintro e w1 ⟨rfl, hb1⟩
          have hB1 := hB.trans (hb1.mono hB.size)
          clear hb1
          go_wp2_with fail
          exact ⟨⟨k + 1, by omega, by go_num, by rw [HS.out]; show 0 <= _ - ((_ + jT _ _ _ _ _ : Nat) : Int); omega, by rw [HS.out]; show Value.int _ _ = Value.int _ (_ - ((_ + jT _ _ _ _ _ : Nat) : Int)); congr 1; omega, hB1⟩, by simp [intOf]; omega⟩
        · have HF : Hid (zL (zam fs) left = -1) := zC (by have := HS.out; unfold zam; unfold Fld.sz at this; omega)
          have HNG : Hid (¬ (jT fs[k].nm fs[k].ws fs[k].to fs[k].df fs[k].wg : Int) <= left - fs.length - zfj (fs.take k)) := hneg
          clear hneg hle
          go_wp2_with fail
          refine (zhO _ _ _ _ _ _ _ _ _ _ _ _ _ _ _ hst hpos (by omega) hsm.nm hsm.to hsm.df hsm.wg (by have := HNG.out; omega)).mono ?_
          rintro e w1 ⟨rfl, hb1⟩
          have hB1 := hB.trans (hb1.mono hB.size)
          clear hb1
          go_wp2_with fail
          go_ret
          exact ⟨zo HF.out.symm, hB1⟩
      · have HF : Hid (zL (zam fs) left = left - fs.length - zfj (fs.take k)) := by
          rw [List.take_of_length_le (by omega)] at hpos ⊢
          have e : zL (zam fs) left = left - zam fs := zM (by unfold zam; omega)
          unfold Hid; rw [e]; unfold zam; omega
        clear hw
        go_wp2
        go_ret
        exact ⟨zo HF.out.symm, hB⟩
  · have HF : Hid (zL (zam fs) left = -1) := zC (by unfold zam; omega)
    clear hw
    go_enter Tryz.func84, Tryz.ntmps84
    go_wp2
    go_ret
    exact ⟨zo HF.out.symm, Below.refl _ _⟩
theorem zfM (a : Option Addr) (cap : Nat) (fs : List Fld) (left : Int) (w : World) (hw : zP w a fs) (h0 : 0 <= left) (h1 : left <= 1048576) (h : (zam fs : Int) <= left) :
    Calls Tryz.prog 84 #[.slice a fs.length cap, .int .i64 left] w fun e w' => e = .returned (.int .i64 (left - zam fs)) /\ Below w.heap.size w w' := by
  refine (zcS a cap fs left w hw h0 h1).mono ?_
  rintro e w' ⟨rfl, hb⟩
  exact ⟨zo (zM h), hb⟩
theorem zgz (a : Option Addr) (cap : Nat) (fs : List Fld) (left : Int) (w : World) (hw : zP w a fs) (h0 : 0 <= left) (h1 : left <= 1048576) (h : ¬ (zam fs : Int) <= left) :
    Calls Tryz.prog 84 #[.slice a fs.length cap, .int .i64 left] w fun e w' => e = .returned (.int .i64 (-1)) /\ Below w.heap.size w w' := by
  refine (zcS a cap fs left w hw h0 h1).mono ?_
  rintro e w' ⟨rfl, hb⟩
  exact ⟨zo (zC h), hb⟩
set_option maxHeartbeats 1000000 in
theorem zdr (kd : ByteArray) (a : Option Addr) (cap : Nat) (fs : List Fld) (left : Int) (w : World) (hkd : kd.size <= maxLen) (hw : zP w a fs) (h0 : 0 <= left) (h1 : left <= 1048576) :
    Calls Tryz.prog 40 #[.agg #[.string kd, .slice a fs.length cap], .int .i64 left] w fun e w' => e = .returned (.int .i64 (zL (Shp.sz ⟨kd, fs⟩) left)) /\ Below w.heap.size w w' := by
  unfold maxLen at hkd
  by_cases c1 : (kd.size : Int) <= left
  rotate_left
  · have HF : Hid (zL (Shp.sz ⟨kd, fs⟩) left = -1) := zC (by unfold Shp.sz; simp only; omega)
    go_enter Tryz.func40, Tryz.ntmps40
    go_wp2_with fail
    go_ret
    exact ⟨zo HF.out.symm, (Below.refl _ _).alloc (Nat.le_refl _) _⟩
  by_cases c2 : (zam fs : Int) <= left - kd.size
  · have HF : Hid (zL (Shp.sz ⟨kd, fs⟩) left = left - kd.size - zam fs) := by
      have e : zL (Shp.sz ⟨kd, fs⟩) left = left - Shp.sz ⟨kd, fs⟩ := zM (by unfold Shp.sz; simp only; omega)
      unfold Hid; rw [e]; unfold Shp.sz; simp only; omega
    go_enter Tryz.func40, Tryz.ntmps40
    go_wp2_with fail
    refine (zfM _ _ _ _ _ (hw.mono ((Below.refl _ _).alloc (Nat.le_refl _) _)) (by omega) (by omega) (by omega)).mono ?_
    rintro e w1 ⟨rfl, hb1⟩
    go_wp2_with fail
    go_ret
    exact ⟨zo HF.out.symm, ((Below.refl _ _).alloc (Nat.le_refl _) _).trans (hb1.mono (by simp))⟩
  · have HF : Hid (zL (Shp.sz ⟨kd, fs⟩) left = -1) := zC (by unfold Shp.sz; simp only; omega)
    go_enter Tryz.func40, Tryz.ntmps40
    go_wp2_with fail
    refine (zgz _ _ _ _ _ (hw.mono ((Below.refl _ _).alloc (Nat.le_refl _) _)) (by omega) (by omega) (by omega)).mono ?_
    rintro e w1 ⟨rfl, hb1⟩
    go_wp2_with fail
    go_ret
    exact ⟨zo HF.out.symm, ((Below.refl _ _).alloc (Nat.le_refl _) _).trans (hb1.mono (by simp))⟩
theorem zgp (kd : ByteArray) (a : Option Addr) (cap : Nat) (fs : List Fld) (left : Int) (w : World) (hkd : kd.size <= maxLen) (hw : zP w a fs) (h0 : 0 <= left) (h1 : left <= 1048576) (h : (Shp.sz ⟨kd, fs⟩ : Int) <= left) :
    Calls Tryz.prog 40 #[.agg #[.string kd, .slice a fs.length cap], .int .i64 left] w fun e w' => e = .returned (.int .i64 (left - Shp.sz ⟨kd, fs⟩)) /\ Below w.heap.size w w' := by
  refine (zdr kd a cap fs left w hkd hw h0 h1).mono ?_
  rintro e w' ⟨rfl, hb⟩
  exact ⟨zo (zM h), hb⟩
theorem zhh (kd : ByteArray) (a : Option Addr) (cap : Nat) (fs : List Fld) (left : Int) (w : World) (hkd : kd.size <= maxLen) (hw : zP w a fs) (h0 : 0 <= left) (h1 : left <= 1048576) (h : ¬ (Shp.sz ⟨kd, fs⟩ : Int) <= left) :
    Calls Tryz.prog 40 #[.agg #[.string kd, .slice a fs.length cap], .int .i64 left] w fun e w' => e = .returned (.int .i64 (-1)) /\ Below w.heap.size w w' := by
  refine (zdr kd a cap fs left w hkd hw h0 h1).mono ?_
  rintro e w' ⟨rfl, hb⟩
  exact ⟨zo (zC h), hb⟩
set_option maxHeartbeats 1000000 in
theorem zfR (a : Option Addr) (cap : Nat) (ss : List Shp) (left : Int) (w : World) (hw : yG w a ss) (h0 : 0 <= left) (h1 : left <= 1048576) :
    Calls Tryz.prog 12 #[.slice a ss.length cap, .int .i64 left] w fun e w' => e = .returned (.int .i64 (zL (zan ss) left)) /\ Below w.heap.size w w' := by
  have hl := hw.len
  unfold maxLen at hl
  by_cases hfit : (ss.length : Int) <= left
  · go_enter Tryz.func12, Tryz.ntmps12
    go_wp2_with fail
    go_loopw [1, 5] (fun l i wr => ∃ k : Nat, k <= ss.length /\ i = .int .i64 k /\ 0 <= left - ss.length - zez (ss.take k) /\ l = .int .i64 (left - ss.length - zez (ss.take k)) /\ Below w.heap.size w wr) (fun _ i _ => ss.length - (intOf i).toNat)
    case atStart => exact ⟨0, Nat.zero_le _, rfl, by simp [zez]; omega, by simp [zez], Below.refl _ _⟩
    case round =>
      obtain ⟨k, hk, rfl, hpos, rfl, hB⟩ := hrel
      by_cases hlt : k < ss.length
      · obtain ⟨b, off, rfl, hb, hr⟩ := hw.rows (by rintro rfl; simp at hlt)
        obtain ⟨fa, fcap, hs0⟩ := hr k hlt
        have hs := hs0.mono hb hB
        have hck := hs.kind
        have hcl := hs.list
        have hfl := hs.flds
        have hsm := hs.small
        have HS : Hid (zez (ss.take (k + 1)) = zez (ss.take k) + Shp.sz ⟨ss[k].kd, ss[k].fs⟩) := zaB Shp.sz ss k hlt
        have hle : zez (ss.take (k + 1)) <= zez ss := zbX Shp.sz ss (k + 1)
        clear hw hr hs0 hs
        by_cases hneg : (Shp.sz ⟨ss[k].kd, ss[k].fs⟩ : Int) <= left - ss.length - zez (ss.take k)
        · have HNG : Hid ((Shp.sz ⟨ss[k].kd, ss[k].fs⟩ : Int) <= left - ss.length - zez (ss.take k)) := hneg
          clear hle
          go_wp2_with fail
          refine (zgp _ _ _ _ _ _ hsm hfl hpos (by omega) HNG.out).mono ?_
          rintro e w1 ⟨rfl, hb1⟩
          have hB1 := hB.trans (hb1.mono hB.size)
          clear hb1
          go_wp2_with fail
          exact ⟨⟨k + 1, by omega, by go_num, by rw [HS.out]; omega, by rw [HS.out]; congr 1; omega, hB1⟩, by simp [intOf]; omega⟩
        · have HF : Hid (zL (zan ss) left = -1) := zC (by have := HS.out; unfold zan; omega)
          have HNG : Hid (¬ (Shp.sz ⟨ss[k].kd, ss[k].fs⟩ : Int) <= left - ss.length - zez (ss.take k)) := hneg
          clear hneg hle
          go_wp2_with fail
          refine (zhh _ _ _ _ _ _ hsm hfl hpos (by omega) (by have := HNG.out; omega)).mono ?_
          rintro e w1 ⟨rfl, hb1⟩
          have hB1 := hB.trans (hb1.mono hB.size)
          clear hb1
          go_wp2_with fail
          go_ret
          exact ⟨zo HF.out.symm, hB1⟩
      · have HF : Hid (zL (zan ss) left = left - ss.length - zez (ss.take k)) := by
          rw [List.take_of_length_le (by omega)] at hpos ⊢
          have e : zL (zan ss) left = left - zan ss := zM (by unfold zan; omega)
          unfold Hid; rw [e]; unfold zan; omega
        clear hw
        go_wp2
        go_ret
        exact ⟨zo HF.out.symm, hB⟩
  · have HF : Hid (zL (zan ss) left = -1) := zC (by unfold zan; omega)
    clear hw
    go_enter Tryz.func12, Tryz.ntmps12
    go_wp2
    go_ret
    exact ⟨zo HF.out.symm, Below.refl _ _⟩
end Go.Proofs.YtnbpglbbjnkhpaaGreat

namespace Go.Proofs.YtnbpglbbjnkhpaaGreat
open Go.RowKit
theorem zi {w : World} {b o : Nat} {C : Array Value} {t : TypeId} (h : w.heap[b]? = some (.cells C t)) (v : Value) : (w.setCell ⟨b, o, none⟩ v).heap[b]? = some (.cells (C.setIfInBounds o v) t) := by
  simp [World.setCell, Array.getElem?_modify, h]
theorem cell_of_block {w : World} {b o : Nat} {C : Array Value} {t : TypeId} (h : w.heap[b]? = some (.cells C t)) : w.cell? ⟨b, o, none⟩ = C[o]? := by simp [World.cell?, h]
theorem zm {w : World} {b o : Nat} {C : Array Value} {t : TypeId} (h : w.heap[b]? = some (.cells C t)) : w.frozen? ⟨b, o, none⟩ = false := by simp [World.frozen?, h]
def zk7 (w : World) (b o : Nat) (v0 v1 v2 v3 v4 v5 v6 v7 v8 v9 v10 : Value) : World := ((((((((((w.setCell ⟨b, o, none⟩ v0).setCell ⟨b, o + 1, none⟩ v1).setCell ⟨b, o + 2, none⟩ v2).setCell ⟨b, o + 3, none⟩ v3).setCell ⟨b, o + 4, none⟩ v4).setCell ⟨b, o + 5, none⟩ v5).setCell ⟨b, o + 6, none⟩ v6).setCell ⟨b, o + 7, none⟩ v7).setCell ⟨b, o + 8, none⟩ v8).setCell ⟨b, o + 9, none⟩ v9).setCell ⟨b, o + 10, none⟩ v10
def zhI (C : Array Value) (o : Nat) (v0 v1 v2 v3 v4 v5 v6 v7 v8 v9 v10 : Value) : Array Value := ((((((((((C.setIfInBounds o v0).setIfInBounds (o + 1) v1).setIfInBounds (o + 2) v2).setIfInBounds (o + 3) v3).setIfInBounds (o + 4) v4).setIfInBounds (o + 5) v5).setIfInBounds (o + 6) v6).setIfInBounds (o + 7) v7).setIfInBounds (o + 8) v8).setIfInBounds (o + 9) v9).setIfInBounds (o + 10) v10
theorem zkE {w : World} {b o : Nat} {C : Array Value} {t : TypeId} (h : w.heap[b]? = some (.cells C t)) (v0 v1 v2 v3 v4 v5 v6 v7 v8 v9 v10 : Value) : (zk7 w b o v0 v1 v2 v3 v4 v5 v6 v7 v8 v9 v10).heap[b]? = some (.cells (zhI C o v0 v1 v2 v3 v4 v5 v6 v7 v8 v9 v10) t) :=
  zi (zi (zi (zi (zi (zi (zi (zi (zi (zi (zi h v0) v1) v2) v3) v4) v5) v6) v7) v8) v9) v10
theorem zkF {B : Nat} {a w : World} (h : Below B a w) {b : Nat} (hb : B <= b) (o : Nat) (v0 v1 v2 v3 v4 v5 v6 v7 v8 v9 v10 : Value) : Below B a (zk7 w b o v0 v1 v2 v3 v4 v5 v6 v7 v8 v9 v10) :=
  ((((((((((h.setCell hb v0).setCell hb v1).setCell hb v2).setCell hb v3).setCell hb v4).setCell hb v5).setCell hb v6).setCell hb v7).setCell hb v8).setCell hb v9).setCell hb v10
theorem zgc (w : World) (b o b' : Nat) (hb : b' ≠ b) (v0 v1 v2 v3 v4 v5 v6 v7 v8 v9 v10 : Value) : (zk7 w b o v0 v1 v2 v3 v4 v5 v6 v7 v8 v9 v10).heap[b']? = w.heap[b']? := by
  unfold zk7
  iterate 11 rw [Below.heap_setCell _ _ _ _ hb]
theorem zlw (C : Array Value) (o : Nat) (v0 v1 v2 v3 v4 v5 v6 v7 v8 v9 v10 : Value) : (zhI C o v0 v1 v2 v3 v4 v5 v6 v7 v8 v9 v10).size = C.size := by simp [zhI]
theorem zmW (C : Array Value) (o i : Nat) (v0 v1 v2 v3 v4 v5 v6 v7 v8 v9 v10 : Value) (h : i < o \/ o + 11 <= i) : (zhI C o v0 v1 v2 v3 v4 v5 v6 v7 v8 v9 v10)[i]? = C[i]? := by
  unfold zhI
  iterate 11 rw [Array.getElem?_setIfInBounds, if_neg (by omega)]
theorem znm (C : Array Value) (o j : Nat) (v0 v1 v2 v3 v4 v5 v6 v7 v8 v9 v10 : Value) (hj : j < 11) (ho : o + 11 <= C.size) : (zhI C o v0 v1 v2 v3 v4 v5 v6 v7 v8 v9 v10)[o + j]? = (#[v0, v1, v2, v3, v4, v5, v6, v7, v8, v9, v10] : Array Value)[j]? := by
  have hc : j = 0 \/ j = 1 \/ j = 2 \/ j = 3 \/ j = 4 \/ j = 5 \/ j = 6 \/ j = 7 \/ j = 8 \/ j = 9 \/ j = 10 := by omega
  unfold zhI
  rcases hc with h | h | h | h | h | h | h | h | h | h | h <;> subst h <;> simp [Array.getElem?_setIfInBounds] <;> omega
end Go.Proofs.YtnbpglbbjnkhpaaGreat

namespace Go.Proofs.YtnbpglbbjnkhpaaGreat
open Go.RowKit
set_option maxHeartbeats 400000 in
theorem zcs (a : Option Addr) (cap : Nat) (ws : List ByteArray) (w : World) (hw : zD w a ws) (hl : ws.length <= 1048576) :
    Calls Tryz.prog 101 #[.slice a ws.length cap] w fun e w' => e = .returned (.slice (some ⟨w.heap.size, 0, none⟩) ws.length ws.length) /\ w' = w.alloc (.cells (jU ws) 9) := by
  have hmk : ∀ w : World, (Instr.makeSlice 87 (.int .i64 ws.length) (.int .i64 ws.length)).run Tryz.prog w = .ok (.slice (some ⟨w.heap.size, 0, none⟩) ws.length ws.length) (w.alloc (.cells (strCells ws 0) 9)) := by
    intro w
    have h := run_make_row' (P := Tryz.prog) 87 9 (.string ByteArray.empty) 16 Tryz.underlying87 (by kernel_rfl) rfl .i64 .i64 ws.length (by omega) (by omega) w
    rw [ziv] at h
    exact h
  go_enter Tryz.func101, Tryz.ntmps101
  go_wp2
  clear hmk
  go_loopw [4] (fun i wr => ∃ k : Nat, k <= ws.length /\ i = .int .i64 k /\ wr = w.alloc (.cells (strCells ws k) 9)) (fun i _ => ws.length - (intOf i).toNat)
  case atStart => exact ⟨0, Nat.zero_le _, rfl, rfl⟩
  case round =>
    obtain ⟨k, hk, rfl, rfl⟩ := hrel
    by_cases hlt : k < ws.length
    · obtain ⟨b, off, rfl, hb, hc⟩ := hw.cells (by rintro rfl; simp at hlt)
      clear hw
      have hck := hc k hlt
      have hold := zk1 ws k hlt
      have HS : Hid ((strCells ws k).setIfInBounds k (.string ws[k]) = strCells ws (k + 1)) := zjy ws k hlt
      clear hc
      go_wp2
      go_roundw
      case rel => exact ⟨k + 1, by omega, by go_num, by rw [HS.out]⟩
      case measure => simp [intOf]; omega
    · have HA : Hid (strCells ws k = jU ws) := zjE ws k (by omega)
      clear hw
      go_wp2
      go_ret
      exact ⟨rfl, by rw [HA.out]⟩
theorem zlF (w : World) (o1 o2 o3 o4 : Obj) : Below w.heap.size w ((((w.alloc o1).alloc o2).alloc o3).alloc o4) :=
  ((((Below.refl _ _).alloc (Nat.le_refl _) _).alloc (by simp) _).alloc (by simp; omega) _).alloc (by simp; omega) _
theorem at4 (w : World) (o1 o2 o3 o4 : Obj) : ((((w.alloc o1).alloc o2).alloc o3).alloc o4).heap[w.heap.size + 1 + 1 + 1]? = some o4 := by
  have h := MapKept.heap_alloc (((w.alloc o1).alloc o2).alloc o3) o4
  simpa using h.1
set_option maxHeartbeats 1000000 in
theorem zgI (nm : ByteArray) (kd ls ms : Int) (a : Option Addr) (cap : Nat) (ws : List ByteArray) (to : ByteArray) (rl : Int) (mu fx : Bool) (df wg : ByteArray) (w : World) (hw : zD w a ws) (hl : ws.length <= 1048576) :
    Calls Tryz.prog 144 #[.agg #[.string nm, .int .i64 kd, .int .i64 ls, .int .i64 ms, .slice a ws.length cap, .string to, .int .i64 rl, .bool mu, .bool fx, .string df, .string wg]] w
      fun e w' => ∃ bk, e = .returned (.agg #[.string nm, .int .i64 kd, .int .i64 ls, .int .i64 ms, .slice (some ⟨bk, 0, none⟩) ws.length ws.length, .string to, .int .i64 rl, .bool mu, .bool fx, .string df, .string wg]) /\
        w.heap.size <= bk /\ bk < w'.heap.size /\ w'.heap[bk]? = some (.cells (jU ws) 9) /\ Below w.heap.size w w' := by
  go_enter Tryz.func144, Tryz.ntmps144
  go_wp2_with (go_at_call 101; refine (zcs _ _ _ _ (by exact hw.mono ((((Below.refl _ _).alloc (Nat.le_refl _) _).alloc (by simp) _).alloc (by simp; omega) _)) hl).mono ?_; rintro e w' ⟨rfl, rfl⟩)
  refine bodyPost_ret (v := .agg #[.string nm, .int .i64 kd, .int .i64 ls, .int .i64 ms, .slice (some ⟨w.heap.size + 1 + 1 + 1, 0, none⟩) ws.length ws.length, .string to, .int .i64 rl, .bool mu, .bool fx, .string df, .string wg]) (by simp [results, Tryz.results144, go_sem]) rfl ⟨w.heap.size + 1 + 1 + 1, rfl, by omega, by simp, at4 _ _ _ _ _, zlF _ _ _ _ _⟩
end Go.Proofs.YtnbpglbbjnkhpaaGreat
