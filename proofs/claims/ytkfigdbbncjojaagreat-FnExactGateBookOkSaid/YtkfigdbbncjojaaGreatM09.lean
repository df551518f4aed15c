import Derived.Test.YtkfigdbbncjojaaGreatM06
import Derived.Test.YtkfigdbbncjojaaGreatM03
import Derived.Test.YtkfigdbbncjojaaGreatM05
import Derived.Below
namespace Go.Proofs.YtkfigdbbncjojaaGreat
open Go.RowKit
theorem zgB {a b : Int} {p q : Bool} (h : a = b) (h2 : p = q) : Ending.returned (.tuple #[.int .i64 a, .bool p]) = .returned (.tuple #[.int .i64 b, .bool q]) := by rw [h, h2]
def jH (s : ByteArray) : Int := if Gate.jD s = true then Gate.zeA s else 0
set_option maxHeartbeats 800000 in
theorem zhl (s : ByteArray) (w : World) (h1 : 1 <= s.size) (h7 : s.size <= 7) (hz : s.size <= 1 \/ ¬ (s[0].toNat : Int) = 48) :
    Calls Tryz.prog 199 #[.string s] w fun e w' => e = .returned (.tuple #[.int .i64 (jH s), .bool (Gate.jD s)]) /\ w' = w := by
  have HF : Hid (Gate.jD s = Gate.j6 s) := Gate.ziS s h1 h7 hz
  have hne : s.toList.isEmpty = false := by rw [Gate.zo]; exact decide_eq_false (by omega)
  rcases (show (¬ (s[0].toNat : Int) = 48) \/ (s.size <= 1 /\ (s[0].toNat : Int) = 48) by rcases hz with h | h <;> omega) with hz0 | ⟨hone, hz0⟩
  all_goals
    clear hz
    first
      | (have hz1 : ((s[0].toNat : Int) == 48) = true := by simpa using hz0)
      | (have hz1 : ((s[0].toNat : Int) == 48) = false := by simpa using hz0)
    clear hz0
    go_enter Tryz.func199, Tryz.ntmps199
    go_wp2
    go_loop [4, 25] (fun n i => ∃ k : Nat, k <= s.size /\ i = .int .i64 k /\ (s.data.toList.take k).all Gate.digit = true /\ n = .int .i64 (Gate.dec (s.data.toList.take k))) (fun _ i => s.size - (intOf i).toNat)
    case atStart => exact ⟨0, Nat.zero_le _, rfl, rfl, rfl⟩
    case round =>
      obtain ⟨k, hk, rfl, hall, rfl⟩ := hrel
      have hlen : (s.data.toList.take k).length <= k := List.length_take_le _ _
      obtain ⟨hd0, hd1⟩ := Gate.zdC _ hall k hlen
      by_cases hlt : k < s.size
      · have hp := ziZ k (by omega)
        have hd2 : Gate.dec (s.data.toList.take k) < 10000000 := by omega
        clear hp hd1 hlen
        have HS : Hid ((s.data.toList.take (k + 1)).all Gate.digit = (true && Gate.digit s[k])) := by rw [Gate.za3 _ s k hlt, hall]; rfl
        have HD : Hid (Gate.dec (s.data.toList.take (k + 1)) = Gate.dec (s.data.toList.take k) * 10 + ((s[k].toNat : Int) - 48)) := by rw [Gate.zeQ s k hlt]; exact Gate.zky _ _
        have HN : Hid (Gate.digit s[k] = false -> Gate.j6 s = false) := fun h => Gate.zcL Gate.digit s k hlt h
        clear hall
        by_cases hd : 48 <= (s[k].toNat : Int) /\ (s[k].toNat : Int) <= 57
        · have HC : Hid (Gate.digit s[k] = true) := by simp [Gate.digit, Hid]; omega
          obtain ⟨h48, h57⟩ := hd
          go_wp2_with (go_at_call 180; refine (zfz _ _ h48 h57).mono ?_; rintro e w' ⟨rfl, rfl⟩)
          go_round
          case rel => exact ⟨k + 1, by omega, by go_num, by rw [HS.out, HC.out]; rfl, by rw [HD.out]⟩
          case measure => simp [intOf]; omega
        · have HC : Hid (Gate.digit s[k] = false) := by simp [Gate.digit, Hid]; omega
          have HDD : Hid (¬ (48 <= (s[k].toNat : Int) /\ (s[k].toNat : Int) <= 57)) := hd
          clear hd
          go_wp2_with (go_at_call 180; refine (zbG _ _ HDD.out).mono ?_; rintro e w' ⟨rfl, rfl⟩)
          go_ret2
          exact ⟨zgB (by unfold jH; rw [HF.out, HN.out HC.out]; rfl) (by rw [HF.out, HN.out HC.out]), rfl⟩
      · have HA : Hid (Gate.j6 s = true) := by unfold Gate.j6 Hid; rw [<- Gate.zaG s k (by omega)]; exact hall
        have HB : Hid (Gate.dec (s.data.toList.take k) = Gate.zeA s) := by rw [Gate.zaG s k (by omega)]; rfl
        clear hall hd0 hd1 hlen
        go_wp2
        go_ret2
        exact ⟨zgB (by unfold jH; rw [HF.out, HA.out, HB.out]; rfl) (by rw [HF.out, HA.out]), rfl⟩
set_option maxHeartbeats 400000 in
theorem zbW (s : ByteArray) (w : World) (hs : s.size <= maxLen) :
    Calls Tryz.prog 199 #[.string s] w fun e w' => e = .returned (.tuple #[.int .i64 (jH s), .bool (Gate.jD s)]) /\ w' = w := by
  unfold maxLen at hs
  by_cases h0 : s.size = 0
  · rw [Gate.zbZ s h0]
    go_enter Tryz.func199, Tryz.ntmps199
    go_wp2
    go_ret2
    exact ⟨rfl, rfl⟩
  have hne : s.toList.isEmpty = false := by rw [Gate.zo]; simp [h0]
  by_cases h7 : s.size <= 7
  · by_cases hz : 1 < s.size /\ (s[0].toNat : Int) = 48
    · obtain ⟨hm, hz0⟩ := hz
      have HF : Hid (Gate.jD s = false) := Gate.zdE s hm hz0
      have hz1 : ((s[0].toNat : Int) == 48) = true := by simpa using hz0
      clear hz0
      go_enter Tryz.func199, Tryz.ntmps199
      go_wp2
      go_ret2
      exact ⟨zgB (by unfold jH; rw [HF.out]; rfl) HF.out.symm, rfl⟩
    · exact zhl s w (by omega) h7 (by omega)
  · have HF : Hid (Gate.jD s = false) := Gate.zcK s (by omega)
    go_enter Tryz.func199, Tryz.ntmps199
    go_wp2
    go_ret2
    exact ⟨zgB (by unfold jH; rw [HF.out]; rfl) HF.out.symm, rfl⟩
end Go.Proofs.YtkfigdbbncjojaaGreat

namespace Go.Proofs.YtkfigdbbncjojaaGreat
open Go.RowKit
def zm4 (ss : List Shp) (v : ByteArray) (e : Ending) : Prop :=
  (Gate.zC ss v = false -> e = .returned (.int .i64 (-1))) /\ (Gate.zC ss v = true -> ∃ k, ∃ h : k < ss.length, e = .returned (.int .i64 (k : Nat)) /\ Gate.shapeOf ss v = ss[k])
set_option maxHeartbeats 400000 in
theorem zfD (a : Option Addr) (cap : Nat) (ss : List Shp) (v : ByteArray) (w : World) (hw : yB w a ss) :
    Calls Tryz.prog 96 #[.slice a ss.length cap, .string v] w fun e w' => zm4 ss v e /\ w' = w := by
  have hl := hw.len
  unfold maxLen at hl
  go_enter Tryz.func96, Tryz.ntmps96
  go_wp2
  go_loop [5] (fun i => ∃ k : Nat, k <= ss.length /\ i = .int .i64 k /\ Gate.zC (ss.take k) v = false) (fun i => ss.length - (intOf i).toNat)
  case atStart => exact ⟨0, Nat.zero_le _, rfl, rfl⟩
  case round =>
    obtain ⟨k, hk, rfl, hno⟩ := hrel
    by_cases hlt : k < ss.length
    · obtain ⟨b, off, rfl, hb, hr⟩ := hw.rows (by rintro rfl; simp at hlt)
      obtain ⟨fa, fcap, hs⟩ := hr k hlt
      have hck := hs.kind
      clear hw hr hs
      by_cases he : ss[k].kd = v
      · have hbe : (ss[k].kd.toList == v.toList) = true := by rw [Gate.beq_toList]; simpa using he
        have HA : Hid (Gate.zC ss v = true) := Gate.zdT ss v k hlt he
        have HB : Hid (Gate.shapeOf ss v = ss[k]) := Gate.zco ss v k hlt hno he
        clear he hno
        go_wp2
        go_ret
        exact ⟨⟨fun h => (by rw [HA.out] at h; cases h), fun _ => ⟨k, hlt, rfl, HB.out⟩⟩, rfl⟩
      · have hbe : (ss[k].kd.toList == v.toList) = false := by rw [Gate.beq_toList]; simpa using he
        have HS : Hid (Gate.zC (ss.take (k + 1)) v = false) := by unfold Hid; rw [Gate.zcu ss v k hlt, hno, decide_eq_false he]; rfl
        clear he hno
        go_wp2
        go_round
        case rel => exact ⟨k + 1, by omega, by go_num, HS.out⟩
        case measure => simp [intOf]; omega
    · have HA : Hid (Gate.zC ss v = false) := by rw [<- Gate.zc8 ss v k (by omega)]; exact hno
      clear hno hw
      go_wp2
      go_ret
      exact ⟨⟨fun _ => rfl, fun h => by rw [HA.out] at h; cases h⟩, rfl⟩
theorem zdV (a : Option Addr) (cap : Nat) (ss : List Shp) (v : ByteArray) (w : World) (hw : yB w a ss) (h : Gate.zC ss v = false) :
    Calls Tryz.prog 96 #[.slice a ss.length cap, .string v] w fun e w' => e = .returned (.int .i64 (-1)) /\ w' = w := by
  refine (zfD a cap ss v w hw).mono ?_
  rintro e w' ⟨⟨h1, _⟩, rfl⟩
  exact ⟨h1 h, rfl⟩
theorem zav (a : Option Addr) (cap : Nat) (ss : List Shp) (v : ByteArray) (w : World) (hw : yB w a ss) (h : Gate.zC ss v = true) :
    Calls Tryz.prog 96 #[.slice a ss.length cap, .string v] w fun e w' => ∃ k, ∃ h : k < ss.length, e = .returned (.int .i64 (k : Nat)) /\ Gate.shapeOf ss v = ss[k] /\ w' = w := by
  refine (zfD a cap ss v w hw).mono ?_
  rintro e w' ⟨⟨_, h2⟩, rfl⟩
  obtain ⟨k, hk, he, hs⟩ := h2 h
  exact ⟨k, hk, he, hs, rfl⟩
end Go.Proofs.YtkfigdbbncjojaaGreat

namespace Go.Proofs.YtkfigdbbncjojaaGreat
structure Ob where
  kd : ByteArray
  nm : ByteArray
  tm : ByteArray
  vs : List ByteArray
  en : Bool
  hs : List ByteArray
  vr : Int
abbrev oC (o : Ob) (a a' : Option Addr) (c c' : Nat) : Array Value := #[.string o.kd, .string o.nm, .string o.tm, .slice a o.vs.length c, .bool o.en, .slice a' o.hs.length c', .int .i64 o.vr]
abbrev oZ : Array Value := #[.string ByteArray.empty, .string ByteArray.empty, .string ByteArray.empty, .slice none 0 0, .bool false, .slice none 0 0, .int .i64 0]
def Ob.cells (o : Ob) (a : Option Addr) (cap : Nat) (a' : Option Addr) (cap' : Nat) : Array Value :=
  (oC o a a' cap cap')
structure Ob.Small (o : Ob) : Prop where
  kd : o.kd.size <= maxLen
  nm : o.nm.size <= maxLen
  tm : o.tm.size <= maxLen
namespace Gate
def jL (f : Fld) (v : ByteArray) : Int := if v.size = 0 then (if f.mu then 2 else 0) else if zdO f v then 0 else 3
def zd5 (fs : List Fld) (vs : List ByteArray) (i : Nat) : Int := jL (fs.getD i zaA) (vs.getD i ByteArray.empty)
def zaf (fs : List Fld) (vs : List ByteArray) (i : Nat) : Bool := decide (zd5 fs vs i = 0)
def qN (fs : List Fld) (vs : List ByteArray) : Int × Int := match (List.range fs.length).find? (fun i => !zaf fs vs i) with | some i => (zd5 fs vs i, i) | none => (0, 0)
theorem find_range {P : Nat -> Bool} {n k : Nat} (hk : k < n) (hu : up P k = true) (hp : P k = false) : (List.range n).find? (fun i => !P i) = some k := by
  rw [List.find?_eq_some_iff_getElem]
  refine ⟨by simp [hp], k, by simpa using hk, by simp, fun j hj => ?_⟩
  have := zfN hj hu
  simp [this]
theorem zgg {P : Nat -> Bool} {n : Nat} (hu : up P n = true) : (List.range n).find? (fun i => !P i) = none := by
  rw [List.find?_eq_none]
  intro x hx
  have := zfN (List.mem_range.1 hx) hu
  simp [this]
theorem ziL {fs : List Fld} {vs : List ByteArray} {k : Nat} (hk : k < fs.length) (hu : up (zaf fs vs) k = true) (hp : zaf fs vs k = false) : qN fs vs = (zd5 fs vs k, (k : Int)) := by
  unfold qN; rw [find_range hk hu hp]
theorem zfH {fs : List Fld} {vs : List ByteArray} (hu : up (zaf fs vs) fs.length = true) : qN fs vs = (0, 0) := by
  unfold qN; rw [zgg hu]
theorem zgP {fs : List Fld} {vs : List ByteArray} {k : Nat} (h1 : k < fs.length) (h2 : k < vs.length) : zd5 fs vs k = jL fs[k] vs[k] := by
  unfold zd5; rw [getD_at fs k _ h1, getD_at vs k _ h2]
def yO (o : Ob) : Bool := zy o.nm && zy o.tm
def yV (o : Ob) : Bool := decide (o.hs.length <= 3) && asc o.hs
def yH (o : Ob) : Bool := decide (0 <= o.vr) && decide (o.vr <= 1000000)
def zw (ss : List Shp) (o : Ob) : Bool := zC ss o.kd && decide (o.vs.length = (shapeOf ss o.kd).fs.length)
def whole (ss : List Shp) (o : Ob) : Bool := yO o && yV o && yH o && zw ss o
def yg (ss : List Shp) (o : Ob) : Int × Int := if whole ss o = true then qN (shapeOf ss o.kd).fs o.vs else (1, 0)
def check (ss : List Shp) (o : Ob) : Int × Int := if zM ss = true then yg ss o else (1, 0)
end Gate
end Go.Proofs.YtkfigdbbncjojaaGreat

namespace Go.Proofs.YtkfigdbbncjojaaGreat
open Go.RowKit
theorem zR {w : World} {p : Addr} {v : Value} {b o : Nat} (h : b ≠ p.block) : (w.setCell p v).cell? ⟨b, o, none⟩ = w.cell? ⟨b, o, none⟩ := by
  unfold World.cell?; rw [Below.heap_setCell _ _ _ _ h]
theorem zfo {w : World} {b g o : Nat} (h : b ≠ g) {v0 v1 v2 v3 v4 v5 v6 : Value} : (((((((w.setCell ⟨g, 0, none⟩ v0).setCell ⟨g, 1, none⟩ v1).setCell ⟨g, 2, none⟩ v2).setCell ⟨g, 3, none⟩ v3).setCell ⟨g, 4, none⟩ v4).setCell ⟨g, 5, none⟩ v5).setCell ⟨g, 6, none⟩ v6).cell? ⟨b, o, none⟩ = w.cell? ⟨b, o, none⟩ := by
  rw [zR h, zR h, zR h, zR h, zR h, zR h, zR h]
end Go.Proofs.YtkfigdbbncjojaaGreat

namespace Go.Proofs.YtkfigdbbncjojaaGreat
open Go.RowKit
def Fld.sz (f : Fld) : Nat := jC f.nm f.ws f.to f.df f.wg
def zfs (fs : List Fld) : Nat := (fs.map Fld.sz).sum
def jP (fs : List Fld) : Nat := fs.length + zfs fs
def Shp.sz (s : Shp) : Nat := s.kd.size + jP s.fs
def zfg (ss : List Shp) : Nat := (ss.map Shp.sz).sum
def jS (ss : List Shp) : Nat := ss.length + zfg ss
theorem zf8 (nm : ByteArray) (kd ls ms : Int) (a : Option Addr) (cap : Nat) (ws : List ByteArray) (to : ByteArray) (rl : Int) (mu fx : Bool) (df wg : ByteArray) (left : Int) (w : World) (hw : zB w a ws) (h0 : 0 <= left) (h1 : left <= 1048576)
    (hnm : nm.size <= maxLen) (hto : to.size <= maxLen) (hdf : df.size <= maxLen) (hwg : wg.size <= maxLen) (h : (jC nm ws to df wg : Int) <= left) :
    Calls Tryz.prog 134 #[.agg #[.string nm, .int .i64 kd, .int .i64 ls, .int .i64 ms, .slice a ws.length cap, .string to, .int .i64 rl, .bool mu, .bool fx, .string df, .string wg], .int .i64 left] w fun e w' => e = .returned (.int .i64 (left - jC nm ws to df wg)) /\ Below w.heap.size w w' := by
  refine (zcQ nm kd ls ms a cap ws to rl mu fx df wg left w hw h0 h1 hnm hto hdf hwg).mono ?_
  rintro e w' ⟨rfl, hb⟩
  exact ⟨zk (zG h), hb⟩
theorem zgN (nm : ByteArray) (kd ls ms : Int) (a : Option Addr) (cap : Nat) (ws : List ByteArray) (to : ByteArray) (rl : Int) (mu fx : Bool) (df wg : ByteArray) (left : Int) (w : World) (hw : zB w a ws) (h0 : 0 <= left) (h1 : left <= 1048576)
    (hnm : nm.size <= maxLen) (hto : to.size <= maxLen) (hdf : df.size <= maxLen) (hwg : wg.size <= maxLen) (h : ¬ (jC nm ws to df wg : Int) <= left) :
    Calls Tryz.prog 134 #[.agg #[.string nm, .int .i64 kd, .int .i64 ls, .int .i64 ms, .slice a ws.length cap, .string to, .int .i64 rl, .bool mu, .bool fx, .string df, .string wg], .int .i64 left] w fun e w' => e = .returned (.int .i64 (-1)) /\ Below w.heap.size w w' := by
  refine (zcQ nm kd ls ms a cap ws to rl mu fx df wg left w hw h0 h1 hnm hto hdf hwg).mono ?_
  rintro e w' ⟨rfl, hb⟩
  exact ⟨zk (zx h), hb⟩
set_option maxHeartbeats 1000000 in
theorem zca (a : Option Addr) (cap : Nat) (fs : List Fld) (left : Int) (w : World) (hw : zW w a fs) (h0 : 0 <= left) (h1 : left <= 1048576) :
    Calls Tryz.prog 84 #[.slice a fs.length cap, .int .i64 left] w fun e w' => e = .returned (.int .i64 (zF (jP fs) left)) /\ Below w.heap.size w w' := by
  have hl := hw.len
  unfold maxLen at hl
  by_cases hfit : (fs.length : Int) <= left
  · go_enter Tryz.func84, Tryz.ntmps84
    go_wp2_with fail
    go_loopw [1, 5] (fun l i wr => ∃ k : Nat, k <= fs.length /\ i = .int .i64 k /\ 0 <= left - fs.length - zfs (fs.take k) /\ l = .int .i64 (left - fs.length - zfs (fs.take k)) /\ Below w.heap.size w wr) (fun _ i _ => fs.length - (intOf i).toNat)
    case atStart => exact ⟨0, Nat.zero_le _, rfl, by simp [zfs]; omega, by simp [zfs], Below.refl _ _⟩
    case round =>
      obtain ⟨k, hk, rfl, hpos, rfl, hB⟩ := hrel
      by_cases hlt : k < fs.length
      · obtain ⟨b, off, rfl, hb, hr⟩ := hw.rows (by rintro rfl; simp at hlt)
        obtain ⟨wa, wcap, hf0⟩ := hr k hlt
        have hf := hf0.mono hb hB
        obtain ⟨c0, c1, c2, c3, c4, c5, c6, c7, c8, c9, c10⟩ := hf.load
        have hsm := hf.small
        have hst := hf.strs
        have HS : Hid (zfs (fs.take (k + 1)) = zfs (fs.take k) + fs[k].sz) := zad Fld.sz fs k hlt
        have hle : zfs (fs.take (k + 1)) <= zfs fs := zbE Fld.sz fs (k + 1)
        clear hw hr hf0 hf
        by_cases hneg : (jC fs[k].nm fs[k].ws fs[k].to fs[k].df fs[k].wg : Int) <= left - fs.length - zfs (fs.take k)
        · have HNG : Hid ((jC fs[k].nm fs[k].ws fs[k].to fs[k].df fs[k].wg : Int) <= left - fs.length - zfs (fs.take k)) := hneg
          clear hle
          go_wp2_with fail
          refine (zf8 _ _ _ _ _ _ _ _ _ _ _ _ _ _ _ hst hpos (by omega) hsm.nm hsm.to hsm.df hsm.wg HNG.out).mono ?_
          rintro e w1 ⟨rfl, hb1⟩
          have hB1 := hB.trans (hb1.mono hB.size)
          clear hb1
          go_wp2_with fail
          exact ⟨⟨k + 1, by omega, by go_num, by rw [HS.out]; show 0 <= _ - ((_ + jC _ _ _ _ _ : Nat) : Int); omega, by rw [HS.out]; show Value.int _ _ = Value.int _ (_ - ((_ + jC _ _ _ _ _ : Nat) : Int)); congr 1; omega, hB1⟩, by simp [intOf]; omega⟩
        · have HF : Hid (zF (jP fs) left = -1) := zx (by have := HS.out; unfold jP; unfold Fld.sz at this; omega)
          have HNG := hid hneg
          clear hneg hle
          go_wp2_with fail
          refine (zgN _ _ _ _ _ _ _ _ _ _ _ _ _ _ _ hst hpos (by omega) hsm.nm hsm.to hsm.df hsm.wg (by have := HNG.out; omega)).mono ?_
          rintro e w1 ⟨rfl, hb1⟩
          have hB1 := hB.trans (hb1.mono hB.size)
          clear hb1
          go_wp2_with fail
          go_ret
          exact ⟨zk HF.out.symm, hB1⟩
      · have HF : Hid (zF (jP fs) left = left - fs.length - zfs (fs.take k)) := by
          rw [List.take_of_length_le (by omega)] at hpos ⊢
          have e : zF (jP fs) left = left - jP fs := zG (by unfold jP; omega)
          unfold Hid; rw [e]; unfold jP; omega
        clear hw
        go_wp2
        go_ret
        exact ⟨zk HF.out.symm, hB⟩
  · have HF : Hid (zF (jP fs) left = -1) := zx (by unfold jP; omega)
    clear hw
    go_enter Tryz.func84, Tryz.ntmps84
    go_wp2
    go_ret
    exact ⟨zk HF.out.symm, Below.refl _ _⟩
theorem zeR (a : Option Addr) (cap : Nat) (fs : List Fld) (left : Int) (w : World) (hw : zW w a fs) (h0 : 0 <= left) (h1 : left <= 1048576) (h : (jP fs : Int) <= left) :
    Calls Tryz.prog 84 #[.slice a fs.length cap, .int .i64 left] w fun e w' => e = .returned (.int .i64 (left - jP fs)) /\ Below w.heap.size w w' := by
  refine (zca a cap fs left w hw h0 h1).mono ?_
  rintro e w' ⟨rfl, hb⟩
  exact ⟨zk (zG h), hb⟩
theorem zgf (a : Option Addr) (cap : Nat) (fs : List Fld) (left : Int) (w : World) (hw : zW w a fs) (h0 : 0 <= left) (h1 : left <= 1048576) (h : ¬ (jP fs : Int) <= left) :
    Calls Tryz.prog 84 #[.slice a fs.length cap, .int .i64 left] w fun e w' => e = .returned (.int .i64 (-1)) /\ Below w.heap.size w w' := by
  refine (zca a cap fs left w hw h0 h1).mono ?_
  rintro e w' ⟨rfl, hb⟩
  exact ⟨zk (zx h), hb⟩
set_option maxHeartbeats 1000000 in
theorem zcW (kd : ByteArray) (a : Option Addr) (cap : Nat) (fs : List Fld) (left : Int) (w : World) (hkd : kd.size <= maxLen) (hw : zW w a fs) (h0 : 0 <= left) (h1 : left <= 1048576) :
    Calls Tryz.prog 40 #[.agg #[.string kd, .slice a fs.length cap], .int .i64 left] w fun e w' => e = .returned (.int .i64 (zF (Shp.sz ⟨kd, fs⟩) left)) /\ Below w.heap.size w w' := by
  unfold maxLen at hkd
  by_cases c1 : (kd.size : Int) <= left
  rotate_left
  · have HF : Hid (zF (Shp.sz ⟨kd, fs⟩) left = -1) := zx (by unfold Shp.sz; simp only; omega)
    go_enter Tryz.func40, Tryz.ntmps40
    go_wp2_with fail
    go_ret
    exact ⟨zk HF.out.symm, (Below.refl _ _).alloc (Nat.le_refl _) _⟩
  by_cases c2 : (jP fs : Int) <= left - kd.size
  · have HF : Hid (zF (Shp.sz ⟨kd, fs⟩) left = left - kd.size - jP fs) := by
      have e : zF (Shp.sz ⟨kd, fs⟩) left = left - Shp.sz ⟨kd, fs⟩ := zG (by unfold Shp.sz; simp only; omega)
      unfold Hid; rw [e]; unfold Shp.sz; simp only; omega
    go_enter Tryz.func40, Tryz.ntmps40
    go_wp2_with fail
    refine (zeR _ _ _ _ _ (hw.mono ((Below.refl _ _).alloc (Nat.le_refl _) _)) (by omega) (by omega) (by omega)).mono ?_
    rintro e w1 ⟨rfl, hb1⟩
    go_wp2_with fail
    go_ret
    exact ⟨zk HF.out.symm, ((Below.refl _ _).alloc (Nat.le_refl _) _).trans (hb1.mono (by simp))⟩
  · have HF : Hid (zF (Shp.sz ⟨kd, fs⟩) left = -1) := zx (by unfold Shp.sz; simp only; omega)
    go_enter Tryz.func40, Tryz.ntmps40
    go_wp2_with fail
    refine (zgf _ _ _ _ _ (hw.mono ((Below.refl _ _).alloc (Nat.le_refl _) _)) (by omega) (by omega) (by omega)).mono ?_
    rintro e w1 ⟨rfl, hb1⟩
    go_wp2_with fail
    go_ret
    exact ⟨zk HF.out.symm, ((Below.refl _ _).alloc (Nat.le_refl _) _).trans (hb1.mono (by simp))⟩
theorem zga (kd : ByteArray) (a : Option Addr) (cap : Nat) (fs : List Fld) (left : Int) (w : World) (hkd : kd.size <= maxLen) (hw : zW w a fs) (h0 : 0 <= left) (h1 : left <= 1048576) (h : (Shp.sz ⟨kd, fs⟩ : Int) <= left) :
    Calls Tryz.prog 40 #[.agg #[.string kd, .slice a fs.length cap], .int .i64 left] w fun e w' => e = .returned (.int .i64 (left - Shp.sz ⟨kd, fs⟩)) /\ Below w.heap.size w w' := by
  refine (zcW kd a cap fs left w hkd hw h0 h1).mono ?_
  rintro e w' ⟨rfl, hb⟩
  exact ⟨zk (zG h), hb⟩
theorem zgV (kd : ByteArray) (a : Option Addr) (cap : Nat) (fs : List Fld) (left : Int) (w : World) (hkd : kd.size <= maxLen) (hw : zW w a fs) (h0 : 0 <= left) (h1 : left <= 1048576) (h : ¬ (Shp.sz ⟨kd, fs⟩ : Int) <= left) :
    Calls Tryz.prog 40 #[.agg #[.string kd, .slice a fs.length cap], .int .i64 left] w fun e w' => e = .returned (.int .i64 (-1)) /\ Below w.heap.size w w' := by
  refine (zcW kd a cap fs left w hkd hw h0 h1).mono ?_
  rintro e w' ⟨rfl, hb⟩
  exact ⟨zk (zx h), hb⟩
set_option maxHeartbeats 1000000 in
theorem zeT (a : Option Addr) (cap : Nat) (ss : List Shp) (left : Int) (w : World) (hw : yB w a ss) (h0 : 0 <= left) (h1 : left <= 1048576) :
    Calls Tryz.prog 12 #[.slice a ss.length cap, .int .i64 left] w fun e w' => e = .returned (.int .i64 (zF (jS ss) left)) /\ Below w.heap.size w w' := by
  have hl := hw.len
  unfold maxLen at hl
  by_cases hfit : (ss.length : Int) <= left
  · go_enter Tryz.func12, Tryz.ntmps12
    go_wp2_with fail
    go_loopw [1, 5] (fun l i wr => ∃ k : Nat, k <= ss.length /\ i = .int .i64 k /\ 0 <= left - ss.length - zfg (ss.take k) /\ l = .int .i64 (left - ss.length - zfg (ss.take k)) /\ Below w.heap.size w wr) (fun _ i _ => ss.length - (intOf i).toNat)
    case atStart => exact ⟨0, Nat.zero_le _, rfl, by simp [zfg]; omega, by simp [zfg], Below.refl _ _⟩
    case round =>
      obtain ⟨k, hk, rfl, hpos, rfl, hB⟩ := hrel
      by_cases hlt : k < ss.length
      · obtain ⟨b, off, rfl, hb, hr⟩ := hw.rows (by rintro rfl; simp at hlt)
        obtain ⟨fa, fcap, hs0⟩ := hr k hlt
        have hs := hs0.mono hb hB
        have hck := hs.kind
        have hcl := hs.list
        have hfl := hs.flds
        have hsm := hs.small
        have HS : Hid (zfg (ss.take (k + 1)) = zfg (ss.take k) + Shp.sz ⟨ss[k].kd, ss[k].fs⟩) := zad Shp.sz ss k hlt
        have hle : zfg (ss.take (k + 1)) <= zfg ss := zbE Shp.sz ss (k + 1)
        clear hw hr hs0 hs
        by_cases hneg : (Shp.sz ⟨ss[k].kd, ss[k].fs⟩ : Int) <= left - ss.length - zfg (ss.take k)
        · have HNG : Hid ((Shp.sz ⟨ss[k].kd, ss[k].fs⟩ : Int) <= left - ss.length - zfg (ss.take k)) := hneg
          clear hle
          go_wp2_with fail
          refine (zga _ _ _ _ _ _ hsm hfl hpos (by omega) HNG.out).mono ?_
          rintro e w1 ⟨rfl, hb1⟩
          have hB1 := hB.trans (hb1.mono hB.size)
          clear hb1
          go_wp2_with fail
          exact ⟨⟨k + 1, by omega, by go_num, by rw [HS.out]; omega, by rw [HS.out]; congr 1; omega, hB1⟩, by simp [intOf]; omega⟩
        · have HF : Hid (zF (jS ss) left = -1) := zx (by have := HS.out; unfold jS; omega)
          have HNG := hid hneg
          clear hneg hle
          go_wp2_with fail
          refine (zgV _ _ _ _ _ _ hsm hfl hpos (by omega) (by have := HNG.out; omega)).mono ?_
          rintro e w1 ⟨rfl, hb1⟩
          have hB1 := hB.trans (hb1.mono hB.size)
          clear hb1
          go_wp2_with fail
          go_ret
          exact ⟨zk HF.out.symm, hB1⟩
      · have HF : Hid (zF (jS ss) left = left - ss.length - zfg (ss.take k)) := by
          rw [List.take_of_length_le (by omega)] at hpos ⊢
          have e : zF (jS ss) left = left - jS ss := zG (by unfold jS; omega)
          unfold Hid; rw [e]; unfold jS; omega
        clear hw
        go_wp2
        go_ret
        exact ⟨zk HF.out.symm, hB⟩
  · have HF : Hid (zF (jS ss) left = -1) := zx (by unfold jS; omega)
    clear hw
    go_enter Tryz.func12, Tryz.ntmps12
    go_wp2
    go_ret
    exact ⟨zk HF.out.symm, Below.refl _ _⟩
end Go.Proofs.YtkfigdbbncjojaaGreat
