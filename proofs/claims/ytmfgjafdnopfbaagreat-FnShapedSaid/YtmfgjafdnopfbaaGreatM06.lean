import Derived.Test.YtmfgjafdnopfbaaGreatM04
import Derived.Test.YtmfgjafdnopfbaaGreatM01
import Derived.Deep.MidRow
namespace Go.Proofs.YtmfgjafdnopfbaaGreat
open Go.RowKit
structure Mnd where
  kd : ByteArray
  fd : ByteArray
  wh : ByteArray
  wi : ByteArray
  pt : ByteArray
  fr : ByteArray
def Mnd.cells (m : Mnd) : Array Value := #[.string m.kd, .string m.fd, .string m.wh, .string m.wi, .string m.pt, .string m.fr]
structure Mnd.Small (m : Mnd) : Prop where
  kd : m.kd.size <= maxLen
  fd : m.fd.size <= maxLen
  wh : m.wh.size <= maxLen
  wi : m.wi.size <= maxLen
  pt : m.pt.size <= maxLen
  fr : m.fr.size <= maxLen
structure qg (w : World) (a : Option Addr) (ms : List Mnd) : Prop where
  len : ms.length <= maxLen
  small : ∀ i (h : i < ms.length), ms[i].Small
  rows : ms ≠ [] -> ∃ b off, a = some ⟨b, off, none⟩ /\ b < w.heap.size /\ ∀ i (h : i < ms.length), ∀ j, j < 6 -> w.cell? ⟨b, off + i * 6 + j, none⟩ = ms[i].cells[j]?
theorem qg.mono {w w' : World} {a : Option Addr} {ms : List Mnd} (h : qg w a ms) (hl : Below w.heap.size w w') : qg w' a ms :=
  ⟨h.len, h.small, fun hne => by
    obtain ⟨b, off, ha, hb, hr⟩ := h.rows hne
    exact ⟨b, off, ha, Nat.lt_of_lt_of_le hb hl.size, fun i hi j hj => (hl.cell (p := ⟨b, off + i * 6 + j, none⟩) hb).trans (hr i hi j hj)⟩⟩
theorem qg.load {w w' : World} {a : Option Addr} {ms : List Mnd} (h : qg w a ms) (hl : Below w.heap.size w w') (i : Nat) (hi : i < ms.length) : ∃ b off, a = some ⟨b, off, none⟩ /\ b < w.heap.size /\
    w'.cell? ⟨b, off + i * 6, none⟩ = some (.string ms[i].kd) /\ w'.cell? ⟨b, off + i * 6 + 1, none⟩ = some (.string ms[i].fd) /\ w'.cell? ⟨b, off + i * 6 + 2, none⟩ = some (.string ms[i].wh) /\ w'.cell? ⟨b, off + i * 6 + 3, none⟩ = some (.string ms[i].wi) /\ w'.cell? ⟨b, off + i * 6 + 4, none⟩ = some (.string ms[i].pt) /\ w'.cell? ⟨b, off + i * 6 + 5, none⟩ = some (.string ms[i].fr) := by
  obtain ⟨b, off, ha, hb, hr⟩ := h.rows (by rintro rfl; simp at hi)
  have hc : ∀ j, j < 6 -> w'.cell? ⟨b, off + i * 6 + j, none⟩ = ms[i].cells[j]? := fun j hj => (hl.cell (p := ⟨b, off + i * 6 + j, none⟩) hb).trans (hr i hi j hj)
  exact ⟨b, off, ha, hb, hc 0 (by omega), hc 1 (by omega), hc 2 (by omega), hc 3 (by omega), hc 4 (by omega), hc 5 (by omega)⟩
end Go.Proofs.YtmfgjafdnopfbaaGreat

namespace Go.Proofs.YtmfgjafdnopfbaaGreat
open Go.RowKit
theorem zcS.load {w : World} {b off : Nat} {f : Fld} {a : Option Addr} {cap : Nat} (h : zcS w b off f a cap) :
    w.cell? ⟨b, off, none⟩ = some (.string f.nm) /\ w.cell? ⟨b, off + 1, none⟩ = some (.int .i64 f.kd) /\ w.cell? ⟨b, off + 2, none⟩ = some (.int .i64 f.ls) /\ w.cell? ⟨b, off + 3, none⟩ = some (.int .i64 f.ms) /\
    w.cell? ⟨b, off + 4, none⟩ = some (.slice a f.ws.length cap) /\ w.cell? ⟨b, off + 5, none⟩ = some (.string f.to) /\ w.cell? ⟨b, off + 6, none⟩ = some (.int .i64 f.rl) /\ w.cell? ⟨b, off + 7, none⟩ = some (.bool f.mu) /\
    w.cell? ⟨b, off + 8, none⟩ = some (.bool f.fx) /\ w.cell? ⟨b, off + 9, none⟩ = some (.string f.df) /\ w.cell? ⟨b, off + 10, none⟩ = some (.string f.wg) :=
  ⟨h.cell 0 (by omega), h.cell 1 (by omega), h.cell 2 (by omega), h.cell 3 (by omega), h.cell 4 (by omega), h.cell 5 (by omega), h.cell 6 (by omega), h.cell 7 (by omega), h.cell 8 (by omega), h.cell 9 (by omega), h.cell 10 (by omega)⟩
end Go.Proofs.YtmfgjafdnopfbaaGreat

namespace Go.Proofs.YtmfgjafdnopfbaaGreat.Gate
def up (P : Nat -> Bool) (n : Nat) : Bool := (List.range n).all P
theorem zbs (P : Nat -> Bool) (n : Nat) : up P (n + 1) = (up P n && P n) := by simp [up, List.range_succ, List.all_append]
theorem zcE {P : Nat -> Bool} {k n : Nat} (h : k < n) (hk : P k = false) : up P n = false := by
  unfold up; rw [List.all_eq_false]; exact ⟨k, List.mem_range.2 h, by simp [hk]⟩
theorem zgu {P : Nat -> Bool} {k n : Nat} (h : k < n) (hu : up P n = true) : P k = true := by
  unfold up at hu; rw [List.all_eq_true] at hu; exact hu k (List.mem_range.2 h)
def less (a b : ByteArray) : Bool := Op.bytesLess a.toList b.toList
def zbN (ws : List ByteArray) (i : Nat) : Bool := zL (ws.getD i ByteArray.empty) && (decide (i = 0) || less (ws.getD (i - 1) ByteArray.empty) (ws.getD i ByteArray.empty))
def asc (ws : List ByteArray) : Bool := up (zbN ws) ws.length
theorem getD_at {α : Type} (l : List α) (i : Nat) (d : α) (h : i < l.length) : l.getD i d = l[i] := by
  rw [List.getD_eq_getElem?_getD, List.getElem?_eq_getElem h]; rfl
theorem zel {ws : List ByteArray} {k : Nat} (h : k < ws.length) (hn : zL ws[k] = false) : zbN ws k = false := by
  unfold zbN; rw [getD_at ws k _ h, hn]; rfl
theorem zdR {ws : List ByteArray} (h : 0 < ws.length) (hn : zL ws[0] = true) : zbN ws 0 = true := by
  unfold zbN; rw [getD_at ws 0 _ h, hn]; rfl
theorem zb0 {ws : List ByteArray} {k : Nat} (h : k + 1 < ws.length) (hn : zL ws[k + 1] = true) : zbN ws (k + 1) = less ws[k] ws[k + 1] := by
  unfold zbN; rw [getD_at ws (k + 1) _ h, Nat.add_sub_cancel, getD_at ws k _ (by omega), hn]; simp
def yP (kd ls ms : Int) (n : Nat) (to : ByteArray) (rl : Int) (wg : ByteArray) : Bool :=
  if kd = 1 then decide (n = 0) && to.toList.isEmpty && decide (rl = 0)
  else if kd = 2 then decide (ls = 0) && decide (ms = 0) && to.toList.isEmpty && decide (rl = 0) && wg.toList.isEmpty
  else if kd = 3 then decide (n = 0) && to.toList.isEmpty && decide (rl = 0) && wg.toList.isEmpty
  else if kd = 4 then decide (ls = 0) && decide (ms = 0) && decide (n = 0) && wg.toList.isEmpty
  else false
def zab (ls ms lo hi : Int) : Bool := decide (lo <= ls) && decide (ls <= ms) && decide (ms <= hi)
def zy (ss : List Shp) (k : ByteArray) : Bool := ss.any fun s => decide (s.kd = k)
def zV (ss : List Shp) (f : Fld) : Bool :=
  if f.kd = 1 then zab f.ls f.ms 0 1000000 && (f.wg.toList.isEmpty || zL f.wg)
  else if f.kd = 2 then decide (1 <= f.ws.length) && decide (f.ws.length <= 6) && asc f.ws
  else if f.kd = 3 then zab f.ls f.ms 1 40
  else if f.kd = 4 then zy ss f.to && (decide (1 <= f.rl) && decide (f.rl <= 3)) && f.df.toList.isEmpty && (decide (f.rl ≠ 2) || !f.mu)
  else false
def bare (f : Fld) : Bool := yP f.kd f.ls f.ms f.ws.length f.to f.rl f.wg
def zgq (f : Fld) (v : ByteArray) : Bool := fits f.kd f.ls f.ms f.ws v
def zjg (f : Fld) : Bool := f.df.toList.isEmpty || zgq f f.df
def yA (ss : List Shp) (f : Fld) : Bool := bare f && zV ss f && zjg f
def jD : Shp := ⟨ByteArray.empty, []⟩
def shapeOf (ss : List Shp) (k : ByteArray) : Shp := (ss.find? fun s => decide (s.kd = k)).getD jD
theorem zaU (ss : List Shp) (v : ByteArray) (k : Nat) (h : k < ss.length) : zy (ss.take (k + 1)) v = (zy (ss.take k) v || decide (ss[k].kd = v)) := by
  unfold zy; rw [List.take_succ_eq_append_getElem h, List.any_append]; simp
theorem zc7 (ss : List Shp) (v : ByteArray) (k : Nat) (h : k < ss.length) (e : ss[k].kd = v) : zy ss v = true := by
  unfold zy; rw [List.any_eq_true]; exact ⟨ss[k], List.getElem_mem h, by simpa using e⟩
theorem zbo (ss : List Shp) (v : ByteArray) (k : Nat) (h : ss.length <= k) : zy (ss.take k) v = zy ss v := by rw [List.take_of_length_le h]
theorem zbh (ss : List Shp) (v : ByteArray) (k : Nat) (h : k < ss.length) (hb : zy (ss.take k) v = false) (e : ss[k].kd = v) : shapeOf ss v = ss[k] := by
  unfold shapeOf
  have hn : (ss.take k).find? (fun s => decide (s.kd = v)) = none := by
    rw [List.find?_eq_none]; intro x hx; unfold zy at hb; rw [List.any_eq_false] at hb; exact hb x hx
  conv => lhs; rw [<- List.take_append_drop k ss]
  rw [List.find?_append, hn, List.drop_eq_getElem_cons h, List.find?_cons_of_pos (by simpa using e)]; rfl
theorem za1 (ss : List Shp) (v : ByteArray) (hb : zy ss v = false) : shapeOf ss v = jD := by
  unfold shapeOf
  have hn : ss.find? (fun s => decide (s.kd = v)) = none := by
    rw [List.find?_eq_none]; intro x hx; unfold zy at hb; rw [List.any_eq_false] at hb; exact hb x hx
  rw [hn]; rfl
def hasName (fs : List Fld) (v : ByteArray) : Bool := fs.any fun f => decide (f.nm = v)
def zG (fs : List Fld) (v : ByteArray) : Int := match fs.findIdx? (fun f => decide (f.nm = v)) with | some i => i | none => -1
theorem zaX (fs : List Fld) (v : ByteArray) (k : Nat) (h : k < fs.length) : hasName (fs.take (k + 1)) v = (hasName (fs.take k) v || decide (fs[k].nm = v)) := by
  unfold hasName; rw [List.take_succ_eq_append_getElem h, List.any_append]; simp
theorem zcm (fs : List Fld) (v : ByteArray) (k : Nat) (h : fs.length <= k) : hasName (fs.take k) v = hasName fs v := by rw [List.take_of_length_le h]
theorem zaz (fs : List Fld) (v : ByteArray) (k : Nat) (h : k < fs.length) (hb : hasName (fs.take k) v = false) (e : fs[k].nm = v) : zG fs v = k := by
  unfold zG
  have hf : fs.findIdx? (fun f => decide (f.nm = v)) = some k := by
    rw [List.findIdx?_eq_some_iff_getElem]
    refine ⟨h, by simpa using e, fun j hj => ?_⟩
    unfold hasName at hb
    rw [List.any_eq_false] at hb
    have hm : fs[j] ∈ fs.take k := by
      rw [List.mem_iff_getElem]
      exact ⟨j, by simp; omega, by simp⟩
    exact hb _ hm
  rw [hf]
theorem zaV (fs : List Fld) (v : ByteArray) (hb : hasName fs v = false) : zG fs v = -1 := by
  unfold zG
  have hf : fs.findIdx? (fun f => decide (f.nm = v)) = none := by
    rw [List.findIdx?_eq_none_iff]
    intro x hx
    unfold hasName at hb
    rw [List.any_eq_false] at hb
    simpa using hb x hx
  rw [hf]
theorem ze1 (fs : List Fld) (v : ByteArray) (k : Nat) (h : k < fs.length) (hh : hasName (fs.take k) v = true) : ∃ j, j < k /\ zG fs v = j := by
  unfold hasName at hh
  rw [List.any_eq_true] at hh
  obtain ⟨x, hx, he⟩ := hh
  obtain ⟨j, hj, rfl⟩ := List.mem_iff_getElem.1 hx
  have hjk : j < k := by simp at hj; omega
  have hjl : j < fs.length := by omega
  have hv : fs[j].nm = v := by simpa using he
  cases hf : fs.findIdx? (fun f => decide (f.nm = v)) with
  | none =>
    rw [List.findIdx?_eq_none_iff] at hf
    have := hf fs[j] (List.getElem_mem hjl)
    simp [hv] at this
  | some i =>
    refine ⟨i, ?_, by unfold zG; rw [hf]⟩
    rw [List.findIdx?_eq_some_iff_getElem] at hf
    obtain ⟨hi, _, hmin⟩ := hf
    rcases Nat.lt_or_ge i k with h1 | h1
    · exact h1
    · exfalso
      have := hmin j (by omega)
      simp [hv] at this
def zbr : Fld := ⟨ByteArray.empty, 0, 0, 0, [], ByteArray.empty, 0, false, false, ByteArray.empty, ByteArray.empty⟩
def zcD (ss : List Shp) (fs : List Fld) (i : Nat) : Bool :=
  zL (fs.getD i zbr).nm && !hasName (fs.take i) (fs.getD i zbr).nm && yA ss (fs.getD i zbr)
def yN (ss : List Shp) (fs : List Fld) : Bool := decide (fs.length <= 6) && up (zcD ss fs) fs.length
theorem zbX (ss : List Shp) (fs : List Fld) (i : Nat) (h : i < fs.length) : zcD ss fs i = (zL fs[i].nm && !hasName (fs.take i) fs[i].nm && yA ss fs[i]) := by
  unfold zcD; rw [getD_at fs i _ h]
def yQ (ss : List Shp) (i : Nat) : Bool :=
  zL (ss.getD i jD).kd && (decide (i = 0) || less (ss.getD (i - 1) jD).kd (ss.getD i jD).kd) && yN ss (ss.getD i jD).fs
def zT (ss : List Shp) : Bool := decide (ss.length <= 6) && up (yQ ss) ss.length
theorem zcU (ss : List Shp) (h : 0 < ss.length) : yQ ss 0 = (zL ss[0].kd && yN ss ss[0].fs) := by
  unfold yQ; rw [getD_at ss 0 _ h]; simp
theorem zdl (ss : List Shp) (k : Nat) (h : k + 1 < ss.length) : yQ ss (k + 1) = (zL ss[k + 1].kd && less ss[k].kd ss[k + 1].kd && yN ss ss[k + 1].fs) := by
  unfold yQ; rw [getD_at ss (k + 1) _ h, Nat.add_sub_cancel, getD_at ss k _ (by omega)]; simp
theorem zbG : ∀ x : List UInt8, Op.bytesLess x x = false
  | [] => rfl
  | a :: x => by
    simp only [Op.bytesLess, Bool.or_eq_false_iff, decide_eq_false_iff_not, Bool.and_eq_false_iff]
    exact ⟨fun h => by simp at h, Or.inr (zbG x)⟩
theorem zb9 : ∀ x y z : List UInt8, Op.bytesLess x y = true -> Op.bytesLess y z = true -> Op.bytesLess x z = true
  | _, [], _, h, _ => by simp [Op.bytesLess] at h
  | [], _ :: _, [], _, h => by simp [Op.bytesLess] at h
  | [], _ :: _, _ :: _, _, _ => rfl
  | _ :: _, _ :: _, [], _, h => by simp [Op.bytesLess] at h
  | a :: x, b :: y, c :: z, h, k => by
    simp only [Op.bytesLess, Bool.or_eq_true, decide_eq_true_eq, Bool.and_eq_true, beq_iff_eq] at h k ⊢
    rcases h with h | ⟨rfl, h⟩
    · rcases k with k | ⟨rfl, k⟩
      · exact Or.inl (UInt8.lt_trans h k)
      · exact Or.inl h
    · rcases k with k | ⟨rfl, k⟩
      · exact Or.inl k
      · exact Or.inr ⟨rfl, zb9 x y z h k⟩
end Go.Proofs.YtmfgjafdnopfbaaGreat.Gate

namespace Go.Proofs.YtmfgjafdnopfbaaGreat
open Go.RowKit
theorem zu {w : World} {b o : Nat} {C : Array Value} {t : TypeId} (h : w.heap[b]? = some (.cells C t)) (v : Value) : (w.setCell ⟨b, o, none⟩ v).heap[b]? = some (.cells (C.setIfInBounds o v) t) := by
  simp [World.setCell, Array.getElem?_modify, h]
theorem cell_of_block {w : World} {b o : Nat} {C : Array Value} {t : TypeId} (h : w.heap[b]? = some (.cells C t)) : w.cell? ⟨b, o, none⟩ = C[o]? := by simp [World.cell?, h]
theorem za {w : World} {b o : Nat} {C : Array Value} {t : TypeId} (h : w.heap[b]? = some (.cells C t)) : w.frozen? ⟨b, o, none⟩ = false := by simp [World.frozen?, h]
end Go.Proofs.YtmfgjafdnopfbaaGreat

namespace Go.Proofs.YtmfgjafdnopfbaaGreat
open Go.RowKit
set_option maxHeartbeats 400000 in
theorem zex (c : UInt8) (w : World) :
    Calls Tryz.prog 87 #[.int .u8 c.toNat] w fun e w' => e = .returned (.bool (Gate.yZ c)) /\ w' = w := by
  go_enter Tryz.func87, Tryz.ntmps87
  go_wp2
  all_goals
    go_ret
    refine ⟨zh ?_, rfl⟩
    rw [Bool.eq_iff_iff]; simp [Gate.yZ]; try omega
end Go.Proofs.YtmfgjafdnopfbaaGreat

namespace Go.Proofs.YtmfgjafdnopfbaaGreat
open Go.RowKit
def jX (s : ByteArray) : Int := if Gate.jQ s = true then Gate.zdB s else -1
theorem ze7 (k : Nat) (h : k <= 7) : (10 : Int) ^ k <= 10000000 := by
  have : k = 0 \/ k = 1 \/ k = 2 \/ k = 3 \/ k = 4 \/ k = 5 \/ k = 6 \/ k = 7 := by omega
  rcases this with h | h | h | h | h | h | h | h <;> subst h <;> decide
set_option maxHeartbeats 800000 in
theorem zeZ (s : ByteArray) (w : World) (h1 : 1 <= s.size) (h7 : s.size <= 7) (hz : s.size <= 1 \/ ¬ (s[0].toNat : Int) = 48) :
    Calls Tryz.prog 90 #[.string s] w fun e w' => e = .returned (.int .i64 (jX s)) /\ w' = w := by
  have HF : Hid (Gate.jQ s = Gate.j3 s) := Gate.zfq s h1 h7 hz
  rcases (show (s.size <= 1) \/ (1 < s.size /\ ¬ (s[0].toNat : Int) = 48) by rcases hz with h | h <;> omega) with hone | ⟨hmore, hz0⟩
  all_goals
    clear hz
    try have hz1 : ((s[0].toNat : Int) == 48) = false := by simpa using hz0
    try clear hz0
    go_enter Tryz.func90, Tryz.ntmps90
    go_wp2_with (go_at_call 86; refine (zaJ _ _ _ _ (by omega) (by omega)).mono ?_; rintro e w' ⟨rfl, rfl⟩)
    go_loop [3, 4] (fun n i => ∃ k : Nat, k <= s.size /\ i = .int .i64 k /\ (s.data.toList.take k).all Gate.digit = true /\ n = .int .i64 (Gate.dec (s.data.toList.take k))) (fun _ i => s.size - (intOf i).toNat)
    case atStart => exact ⟨0, Nat.zero_le _, rfl, rfl, rfl⟩
    case round =>
      obtain ⟨k, hk, rfl, hall, rfl⟩ := hrel
      have hlen : (s.data.toList.take k).length <= k := List.length_take_le _ _
      obtain ⟨hd0, hd1⟩ := Gate.zdH _ hall k hlen
      by_cases hlt : k < s.size
      · have hp := ze7 k (by omega)
        have hd2 : Gate.dec (s.data.toList.take k) < 10000000 := by omega
        clear hp hd1 hlen
        have HS : Hid ((s.data.toList.take (k + 1)).all Gate.digit = (true && Gate.digit s[k])) := by rw [Gate.zbc _ s k hlt, hall]; rfl
        have HD : Hid (Gate.dec (s.data.toList.take (k + 1)) = Gate.dec (s.data.toList.take k) * 10 + ((s[k].toNat : Int) - 48)) := by rw [Gate.zdD s k hlt]; exact Gate.zge _ _
        have HN : Hid (Gate.digit s[k] = false -> Gate.j3 s = false) := fun h => Gate.zcH Gate.digit s k hlt h
        clear hall
        by_cases h48 : (s[k].toNat : Int) < 48
        · have HC : Hid (Gate.digit s[k] = false) := by simp [Gate.digit, Hid]; omega
          go_wp2
          go_ret
          exact ⟨za2 (by unfold jX; rw [HF.out, HN.out HC.out]; rfl), rfl⟩
        · by_cases h57 : 57 < (s[k].toNat : Int)
          · have HC : Hid (Gate.digit s[k] = false) := by simp [Gate.digit, Hid]; omega
            go_wp2
            go_ret
            exact ⟨za2 (by unfold jX; rw [HF.out, HN.out HC.out]; rfl), rfl⟩
          · have HC : Hid (Gate.digit s[k] = true) := by simp [Gate.digit, Hid]; omega
            go_wp2
            go_round
            case rel => exact ⟨k + 1, by omega, by go_num, by rw [HS.out, HC.out]; rfl, by rw [HD.out]; go_num⟩
            case measure => simp [intOf]; omega
      · have HA : Hid (Gate.j3 s = true) := by unfold Gate.j3 Hid; rw [<- Gate.zaL s k (by omega)]; exact hall
        have HB : Hid (Gate.dec (s.data.toList.take k) = Gate.zdB s) := by rw [Gate.zaL s k (by omega)]; rfl
        clear hall hd0 hd1 hlen
        go_wp2
        go_ret
        exact ⟨za2 (by unfold jX; rw [HF.out, HA.out, HB.out]; rfl), rfl⟩
set_option maxHeartbeats 400000 in
theorem zds (s : ByteArray) (w : World) (hs : s.size <= maxLen) :
    Calls Tryz.prog 90 #[.string s] w fun e w' => e = .returned (.int .i64 (jX s)) /\ w' = w := by
  unfold maxLen at hs
  by_cases h17 : 1 <= s.size /\ s.size <= 7
  · obtain ⟨h1, h7⟩ := h17
    by_cases hz : 1 < s.size /\ (s[0].toNat : Int) = 48
    · obtain ⟨hm, hz0⟩ := hz
      have HF : Hid (jX s = -1) := by unfold jX Hid; rw [Gate.zcT s hm hz0]; rfl
      have hz1 : ((s[0].toNat : Int) == 48) = true := by simpa using hz0
      clear hz0
      go_enter Tryz.func90, Tryz.ntmps90
      go_wp2_with (go_at_call 86; refine (zaJ _ _ _ _ (by omega) (by omega)).mono ?_; rintro e w' ⟨rfl, rfl⟩)
      go_ret
      exact ⟨za2 HF.out.symm, rfl⟩
    · exact zeZ s w h1 h7 (by omega)
  · have HF : Hid (jX s = -1) := by unfold jX Hid; rw [Gate.zbR s h17]; rfl
    go_enter Tryz.func90, Tryz.ntmps90
    go_wp2_with (go_at_call 86; refine (zbT _ _ _ _ (by omega)).mono ?_; rintro e w' ⟨rfl, rfl⟩)
    go_ret
    exact ⟨za2 HF.out.symm, rfl⟩
end Go.Proofs.YtmfgjafdnopfbaaGreat

namespace Go.Proofs.YtmfgjafdnopfbaaGreat
open Go.RowKit
section
variable {P : Program} {ops : Array Oper} {Q : Exit -> Act -> World -> Prop} {md : Region.Mode} {S : World -> Prop} {X : List Nat}
def jY (P : Program) (md : Region.Mode) (ops : Array Oper) (Q : Exit -> Act -> World -> Prop) (S : World -> Prop) (X : List Nat) : Nat -> Array Bool -> Act -> World -> Prop
  | 0, listed, a, w => Region.ready md ops listed = [] /\ Q .normal a w
  | fuel + 1, listed, a, w =>
    (Region.ready md ops listed = [] -> Q .normal a w) /\
    ∀ i ∈ Region.ready md ops listed, wpOp P ops Q i (fun a' w' => (i ∉ X -> S w') /\ jY P md ops Q S X fuel (listed.setIfInBounds i true) a' w') a w
theorem zes : ∀ (fuel : Nat) (listed : Array Bool) (a : Act) (w : World), jY P md ops Q S X fuel listed a w -> wpAny P md ops Q fuel listed a w
  | 0, _, _, _, h => h
  | fuel + 1, _, _, _, h => ⟨h.1, fun i hi => wpOp_mono (fun a' w' h' => zes fuel _ a' w' h'.2) (h.2 i hi)⟩
def zg6 (md : Region.Mode) (ops : Array Oper) (X : List Nat) (i : Nat) : Bool := X.all fun j => match ops[j]? with | some o => o.after.any (fun e => Region.binds md e && e.on == i) | none => true
theorem zdk {i : Nat} {oi : Oper} {v : Value} (hi : ops[i]? = some oi) (hsel : ∀ (j : Nat) (o : Oper) cs b, ops[j]? = some o -> o.op ≠ .select cs b)
    (hQ : ∀ c a w, Q (.panic c) (a.put oi.dst v) w -> Q (.panic c) a w) (hX : zg6 md ops X i = true) :
    ∀ (fuel : Nat) (listed : Array Bool) (a : Act) (w : World),
      (∀ j oj, ops[j]? = some oj -> j ≠ i -> listed.getD j true = false -> (∀ e ∈ oj.after, Region.binds md e = true -> e.on ≠ i) -> oi.apart ops oj = true) ->
      i ∈ Region.ready md ops listed -> YieldsIf P ops S oi v a -> S w ->
      jY P md ops Q S X fuel (listed.setIfInBounds i true) (a.put oi.dst v) w -> jY P md ops Q S X (fuel + 1) listed a w := by
  intro fuel
  induction fuel with
  | zero =>
    intro listed a w _ hr hy hS H
    refine ⟨fun h => (by rw [h] at hr; cases hr), fun j hj => ?_⟩
    by_cases hji : j = i
    · subst hji; exact hy.wpOp hi hS ⟨fun _ => hS, H⟩
    · have := ready_mono hj hji
      rw [H.1] at this
      cases this
  | succ fuel ih =>
    intro listed a w hfree hr hy hS H
    refine ⟨fun h => (by rw [h] at hr; cases hr), fun j hj => ?_⟩
    by_cases hji : j = i
    · subst hji; exact hy.wpOp hi hS ⟨fun _ => hS, H⟩
    · have h1 := H.2 j (ready_mono hj hji)
      obtain ⟨hjun, oj, hoj, hall⟩ := mem_ready.1 hj
      have hnot : ∀ e ∈ oj.after, Region.binds md e = true -> e.on ≠ i := fun e he hb heq => by
        have h1 := hall e he hb
        have h0 := (mem_ready.1 hr).1
        rw [heq] at h1
        rcases Nat.lt_or_ge i listed.size with h' | h'
        · simp [h'] at h0 h1; rw [h0] at h1; cases h1
        · simp [Array.getElem?_eq_none h'] at h1
      have hjX : j ∉ X := fun hm => by
        have h2 := List.all_eq_true.1 hX j hm
        simp only [hoj, Array.any_eq_true, Bool.and_eq_true, beq_iff_eq] at h2
        obtain ⟨k, hk, h3, h4⟩ := h2
        exact hnot _ (Array.getElem_mem hk) h3 h4
      have h2 := wpOp_putIf (S := S) (K := fun a' w' => S w' /\ jY P md ops Q S X fuel ((listed.setIfInBounds i true).setIfInBounds j true) a' w') hoj (hfree j oj hoj hji hjun hnot) (fun cs b => hsel i oi cs b hi) (fun cs b => hsel j oj cs b hoj) hQ hy (wpOp_mono (fun a' w' h => ⟨h.1 hjX, h.2⟩) h1)
      have hfree' : ∀ k ok, ops[k]? = some ok -> k ≠ i -> (listed.setIfInBounds j true).getD k true = false ->
          (∀ e ∈ ok.after, Region.binds md e = true -> e.on ≠ i) -> oi.apart ops ok = true := fun k ok hk hki hun hno => by
        refine hfree k ok hk hki ?_ hno
        by_cases hjk : j = k
        · subst hjk; exact hjun
        · rw [getD_set_ne true hjk] at hun; exact hun
      refine wpOp_mono (fun a' w' h3 => ⟨fun _ => h3.2.1, ih (listed.setIfInBounds j true) a' w' hfree' (ready_mono hr (Ne.symm hji)) h3.1 h3.2.1 ?_⟩) h2
      rw [Array.setIfInBounds_comm _ _ hji]
      exact h3.2.2
theorem yx {listed : Array Bool} {a : Act} {w : World} (hr : Region.ready md ops listed = []) (h : Q .normal a w) : ∀ fuel, jY P md ops Q S X fuel listed a w
  | 0 => ⟨hr, h⟩
  | _ + 1 => ⟨fun _ => h, by rw [hr]; simp⟩
theorem yV {id : Nat} {a : Act} {w : World} (S : World -> Prop) (X : List Nat) (hm : P.follows .mixedOrders = true) (hS : S w.drew)
    (h : S w.drew -> jY P .any ops Q S X ops.size (Array.replicate ops.size false) a w.drew) : (Code.region id ops true).wp P Q a w :=
  wp_region_any hm (zes _ _ _ _ (h hS))
theorem tD (i : Nat) {oi : Oper} {v : Value} {fuel : Nat} {listed : Array Bool} {a a' : Act} {w : World} (h : jY P md ops Q S X fuel (listed.setIfInBounds i true) a' w)
    (hS : S w := by assumption) (hi : nth ops.toList i = some oi := by rfl) (hX : zg6 md ops X i = true := by kernel_rfl) (hs : Region.noSelect ops = true := by kernel_rfl) (hf : Region.free md ops listed i = true := by kernel_rfl) (hr : (Region.ready md ops listed).contains i = true := by kernel_rfl)
    (hw : Region.wanted oi (yielded ops a.tmps) = true := by rfl)
    (hy : ∀ w, S w -> (execOp a.eval oi).run P w = .ok (.value v) w := by (intro w hSw; (try dsimp only at hSw); go_simp; try with_reducible rfl))
    (ha : a.put oi.dst v = a' := by ((try simp only [Act.put, sA, s0, sS]); rfl))
    (hQ : ∀ c a w, Q (.panic c) (a.put oi.dst v) w -> Q (.panic c) a w := by exact fun _ _ _ h => h) : jY P md ops Q S X (fuel + 1) listed a w :=
  zdk (jZ hi) (Region.noSelect_spec hs) hQ hX fuel listed a w (Region.free_spec (jZ hi) hf) (by simpa using hr) (Or.inl ⟨hw, hy⟩) hS (ha ▸ h)
theorem mD (i : Nat) {oi : Oper} {ty : TypeId} {x : Operand} {b o : Nat} {cs : List Value} {d : TypeDesc} {fuel : Nat} {listed : Array Bool} {a a' : Act} {w : World} (hc : ∀ w, S w -> w.rangeAt b o cs) (hu : P.underlying ty = some d) (hd : d.isRow = true) (hin : (P.info? ty).map (·.size) = some cs.length)
    (h : jY P md ops Q S X fuel (listed.setIfInBounds i true) a' w)
    (hS : S w := by assumption) (hi : nth ops.toList i = some oi := by rfl) (ho : oi.op = .load ty x := by rfl) (hx : a.eval x = .pointer (some ⟨b, o, none⟩) := by rfl) (hX : zg6 md ops X i = true := by kernel_rfl) (hs : Region.noSelect ops = true := by kernel_rfl) (hf : Region.free md ops listed i = true := by kernel_rfl) (hr : (Region.ready md ops listed).contains i = true := by kernel_rfl)
    (hw : Region.wanted oi (yielded ops a.tmps) = true := by rfl)
    (ha : a.put oi.dst (.agg cs.toArray) = a' := by ((try simp only [Act.put, sA, s0, sS]); rfl))
    (hQ : ∀ c a w, Q (.panic c) (a.put oi.dst (.agg cs.toArray)) w -> Q (.panic c) a w := by exact fun _ _ _ h => h) : jY P md ops Q S X (fuel + 1) listed a w :=
  zdk (jZ hi) (Region.noSelect_spec hs) hQ hX fuel listed a w (Region.free_spec (jZ hi) hf) (by simpa using hr) (yieldsIf_load_mid hw ty x ho b o hx cs d hc hu hd hin) hS (ha ▸ h)
theorem cD (i : Nat) {oi : Oper} {fuel : Nat} {listed : Array Bool} {a : Act} {w : World}
    (h : ∀ K : Act -> World -> Prop, Shut (∀ a w, (i ∉ X -> S w) -> ((i ∉ X -> S w) -> jY P md ops Q S X fuel (listed.setIfInBounds i true) a w) -> K a w) -> Oper.wp P oi a w K Q)
    (hi : nth ops.toList i = some oi := by rfl) (hr : Region.ready md ops listed = [i] := by kernel_rfl) (hw : Region.wanted oi (yielded ops a.tmps) = true := by rfl) : jY P md ops Q S X (fuel + 1) listed a w :=
  ⟨fun h0 => (by rw [hr] at h0; cases h0), fun j hj => by
    rw [hr] at hj
    have e : j = i := by simpa using hj
    subst e
    exact wpOp_step (jZ hi) (fun K hK => by rw [if_pos hw]; exact h K (fun a w hS hW => hK a w ⟨hS, hW hS⟩))⟩
end
end Go.Proofs.YtmfgjafdnopfbaaGreat
