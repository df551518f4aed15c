import Derived.Test.YtfcdmlnpfoikhaaGreatM02
import Derived.Deep.OwnRows
import Derived.MapKept
import Derived.WalkKit
import Derived.Below
namespace Go.Proofs.YtfcdmlnpfoikhaaGreat
open Go.RowKit
structure zbk (fs : List Fld) : Prop where
  small : ∀ i (h : i < fs.length), fs[i].Small /\ fs[i].ws.length <= maxLen /\ ∀ s ∈ fs[i].ws, s.size <= maxLen
theorem zY.smalls {w : World} {a : Option Addr} {fs : List Fld} (h : zY w a fs) : zbk fs :=
  ⟨fun i hi => by
    obtain ⟨b, off, _, _, hr⟩ := h.rows (by rintro rfl; simp at hi)
    obtain ⟨wa, wcap, hf⟩ := hr i hi
    exact ⟨hf.small, hf.strs.len, hf.strs.small⟩⟩
structure zcM (ss : List Shp) : Prop where
  small : ∀ i (h : i < ss.length), ss[i].kd.size <= maxLen /\ ss[i].fs.length <= maxLen /\ zbk ss[i].fs
theorem yE.smalls {w : World} {a : Option Addr} {ss : List Shp} (h : yE w a ss) : zcM ss :=
  ⟨fun i hi => by
    obtain ⟨b, off, _, _, hr⟩ := h.rows (by rintro rfl; simp at hi)
    obtain ⟨fa, fcap, hs⟩ := hr i hi
    exact ⟨hs.small, hs.zcn.len, hs.zcn.smalls⟩⟩
end Go.Proofs.YtfcdmlnpfoikhaaGreat

namespace Go.Proofs.YtfcdmlnpfoikhaaGreat
open Go.RowKit
theorem Tryz.zc4 : (Tryz.prog.info? 9).map (fun i => (i.zero, i.size, i.bytes)) = some (some (.string ByteArray.empty), 1, 16) := by kernel_rfl
theorem zR (w : World) (o1 o2 : Obj) : ((w.alloc o1).alloc o2).heap[w.heap.size]? = some o1 /\ ((w.alloc o1).alloc o2).heap[w.heap.size + 1]? = some o2 := by
  refine ⟨(Below.heap_alloc _ _ _ (by simp)).trans (alloc_at _ _), ?_⟩
  have h := alloc_at (w.alloc o1) o2
  simpa using h
end Go.Proofs.YtfcdmlnpfoikhaaGreat

namespace Go.Proofs.YtfcdmlnpfoikhaaGreat
open Go.RowKit
set_option maxHeartbeats 1000000 in
theorem qz (a : Option Addr) (cap : Nat) (ss : List Shp) (v : ByteArray) (w : World) (hw : yE w a ss) :
    Calls Tryz.prog 137 #[.slice a ss.length cap, .string v] w fun e w' => ∃ fa fcap, e = .returned (.tuple #[.agg #[.string (Gate.shapeOf ss v).kd, .slice fa (Gate.shapeOf ss v).fs.length fcap], .bool (Gate.zD ss v)]) /\
      zY w fa (Gate.shapeOf ss v).fs /\ Below w.heap.size w w' := by
  have hl := hw.len
  unfold maxLen at hl
  go_enter Tryz.func137, Tryz.ntmps137
  go_wp2
  go_loopw [10] (fun i wr => ∃ k : Nat, k <= ss.length /\ i = .int .i64 k /\ Gate.zD (ss.take k) v = false /\ Below (w.heap.size + 1) (w.alloc (.cells #[.string ByteArray.empty, .slice none 0 0] 119)) wr) (fun i _ => ss.length - (intOf i).toNat)
  case atStart => exact ⟨0, Nat.zero_le _, rfl, rfl, Below.refl _ _⟩
  case round =>
    obtain ⟨k, hk, rfl, hno, hbl⟩ := hrel
    have hsz : w.heap.size < wr.heap.size := by have := hbl.size; simp at this; omega
    have hB0 : Below w.heap.size w wr := ((Below.refl _ _).alloc (Nat.le_refl _) _).trans (hbl.mono (by omega))
    have hX0 : wr.cell? ⟨w.heap.size, 0, none⟩ = some (.string ByteArray.empty) := (hbl.cell (p := ⟨w.heap.size, 0, none⟩) (by simp)).trans (by rw [World.cell?_alloc_at _ _ _ _ rfl]; rfl)
    have hX1 : wr.cell? ⟨w.heap.size, 1, none⟩ = some (.slice none 0 0) := (hbl.cell (p := ⟨w.heap.size, 1, none⟩) (by simp)).trans (by rw [World.cell?_alloc_at _ _ _ _ rfl]; rfl)
    have hF0 : wr.frozen? ⟨w.heap.size, 0, none⟩ = false := (hbl.frozen (p := ⟨w.heap.size, 0, none⟩) (by simp)).trans (by rw [World.frozen?_alloc_at _ _ _ _ rfl])
    have hF1 : wr.frozen? ⟨w.heap.size, 1, none⟩ = false := (hbl.frozen (p := ⟨w.heap.size, 1, none⟩) (by simp)).trans (by rw [World.frozen?_alloc_at _ _ _ _ rfl])
    by_cases hlt : k < ss.length
    · obtain ⟨b, off, rfl, hb, hr⟩ := hw.rows (by rintro rfl; simp at hlt)
      obtain ⟨fa, fcap, hs⟩ := hr k hlt
      have hck := (hB0.cell (p := ⟨b, off + k * 2, none⟩) hb).trans hs.kind
      have hcl := (hB0.cell (p := ⟨b, off + k * 2 + 1, none⟩) hb).trans hs.list
      have hfl := hs.zcn
      clear hw hr hs
      by_cases he : ss[k].kd = v
      · have hbe : (ss[k].kd.toList == v.toList) = true := by rw [Gate.beq_toList]; simpa using he
        have HA : Hid (Gate.zD ss v = true) := Gate.zeA ss v k hlt he
        have HB : Hid (Gate.shapeOf ss v = ss[k]) := Gate.zcP ss v k hlt hno he
        clear he hno
        go_wp2
        refine bodyPost_ret (v := .tuple #[.agg #[.string ss[k].kd, .slice fa ss[k].fs.length fcap], .bool true]) (by simp [results, Tryz.results137, go_sem, hX0, hX1, hsz]) rfl ⟨fa, fcap, by rw [HA.out, HB.out], by rw [HB.out]; exact hfl, ?_⟩
        exact ((hB0.setCell (Nat.le_refl _) _).setCell (Nat.le_refl _) _).alloc (by simp [World.setCell]; omega) _
      · have hbe : (ss[k].kd.toList == v.toList) = false := by rw [Gate.beq_toList]; simpa using he
        have HS : Hid (Gate.zD (ss.take (k + 1)) v = false) := by unfold Hid; rw [Gate.zcX ss v k hlt, hno, decide_eq_false he]; rfl
        clear he hno hX0 hX1 hF0 hF1
        go_wp2
        go_roundw
        case rel => exact ⟨k + 1, by omega, by go_num, HS.out, hbl.alloc (by omega) _⟩
        case measure => simp [intOf]; omega
    · have HA : Hid (Gate.zD ss v = false) := by rw [<- Gate.zdV ss v k (by omega)]; exact hno
      have HB : Hid (Gate.shapeOf ss v = Gate.zba) := Gate.zeP ss v HA.out
      clear hno hw
      go_wp2
      refine bodyPost_ret (v := .tuple #[.agg #[.string ByteArray.empty, .slice none 0 0], .bool false]) (by simp [results, Tryz.results137, go_sem, hX0, hX1]; rfl) rfl ⟨none, 0, by rw [HA.out, HB.out]; rfl, by rw [HB.out]; exact ⟨by simp [Gate.zba, maxLen], fun h => absurd rfl h⟩, ?_⟩
      exact (hB0.setCell (Nat.le_refl _) _).setCell (Nat.le_refl _) _
end Go.Proofs.YtfcdmlnpfoikhaaGreat

namespace Go.Proofs.YtfcdmlnpfoikhaaGreat
open Go.RowKit
def qy (s : ByteArray) : Int := if Gate.jW s = true then Gate.zeU s else -1
theorem zjV (k : Nat) (h : k <= 7) : (10 : Int) ^ k <= 10000000 := by
  have : k = 0 \/ k = 1 \/ k = 2 \/ k = 3 \/ k = 4 \/ k = 5 \/ k = 6 \/ k = 7 := by omega
  rcases this with h | h | h | h | h | h | h | h <;> subst h <;> decide
set_option maxHeartbeats 800000 in
theorem zi8 (s : ByteArray) (w : World) (h1 : 1 <= s.size) (h7 : s.size <= 7) (hz : s.size <= 1 \/ ¬ (s[0].toNat : Int) = 48) :
    Calls Tryz.prog 170 #[.string s] w fun e w' => e = .returned (.int .i64 (qy s)) /\ w' = w := by
  have HF : Hid (Gate.jW s = Gate.zax s) := Gate.zjZ s h1 h7 hz
  rcases (show (s.size <= 1) \/ (1 < s.size /\ ¬ (s[0].toNat : Int) = 48) by rcases hz with h | h <;> omega) with hone | ⟨hmore, hz0⟩
  all_goals
    clear hz
    try have hz1 : ((s[0].toNat : Int) == 48) = false := by simpa using hz0
    try clear hz0
    go_enter Tryz.func170, Tryz.ntmps170
    go_wp2_with (go_at_call 57; refine (zb5 _ _ _ _ (by omega) (by omega)).mono ?_; rintro e w' ⟨rfl, rfl⟩)
    go_loop [3, 4] (fun n i => ∃ k : Nat, k <= s.size /\ i = .int .i64 k /\ (s.data.toList.take k).all Gate.digit = true /\ n = .int .i64 (Gate.dec (s.data.toList.take k))) (fun _ i => s.size - (intOf i).toNat)
    case atStart => exact ⟨0, Nat.zero_le _, rfl, rfl, rfl⟩
    case round =>
      obtain ⟨k, hk, rfl, hall, rfl⟩ := hrel
      have hlen : (s.data.toList.take k).length <= k := List.length_take_le _ _
      obtain ⟨hd0, hd1⟩ := Gate.zd9 _ hall k hlen
      by_cases hlt : k < s.size
      · have hp := zjV k (by omega)
        have hd2 : Gate.dec (s.data.toList.take k) < 10000000 := by omega
        clear hp hd1 hlen
        have HS : Hid ((s.data.toList.take (k + 1)).all Gate.digit = (true && Gate.digit s[k])) := by rw [Gate.zbC _ s k hlt, hall]; rfl
        have HD : Hid (Gate.dec (s.data.toList.take (k + 1)) = Gate.dec (s.data.toList.take k) * 10 + ((s[k].toNat : Int) - 48)) := by rw [Gate.zfM s k hlt]; exact Gate.zlH _ _
        have HN : Hid (Gate.digit s[k] = false -> Gate.zax s = false) := fun h => Gate.zdc Gate.digit s k hlt h
        clear hall
        by_cases h48 : (s[k].toNat : Int) < 48
        · have HC : Hid (Gate.digit s[k] = false) := by simp [Gate.digit, Hid]; omega
          go_wp2
          go_ret
          exact ⟨zl (by unfold qy; rw [HF.out, HN.out HC.out]; rfl), rfl⟩
        · by_cases h57 : 57 < (s[k].toNat : Int)
          · have HC : Hid (Gate.digit s[k] = false) := by simp [Gate.digit, Hid]; omega
            go_wp2
            go_ret
            exact ⟨zl (by unfold qy; rw [HF.out, HN.out HC.out]; rfl), rfl⟩
          · have HC : Hid (Gate.digit s[k] = true) := by simp [Gate.digit, Hid]; omega
            go_wp2
            go_round
            case rel => exact ⟨k + 1, by omega, by go_num, by rw [HS.out, HC.out]; rfl, by rw [HD.out]; go_num⟩
            case measure => simp [intOf]; omega
      · have HA : Hid (Gate.zax s = true) := by unfold Gate.zax Hid; rw [<- Gate.za0 s k (by omega)]; exact hall
        have HB : Hid (Gate.dec (s.data.toList.take k) = Gate.zeU s) := by rw [Gate.za0 s k (by omega)]; rfl
        clear hall hd0 hd1 hlen
        go_wp2
        go_ret
        exact ⟨zl (by unfold qy; rw [HF.out, HA.out, HB.out]; rfl), rfl⟩
set_option maxHeartbeats 400000 in
theorem zdi (s : ByteArray) (w : World) (hs : s.size <= maxLen) :
    Calls Tryz.prog 170 #[.string s] w fun e w' => e = .returned (.int .i64 (qy s)) /\ w' = w := by
  unfold maxLen at hs
  by_cases h17 : 1 <= s.size /\ s.size <= 7
  · obtain ⟨h1, h7⟩ := h17
    by_cases hz : 1 < s.size /\ (s[0].toNat : Int) = 48
    · obtain ⟨hm, hz0⟩ := hz
      have HF : Hid (qy s = -1) := by unfold qy Hid; rw [Gate.zej s hm hz0]; rfl
      have hz1 : ((s[0].toNat : Int) == 48) = true := by simpa using hz0
      clear hz0
      go_enter Tryz.func170, Tryz.ntmps170
      go_wp2_with (go_at_call 57; refine (zb5 _ _ _ _ (by omega) (by omega)).mono ?_; rintro e w' ⟨rfl, rfl⟩)
      go_ret
      exact ⟨zl HF.out.symm, rfl⟩
    · exact zi8 s w h1 h7 (by omega)
  · have HF : Hid (qy s = -1) := by unfold qy Hid; rw [Gate.zc3 s h17]; rfl
    go_enter Tryz.func170, Tryz.ntmps170
    go_wp2_with (go_at_call 57; refine (zd8 _ _ _ _ (by omega)).mono ?_; rintro e w' ⟨rfl, rfl⟩)
    go_ret
    exact ⟨zl HF.out.symm, rfl⟩
end Go.Proofs.YtfcdmlnpfoikhaaGreat

namespace Go.Proofs.YtfcdmlnpfoikhaaGreat
open Go.RowKit
theorem zht {a b : Int} {p q : Bool} (h : a = b) (h2 : p = q) : Ending.returned (.tuple #[.int .i64 a, .bool p]) = .returned (.tuple #[.int .i64 b, .bool q]) := by rw [h, h2]
def j4 (s : ByteArray) : Int := if Gate.jW s = true then Gate.zeU s else 0
set_option maxHeartbeats 800000 in
theorem ziK (s : ByteArray) (w : World) (h1 : 1 <= s.size) (h7 : s.size <= 7) (hz : s.size <= 1 \/ ¬ (s[0].toNat : Int) = 48) :
    Calls Tryz.prog 221 #[.string s] w fun e w' => e = .returned (.tuple #[.int .i64 (j4 s), .bool (Gate.jW s)]) /\ w' = w := by
  have HF : Hid (Gate.jW s = Gate.zax s) := Gate.zjZ s h1 h7 hz
  have hne : s.toList.isEmpty = false := by rw [Gate.zo]; exact decide_eq_false (by omega)
  rcases (show (¬ (s[0].toNat : Int) = 48) \/ (s.size <= 1 /\ (s[0].toNat : Int) = 48) by rcases hz with h | h <;> omega) with hz0 | ⟨hone, hz0⟩
  all_goals
    clear hz
    first
      | (have hz1 : ((s[0].toNat : Int) == 48) = true := by simpa using hz0)
      | (have hz1 : ((s[0].toNat : Int) == 48) = false := by simpa using hz0)
    clear hz0
    go_enter Tryz.func221, Tryz.ntmps221
    go_wp2
    go_loop [4, 25] (fun n i => ∃ k : Nat, k <= s.size /\ i = .int .i64 k /\ (s.data.toList.take k).all Gate.digit = true /\ n = .int .i64 (Gate.dec (s.data.toList.take k))) (fun _ i => s.size - (intOf i).toNat)
    case atStart => exact ⟨0, Nat.zero_le _, rfl, rfl, rfl⟩
    case round =>
      obtain ⟨k, hk, rfl, hall, rfl⟩ := hrel
      have hlen : (s.data.toList.take k).length <= k := List.length_take_le _ _
      obtain ⟨hd0, hd1⟩ := Gate.zd9 _ hall k hlen
      by_cases hlt : k < s.size
      · have hp := zjV k (by omega)
        have hd2 : Gate.dec (s.data.toList.take k) < 10000000 := by omega
        clear hp hd1 hlen
        have HS : Hid ((s.data.toList.take (k + 1)).all Gate.digit = (true && Gate.digit s[k])) := by rw [Gate.zbC _ s k hlt, hall]; rfl
        have HD : Hid (Gate.dec (s.data.toList.take (k + 1)) = Gate.dec (s.data.toList.take k) * 10 + ((s[k].toNat : Int) - 48)) := by rw [Gate.zfM s k hlt]; exact Gate.zlH _ _
        have HN : Hid (Gate.digit s[k] = false -> Gate.zax s = false) := fun h => Gate.zdc Gate.digit s k hlt h
        clear hall
        by_cases hd : 48 <= (s[k].toNat : Int) /\ (s[k].toNat : Int) <= 57
        · have HC : Hid (Gate.digit s[k] = true) := by simp [Gate.digit, Hid]; omega
          obtain ⟨h48, h57⟩ := hd
          go_wp2_with (go_at_call 203; refine (zgt _ _ h48 h57).mono ?_; rintro e w' ⟨rfl, rfl⟩)
          go_round
          case rel => exact ⟨k + 1, by omega, by go_num, by rw [HS.out, HC.out]; rfl, by rw [HD.out]⟩
          case measure => simp [intOf]; omega
        · have HC : Hid (Gate.digit s[k] = false) := by simp [Gate.digit, Hid]; omega
          have HDD : Hid (¬ (48 <= (s[k].toNat : Int) /\ (s[k].toNat : Int) <= 57)) := hd
          clear hd
          go_wp2_with (go_at_call 203; refine (zcb _ _ HDD.out).mono ?_; rintro e w' ⟨rfl, rfl⟩)
          go_ret2
          exact ⟨zht (by unfold j4; rw [HF.out, HN.out HC.out]; rfl) (by rw [HF.out, HN.out HC.out]), rfl⟩
      · have HA : Hid (Gate.zax s = true) := by unfold Gate.zax Hid; rw [<- Gate.za0 s k (by omega)]; exact hall
        have HB : Hid (Gate.dec (s.data.toList.take k) = Gate.zeU s) := by rw [Gate.za0 s k (by omega)]; rfl
        clear hall hd0 hd1 hlen
        go_wp2
        go_ret2
        exact ⟨zht (by unfold j4; rw [HF.out, HA.out, HB.out]; rfl) (by rw [HF.out, HA.out]), rfl⟩
set_option maxHeartbeats 400000 in
theorem zct (s : ByteArray) (w : World) (hs : s.size <= maxLen) :
    Calls Tryz.prog 221 #[.string s] w fun e w' => e = .returned (.tuple #[.int .i64 (j4 s), .bool (Gate.jW s)]) /\ w' = w := by
  unfold maxLen at hs
  by_cases h0 : s.size = 0
  · rw [Gate.zcp s h0]
    go_enter Tryz.func221, Tryz.ntmps221
    go_wp2
    go_ret2
    exact ⟨rfl, rfl⟩
  have hne : s.toList.isEmpty = false := by rw [Gate.zo]; simp [h0]
  by_cases h7 : s.size <= 7
  · by_cases hz : 1 < s.size /\ (s[0].toNat : Int) = 48
    · obtain ⟨hm, hz0⟩ := hz
      have HF : Hid (Gate.jW s = false) := Gate.zej s hm hz0
      have hz1 : ((s[0].toNat : Int) == 48) = true := by simpa using hz0
      clear hz0
      go_enter Tryz.func221, Tryz.ntmps221
      go_wp2
      go_ret2
      exact ⟨zht (by unfold j4; rw [HF.out]; rfl) HF.out.symm, rfl⟩
    · exact ziK s w (by omega) h7 (by omega)
  · have HF : Hid (Gate.jW s = false) := Gate.zc3 s (by omega)
    go_enter Tryz.func221, Tryz.ntmps221
    go_wp2
    go_ret2
    exact ⟨zht (by unfold j4; rw [HF.out]; rfl) HF.out.symm, rfl⟩
end Go.Proofs.YtfcdmlnpfoikhaaGreat

namespace Go.Proofs.YtfcdmlnpfoikhaaGreat
open Go.RowKit
theorem zT {w : World} {p : Addr} {v : Value} {b o : Nat} (h : b ≠ p.block) : (w.setCell p v).cell? ⟨b, o, none⟩ = w.cell? ⟨b, o, none⟩ := by
  unfold World.cell?; rw [Below.heap_setCell _ _ _ _ h]
theorem zgh {w : World} {b g o : Nat} (h : b ≠ g) {v0 v1 v2 v3 v4 v5 v6 : Value} : (((((((w.setCell ⟨g, 0, none⟩ v0).setCell ⟨g, 1, none⟩ v1).setCell ⟨g, 2, none⟩ v2).setCell ⟨g, 3, none⟩ v3).setCell ⟨g, 4, none⟩ v4).setCell ⟨g, 5, none⟩ v5).setCell ⟨g, 6, none⟩ v6).cell? ⟨b, o, none⟩ = w.cell? ⟨b, o, none⟩ := by
  rw [zT h, zT h, zT h, zT h, zT h, zT h, zT h]
end Go.Proofs.YtfcdmlnpfoikhaaGreat

namespace Go.Proofs.YtfcdmlnpfoikhaaGreat
open Go.RowKit
structure yV (lo : Nat) (w : World) (bo : Nat) (fs : List Fld) (k : Nat) : Prop where
  low : lo <= bo
  rows : ∃ C, w.heap[bo]? = some (.cells C 161) /\ C.size = fs.length * 11 /\
    ∀ i (h : i < fs.length), i < k -> ∃ bk, lo <= bk /\ bk ≠ bo /\ w.heap[bk]? = some (.cells (ji fs[i].ws) 9) /\ ∀ j, j < 11 -> C[i * 11 + j]? = (fs[i].cells (some ⟨bk, 0, none⟩) fs[i].ws.length)[j]?
theorem yV.at {lo : Nat} {w : World} {bo : Nat} {fs : List Fld} (h : yV lo w bo fs fs.length) (hs : zbk fs) (hl : fs.length <= maxLen) : zY w (some ⟨bo, 0, none⟩) fs := by
  obtain ⟨C, hC, hsz, hr⟩ := h.rows
  refine ⟨hl, fun _ => ⟨bo, 0, rfl, (Array.getElem?_eq_some_iff.1 hC).1, fun i hi => ?_⟩⟩
  obtain ⟨bk, _, _, hk, hc⟩ := hr i hi hi
  obtain ⟨s1, s2, s3⟩ := hs.small i hi
  refine ⟨some ⟨bk, 0, none⟩, fs[i].ws.length, s1, zcD hk s2 s3, fun j hj => ?_⟩
  rw [cell_of_block hC, Nat.zero_add]
  exact hc j hj
theorem yV.later {lo : Nat} {w w' : World} {bo : Nat} {fs : List Fld} {k : Nat} (h : yV lo w bo fs k) (hb : Below w.heap.size w w') : yV lo w' bo fs k := by
  obtain ⟨C, hC, hsz, hr⟩ := h.rows
  refine ⟨h.low, C, (hb.block bo (Array.getElem?_eq_some_iff.1 hC).1).trans hC, hsz, fun i hi hk => ?_⟩
  obtain ⟨bk, h1, h2, h3, h4⟩ := hr i hi hk
  exact ⟨bk, h1, h2, (hb.block bk (Array.getElem?_eq_some_iff.1 h3).1).trans h3, h4⟩
theorem yV.put {lo : Nat} {w : World} {bo : Nat} {fs : List Fld} {k : Nat} (h : yV lo w bo fs k) (hk : k < fs.length) (bk : Nat) (h1 : lo <= bk) (h2 : bk ≠ bo) (h3 : w.heap[bk]? = some (.cells (ji fs[k].ws) 9)) :
    yV lo (zlv w bo (k * 11) (.string fs[k].nm) (.int .i64 fs[k].kd) (.int .i64 fs[k].ls) (.int .i64 fs[k].ms) (.slice (some ⟨bk, 0, none⟩) fs[k].ws.length fs[k].ws.length) (.string fs[k].to) (.int .i64 fs[k].rl) (.bool fs[k].mu) (.bool fs[k].fx) (.string fs[k].df) (.string fs[k].wg)) bo fs (k + 1) := by
  obtain ⟨C, hC, hsz, hr⟩ := h.rows
  refine ⟨h.low, _, zl1 hC _ _ _ _ _ _ _ _ _ _ _, by rw [zna]; exact hsz, fun i hi hik => ?_⟩
  rcases Nat.lt_or_ge i k with hlt | hge
  · obtain ⟨bi, g1, g2, g3, g4⟩ := hr i hi hlt
    refine ⟨bi, g1, g2, by rw [zgl _ _ _ _ g2]; exact g3, fun j hj => ?_⟩
    rw [znH _ _ _ _ _ _ _ _ _ _ _ _ _ _ (by omega)]
    exact g4 j hj
  · have e : i = k := by omega
    subst e
    refine ⟨bk, h1, h2, by rw [zgl _ _ _ _ h2]; exact h3, fun j hj => ?_⟩
    rw [zoD _ _ _ _ _ _ _ _ _ _ _ _ _ _ hj (by omega)]
    rfl
def znn : Array Value := #[.string ByteArray.empty, .int .i64 0, .int .i64 0, .int .i64 0, .slice none 0 0, .string ByteArray.empty, .int .i64 0, .bool false, .bool false, .string ByteArray.empty, .string ByteArray.empty]
def zlC (n : Nat) : Array Value := madeCells znn (n * 11)
set_option maxHeartbeats 2000000 in
theorem zf3 (a : Option Addr) (cap : Nat) (fs : List Fld) (w : World) (hw : zY w a fs) (hl : fs.length <= 1048576) (hls : ∀ i (h : i < fs.length), fs[i].ws.length <= 1048576) :
    Calls Tryz.prog 101 #[.slice a fs.length cap] w fun e w' => e = .returned (.slice (some ⟨w.heap.size, 0, none⟩) fs.length fs.length) /\ yV w.heap.size w' w.heap.size fs fs.length /\ Below w.heap.size w w' := by
  have hmk : ∀ w : World, (Instr.makeSlice 117 (.int .i64 fs.length) (.int .i64 fs.length)).run Tryz.prog w = .ok (.slice (some ⟨w.heap.size, 0, none⟩) fs.length fs.length) (w.alloc (.cells (zlC fs.length) 161)) :=
    fun w => qQ (P := Tryz.prog) 117 161 (.agg znn) 11 128 Tryz.underlying117 (by kernel_rfl) fs.length (by omega) (by omega) w
  go_enter Tryz.func101, Tryz.ntmps101
  go_wp2_with fail
  clear hmk
  go_loopw [4] (fun i wr => ∃ k : Nat, k <= fs.length /\ i = .int .i64 k /\ yV w.heap.size wr w.heap.size fs k /\ Below w.heap.size w wr) (fun i _ => fs.length - (intOf i).toNat)
  case atStart => exact ⟨0, Nat.zero_le _, rfl, ⟨Nat.le_refl _, zlC fs.length, (MapKept.heap_alloc w _).1, size_madeCells _ _, fun i _ h => absurd h (by omega)⟩, (Below.refl _ _).alloc (Nat.le_refl _) _⟩
  case round =>
    obtain ⟨k, hk, rfl, hown, hB⟩ := hrel
    by_cases hlt : k < fs.length
    · obtain ⟨b, off, rfl, hb, hr⟩ := hw.rows (by rintro rfl; simp at hlt)
      obtain ⟨wa, wcap, hf0⟩ := hr k hlt
      have hf := hf0.mono hb hB
      obtain ⟨c0, c1, c2, c3, c4, c5, c6, c7, c8, c9, c10⟩ := hf.load
      have hst := hf.strs
      have HLS : Hid (fs[k].ws.length <= 1048576) := hls k hlt
      have hltI : (k : Int) < (fs.length : Int) := by omega
      clear hw hr hf0 hf
      go_wp2_with fail
      refine (zgP _ _ _ _ _ _ _ _ _ _ _ _ _ _ hst HLS.out).mono ?_
      rintro e w1 ⟨bk, rfl, hlo, hhi, hbk, hb1⟩
      have hB1 := hB.trans (hb1.mono hB.size)
      have hown1 := hown.later hb1
      obtain ⟨C, hC, hsz, _⟩ := hown1.rows
      have hfz : ∀ o, w1.frozen? ⟨w.heap.size, o, none⟩ = false := fun o => zh hC
      have hex : ∀ o, o < fs.length * 11 -> ∃ v, w1.cell? ⟨w.heap.size, o, none⟩ = some v := fun o ho => ⟨C[o]'(by omega), by rw [cell_of_block hC]; exact Array.getElem?_eq_getElem (by omega)⟩
      obtain ⟨v0, hv0⟩ := hex (k * 11) (by omega)
      obtain ⟨v1, hv1⟩ := hex (k * 11 + 1) (by omega)
      obtain ⟨v2, hv2⟩ := hex (k * 11 + 2) (by omega)
      obtain ⟨v3, hv3⟩ := hex (k * 11 + 3) (by omega)
      obtain ⟨v4, hv4⟩ := hex (k * 11 + 4) (by omega)
      obtain ⟨v5, hv5⟩ := hex (k * 11 + 5) (by omega)
      obtain ⟨v6, hv6⟩ := hex (k * 11 + 6) (by omega)
      obtain ⟨v7, hv7⟩ := hex (k * 11 + 7) (by omega)
      obtain ⟨v8, hv8⟩ := hex (k * 11 + 8) (by omega)
      obtain ⟨v9, hv9⟩ := hex (k * 11 + 9) (by omega)
      obtain ⟨v10, hv10⟩ := hex (k * 11 + 10) (by omega)
      clear hex hC hsz c0 c1 c2 c3 c4 c5 c6 c7 c8 c9 c10
      have hbo : w.heap.size < wr.heap.size := by
        obtain ⟨C', hC', _⟩ := hown.rows
        exact (Array.getElem?_eq_some_iff.1 hC').1
      go_wp2_with fail
      exact ⟨⟨k + 1, by omega, by go_num, hown1.put hlt bk (by omega) (by omega) hbk, zl8 hB1 (Nat.le_refl _) _ _ _ _ _ _ _ _ _ _ _ _⟩, by simp [intOf]; omega⟩
    · have HF : Hid (yV w.heap.size wr w.heap.size fs fs.length) := by
        have e : k = fs.length := by omega
        subst e; exact hown
      clear hw hown
      go_wp2_with fail
      go_ret
      exact ⟨rfl, HF.out, hB⟩
structure je (lo : Nat) (w : World) (bo : Nat) (ss : List Shp) (k : Nat) : Prop where
  low : lo <= bo
  rows : ∃ C, w.heap[bo]? = some (.cells C 119) /\ C.size = ss.length * 2 /\
    ∀ i (h : i < ss.length), i < k -> ∃ bf, lo <= bf /\ bo < bf /\ yV (bo + 1) w bf ss[i].fs ss[i].fs.length /\ C[i * 2]? = some (.string ss[i].kd) /\ C[i * 2 + 1]? = some (.slice (some ⟨bf, 0, none⟩) ss[i].fs.length ss[i].fs.length)
theorem je.at {lo : Nat} {w : World} {bo : Nat} {ss : List Shp} (h : je lo w bo ss ss.length) (hs : zcM ss) (hl : ss.length <= maxLen) : yE w (some ⟨bo, 0, none⟩) ss := by
  obtain ⟨C, hC, hsz, hr⟩ := h.rows
  refine ⟨hl, fun _ => ⟨bo, 0, rfl, (Array.getElem?_eq_some_iff.1 hC).1, fun i hi => ?_⟩⟩
  obtain ⟨bf, _, _, hf, h1, h2⟩ := hr i hi hi
  obtain ⟨s1, s2, s3⟩ := hs.small i hi
  refine ⟨some ⟨bf, 0, none⟩, ss[i].fs.length, s1, hf.at s3 s2, ?_, ?_⟩
  · rw [cell_of_block hC, Nat.zero_add]; exact h1
  · rw [cell_of_block hC, Nat.zero_add]; exact h2
theorem je.later {lo : Nat} {w w' : World} {bo : Nat} {ss : List Shp} {k : Nat} (h : je lo w bo ss k) (hb : Below w.heap.size w w') : je lo w' bo ss k := by
  obtain ⟨C, hC, hsz, hr⟩ := h.rows
  refine ⟨h.low, C, (hb.block bo (Array.getElem?_eq_some_iff.1 hC).1).trans hC, hsz, fun i hi hk => ?_⟩
  obtain ⟨bf, h1, h2, h3, h4⟩ := hr i hi hk
  exact ⟨bf, h1, h2, h3.later hb, h4⟩
theorem yV.setCell {lo : Nat} {w : World} {bf : Nat} {fs : List Fld} {k : Nat} (h : yV lo w bf fs k) {p : Addr} (hp : p.block < lo) (v : Value) : yV lo (w.setCell p v) bf fs k := by
  obtain ⟨C, hC, hsz, hr⟩ := h.rows
  have hl := h.low
  refine ⟨h.low, C, by rw [Below.heap_setCell _ _ _ _ (by omega)]; exact hC, hsz, fun i hi hk => ?_⟩
  obtain ⟨bk, h1, h2, h3, h4⟩ := hr i hi hk
  exact ⟨bk, h1, h2, by rw [Below.heap_setCell _ _ _ _ (by omega)]; exact h3, h4⟩
theorem yV.weaken {lo lo' : Nat} {w : World} {bf : Nat} {fs : List Fld} {k : Nat} (h : yV lo w bf fs k) (hl : lo' <= lo) : yV lo' w bf fs k := by
  obtain ⟨C, hC, hsz, hr⟩ := h.rows
  refine ⟨Nat.le_trans hl h.low, C, hC, hsz, fun i hi hk => ?_⟩
  obtain ⟨bk, h1, h2⟩ := hr i hi hk
  exact ⟨bk, Nat.le_trans hl h1, h2⟩
theorem je.put {lo : Nat} {w : World} {bo : Nat} {ss : List Shp} {k : Nat} (h : je lo w bo ss k) (hk : k < ss.length) (bf : Nat) (h1 : bo < bf) (h3 : yV (bo + 1) w bf ss[k].fs ss[k].fs.length) :
    je lo ((w.setCell ⟨bo, k * 2, none⟩ (.string ss[k].kd)).setCell ⟨bo, k * 2 + 1, none⟩ (.slice (some ⟨bf, 0, none⟩) ss[k].fs.length ss[k].fs.length)) bo ss (k + 1) := by
  obtain ⟨C, hC, hsz, hr⟩ := h.rows
  have hl := h.low
  refine ⟨h.low, _, zf (zf hC _) _, by simp [hsz], fun i hi hik => ?_⟩
  rcases Nat.lt_or_ge i k with hlt | hge
  · obtain ⟨bi, g1, g2, g3, g4, g5⟩ := hr i hi hlt
    refine ⟨bi, g1, g2, (g3.setCell (by simp) _).setCell (by simp) _, ?_, ?_⟩
    · rw [Array.getElem?_setIfInBounds, if_neg (by omega), Array.getElem?_setIfInBounds, if_neg (by omega)]; exact g4
    · rw [Array.getElem?_setIfInBounds, if_neg (by omega), Array.getElem?_setIfInBounds, if_neg (by omega)]; exact g5
  · have e : i = k := by omega
    subst e
    refine ⟨bf, by omega, h1, (h3.setCell (by simp) _).setCell (by simp) _, ?_, ?_⟩
    · rw [Array.getElem?_setIfInBounds, if_neg (by omega), Array.getElem?_setIfInBounds, if_pos rfl, if_pos (by omega)]
    · rw [Array.getElem?_setIfInBounds, if_pos rfl, if_pos (by simp; omega)]
set_option maxHeartbeats 1000000 in
theorem zgX (kd : ByteArray) (a : Option Addr) (cap : Nat) (fs : List Fld) (w : World) (hw : zY w a fs) (hl : fs.length <= 1048576) (hls : ∀ i (h : i < fs.length), fs[i].ws.length <= 1048576) :
    Calls Tryz.prog 62 #[.agg #[.string kd, .slice a fs.length cap]] w fun e w' => ∃ bf, e = .returned (.agg #[.string kd, .slice (some ⟨bf, 0, none⟩) fs.length fs.length]) /\ yV w.heap.size w' bf fs fs.length /\ Below w.heap.size w w' := by
  go_enter Tryz.func62, Tryz.ntmps62
  go_wp2_with fail
  refine (zf3 _ _ _ _ (hw.mono ((((Below.refl _ _).alloc (Nat.le_refl _) _).alloc (by simp) _).alloc (by simp; omega) _)) hl hls).mono ?_
  rintro e w1 ⟨rfl, hown, hb1⟩
  have qr0 : w1.cell? ⟨w.heap.size + 1, 0, none⟩ = some (.string { data := #[] }) := (hb1.cell (p := ⟨w.heap.size + 1, 0, none⟩) (by simp)).trans (by simp [World.cell?_alloc_at, World.cell?_alloc_past])
  have fr0 : w1.frozen? ⟨w.heap.size + 1, 0, none⟩ = false := (hb1.frozen (p := ⟨w.heap.size + 1, 0, none⟩) (by simp)).trans (by simp [World.frozen?_alloc_at, World.frozen?_alloc_past])
  have qr1 : w1.cell? ⟨w.heap.size + 1, 1, none⟩ = some (.slice none 0 0) := (hb1.cell (p := ⟨w.heap.size + 1, 1, none⟩) (by simp)).trans (by simp [World.cell?_alloc_at, World.cell?_alloc_past])
  have fr1 : w1.frozen? ⟨w.heap.size + 1, 1, none⟩ = false := (hb1.frozen (p := ⟨w.heap.size + 1, 1, none⟩) (by simp)).trans (by simp [World.frozen?_alloc_at, World.frozen?_alloc_past])
  have qo0 : w1.cell? ⟨w.heap.size + 1 + 1, 0, none⟩ = some (.string kd) := (hb1.cell (p := ⟨w.heap.size + 1 + 1, 0, none⟩) (by simp)).trans (by simp [World.cell?_alloc_at])
  have fo0 : w1.frozen? ⟨w.heap.size + 1 + 1, 0, none⟩ = false := (hb1.frozen (p := ⟨w.heap.size + 1 + 1, 0, none⟩) (by simp)).trans (by simp [World.frozen?_alloc_at])
  have qo1 : w1.cell? ⟨w.heap.size + 1 + 1, 1, none⟩ = some (.slice none 0 0) := (hb1.cell (p := ⟨w.heap.size + 1 + 1, 1, none⟩) (by simp)).trans (by simp [World.cell?_alloc_at])
  have fo1 : w1.frozen? ⟨w.heap.size + 1 + 1, 1, none⟩ = false := (hb1.frozen (p := ⟨w.heap.size + 1 + 1, 1, none⟩) (by simp)).trans (by simp [World.frozen?_alloc_at])
  have hz1 : w.heap.size + 1 + 1 < w1.heap.size := by have := hb1.size; simp at this; omega
  go_wp2_with fail
  have hsz : (((w.alloc (.cells #[.string kd, .slice a fs.length cap] 90)).alloc (.cells #[.string { data := #[] }, .slice none 0 0] 119)).alloc (.cells #[.string kd, .slice none 0 0] 119)).heap.size = w.heap.size + 1 + 1 + 1 := by simp
  have hB1 : Below w.heap.size w w1 := ((((Below.refl _ _).alloc (Nat.le_refl _) _).alloc (by simp) _).alloc (by simp; omega) _).trans (hb1.mono (by simp; omega))
  rw [hsz] at hown
  refine bodyPost_ret (v := .agg #[.string kd, .slice (some ⟨w.heap.size + 1 + 1 + 1, 0, none⟩) fs.length fs.length]) (by simp [results, Tryz.results62, go_sem, qr0, qr1]) rfl ⟨w.heap.size + 1 + 1 + 1, rfl, ?_, ?_⟩
  · exact (((hown.setCell (by simp) _).setCell (by simp) _).setCell (by simp) _).weaken (by omega)
  · exact ((hB1.setCell (by simp; omega) _).setCell (by simp) _).setCell (by simp) _
def znr : Array Value := #[.string ByteArray.empty, .slice none 0 0]
def zlx (n : Nat) : Array Value := madeCells znr (n * 2)
set_option maxHeartbeats 2000000 in
theorem zf6 (a : Option Addr) (cap : Nat) (ss : List Shp) (w : World) (hw : yE w a ss) (hl : ss.length <= 1048576) (hls : ∀ i (h : i < ss.length), ss[i].fs.length <= 1048576 /\ ∀ j (h' : j < ss[i].fs.length), ss[i].fs[j].ws.length <= 1048576) :
    Calls Tryz.prog 26 #[.slice a ss.length cap] w fun e w' => e = .returned (.slice (some ⟨w.heap.size, 0, none⟩) ss.length ss.length) /\ je w.heap.size w' w.heap.size ss ss.length /\ Below w.heap.size w w' := by
  have hmk : ∀ w : World, (Instr.makeSlice 37 (.int .i64 ss.length) (.int .i64 ss.length)).run Tryz.prog w = .ok (.slice (some ⟨w.heap.size, 0, none⟩) ss.length ss.length) (w.alloc (.cells (zlx ss.length) 119)) :=
    fun w => qQ (P := Tryz.prog) 37 119 (.agg znr) 2 40 Tryz.underlying37 (by kernel_rfl) ss.length (by omega) (by omega) w
  go_enter Tryz.func26, Tryz.ntmps26
  go_wp2_with fail
  clear hmk
  go_loopw [4] (fun i wr => ∃ k : Nat, k <= ss.length /\ i = .int .i64 k /\ je w.heap.size wr w.heap.size ss k /\ Below w.heap.size w wr) (fun i _ => ss.length - (intOf i).toNat)
  case atStart => exact ⟨0, Nat.zero_le _, rfl, ⟨Nat.le_refl _, zlx ss.length, (MapKept.heap_alloc w _).1, size_madeCells _ _, fun i _ h => absurd h (by omega)⟩, (Below.refl _ _).alloc (Nat.le_refl _) _⟩
  case round =>
    obtain ⟨k, hk, rfl, hown, hB⟩ := hrel
    by_cases hlt : k < ss.length
    · obtain ⟨b, off, rfl, hb, hr⟩ := hw.rows (by rintro rfl; simp at hlt)
      obtain ⟨fa, fcap, hs0⟩ := hr k hlt
      have hs := hs0.mono hb hB
      have hck := hs.kind
      have hcl := hs.list
      have hfl := hs.zcn
      have HLS := hls k hlt
      have HLS' : Hid (ss[k].fs.length <= 1048576 /\ ∀ j (h' : j < ss[k].fs.length), ss[k].fs[j].ws.length <= 1048576) := HLS
      have hltI : (k : Int) < (ss.length : Int) := by omega
      clear hw hr hs0 hs HLS
      go_wp2_with fail
      refine (zgX _ _ _ _ _ hfl HLS'.out.1 HLS'.out.2).mono ?_
      rintro e w1 ⟨bf, rfl, hof, hb1⟩
      have hB1 := hB.trans (hb1.mono hB.size)
      have hown1 := hown.later hb1
      have hbo : w.heap.size < wr.heap.size := by
        obtain ⟨C', hC', _⟩ := hown.rows
        exact (Array.getElem?_eq_some_iff.1 hC').1
      obtain ⟨C, hC, hsz, _⟩ := hown1.rows
      have hfz : ∀ o, w1.frozen? ⟨w.heap.size, o, none⟩ = false := fun o => zh hC
      have hex : ∀ o, o < ss.length * 2 -> ∃ v, w1.cell? ⟨w.heap.size, o, none⟩ = some v := fun o ho => ⟨C[o]'(by omega), by rw [cell_of_block hC]; exact Array.getElem?_eq_getElem (by omega)⟩
      obtain ⟨v0, hv0⟩ := hex (k * 2) (by omega)
      obtain ⟨v1, hv1⟩ := hex (k * 2 + 1) (by omega)
      clear hex hC hsz hck hcl
      have hlow := hof.low
      go_wp2_with fail
      exact ⟨⟨k + 1, by omega, by go_num, hown1.put hlt bf (by omega) (hof.weaken (by omega)), (hB1.setCell (Nat.le_refl _) _).setCell (Nat.le_refl _) _⟩, by simp [intOf]; omega⟩
    · have HF : Hid (je w.heap.size wr w.heap.size ss ss.length) := by
        have e : k = ss.length := by omega
        subst e; exact hown
      clear hw hown
      go_wp2_with fail
      go_ret
      exact ⟨rfl, HF.out, hB⟩
end Go.Proofs.YtfcdmlnpfoikhaaGreat

namespace Go.Proofs.YtfcdmlnpfoikhaaGreat
open Go.RowKit
theorem zbi {w : World} {b : Nat} {X : Array Value} {t : TypeId} (h : w.heap[b]? = some (.cells X t)) : ∀ j, w.cell? ⟨b, j, none⟩ = X[j]? := fun _ => cell_of_block h
theorem zm4 {w : World} {b : Nat} {X : Array Value} {t : TypeId} (h : w.heap[b]? = some (.cells X t)) : ∀ j, w.frozen? ⟨b, j, none⟩ = false := fun _ => zh h
end Go.Proofs.YtfcdmlnpfoikhaaGreat
