import Derived.Test.YthldiefbpemoaaaGreatM10
import Derived.Test.YthldiefbpemoaaaGreatM03
import Derived.Test.YthldiefbpemoaaaGreatM01
import Derived.Test.YthldiefbpemoaaaGreatM02
namespace Go.Proofs.YthldiefbpemoaaaGreat
open Go.RowKit

set_option maxHeartbeats 1000000 in
theorem areAsc_any (a : Option Addr) (cap : Nat) (ws : List ByteArray) (w : World) (hw : StrsAt w a ws) :
    Calls Tryz.prog 130 #[.slice a ws.length cap] w fun e w' => e = .returned (.bool (Gate.asc ws)) ∧ w' = w := by
  have hl := hw.len
  unfold maxLen at hl
  go_enter Tryz.func130, Tryz.ntmps130
  go_wp2
  go_loop [7] (fun i => ∃ k : Nat, k ≤ ws.length ∧ i = .int .i64 k ∧ Gate.up (Gate.ascAt ws) k = true) (fun i => ws.length - (intOf i).toNat)
  case atStart => exact ⟨0, Nat.zero_le _, rfl, rfl⟩
  case round =>
    obtain ⟨k, hk, rfl, hup⟩ := hrel
    by_cases hlt : k < ws.length
    · obtain ⟨b, off, rfl, hb, hc⟩ := hw.cells (by rintro rfl; simp at hlt)
      have hsm := hw.small _ (List.getElem_mem hlt)
      clear hw
      have hck := hc k hlt
      by_cases hn : Gate.nameOk ws[k] = true
      · by_cases hk0 : k = 0
        · have HF : Hid (Gate.up (Gate.ascAt ws) (k + 1) = true) := by subst hk0; unfold Hid; rw [Gate.up_succ, Gate.ascAt_first hlt hn]; rfl
          have hg : decide (0 < k) = false := by simp; omega
          have HN : Hid (Gate.nameOk ws[k] = true) := hn
          clear hn hc hup hk0
          go_wp2_with (go_at_call 51; refine (as_bool HN.out (isName_any _ _ hsm)).mono ?_; rintro e w' ⟨rfl, rfl⟩)
          go_round
          case rel => exact ⟨k + 1, by omega, by go_num, HF.out⟩
          case measure => simp [intOf]; omega
        · obtain ⟨m, rfl⟩ : ∃ m, k = m + 1 := ⟨k - 1, by omega⟩
          have hcm := hc m (by omega)
          have HU : Hid (Gate.up (Gate.ascAt ws) (m + 1 + 1) = Gate.less ws[m] ws[m + 1]) := by unfold Hid; rw [Gate.up_succ, hup, Gate.ascAt_more hlt hn]; rfl
          have HNN : Hid (Gate.less ws[m] ws[m + 1] = false → Gate.asc ws = false) := fun h => Gate.up_not hlt (by rw [Gate.ascAt_more hlt hn]; exact h)
          have HN : Hid (Gate.nameOk ws[m + 1] = true) := hn
          clear hn hc hup hk0
          by_cases hls : Gate.less ws[m] ws[m + 1] = true
          · have hls' : Op.bytesLess ws[m].toList ws[m + 1].toList = true := hls
            have HLS : Hid (Gate.less ws[m] ws[m + 1] = true) := hls
            clear hls
            go_wp2_with (go_at_call 51; refine (as_bool HN.out (isName_any _ _ hsm)).mono ?_; rintro e w' ⟨rfl, rfl⟩)
            go_round
            case rel => exact ⟨m + 1 + 1, by omega, by go_num, by rw [HU.out, HLS.out]⟩
            case measure => simp [intOf]; omega
          · have hls' : Op.bytesLess ws[m].toList ws[m + 1].toList = false := by simpa [Gate.less] using hls
            have HLS : Hid (Gate.less ws[m] ws[m + 1] = false) := hls'
            clear hls
            go_wp2_with (go_at_call 51; refine (as_bool HN.out (isName_any _ _ hsm)).mono ?_; rintro e w' ⟨rfl, rfl⟩)
            go_ret
            exact ⟨ret_bool (HNN.out HLS.out).symm, rfl⟩
      · have hn' : Gate.nameOk ws[k] = false := by simpa using hn
        have HF : Hid (Gate.asc ws = false) := Gate.up_not hlt (Gate.ascAt_name hlt hn')
        have HN : Hid (Gate.nameOk ws[k] = false) := hn'
        clear hn hn' hc hup
        go_wp2_with (go_at_call 51; refine (as_bool HN.out (isName_any _ _ hsm)).mono ?_; rintro e w' ⟨rfl, rfl⟩)
        go_ret
        exact ⟨ret_bool HF.out.symm, rfl⟩
    · have HF : Hid (Gate.asc ws = true) := by
        have e : k = ws.length := by omega
        subst e; exact hup
      clear hw hup
      go_wp2
      go_ret
      exact ⟨ret_bool HF.out.symm, rfl⟩

end Go.Proofs.YthldiefbpemoaaaGreat

namespace Go.Proofs.YthldiefbpemoaaaGreat
open Go.RowKit

set_option maxHeartbeats 1000000 in
theorem shapeOf_any (a : Option Addr) (cap : Nat) (ss : List Shp) (v : ByteArray) (w : World) (hw : ShpsAt w a ss) :
    Calls Tryz.prog 68 #[.slice a ss.length cap, .string v] w fun e w' => ∃ fa fcap, e = .returned (.tuple #[.agg #[.string (Gate.shapeOf ss v).kd, .slice fa (Gate.shapeOf ss v).fs.length fcap], .bool (Gate.hasKind ss v)]) ∧
      FldsAt w fa (Gate.shapeOf ss v).fs ∧ Below w.heap.size w w' := by
  have hl := hw.len
  unfold maxLen at hl
  go_enter Tryz.func68, Tryz.ntmps68
  go_wp2
  go_loopw [10] (fun i wr => ∃ k : Nat, k ≤ ss.length ∧ i = .int .i64 k ∧ Gate.hasKind (ss.take k) v = false ∧ Below (w.heap.size + 1) (w.alloc (.cells #[.string ByteArray.empty, .slice none 0 0] 85)) wr) (fun i _ => ss.length - (intOf i).toNat)
  case atStart => exact ⟨0, Nat.zero_le _, rfl, rfl, Below.refl _ _⟩
  case round =>
    obtain ⟨k, hk, rfl, hno, hbl⟩ := hrel
    have hsz : w.heap.size < wr.heap.size := by have := hbl.size; simp at this; omega
    have hB0 : Below w.heap.size w wr := ((Below.refl _ _).alloc (Nat.le_refl _) _).trans (hbl.mono (by omega))
    have hX0 : wr.cell? ⟨w.heap.size, 0, none⟩ = some (.string ByteArray.empty) := (hbl.cell (p := ⟨w.heap.size, 0, none⟩) (by simp)).trans (by rw [World.cell?_alloc_at _ _ _ _ rfl]; rfl)
    have hX1 : wr.cell? ⟨w.heap.size, 1, none⟩ = some (.slice none 0 0) := (hbl.cell (p := ⟨w.heap.size, 1, none⟩) (by simp)).trans (by rw [World.cell?_alloc_at _ _ _ _ rfl]; rfl)
    have hF0 : wr.frozen? ⟨w.heap.size, 0, none⟩ = false := (hbl.frozen (p := ⟨w.heap.size, 0, none⟩) (by simp)).trans (by rw [World.frozen?_alloc_at _ _ _ _ rfl])
    have hF1 : wr.frozen? ⟨w.heap.size, 1, none⟩ = false := (hbl.frozen (p := ⟨w.heap.size, 1, none⟩) (by simp)).trans (by rw [World.frozen?_alloc_at _ _ _ _ rfl])
    by_cases hlt : k < ss.length
    · obtain ⟨b, off, rfl, hb, hr⟩ := hw.rows (by rintro rfl; simp at hlt)
      obtain ⟨fa, fcap, hs⟩ := hr k hlt
      have hck := (hB0.cell (p := ⟨b, off + k * 2, none⟩) hb).trans hs.kind
      have hcl := (hB0.cell (p := ⟨b, off + k * 2 + 1, none⟩) hb).trans hs.list
      have hfl := hs.flds
      clear hw hr hs
      by_cases he : ss[k].kd = v
      · have hbe : (ss[k].kd.toList == v.toList) = true := by rw [Gate.beq_toList]; simpa using he
        have HA : Hid (Gate.hasKind ss v = true) := Gate.hasKind_at ss v k hlt he
        have HB : Hid (Gate.shapeOf ss v = ss[k]) := Gate.shapeOf_at ss v k hlt hno he
        clear he hno
        go_wp2
        refine bodyPost_ret (v := .tuple #[.agg #[.string ss[k].kd, .slice fa ss[k].fs.length fcap], .bool true]) (by simp [results, Tryz.results68, go_sem, hX0, hX1, hsz]) rfl ⟨fa, fcap, by rw [HA.out, HB.out], by rw [HB.out]; exact hfl, ?_⟩
        exact ((hB0.setCell (Nat.le_refl _) _).setCell (Nat.le_refl _) _).alloc (by simp [World.setCell]; omega) _
      · have hbe : (ss[k].kd.toList == v.toList) = false := by rw [Gate.beq_toList]; simpa using he
        have HS : Hid (Gate.hasKind (ss.take (k + 1)) v = false) := by unfold Hid; rw [Gate.hasKind_snoc ss v k hlt, hno, decide_eq_false he]; rfl
        clear he hno hX0 hX1 hF0 hF1
        go_wp2
        go_roundw
        case rel => exact ⟨k + 1, by omega, by go_num, HS.out, hbl.alloc (by omega) _⟩
        case measure => simp [intOf]; omega
    · have HA : Hid (Gate.hasKind ss v = false) := by rw [← Gate.hasKind_all ss v k (by omega)]; exact hno
      have HB : Hid (Gate.shapeOf ss v = Gate.noShape) := Gate.shapeOf_none ss v HA.out
      clear hno hw
      go_wp2
      refine bodyPost_ret (v := .tuple #[.agg #[.string ByteArray.empty, .slice none 0 0], .bool false]) (by simp [results, Tryz.results68, go_sem, hX0, hX1]; rfl) rfl ⟨none, 0, by rw [HA.out, HB.out]; rfl, by rw [HB.out]; exact ⟨by simp [Gate.noShape, maxLen], fun h => absurd rfl h⟩, ?_⟩
      exact (hB0.setCell (Nat.le_refl _) _).setCell (Nat.le_refl _) _

end Go.Proofs.YthldiefbpemoaaaGreat

namespace Go.Proofs.YthldiefbpemoaaaGreat
open Go.RowKit

set_option maxHeartbeats 1000000 in
theorem shapeOf_any0 (w0 : World) (a : Option Addr) (cap : Nat) (ss : List Shp) (v : ByteArray) (w : World) (hw : ShpsAt w0 a ss) (hbb : Below w0.heap.size w0 w) :
    Calls Tryz.prog 68 #[.slice a ss.length cap, .string v] w fun e w' => ∃ fa fcap, e = .returned (.tuple #[.agg #[.string (Gate.shapeOf ss v).kd, .slice fa (Gate.shapeOf ss v).fs.length fcap], .bool (Gate.hasKind ss v)]) ∧
      FldsAt w0 fa (Gate.shapeOf ss v).fs ∧ Below w.heap.size w w' := by
  have hl := hw.len
  unfold maxLen at hl
  go_enter Tryz.func68, Tryz.ntmps68
  go_wp2
  go_loopw [10] (fun i wr => ∃ k : Nat, k ≤ ss.length ∧ i = .int .i64 k ∧ Gate.hasKind (ss.take k) v = false ∧ Below (w.heap.size + 1) (w.alloc (.cells #[.string ByteArray.empty, .slice none 0 0] 85)) wr) (fun i _ => ss.length - (intOf i).toNat)
  case atStart => exact ⟨0, Nat.zero_le _, rfl, rfl, Below.refl _ _⟩
  case round =>
    obtain ⟨k, hk, rfl, hno, hbl⟩ := hrel
    have hsz : w.heap.size < wr.heap.size := by have := hbl.size; simp at this; omega
    have hB0 : Below w.heap.size w wr := ((Below.refl _ _).alloc (Nat.le_refl _) _).trans (hbl.mono (by omega))
    have hX0 : wr.cell? ⟨w.heap.size, 0, none⟩ = some (.string ByteArray.empty) := (hbl.cell (p := ⟨w.heap.size, 0, none⟩) (by simp)).trans (by rw [World.cell?_alloc_at _ _ _ _ rfl]; rfl)
    have hX1 : wr.cell? ⟨w.heap.size, 1, none⟩ = some (.slice none 0 0) := (hbl.cell (p := ⟨w.heap.size, 1, none⟩) (by simp)).trans (by rw [World.cell?_alloc_at _ _ _ _ rfl]; rfl)
    have hF0 : wr.frozen? ⟨w.heap.size, 0, none⟩ = false := (hbl.frozen (p := ⟨w.heap.size, 0, none⟩) (by simp)).trans (by rw [World.frozen?_alloc_at _ _ _ _ rfl])
    have hF1 : wr.frozen? ⟨w.heap.size, 1, none⟩ = false := (hbl.frozen (p := ⟨w.heap.size, 1, none⟩) (by simp)).trans (by rw [World.frozen?_alloc_at _ _ _ _ rfl])
    by_cases hlt : k < ss.length
    · obtain ⟨b, off, rfl, hb, hr⟩ := hw.rows (by rintro rfl; simp at hlt)
      obtain ⟨fa, fcap, hs⟩ := hr k hlt
      have hb0 : b < w.heap.size := Nat.lt_of_lt_of_le hb hbb.size
      have hck := ((hB0.cell (p := ⟨b, off + k * 2, none⟩) hb0).trans (hbb.cell (p := ⟨b, off + k * 2, none⟩) hb)).trans hs.kind
      have hcl := ((hB0.cell (p := ⟨b, off + k * 2 + 1, none⟩) hb0).trans (hbb.cell (p := ⟨b, off + k * 2 + 1, none⟩) hb)).trans hs.list
      have hfl := hs.flds
      clear hw hr hs
      by_cases he : ss[k].kd = v
      · have hbe : (ss[k].kd.toList == v.toList) = true := by rw [Gate.beq_toList]; simpa using he
        have HA : Hid (Gate.hasKind ss v = true) := Gate.hasKind_at ss v k hlt he
        have HB : Hid (Gate.shapeOf ss v = ss[k]) := Gate.shapeOf_at ss v k hlt hno he
        clear he hno
        go_wp2
        refine bodyPost_ret (v := .tuple #[.agg #[.string ss[k].kd, .slice fa ss[k].fs.length fcap], .bool true]) (by simp [results, Tryz.results68, go_sem, hX0, hX1, hsz]) rfl ⟨fa, fcap, by rw [HA.out, HB.out], by rw [HB.out]; exact hfl, ?_⟩
        exact ((hB0.setCell (Nat.le_refl _) _).setCell (Nat.le_refl _) _).alloc (by simp [World.setCell]; omega) _
      · have hbe : (ss[k].kd.toList == v.toList) = false := by rw [Gate.beq_toList]; simpa using he
        have HS : Hid (Gate.hasKind (ss.take (k + 1)) v = false) := by unfold Hid; rw [Gate.hasKind_snoc ss v k hlt, hno, decide_eq_false he]; rfl
        clear he hno hX0 hX1 hF0 hF1
        go_wp2
        go_roundw
        case rel => exact ⟨k + 1, by omega, by go_num, HS.out, hbl.alloc (by omega) _⟩
        case measure => simp [intOf]; omega
    · have HA : Hid (Gate.hasKind ss v = false) := by rw [← Gate.hasKind_all ss v k (by omega)]; exact hno
      have HB : Hid (Gate.shapeOf ss v = Gate.noShape) := Gate.shapeOf_none ss v HA.out
      clear hno hw
      go_wp2
      refine bodyPost_ret (v := .tuple #[.agg #[.string ByteArray.empty, .slice none 0 0], .bool false]) (by simp [results, Tryz.results68, go_sem, hX0, hX1]; rfl) rfl ⟨none, 0, by rw [HA.out, HB.out]; rfl, by rw [HB.out]; exact ⟨by simp [Gate.noShape, maxLen], fun h => absurd rfl h⟩, ?_⟩
      exact (hB0.setCell (Nat.le_refl _) _).setCell (Nat.le_refl _) _

end Go.Proofs.YthldiefbpemoaaaGreat
