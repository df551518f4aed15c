import Derived.Test.YtponiggfclcbgaaGreatM03
import Derived.Test.YtponiggfclcbgaaGreatM06
import Derived.WalkKit
import Derived.MapKept
namespace Go.Proofs.YtponiggfclcbgaaGreat
open Go.RowKit

theorem Tryz.infoString : (Tryz.prog.info? 9).map (fun i => (i.zero, i.size, i.bytes)) = some (some (.string ByteArray.empty), 1, 16) := by kernel_rfl

set_option maxHeartbeats 1000000 in
theorem copyTexts_any (b off cap : Nat) (ws : List ByteArray) (w : World) (hw : StrsAt w (some ⟨b, off, none⟩) ws) (hl : ws.length ≤ 1048576) :
    Calls Tryz.prog 69 #[.slice (some ⟨b, off, none⟩) ws.length cap] w
      fun e w' => ∃ v, e = .returned v ∧ w'.ownsRow w.heap.size 9 1 v ws.length (ws.map Value.string) ∧ Below w.heap.size w w' := by
  obtain ⟨i0, hi, hz0, hz1, hz2⟩ := info_parts Tryz.infoString
  have hnews : ∀ j u, (ws.map Value.string)[j]? = some u → w.cell? ((⟨b, off, none⟩ : Addr).add j) = some u := by
    intro j u hj
    have hlt : j < ws.length := by
      have := (List.getElem?_eq_some_iff.1 hj).1; simpa using this
    obtain ⟨b', off', he, hb, hc⟩ := hw.cells (by rintro rfl; simp at hlt)
    simp only [Option.some.injEq, Addr.mk.injEq] at he
    obtain ⟨rfl, rfl, _⟩ := he
    have h1 := hc j hlt
    have e1 : (⟨b, off, none⟩ : Addr).add j = ⟨b, off + j, none⟩ := by
      unfold Addr.add; split
      · rename_i h; subst h; simp
      · rfl
    rw [e1, h1]
    rw [List.getElem?_map, List.getElem?_eq_getElem hlt] at hj
    simpa using hj
  have hone : ∀ u ∈ ws.map Value.string, u.oneCell' = true := by
    intro u hu; simp only [List.mem_map] at hu; obtain ⟨s, _, rfl⟩ := hu; rfl
  go_enter Tryz.func69, Tryz.ntmps69
  go_wp2_with (at_builtin; refine wpList_append_own _ rfl _ _ 24 rfl w.heap.size 9 i0 (.string ByteArray.empty) 1 16 Tryz.underlying24 hi hz0 hz1 hz2 rfl (by decide) (.slice none 0 0) 0 [] rfl ⟨rfl, .inl ⟨rfl, rfl⟩⟩ ⟨b, off, none⟩ ws.length cap (ws.map Value.string) rfl (by simp) hnews hone (by unfold maxLen; omega) (by omega) (Nat.le_refl _) ?_; intro v' w1 hown hgr _)
  simp only [Nat.zero_add, List.nil_append] at hown
  go_ret
  exact ⟨v', rfl, hown, (Below.refl _ _).grown hgr (Nat.le_refl _) (by simp [Value.ownBlock])⟩

end Go.Proofs.YtponiggfclcbgaaGreat

namespace Go.Proofs.YtponiggfclcbgaaGreat
open Go.RowKit

/-- A list of texts that a call made: none, or at the head of a block of its own. -/
def TxtsOwn (lo : Nat) (w : World) (a : Option Addr) (ws : List ByteArray) : Prop :=
  (a = none ∧ ws = []) ∨ ∃ g C, a = some ⟨g, 0, none⟩ ∧ lo ≤ g ∧ w.heap[g]? = some (.cells C 9) ∧ ∀ i (h : i < ws.length), C[i]? = some (.string ws[i])

theorem TxtsOwn.of_row {lo : Nat} {w : World} {v : Value} {ws : List ByteArray} (h : w.ownsRow lo 9 1 v ws.length (ws.map Value.string)) : ∃ a cap, v = .slice a ws.length cap ∧ TxtsOwn lo w a ws := by
  obtain ⟨_, ⟨rfl, h0⟩ | ⟨g, cap, cur, rfl, hg, hh, _, _, _, ht⟩⟩ := h
  · exact ⟨none, 0, by rw [h0], Or.inl ⟨rfl, List.length_eq_zero_iff.1 h0⟩⟩
  · refine ⟨some ⟨g, 0, none⟩, cap, rfl, Or.inr ⟨g, cur, rfl, hg, hh, fun i hi => ?_⟩⟩
    have h1 : (cur.toList.take (ws.length * 1))[i]? = (ws.map Value.string)[i]? := by rw [ht]
    rw [List.getElem?_take_of_lt (by omega), List.getElem?_map, List.getElem?_eq_getElem hi] at h1
    simpa using h1

theorem TxtsOwn.mono {lo : Nat} {w w' : World} {a : Option Addr} {ws : List ByteArray} (h : TxtsOwn lo w a ws) (hb : Below w.heap.size w w') : TxtsOwn lo w' a ws := by
  rcases h with ⟨rfl, rfl⟩ | ⟨g, C, rfl, hg, hh, hc⟩
  · exact Or.inl ⟨rfl, rfl⟩
  · exact Or.inr ⟨g, C, rfl, hg, (hb.block g (Array.getElem?_eq_some_iff.1 hh).1).trans hh, hc⟩

theorem TxtsOwn.at {lo : Nat} {w : World} {a : Option Addr} {ws : List ByteArray} (h : TxtsOwn lo w a ws) (hl : ws.length ≤ maxLen) (hs : ∀ s ∈ ws, s.size ≤ maxLen) : StrsAt w a ws := by
  refine ⟨hl, hs, fun hne => ?_⟩
  rcases h with ⟨_, rfl⟩ | ⟨g, C, rfl, _, hh, hc⟩
  · exact absurd rfl hne
  · refine ⟨g, 0, rfl, (Array.getElem?_eq_some_iff.1 hh).1, fun i hi => ?_⟩
    simp only [World.cell?, hh, Nat.zero_add]
    simpa using hc i hi

end Go.Proofs.YtponiggfclcbgaaGreat

namespace Go.Proofs.YtponiggfclcbgaaGreat
open Go.RowKit

theorem alloc_set (w : World) (o o' : Obj) : { (w.alloc o) with heap := (w.alloc o).heap.setIfInBounds w.heap.size o' } = w.alloc o' := by
  show ({ w with heap := (w.heap.push o).setIfInBounds w.heap.size o' } : World) = { w with heap := w.heap.push o' }
  congr 1
  apply Array.ext_getElem?
  intro i
  simp only [Array.getElem?_setIfInBounds, Array.getElem?_push, Array.size_push]
  by_cases h : w.heap.size = i
  · subst h; simp
  · rw [if_neg h, if_neg (fun e => h e.symm), if_neg (fun e => h e.symm)]

theorem alloc_at (w : World) (o : Obj) : (w.alloc o).heap[w.heap.size]? = some o := by
  show (w.heap.push o)[w.heap.size]? = some o
  simp

/-- A new key into a map that is the last block. -/
theorem run_update_last {P : Program} {mty kt et : TypeId} {d : TypeDesc} (hm : P.underlying mty = some (.map kt et)) (hd : P.underlying kt = some d) (key val : Value) (hk : MapKept.IsKey d key)
    (es : Array MapEntry) (clock : Nat) (hf : Instr.findNow d key es.toList 0 = some none) (w : World) :
    (Instr.mapUpdate mty (.map (some w.heap.size)) key val).run P (w.alloc (.map es clock)) = .ok () (w.alloc (.map (es.push ⟨key, val, clock⟩) (clock + 1))) := by
  have hb := alloc_at w (.map es clock)
  have hc := MapKept.run_checkKey (P := P) (w := w.alloc (.map es clock)) hd hk false 9999
  simp [Instr.mapUpdate, run_underlying hm, MapKept.run_getObj_map hb, hc, MapKept.run_findKey hd hf, MapKept.run_setObj_map _ hb, Result.andThen, ← alloc_set w (.map es clock) (.map (es.push ⟨key, val, clock⟩) (clock + 1))]

theorem run_lookup_hit {P : Program} {mty kt et : TypeId} {d : TypeDesc} (hm : P.underlying mty = some (.map kt et)) (hd : P.underlying kt = some d) (key val : Value) (hk : MapKept.IsKey d key)
    (es : Array MapEntry) (clock i : Nat) (hf : Instr.findNow d key es.toList 0 = some (some (i, val))) (w : World) (r : Nat) (hb : w.heap[r]? = some (.map es clock)) :
    (Instr.lookup mty (.map (some r)) key true).run P w = .ok (.tuple #[val, .bool true]) w := by
  have hc := MapKept.run_checkKey (P := P) (w := w) hd hk es.isEmpty 9999
  simp [Instr.lookup, run_underlying hm, MapKept.run_getObj_map hb, hc, MapKept.run_findKey hd hf, Result.andThen]

theorem run_lookup_miss {P : Program} {mty kt et : TypeId} {d : TypeDesc} (hm : P.underlying mty = some (.map kt et)) (hd : P.underlying kt = some d) (key z : Value) (hk : MapKept.IsKey d key)
    (es : Array MapEntry) (clock : Nat) (hf : Instr.findNow d key es.toList 0 = some none) (w : World) (hz : (zeroValue et).run P w = .ok z w) (r : Nat) (hb : w.heap[r]? = some (.map es clock)) :
    (Instr.lookup mty (.map (some r)) key true).run P w = .ok (.tuple #[z, .bool false]) w := by
  have hc := MapKept.run_checkKey (P := P) (w := w) hd hk es.isEmpty 9999
  simp [Instr.lookup, run_underlying hm, MapKept.run_getObj_map hb, hc, MapKept.run_findKey hd hf, hz, Result.andThen]

end Go.Proofs.YtponiggfclcbgaaGreat
