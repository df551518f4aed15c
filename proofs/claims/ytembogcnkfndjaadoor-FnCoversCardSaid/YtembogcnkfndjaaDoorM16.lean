import Derived.Test.YtembogcnkfndjaaDoorM14
import Derived.Test.YtembogcnkfndjaaDoorM05
import Derived.Test.YtembogcnkfndjaaDoorM07
import Derived.Test.YtembogcnkfndjaaDoorM15
namespace Go.Proofs.YtembogcnkfndjaaDoor
open Go.RowKit

theorem calls_world {P : Program} {f : FuncId} {args : Array Value} {w : World} {Q : Ending → World → Prop} (R : World → Prop) (hR : R w) (h : ∀ w', R w' → Calls P f args w' Q) : Calls P f args w Q := h w hR
theorem below_a {w w' : World} {o : Obj} (h : Below (w.alloc o).heap.size (w.alloc o) w') : Below w.heap.size w w' := ((Below.refl _ _).alloc (Nat.le_refl _) _).trans (h.mono (by simp))
theorem below_n {a b c : World} (h : Below a.heap.size a b) (k : Below b.heap.size b c) : Below a.heap.size a c := h.trans (k.mono h.size)
theorem below_2 (w : World) (o p : Obj) : Below w.heap.size w ((w.alloc o).alloc p) := ((Below.refl _ _).alloc (Nat.le_refl _) _).alloc (by simp) _
theorem alloc_atG {w : World} {o : Obj} {n : Nat} (h : n = w.heap.size) : (w.alloc o).heap[n]? = some o := by subst h; exact (MapKept.heap_alloc w o).1
theorem at_2 (w : World) (o p : Obj) : ((w.alloc o).alloc p).heap[w.heap.size + 1]? = some p := by have h := (MapKept.heap_alloc (w.alloc o) p).1; simpa using h

set_option maxRecDepth 10000 in
set_option maxHeartbeats 8000000 in
theorem l11Law_any (w : World) :
    Calls Tryd.prog 54 #[] w fun e w' => ∃ s m g, e = .returned (.agg #[s, m, .slice (some ⟨g, 0, none⟩) 3 3]) ∧ w.heap.size ≤ g ∧ w'.heap[g]? = some (.cells #[.string ⟨#[100, 101, 118]⟩, .string ByteArray.empty, .string ⟨#[108, 97, 98]⟩, .string ⟨#[100, 101, 118]⟩, .string ⟨#[111, 112, 115]⟩, .string ByteArray.empty] 69) ∧ Below w.heap.size w w' := by
  go_enter Tryd.func54, Tryd.ntmps54
  go_wp2_with fail
  refine calls_world (fun W => W.heap[w.heap.size]? = some (.cells #[.slice none 0 0, .slice none 0 0, .slice none 0 0] 90) ∧ w.heap.size < W.heap.size ∧ Below w.heap.size w W) ⟨(MapKept.heap_alloc w _).1, by simp, (Below.refl _ _).alloc (Nat.le_refl _) _⟩ ?_
  rintro W0 ⟨r0, z0, b0⟩
  refine (l11Num_any _ _ _ _ _ _ _).mono ?_
  rintro e w1 ⟨rfl, b1⟩
  go_wp2_with fail
  refine (l11Word_any _ _ _ _ _ _).mono ?_
  rintro e w2 ⟨rfl, b2⟩
  have c2 := below_n b1 (below_a b2)
  clear b1 b2
  go_wp2_with fail
  refine calls_world (fun W => W.heap[w2.heap.size + 1]? = some (.cells #[.string ⟨#[98, 101, 114, 116, 104]⟩, .slice (some ⟨w2.heap.size, 0, none⟩) 2 2] 104) ∧ w2.heap.size + 1 < W.heap.size ∧ Below W0.heap.size W0 W) ⟨at_2 _ _ _, by simp, below_n c2 (below_2 _ _ _)⟩ ?_
  rintro W1 ⟨x1, y1, d1⟩
  have hz2 : W0.heap.size ≤ w2.heap.size := c2.size
  clear c2
  refine (l11Num_any _ _ _ _ _ _ _).mono ?_
  rintro e w3 ⟨rfl, b3⟩
  go_wp2_with fail
  refine (l11Word_any _ _ _ _ _ _).mono ?_
  rintro e w4 ⟨rfl, b4⟩
  go_wp2_with fail
  refine (l11Link_any _ _ _ _).mono ?_
  rintro e w5 ⟨rfl, b5⟩
  go_wp2_with fail
  refine (l11Link_any _ _ _ _).mono ?_
  rintro e w6 ⟨rfl, b6⟩
  go_wp2_with fail
  refine (l11Link_any _ _ _ _).mono ?_
  rintro e w7 ⟨rfl, b7⟩
  have c7 := below_n b3 (below_n (below_a b4) (below_n b5 (below_n b6 b7)))
  clear b3 b4 b5 b6 b7
  go_wp2_with fail
  refine calls_world (fun W => W.heap[w7.heap.size + 1]? = some (.cells #[.string ⟨#[106, 111, 98]⟩, .slice (some ⟨w7.heap.size, 0, none⟩) 5 5] 104) ∧ w7.heap.size + 1 < W.heap.size ∧ Below W1.heap.size W1 W) ⟨at_2 _ _ _, by simp, below_n c7 (below_2 _ _ _)⟩ ?_
  rintro W2 ⟨x2, y2, d2⟩
  have hz7 : W1.heap.size ≤ w7.heap.size := c7.size
  clear c7
  refine (l11Num_any _ _ _ _ _ _ _).mono ?_
  rintro e w8 ⟨rfl, b8⟩
  go_wp2_with fail
  refine (l11Word_any _ _ _ _ _ _).mono ?_
  rintro e w9 ⟨rfl, b9⟩
  have c9 := below_n b8 (below_a b9)
  have X1 := ((below_n d2 c9).block _ y1).trans x1
  have X2 := (c9.block _ y2).trans x2
  have X0 := ((below_n d1 (below_n d2 c9)).block _ z0).trans r0
  have HB : Hid (Below w.heap.size w w9) := below_n b0 (below_n d1 (below_n d2 c9)) |>.mono (by omega)
  have e1 := fun j => cell_of_block (o := j) X1
  have e2 := fun j => cell_of_block (o := j) X2
  have e0 := fun j => cell_of_block (o := j) X0
  have f0 := fun j => frozen_of_block (o := j) X0
  have q1 : w2.heap.size + 1 < w9.heap.size := Nat.lt_of_lt_of_le y1 (below_n d2 c9).size
  have q2 : w7.heap.size + 1 < w9.heap.size := Nat.lt_of_lt_of_le y2 c9.size
  have q0 : w.heap.size < w9.heap.size := Nat.lt_of_lt_of_le z0 (below_n d1 (below_n d2 c9)).size
  have gw20 : w2.heap.size < w9.heap.size := by omega
  have gw21 : w2.heap.size < w9.heap.size + 1 := by omega
  have gw22 : w2.heap.size < w9.heap.size + 1 + 1 := by omega
  have gw23 : w2.heap.size < w9.heap.size + 1 + 1 + 1 := by omega
  have gw24 : w2.heap.size < w9.heap.size + 1 + 1 + 1 + 1 := by omega
  have gw25 : w2.heap.size < w9.heap.size + 1 + 1 + 1 + 1 + 1 := by omega
  have gw70 : w7.heap.size < w9.heap.size := by omega
  have gw71 : w7.heap.size < w9.heap.size + 1 := by omega
  have gw72 : w7.heap.size < w9.heap.size + 1 + 1 := by omega
  have gw73 : w7.heap.size < w9.heap.size + 1 + 1 + 1 := by omega
  have gw74 : w7.heap.size < w9.heap.size + 1 + 1 + 1 + 1 := by omega
  have gw75 : w7.heap.size < w9.heap.size + 1 + 1 + 1 + 1 + 1 := by omega
  have gw0 : w.heap.size < w9.heap.size := by omega
  have gw1 : w.heap.size < w9.heap.size + 1 := by omega
  have gw2 : w.heap.size < w9.heap.size + 1 + 1 := by omega
  have gw3 : w.heap.size < w9.heap.size + 1 + 1 + 1 := by omega
  have gw4 : w.heap.size < w9.heap.size + 1 + 1 + 1 + 1 := by omega
  have gw5 : w.heap.size < w9.heap.size + 1 + 1 + 1 + 1 + 1 := by omega
  clear b8 b9 c9 x1 x2 r0 X0 X1 X2 d1 d2 b0 z0 y1 y2 hz2 hz7
  go_wp2_with fail
  refine bodyPost_ret (v := .agg #[.slice (some ⟨w9.heap.size + 1 + 1 + 1 + 1, 0, none⟩) 3 3, .slice (some ⟨w9.heap.size + 1 + 1, 0, none⟩) 3 3, .slice (some ⟨w9.heap.size + 1 + 1 + 1, 0, none⟩) 3 3]) (by simp [results, Tryd.results54, go_sem, e0, gw0, gw1, gw2, gw3, gw4]) rfl ⟨_, _, _, rfl, by omega, ?_, ?_⟩
  · exact (Below.heap_alloc _ _ _ (by simp)).trans (alloc_atG (by simp))
  · have h3 : w.heap.size ≤ w.heap.size := Nat.le_refl _
    iterate 5 refine Below.alloc ?_ (by first | (simp; omega) | simp) _
    iterate 3 refine Below.setCell ?_ h3 _
    exact HB.out

end Go.Proofs.YtembogcnkfndjaaDoor

namespace Go.Proofs.YtembogcnkfndjaaDoor
open Go.RowKit

/-- A map that counts the strings of a list. -/
structure Counts (f : ByteArray → Option Int) (L : List ByteArray) : Prop where
  lo : ∀ s, 0 ≤ (f s).getD 0
  hi : ∀ s, (f s).getD 0 ≤ L.length
  mem : ∀ s, 0 < (f s).getD 0 ↔ s ∈ L

theorem Counts.nil : Counts (fun _ => none) [] := ⟨fun _ => by simp, fun _ => by simp, fun _ => by simp⟩

theorem Counts.snoc {f : ByteArray → Option Int} {L : List ByteArray} (h : Counts f L) (s : ByteArray) : Counts (fun q => if q = s then some ((f s).getD 0 + 1) else f q) (L ++ [s]) := by
  refine ⟨fun q => ?_, fun q => ?_, fun q => ?_⟩
  · have h0 := h.lo s
    have h1 := h.lo q
    show 0 ≤ (if q = s then some ((f s).getD 0 + 1) else f q).getD 0
    split
    · show 0 ≤ (f s).getD 0 + 1; omega
    · exact h1
  · have h0 := h.hi s
    have h1 := h.hi q
    rw [List.length_append]
    show (if q = s then some ((f s).getD 0 + 1) else f q).getD 0 ≤ _
    split
    · show (f s).getD 0 + 1 ≤ _; simp; omega
    · simp; omega
  · have h0 := h.lo s
    rw [List.mem_append, List.mem_singleton]
    show 0 < (if q = s then some ((f s).getD 0 + 1) else f q).getD 0 ↔ _
    split
    · rename_i e
      show 0 < (f s).getD 0 + 1 ↔ _
      exact ⟨fun _ => Or.inr e, fun _ => by omega⟩
    · rename_i e
      rw [h.mem q]
      exact ⟨Or.inl, fun h => h.resolve_right e⟩

theorem StrMap.new (w : World) : StrMap (w.alloc (.map #[] 0)) w.heap.size (fun _ => none) :=
  ⟨#[], 0, Array.getElem?_push_size, fun x hx => (by simp at hx), fun k v h => (by cases h), fun i j x y hx => (by simp at hx)⟩

/-- One string more is counted. -/
theorem StrMap.count {w : World} {r : Nat} {f : ByteArray → Option Int} {L : List ByteArray} (h : StrMap w r f) (hc : Counts f L) (hl : L.length < 4611686018427387904) (s : ByteArray) (o : Obj) :
    ∃ (v : Int) (w' : World), 0 ≤ v ∧ v < 4611686018427387904 ∧ (Instr.lookup 79 (.map (some r)) (.string s) false).run Tryd.prog (w.alloc o) = .ok (.int .i64 v) (w.alloc o) ∧
      (Instr.mapUpdate 79 (.map (some r)) (.string s) (.int .i64 (v + 1))).run Tryd.prog (w.alloc o) = .ok () w' ∧
      Hid ((∃ f', StrMap w' r f' ∧ Counts f' (L ++ [s])) ∧ ∀ (B : Nat) (w0 : World), B ≤ r → Below B w0 w → B ≤ w.heap.size → Below B w0 w') := by
  have h1 : StrMap (w.alloc o) r f := h.mono (Below.heap_alloc _ _ _ h.lt)
  obtain ⟨w', hrun, hm, hp⟩ := h1.upd s ((f s).getD 0 + 1)
  refine ⟨(f s).getD 0, w', hc.lo s, by have := hc.hi s; omega, h1.look s, hrun, ⟨_, hm, hc.snoc s⟩, fun B w0 hB hb hB' => ?_⟩
  have hb1 : Below B w0 (w.alloc o) := hb.alloc hB' _
  exact ⟨hp.os.trans hb1.os, hp.tape.trans hb1.tape, hp.output.trans hb1.output, by rw [hp.size]; exact hb1.size, fun k hk => (hp.out k (by omega)).trans (hb1.block k hk)⟩

def Gate.letterK : ByteArray := ⟨#[107]⟩
def Gate.letterT : ByteArray := ⟨#[116]⟩

set_option maxHeartbeats 1000000 in
theorem freeKind_any (ra : Option Addr) (rcap : Nat) (rs : List Rl) (w : World) (hr : RlsAt w ra rs) (hlm : rs.length < 2305843009213693952) (htab : TabW w) :
    Calls Tryd.prog 22 #[.slice ra rs.length rcap] w fun e w' => (∃ k, e = .returned (.string (Gate.numbered Gate.letterK k)) ∧ Gate.IsFree Gate.letterK (rs.map Rl.kd) k) ∧ Below w.heap.size w w' := by
  have hl := hr.len
  unfold maxLen at hl
  have HT : Hid (TabW w) := htab
  have HR : Hid (RlsAt w ra rs) := hr
  have hmk : ∀ w : World, (Instr.makeMap 79 none).run Tryd.prog w = .ok (.map (some w.heap.size)) (w.alloc (.map #[] 0)) := fun w => by kernel_rfl
  clear htab hr
  go_enter Tryd.func22, Tryd.ntmps22
  go_wp2_with fail
  go_loopw [9] (fun i wr => ∃ (k : Nat), k ≤ rs.length ∧ i = .int .i64 k ∧ Hid ((∃ f, StrMap wr w.heap.size f ∧ Counts f ((rs.map Rl.kd).take k)) ∧ Below w.heap.size w wr)) (fun i _ => rs.length - (intOf i).toNat)
  case atStart => exact ⟨0, Nat.zero_le _, rfl, ⟨_, StrMap.new w, by rw [List.take_zero]; exact Counts.nil⟩, (Below.refl _ _).alloc (Nat.le_refl _) _⟩
  case round =>
    obtain ⟨k, hk, rfl, HX⟩ := hrel
    obtain ⟨⟨f, hf, hc⟩, hB⟩ := HX.out
    by_cases hlt : k < rs.length
    · obtain ⟨b, off, va, vcap, rfl, hb, hsm, hI, c0, c1, c2, c3⟩ := HR.out.load hB k hlt
      have hltI : (k : Int) < (rs.length : Int) := by omega
      have hbr : b < wr.heap.size := Nat.lt_of_lt_of_le hb hB.size
      obtain ⟨v, w2, hv0, hv1, hlk, hup, HC⟩ := hf.count hc (by rw [List.length_take, List.length_map]; omega) rs[k].kd (.cells #[.slice va rs[k].vs.length vcap, .string rs[k].kd, .string rs[k].tm, .string rs[k].px] 27)
      have HS : Hid ((rs.map Rl.kd).take (k + 1) = (rs.map Rl.kd).take k ++ [rs[k].kd]) := by
        unfold Hid; rw [List.take_add_one, List.getElem?_map, List.getElem?_eq_getElem hlt]; rfl
      have HB : Hid (Below w.heap.size w wr) := hB
      clear hf hc hB HX hsm hI
      go_wp2_with fail
      exact ⟨⟨k + 1, by omega, by go_num, by rw [HS.out]; exact HC.out.1, HC.out.2 _ _ (Nat.le_refl _) HB.out HB.out.size⟩, by simp [intOf]; omega⟩
    · have e : k = rs.length := by omega
      subst e
      rw [List.take_of_length_le (by simp)] at hc
      have HN : Hid (Calls Tryd.prog 45 #[.string Gate.letterK, .map (some w.heap.size)] wr fun e w' => (∃ k, e = .returned (.string (Gate.numbered Gate.letterK k)) ∧ Gate.IsFree Gate.letterK (rs.map Rl.kd) k) ∧ Below w.heap.size w w') := by
        refine (freeName_any Gate.letterK _ f _ wr (HT.out.mono hB) hf hc.mem (by rw [List.length_map]; exact hlm) (by decide)).mono ?_
        rintro e w' ⟨h1, h2⟩
        exact ⟨h1, hB.trans (h2.mono hB.size)⟩
      clear hf hc HX hB HT HR
      unfold Gate.letterK at HN
      go_wp2_with fail
      refine HN.out.mono ?_
      rintro e w3 ⟨⟨j, rfl, hj⟩, hb3⟩
      have HJ : Hid (Gate.IsFree ⟨#[107]⟩ (rs.map Rl.kd) j ∧ Below w.heap.size w w3) := ⟨hj, hb3⟩
      clear hj hb3
      go_wp2_with fail
      go_ret
      exact ⟨⟨j, rfl, HJ.out.1⟩, HJ.out.2⟩

end Go.Proofs.YtembogcnkfndjaaDoor

namespace Go.Proofs.YtembogcnkfndjaaDoor
open Go.RowKit

def Gate.tzN (n : Nat) : Int := if n % 64 = 0 then 8 else if n % 2 = 1 then 0 else if n % 4 = 2 then 1 else if n % 8 = 4 then 2 else if n % 16 = 8 then 3 else if n % 32 = 16 then 4 else 5
def Gate.bitsN (a b c d e : Bool) : Nat := (cond a 2 0) + (cond b 4 0) + (cond c 8 0) + (cond d 16 0) + (cond e 32 0)
theorem Gate.bitsN_all : ∀ a b c d e : Bool, Gate.bits5 a b c d e = ((Gate.bitsN a b c d e : Nat) : Int) ∧ Gate.bitsN a b c d e < 64 ∧ Gate.tzN (Gate.bitsN a b c d e) = Gate.low5 a b c d e := by decide +kernel

theorem byte_getD (b : ByteArray) (i : Nat) (h : i < b.size) : b[i] = b.data.toList.getD i 0 := by
  rw [List.getD_eq_getElem?_getD, List.getElem?_eq_getElem (by simpa using h)]; rfl

set_option maxRecDepth 100000 in
theorem tz8_at (n : Nat) (hn : n < 64) (w : World) : Calls Tryd.prog 44 #[.int .u8 (n : Int)] w fun x w' => x = .returned (.int .i64 (Gate.tzN n)) ∧ w' = w := by
  have h0 : (0 : Int) ≤ (n : Int) := by omega
  have h1 : (n : Int) < 256 := by omega
  go_enter Tryd.func44, Tryd.ntmps44
  go_wp2_with fail
  go_ret
  refine ⟨ret_int ?_, rfl⟩
  rw [byte_getD]
  clear h0 h1
  revert hn
  revert n
  decide +kernel

theorem first_any (f : Int → Bool) (w : World) : Calls Tryd.prog 21 #[.int .u8 (Gate.bitsOf f)] w fun x w' => x = .returned (.int .i64 (Gate.low f)) ∧ w' = w := by
  obtain ⟨h1, h2, h3⟩ := Gate.bitsN_all (f 1) (f 2) (f 3) (f 4) (f 5)
  have HE : Hid (Gate.tzN (Gate.bitsN (f 1) (f 2) (f 3) (f 4) (f 5)) = Gate.low f) := h3
  unfold Gate.bitsOf
  rw [h1]
  clear h1 h3
  go_enter Tryd.func21, Tryd.ntmps21
  go_wp2_with (go_at_call 44; refine (tz8_at _ h2 _).mono ?_; rintro e w' ⟨rfl, rfl⟩)
  go_ret
  exact ⟨ret_int HE.out, rfl⟩

end Go.Proofs.YtembogcnkfndjaaDoor

namespace Go.Proofs.YtembogcnkfndjaaDoor
open Go.RowKit

set_option maxHeartbeats 2000000 in
theorem specCovers_any (ta : Option Addr) (tcap : Nat) (ts : List Tm) (ra : Option Addr) (rcap : Nat) (rs : List Rl) (r : Rl) (a : Option Addr) (cap : Nat) (w : World) (hw : TmsAt w ta ts) (hr : RlsAt w ra rs) (hm : r.Small) (hi : IntsAt w a r.vs) :
    Calls Tryd.prog 7 #[.slice ta ts.length tcap, .slice ra rs.length rcap, .agg (r.cells a cap)] w fun e w' => e = .returned (.bool (Gate.covers ts rs r)) ∧ Below w.heap.size w w' := by
  have HB : Hid (∀ o1, Below w.heap.size w (w.alloc o1)) := fun _ => (Below.refl _ _).alloc (Nat.le_refl _) _
  have HT : Hid (TmsAt w ta ts) := hw
  have HR : Hid (RlsAt w ra rs) := hr
  have HI : Hid (IntsAt w a r.vs) := hi
  have HM : Hid r.Small := hm
  clear hw hr hi hm
  by_cases hok : Gate.allOk ts rs r = true
  rotate_left
  · have HK : Hid (Gate.allOk ts rs r = false) := by simpa [Hid] using hok
    have HF : Hid (Gate.covers ts rs r = false) := by unfold Hid Gate.covers; rw [HK.out]; rfl
    clear hok
    unfold Rl.cells
    go_enter Tryd.func7, Tryd.ntmps7
    go_wp2_with fail
    refine (as_bool HK.out (l4AllOk_any _ _ ts _ _ rs r _ _ _ (HT.out.mono (HB.out _)) (HR.out.mono (HB.out _)) HM.out (HI.out.mono (HB.out _)))).mono ?_
    rintro e w1 ⟨rfl, hb1⟩
    have HB1 : Hid (Below w.heap.size w w1) := (HB.out _).trans (hb1.mono (by simp))
    clear hb1
    go_wp2_with fail
    go_ret
    exact ⟨ret_bool HF.out.symm, HB1.out⟩
  have HK : Hid (Gate.allOk ts rs r = true) := hok
  have HF : Hid (Gate.covers ts rs r = (Gate.lacksS ts rs r == 0)) := by rw [Hid, Gate.covers_same]; unfold Gate.coversS; rw [HK.out]; rfl
  clear hok
  unfold Rl.cells
  go_enter Tryd.func7, Tryd.ntmps7
  go_wp2_with fail
  refine (as_bool HK.out (l4AllOk_any _ _ ts _ _ rs r _ _ _ (HT.out.mono (HB.out _)) (HR.out.mono (HB.out _)) HM.out (HI.out.mono (HB.out _)))).mono ?_
  rintro e w1 ⟨rfl, hb1⟩
  have HB1 : Hid (Below w.heap.size w w1) := (HB.out _).trans (hb1.mono (by simp))
  have hX1 := box_later (box_new w _ _) (by simp) hb1
  have hz : w.heap.size < w1.heap.size := by have := hb1.size; simp at this; omega
  clear hb1
  go_wp2_with fail
  refine (l4Lacks_any _ _ ts _ _ rs r _ _ _ (HT.out.mono HB1.out) (HR.out.mono HB1.out) HM.out (HI.out.mono HB1.out)).mono ?_
  rintro e w2 ⟨rfl, hb2⟩
  have HB2 : Hid (Below w.heap.size w w2) := HB1.out.trans (hb2.mono HB1.out.size)
  clear hb2
  go_wp2_with fail
  go_ret
  exact ⟨ret_bool HF.out.symm, HB2.out⟩

end Go.Proofs.YtembogcnkfndjaaDoor
