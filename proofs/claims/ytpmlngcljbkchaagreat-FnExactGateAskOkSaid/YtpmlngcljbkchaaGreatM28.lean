import Derived.Test.YtpmlngcljbkchaaGreatM25
import Derived.Test.YtpmlngcljbkchaaGreatM22
import Derived.Deep.RegionHeld3
namespace Go.Proofs.YtpmlngcljbkchaaGreat
open Go.RowKit

def deedsV : Value := .agg #[.nilIface, .iface 122 (.agg #[]), .iface 123 (.agg #[]), .iface 124 (.agg #[]), .iface 125 (.agg #[]), .iface 126 (.agg #[]), .iface 127 (.agg #[])]
set_option maxHeartbeats 1000000 in
theorem deeds_any (w : World) : Calls Tryz.prog 53 #[] w fun e w' => e = .returned deedsV ∧ Below w.heap.size w w' := by
  go_enter Tryz.func53, Tryz.ntmps53
  go_wp2_with fail
  refine bodyPost_ret (v := deedsV) (by simp [results, Tryz.results53, go_sem, deedsV]) rfl ⟨rfl, (Below.refl _ _).alloc (Nat.le_refl _) _⟩

theorem method_make_isUse (x : Value) (w : World) : (method 325 122 x "loop.example/wharfgate/impl.isUse").run Tryz.prog w = .ok (126, x) w := by kernel_rfl
theorem method_make_rest (x : Value) (w : World) : (method 325 122 x "loop.example/wharfgate/impl.rest").run Tryz.prog w = .ok (128, x) w := by kernel_rfl
theorem method_change_isUse (x : Value) (w : World) : (method 325 123 x "loop.example/wharfgate/impl.isUse").run Tryz.prog w = .ok (132, x) w := by kernel_rfl
theorem method_change_rest (x : Value) (w : World) : (method 325 123 x "loop.example/wharfgate/impl.rest").run Tryz.prog w = .ok (134, x) w := by kernel_rfl
theorem method_end_isUse (x : Value) (w : World) : (method 325 124 x "loop.example/wharfgate/impl.isUse").run Tryz.prog w = .ok (136, x) w := by kernel_rfl
theorem method_end_rest (x : Value) (w : World) : (method 325 124 x "loop.example/wharfgate/impl.rest").run Tryz.prog w = .ok (138, x) w := by kernel_rfl
theorem method_letGo_isUse (x : Value) (w : World) : (method 325 125 x "loop.example/wharfgate/impl.isUse").run Tryz.prog w = .ok (140, x) w := by kernel_rfl
theorem method_letGo_rest (x : Value) (w : World) : (method 325 125 x "loop.example/wharfgate/impl.rest").run Tryz.prog w = .ok (142, x) w := by kernel_rfl
theorem method_give_isUse (x : Value) (w : World) : (method 325 126 x "loop.example/wharfgate/impl.isUse").run Tryz.prog w = .ok (144, x) w := by kernel_rfl
theorem method_give_rest (x : Value) (w : World) : (method 325 126 x "loop.example/wharfgate/impl.rest").run Tryz.prog w = .ok (146, x) w := by kernel_rfl
theorem method_take_isUse (x : Value) (w : World) : (method 325 127 x "loop.example/wharfgate/impl.isUse").run Tryz.prog w = .ok (151, x) w := by kernel_rfl
theorem method_take_rest (x : Value) (w : World) : (method 325 127 x "loop.example/wharfgate/impl.rest").run Tryz.prog w = .ok (153, x) w := by kernel_rfl
theorem index_make (w : World) : (Instr.index 97 (.agg #[.nilIface, .iface 122 (.agg #[]), .iface 123 (.agg #[]), .iface 124 (.agg #[]), .iface 125 (.agg #[]), .iface 126 (.agg #[]), .iface 127 (.agg #[])]) (.int .i64 1)).run Tryz.prog w = .ok (.iface 122 (.agg #[])) w := by kernel_rfl
theorem index_change (w : World) : (Instr.index 97 (.agg #[.nilIface, .iface 122 (.agg #[]), .iface 123 (.agg #[]), .iface 124 (.agg #[]), .iface 125 (.agg #[]), .iface 126 (.agg #[]), .iface 127 (.agg #[])]) (.int .i64 2)).run Tryz.prog w = .ok (.iface 123 (.agg #[])) w := by kernel_rfl
theorem index_end (w : World) : (Instr.index 97 (.agg #[.nilIface, .iface 122 (.agg #[]), .iface 123 (.agg #[]), .iface 124 (.agg #[]), .iface 125 (.agg #[]), .iface 126 (.agg #[]), .iface 127 (.agg #[])]) (.int .i64 3)).run Tryz.prog w = .ok (.iface 124 (.agg #[])) w := by kernel_rfl
theorem index_letGo (w : World) : (Instr.index 97 (.agg #[.nilIface, .iface 122 (.agg #[]), .iface 123 (.agg #[]), .iface 124 (.agg #[]), .iface 125 (.agg #[]), .iface 126 (.agg #[]), .iface 127 (.agg #[])]) (.int .i64 4)).run Tryz.prog w = .ok (.iface 125 (.agg #[])) w := by kernel_rfl
theorem index_give (w : World) : (Instr.index 97 (.agg #[.nilIface, .iface 122 (.agg #[]), .iface 123 (.agg #[]), .iface 124 (.agg #[]), .iface 125 (.agg #[]), .iface 126 (.agg #[]), .iface 127 (.agg #[])]) (.int .i64 5)).run Tryz.prog w = .ok (.iface 126 (.agg #[])) w := by kernel_rfl
theorem index_take (w : World) : (Instr.index 97 (.agg #[.nilIface, .iface 122 (.agg #[]), .iface 123 (.agg #[]), .iface 124 (.agg #[]), .iface 125 (.agg #[]), .iface 126 (.agg #[]), .iface 127 (.agg #[])]) (.int .i64 6)).run Tryz.prog w = .ok (.iface 127 (.agg #[])) w := by kernel_rfl

set_option maxRecDepth 20000 in
set_option maxHeartbeats 4000000 in
theorem isAsk_make (l : Lw) (la lb lc : Option Addr) (lca lcb lcc : Nat) (who kd nm tm : ByteArray) (vs hs : List ByteArray) (sn : Int) (hd to : ByteArray) (r : Rl) (no : Int) (a0 a1 a2 : Option Addr) (c0 c1 c2 : Nat) (w : World) (hl : LwAt w l la lb lc) (hx : AkAt w (⟨who, 1, kd, nm, tm, vs, hs, sn, hd, to, r, no⟩ : Ak) a0 a1 a2) (hn : Gate.nameOk who = true) :
    Calls Tryz.prog 25 #[.agg (l.cells la lb lc lca lcb lcc), .agg ((⟨who, 1, kd, nm, tm, vs, hs, sn, hd, to, r, no⟩ : Ak).cells a0 a1 a2 c0 c1 c2)] w fun e w' => e = .returned (.bool (Gate.useMake l (⟨who, 1, kd, nm, tm, vs, hs, sn, hd, to, r, no⟩ : Ak) && Gate.unused ⟨who, 1, ByteArray.empty, ByteArray.empty, ByteArray.empty, [], [], sn, hd, to, r, no⟩)) ∧ Below w.heap.size w w' := by
  have HL : Hid (LwAt w l la lb lc) := hl
  have HX : Hid (AkAt w (⟨who, 1, kd, nm, tm, vs, hs, sn, hd, to, r, no⟩ : Ak) a0 a1 a2) := hx
  have HN : Hid (Gate.nameOk who = true) := hn
  clear hl hx hn
  unfold Ak.cells Lw.cells
  dsimp only
  by_cases hu : Gate.useMake l (⟨who, 1, kd, nm, tm, vs, hs, sn, hd, to, r, no⟩ : Ak) = true
  · have HU : Hid (Gate.useMake l (⟨who, 1, kd, nm, tm, vs, hs, sn, hd, to, r, no⟩ : Ak) = true) := hu
    clear hu
    go_enter Tryz.func25, Tryz.ntmps25
    go_wp2_with fail
    obtain ⟨W0, hW0, hX0, hY0, hz0, hB0⟩ := pair_boxes w #[.slice la l.ss.length lca, .slice lb l.ms.length lcb, .slice lc l.ts.length lcc] #[.string who, .int .i64 1, .string kd, .string nm, .string tm, .slice a0 vs.length c0, .slice a1 hs.length c1, .int .i64 sn, .string hd, .string to, .slice a2 r.vs.length c2, .string r.kd, .string r.tm, .string r.px, .int .i64 no] 40 44
    rw [← hW0]
    clear hW0
    have hq0 := Nat.lt_of_succ_lt hz0
    refine (as_bool HN.out (isName_any who _ HX.out.small.who)).mono ?_
    rintro e w1 ⟨rfl, rfl⟩
    go_wp2_with fail
    refine (as_bool (show Gate.within 1 1 6 = true from rfl) (isWithin_any 1 1 6 _)).mono ?_
    rintro e w1 ⟨rfl, rfl⟩
    go_wp2_with fail
    have hX := box_later hX0 hq0 (Below.refl w1.heap.size w1).drew
    have hY := box_later hY0 hz0 (Below.refl w1.heap.size w1).drew
    have hz : w.heap.size + 1 < w1.drew.heap.size := hz0
    have hB := hB0.drew
    clear hX0 hY0 hz0 hB0 hq0
    have hix := index_make
    go_region_held3 (fun w' => (∀ j, w'.cell? ⟨w.heap.size, j, none⟩ = (#[.slice la l.ss.length lca, .slice lb l.ms.length lcb, .slice lc l.ts.length lcc] : Array Value)[j]?) ∧ ∀ j, w'.cell? ⟨w.heap.size + 1, j, none⟩ = (#[.string who, .int .i64 1, .string kd, .string nm, .string tm, .slice a0 vs.length c0, .slice a1 hs.length c1, .int .i64 sn, .string hd, .string to, .slice a2 r.vs.length c2, .string r.kd, .string r.tm, .string r.px, .int .i64 no] : Array Value)[j]?) (exact ⟨hX, hY⟩) (first
      | (go_at_call 53; refine (deeds_any _).mono ?_; rintro e w3 ⟨rfl, hb⟩; unfold deedsV; have hX := box_later hX (Nat.lt_of_succ_lt hz) hb; have hY := box_later hY hz hb; have hB := hB.trans (hb.mono hB.size); have hz := Nat.lt_of_lt_of_le hz hb.size; clear hb))
    have hm1 := method_make_isUse
    have hm2 := method_make_rest
    have hq := Nat.lt_of_succ_lt hz
    go_wp2_with fail
    refine (as_bool HU.out (makeUse_any l la lb lc lca lcb lcc (⟨who, 1, kd, nm, tm, vs, hs, sn, hd, to, r, no⟩ : Ak) a0 a1 a2 c0 c1 c2 _ (HL.out.mono hB) (HX.out.mono hB))).mono ?_
    rintro e w4 ⟨rfl, hb⟩
    have hX4 := box_later hX hq hb
    have hY4 := box_later hY hz hb
    have hz4 := Nat.lt_of_lt_of_le hz hb.size
    have hq4 := Nat.lt_of_lt_of_le hq hb.size
    have hB4 := hB.trans (hb.mono hB.size)
    clear hb hX hY hB hz hq
    go_wp2_with fail
    refine (makeRest_any (⟨who, 1, kd, nm, tm, vs, hs, sn, hd, to, r, no⟩ : Ak) a0 a1 a2 c0 c1 c2 _).mono ?_
    rintro e w5 ⟨rfl, hb⟩
    have hB5 := hB4.trans (hb.mono hB4.size)
    clear hb hX4 hY4 hz4 hq4 hB4
    go_wp2_with fail
    refine (isUnused_any ⟨who, 1, ByteArray.empty, ByteArray.empty, ByteArray.empty, [], [], sn, hd, to, r, no⟩ _ _ _ _ _ _ _).mono ?_
    rintro e w6 ⟨rfl, hb⟩
    have hB6 := hB5.trans (hb.mono hB5.size)
    clear hb hB5
    go_wp2_with fail
    go_ret
    exact ⟨ret_bool (by rw [HU.out]; rfl), hB6⟩
  · have HU : Hid (Gate.useMake l (⟨who, 1, kd, nm, tm, vs, hs, sn, hd, to, r, no⟩ : Ak) = false) := Bool.eq_false_iff.2 hu
    clear hu
    go_enter Tryz.func25, Tryz.ntmps25
    go_wp2_with fail
    obtain ⟨W0, hW0, hX0, hY0, hz0, hB0⟩ := pair_boxes w #[.slice la l.ss.length lca, .slice lb l.ms.length lcb, .slice lc l.ts.length lcc] #[.string who, .int .i64 1, .string kd, .string nm, .string tm, .slice a0 vs.length c0, .slice a1 hs.length c1, .int .i64 sn, .string hd, .string to, .slice a2 r.vs.length c2, .string r.kd, .string r.tm, .string r.px, .int .i64 no] 40 44
    rw [← hW0]
    clear hW0
    have hq0 := Nat.lt_of_succ_lt hz0
    refine (as_bool HN.out (isName_any who _ HX.out.small.who)).mono ?_
    rintro e w1 ⟨rfl, rfl⟩
    go_wp2_with fail
    refine (as_bool (show Gate.within 1 1 6 = true from rfl) (isWithin_any 1 1 6 _)).mono ?_
    rintro e w1 ⟨rfl, rfl⟩
    go_wp2_with fail
    have hX := box_later hX0 hq0 (Below.refl w1.heap.size w1).drew
    have hY := box_later hY0 hz0 (Below.refl w1.heap.size w1).drew
    have hz : w.heap.size + 1 < w1.drew.heap.size := hz0
    have hB := hB0.drew
    clear hX0 hY0 hz0 hB0 hq0
    have hix := index_make
    go_region_held3 (fun w' => (∀ j, w'.cell? ⟨w.heap.size, j, none⟩ = (#[.slice la l.ss.length lca, .slice lb l.ms.length lcb, .slice lc l.ts.length lcc] : Array Value)[j]?) ∧ ∀ j, w'.cell? ⟨w.heap.size + 1, j, none⟩ = (#[.string who, .int .i64 1, .string kd, .string nm, .string tm, .slice a0 vs.length c0, .slice a1 hs.length c1, .int .i64 sn, .string hd, .string to, .slice a2 r.vs.length c2, .string r.kd, .string r.tm, .string r.px, .int .i64 no] : Array Value)[j]?) (exact ⟨hX, hY⟩) (first
      | (go_at_call 53; refine (deeds_any _).mono ?_; rintro e w3 ⟨rfl, hb⟩; unfold deedsV; have hX := box_later hX (Nat.lt_of_succ_lt hz) hb; have hY := box_later hY hz hb; have hB := hB.trans (hb.mono hB.size); have hz := Nat.lt_of_lt_of_le hz hb.size; clear hb))
    have hm1 := method_make_isUse
    have hm2 := method_make_rest
    have hq := Nat.lt_of_succ_lt hz
    go_wp2_with fail
    refine (as_bool HU.out (makeUse_any l la lb lc lca lcb lcc (⟨who, 1, kd, nm, tm, vs, hs, sn, hd, to, r, no⟩ : Ak) a0 a1 a2 c0 c1 c2 _ (HL.out.mono hB) (HX.out.mono hB))).mono ?_
    rintro e w4 ⟨rfl, hb⟩
    have hX4 := box_later hX hq hb
    have hY4 := box_later hY hz hb
    have hz4 := Nat.lt_of_lt_of_le hz hb.size
    have hq4 := Nat.lt_of_lt_of_le hq hb.size
    have hB4 := hB.trans (hb.mono hB.size)
    clear hb hX hY hB hz hq
    go_wp2_with fail
    go_ret
    exact ⟨ret_bool (by rw [HU.out]; rfl), hB4⟩

set_option maxRecDepth 20000 in
set_option maxHeartbeats 4000000 in
theorem isAsk_change (l : Lw) (la lb lc : Option Addr) (lca lcb lcc : Nat) (who kd nm tm : ByteArray) (vs hs : List ByteArray) (sn : Int) (hd to : ByteArray) (r : Rl) (no : Int) (a0 a1 a2 : Option Addr) (c0 c1 c2 : Nat) (w : World) (hl : LwAt w l la lb lc) (hx : AkAt w (⟨who, 2, kd, nm, tm, vs, hs, sn, hd, to, r, no⟩ : Ak) a0 a1 a2) (hn : Gate.nameOk who = true) :
    Calls Tryz.prog 25 #[.agg (l.cells la lb lc lca lcb lcc), .agg ((⟨who, 2, kd, nm, tm, vs, hs, sn, hd, to, r, no⟩ : Ak).cells a0 a1 a2 c0 c1 c2)] w fun e w' => e = .returned (.bool (Gate.useChange l (⟨who, 2, kd, nm, tm, vs, hs, sn, hd, to, r, no⟩ : Ak) && Gate.unused ⟨who, 2, ByteArray.empty, ByteArray.empty, tm, [], hs, 0, hd, to, r, no⟩)) ∧ Below w.heap.size w w' := by
  have HL : Hid (LwAt w l la lb lc) := hl
  have HX : Hid (AkAt w (⟨who, 2, kd, nm, tm, vs, hs, sn, hd, to, r, no⟩ : Ak) a0 a1 a2) := hx
  have HN : Hid (Gate.nameOk who = true) := hn
  clear hl hx hn
  unfold Ak.cells Lw.cells
  dsimp only
  by_cases hu : Gate.useChange l (⟨who, 2, kd, nm, tm, vs, hs, sn, hd, to, r, no⟩ : Ak) = true
  · have HU : Hid (Gate.useChange l (⟨who, 2, kd, nm, tm, vs, hs, sn, hd, to, r, no⟩ : Ak) = true) := hu
    clear hu
    go_enter Tryz.func25, Tryz.ntmps25
    go_wp2_with fail
    obtain ⟨W0, hW0, hX0, hY0, hz0, hB0⟩ := pair_boxes w #[.slice la l.ss.length lca, .slice lb l.ms.length lcb, .slice lc l.ts.length lcc] #[.string who, .int .i64 2, .string kd, .string nm, .string tm, .slice a0 vs.length c0, .slice a1 hs.length c1, .int .i64 sn, .string hd, .string to, .slice a2 r.vs.length c2, .string r.kd, .string r.tm, .string r.px, .int .i64 no] 40 44
    rw [← hW0]
    clear hW0
    have hq0 := Nat.lt_of_succ_lt hz0
    refine (as_bool HN.out (isName_any who _ HX.out.small.who)).mono ?_
    rintro e w1 ⟨rfl, rfl⟩
    go_wp2_with fail
    refine (as_bool (show Gate.within 2 1 6 = true from rfl) (isWithin_any 2 1 6 _)).mono ?_
    rintro e w1 ⟨rfl, rfl⟩
    go_wp2_with fail
    have hX := box_later hX0 hq0 (Below.refl w1.heap.size w1).drew
    have hY := box_later hY0 hz0 (Below.refl w1.heap.size w1).drew
    have hz : w.heap.size + 1 < w1.drew.heap.size := hz0
    have hB := hB0.drew
    clear hX0 hY0 hz0 hB0 hq0
    have hix := index_change
    go_region_held3 (fun w' => (∀ j, w'.cell? ⟨w.heap.size, j, none⟩ = (#[.slice la l.ss.length lca, .slice lb l.ms.length lcb, .slice lc l.ts.length lcc] : Array Value)[j]?) ∧ ∀ j, w'.cell? ⟨w.heap.size + 1, j, none⟩ = (#[.string who, .int .i64 2, .string kd, .string nm, .string tm, .slice a0 vs.length c0, .slice a1 hs.length c1, .int .i64 sn, .string hd, .string to, .slice a2 r.vs.length c2, .string r.kd, .string r.tm, .string r.px, .int .i64 no] : Array Value)[j]?) (exact ⟨hX, hY⟩) (first
      | (go_at_call 53; refine (deeds_any _).mono ?_; rintro e w3 ⟨rfl, hb⟩; unfold deedsV; have hX := box_later hX (Nat.lt_of_succ_lt hz) hb; have hY := box_later hY hz hb; have hB := hB.trans (hb.mono hB.size); have hz := Nat.lt_of_lt_of_le hz hb.size; clear hb))
    have hm1 := method_change_isUse
    have hm2 := method_change_rest
    have hq := Nat.lt_of_succ_lt hz
    go_wp2_with fail
    refine (as_bool HU.out (changeUse_any l la lb lc lca lcb lcc (⟨who, 2, kd, nm, tm, vs, hs, sn, hd, to, r, no⟩ : Ak) a0 a1 a2 c0 c1 c2 _ (HL.out.mono hB) (HX.out.mono hB))).mono ?_
    rintro e w4 ⟨rfl, hb⟩
    have hX4 := box_later hX hq hb
    have hY4 := box_later hY hz hb
    have hz4 := Nat.lt_of_lt_of_le hz hb.size
    have hq4 := Nat.lt_of_lt_of_le hq hb.size
    have hB4 := hB.trans (hb.mono hB.size)
    clear hb hX hY hB hz hq
    go_wp2_with fail
    refine (changeRest_any (⟨who, 2, kd, nm, tm, vs, hs, sn, hd, to, r, no⟩ : Ak) a0 a1 a2 c0 c1 c2 _).mono ?_
    rintro e w5 ⟨rfl, hb⟩
    have hB5 := hB4.trans (hb.mono hB4.size)
    clear hb hX4 hY4 hz4 hq4 hB4
    go_wp2_with fail
    refine (isUnused_any ⟨who, 2, ByteArray.empty, ByteArray.empty, tm, [], hs, 0, hd, to, r, no⟩ _ _ _ _ _ _ _).mono ?_
    rintro e w6 ⟨rfl, hb⟩
    have hB6 := hB5.trans (hb.mono hB5.size)
    clear hb hB5
    go_wp2_with fail
    go_ret
    exact ⟨ret_bool (by rw [HU.out]; rfl), hB6⟩
  · have HU : Hid (Gate.useChange l (⟨who, 2, kd, nm, tm, vs, hs, sn, hd, to, r, no⟩ : Ak) = false) := Bool.eq_false_iff.2 hu
    clear hu
    go_enter Tryz.func25, Tryz.ntmps25
    go_wp2_with fail
    obtain ⟨W0, hW0, hX0, hY0, hz0, hB0⟩ := pair_boxes w #[.slice la l.ss.length lca, .slice lb l.ms.length lcb, .slice lc l.ts.length lcc] #[.string who, .int .i64 2, .string kd, .string nm, .string tm, .slice a0 vs.length c0, .slice a1 hs.length c1, .int .i64 sn, .string hd, .string to, .slice a2 r.vs.length c2, .string r.kd, .string r.tm, .string r.px, .int .i64 no] 40 44
    rw [← hW0]
    clear hW0
    have hq0 := Nat.lt_of_succ_lt hz0
    refine (as_bool HN.out (isName_any who _ HX.out.small.who)).mono ?_
    rintro e w1 ⟨rfl, rfl⟩
    go_wp2_with fail
    refine (as_bool (show Gate.within 2 1 6 = true from rfl) (isWithin_any 2 1 6 _)).mono ?_
    rintro e w1 ⟨rfl, rfl⟩
    go_wp2_with fail
    have hX := box_later hX0 hq0 (Below.refl w1.heap.size w1).drew
    have hY := box_later hY0 hz0 (Below.refl w1.heap.size w1).drew
    have hz : w.heap.size + 1 < w1.drew.heap.size := hz0
    have hB := hB0.drew
    clear hX0 hY0 hz0 hB0 hq0
    have hix := index_change
    go_region_held3 (fun w' => (∀ j, w'.cell? ⟨w.heap.size, j, none⟩ = (#[.slice la l.ss.length lca, .slice lb l.ms.length lcb, .slice lc l.ts.length lcc] : Array Value)[j]?) ∧ ∀ j, w'.cell? ⟨w.heap.size + 1, j, none⟩ = (#[.string who, .int .i64 2, .string kd, .string nm, .string tm, .slice a0 vs.length c0, .slice a1 hs.length c1, .int .i64 sn, .string hd, .string to, .slice a2 r.vs.length c2, .string r.kd, .string r.tm, .string r.px, .int .i64 no] : Array Value)[j]?) (exact ⟨hX, hY⟩) (first
      | (go_at_call 53; refine (deeds_any _).mono ?_; rintro e w3 ⟨rfl, hb⟩; unfold deedsV; have hX := box_later hX (Nat.lt_of_succ_lt hz) hb; have hY := box_later hY hz hb; have hB := hB.trans (hb.mono hB.size); have hz := Nat.lt_of_lt_of_le hz hb.size; clear hb))
    have hm1 := method_change_isUse
    have hm2 := method_change_rest
    have hq := Nat.lt_of_succ_lt hz
    go_wp2_with fail
    refine (as_bool HU.out (changeUse_any l la lb lc lca lcb lcc (⟨who, 2, kd, nm, tm, vs, hs, sn, hd, to, r, no⟩ : Ak) a0 a1 a2 c0 c1 c2 _ (HL.out.mono hB) (HX.out.mono hB))).mono ?_
    rintro e w4 ⟨rfl, hb⟩
    have hX4 := box_later hX hq hb
    have hY4 := box_later hY hz hb
    have hz4 := Nat.lt_of_lt_of_le hz hb.size
    have hq4 := Nat.lt_of_lt_of_le hq hb.size
    have hB4 := hB.trans (hb.mono hB.size)
    clear hb hX hY hB hz hq
    go_wp2_with fail
    go_ret
    exact ⟨ret_bool (by rw [HU.out]; rfl), hB4⟩

set_option maxRecDepth 20000 in
set_option maxHeartbeats 4000000 in
theorem isAsk_end (l : Lw) (la lb lc : Option Addr) (lca lcb lcc : Nat) (who kd nm tm : ByteArray) (vs hs : List ByteArray) (sn : Int) (hd to : ByteArray) (r : Rl) (no : Int) (a0 a1 a2 : Option Addr) (c0 c1 c2 : Nat) (w : World) (hl : LwAt w l la lb lc) (hx : AkAt w (⟨who, 3, kd, nm, tm, vs, hs, sn, hd, to, r, no⟩ : Ak) a0 a1 a2) (hn : Gate.nameOk who = true) :
    Calls Tryz.prog 25 #[.agg (l.cells la lb lc lca lcb lcc), .agg ((⟨who, 3, kd, nm, tm, vs, hs, sn, hd, to, r, no⟩ : Ak).cells a0 a1 a2 c0 c1 c2)] w fun e w' => e = .returned (.bool (Gate.useEnd l (⟨who, 3, kd, nm, tm, vs, hs, sn, hd, to, r, no⟩ : Ak) && Gate.unused ⟨who, 3, ByteArray.empty, ByteArray.empty, tm, vs, hs, 0, hd, to, r, no⟩)) ∧ Below w.heap.size w w' := by
  have HL : Hid (LwAt w l la lb lc) := hl
  have HX : Hid (AkAt w (⟨who, 3, kd, nm, tm, vs, hs, sn, hd, to, r, no⟩ : Ak) a0 a1 a2) := hx
  have HN : Hid (Gate.nameOk who = true) := hn
  clear hl hx hn
  unfold Ak.cells Lw.cells
  dsimp only
  by_cases hu : Gate.useEnd l (⟨who, 3, kd, nm, tm, vs, hs, sn, hd, to, r, no⟩ : Ak) = true
  · have HU : Hid (Gate.useEnd l (⟨who, 3, kd, nm, tm, vs, hs, sn, hd, to, r, no⟩ : Ak) = true) := hu
    clear hu
    go_enter Tryz.func25, Tryz.ntmps25
    go_wp2_with fail
    obtain ⟨W0, hW0, hX0, hY0, hz0, hB0⟩ := pair_boxes w #[.slice la l.ss.length lca, .slice lb l.ms.length lcb, .slice lc l.ts.length lcc] #[.string who, .int .i64 3, .string kd, .string nm, .string tm, .slice a0 vs.length c0, .slice a1 hs.length c1, .int .i64 sn, .string hd, .string to, .slice a2 r.vs.length c2, .string r.kd, .string r.tm, .string r.px, .int .i64 no] 40 44
    rw [← hW0]
    clear hW0
    have hq0 := Nat.lt_of_succ_lt hz0
    refine (as_bool HN.out (isName_any who _ HX.out.small.who)).mono ?_
    rintro e w1 ⟨rfl, rfl⟩
    go_wp2_with fail
    refine (as_bool (show Gate.within 3 1 6 = true from rfl) (isWithin_any 3 1 6 _)).mono ?_
    rintro e w1 ⟨rfl, rfl⟩
    go_wp2_with fail
    have hX := box_later hX0 hq0 (Below.refl w1.heap.size w1).drew
    have hY := box_later hY0 hz0 (Below.refl w1.heap.size w1).drew
    have hz : w.heap.size + 1 < w1.drew.heap.size := hz0
    have hB := hB0.drew
    clear hX0 hY0 hz0 hB0 hq0
    have hix := index_end
    go_region_held3 (fun w' => (∀ j, w'.cell? ⟨w.heap.size, j, none⟩ = (#[.slice la l.ss.length lca, .slice lb l.ms.length lcb, .slice lc l.ts.length lcc] : Array Value)[j]?) ∧ ∀ j, w'.cell? ⟨w.heap.size + 1, j, none⟩ = (#[.string who, .int .i64 3, .string kd, .string nm, .string tm, .slice a0 vs.length c0, .slice a1 hs.length c1, .int .i64 sn, .string hd, .string to, .slice a2 r.vs.length c2, .string r.kd, .string r.tm, .string r.px, .int .i64 no] : Array Value)[j]?) (exact ⟨hX, hY⟩) (first
      | (go_at_call 53; refine (deeds_any _).mono ?_; rintro e w3 ⟨rfl, hb⟩; unfold deedsV; have hX := box_later hX (Nat.lt_of_succ_lt hz) hb; have hY := box_later hY hz hb; have hB := hB.trans (hb.mono hB.size); have hz := Nat.lt_of_lt_of_le hz hb.size; clear hb))
    have hm1 := method_end_isUse
    have hm2 := method_end_rest
    have hq := Nat.lt_of_succ_lt hz
    go_wp2_with fail
    refine (as_bool HU.out (endUse_any l la lb lc lca lcb lcc (⟨who, 3, kd, nm, tm, vs, hs, sn, hd, to, r, no⟩ : Ak) a0 a1 a2 c0 c1 c2 _ (HL.out.mono hB) (HX.out.mono hB))).mono ?_
    rintro e w4 ⟨rfl, hb⟩
    have hX4 := box_later hX hq hb
    have hY4 := box_later hY hz hb
    have hz4 := Nat.lt_of_lt_of_le hz hb.size
    have hq4 := Nat.lt_of_lt_of_le hq hb.size
    have hB4 := hB.trans (hb.mono hB.size)
    clear hb hX hY hB hz hq
    go_wp2_with fail
    refine (endRest_any (⟨who, 3, kd, nm, tm, vs, hs, sn, hd, to, r, no⟩ : Ak) a0 a1 a2 c0 c1 c2 _).mono ?_
    rintro e w5 ⟨rfl, hb⟩
    have hB5 := hB4.trans (hb.mono hB4.size)
    clear hb hX4 hY4 hz4 hq4 hB4
    go_wp2_with fail
    refine (isUnused_any ⟨who, 3, ByteArray.empty, ByteArray.empty, tm, vs, hs, 0, hd, to, r, no⟩ _ _ _ _ _ _ _).mono ?_
    rintro e w6 ⟨rfl, hb⟩
    have hB6 := hB5.trans (hb.mono hB5.size)
    clear hb hB5
    go_wp2_with fail
    go_ret
    exact ⟨ret_bool (by rw [HU.out]; rfl), hB6⟩
  · have HU : Hid (Gate.useEnd l (⟨who, 3, kd, nm, tm, vs, hs, sn, hd, to, r, no⟩ : Ak) = false) := Bool.eq_false_iff.2 hu
    clear hu
    go_enter Tryz.func25, Tryz.ntmps25
    go_wp2_with fail
    obtain ⟨W0, hW0, hX0, hY0, hz0, hB0⟩ := pair_boxes w #[.slice la l.ss.length lca, .slice lb l.ms.length lcb, .slice lc l.ts.length lcc] #[.string who, .int .i64 3, .string kd, .string nm, .string tm, .slice a0 vs.length c0, .slice a1 hs.length c1, .int .i64 sn, .string hd, .string to, .slice a2 r.vs.length c2, .string r.kd, .string r.tm, .string r.px, .int .i64 no] 40 44
    rw [← hW0]
    clear hW0
    have hq0 := Nat.lt_of_succ_lt hz0
    refine (as_bool HN.out (isName_any who _ HX.out.small.who)).mono ?_
    rintro e w1 ⟨rfl, rfl⟩
    go_wp2_with fail
    refine (as_bool (show Gate.within 3 1 6 = true from rfl) (isWithin_any 3 1 6 _)).mono ?_
    rintro e w1 ⟨rfl, rfl⟩
    go_wp2_with fail
    have hX := box_later hX0 hq0 (Below.refl w1.heap.size w1).drew
    have hY := box_later hY0 hz0 (Below.refl w1.heap.size w1).drew
    have hz : w.heap.size + 1 < w1.drew.heap.size := hz0
    have hB := hB0.drew
    clear hX0 hY0 hz0 hB0 hq0
    have hix := index_end
    go_region_held3 (fun w' => (∀ j, w'.cell? ⟨w.heap.size, j, none⟩ = (#[.slice la l.ss.length lca, .slice lb l.ms.length lcb, .slice lc l.ts.length lcc] : Array Value)[j]?) ∧ ∀ j, w'.cell? ⟨w.heap.size + 1, j, none⟩ = (#[.string who, .int .i64 3, .string kd, .string nm, .string tm, .slice a0 vs.length c0, .slice a1 hs.length c1, .int .i64 sn, .string hd, .string to, .slice a2 r.vs.length c2, .string r.kd, .string r.tm, .string r.px, .int .i64 no] : Array Value)[j]?) (exact ⟨hX, hY⟩) (first
      | (go_at_call 53; refine (deeds_any _).mono ?_; rintro e w3 ⟨rfl, hb⟩; unfold deedsV; have hX := box_later hX (Nat.lt_of_succ_lt hz) hb; have hY := box_later hY hz hb; have hB := hB.trans (hb.mono hB.size); have hz := Nat.lt_of_lt_of_le hz hb.size; clear hb))
    have hm1 := method_end_isUse
    have hm2 := method_end_rest
    have hq := Nat.lt_of_succ_lt hz
    go_wp2_with fail
    refine (as_bool HU.out (endUse_any l la lb lc lca lcb lcc (⟨who, 3, kd, nm, tm, vs, hs, sn, hd, to, r, no⟩ : Ak) a0 a1 a2 c0 c1 c2 _ (HL.out.mono hB) (HX.out.mono hB))).mono ?_
    rintro e w4 ⟨rfl, hb⟩
    have hX4 := box_later hX hq hb
    have hY4 := box_later hY hz hb
    have hz4 := Nat.lt_of_lt_of_le hz hb.size
    have hq4 := Nat.lt_of_lt_of_le hq hb.size
    have hB4 := hB.trans (hb.mono hB.size)
    clear hb hX hY hB hz hq
    go_wp2_with fail
    go_ret
    exact ⟨ret_bool (by rw [HU.out]; rfl), hB4⟩

set_option maxRecDepth 20000 in
set_option maxHeartbeats 4000000 in
theorem isAsk_letGo (l : Lw) (la lb lc : Option Addr) (lca lcb lcc : Nat) (who kd nm tm : ByteArray) (vs hs : List ByteArray) (sn : Int) (hd to : ByteArray) (r : Rl) (no : Int) (a0 a1 a2 : Option Addr) (c0 c1 c2 : Nat) (w : World) (hl : LwAt w l la lb lc) (hx : AkAt w (⟨who, 4, kd, nm, tm, vs, hs, sn, hd, to, r, no⟩ : Ak) a0 a1 a2) (hn : Gate.nameOk who = true) :
    Calls Tryz.prog 25 #[.agg (l.cells la lb lc lca lcb lcc), .agg ((⟨who, 4, kd, nm, tm, vs, hs, sn, hd, to, r, no⟩ : Ak).cells a0 a1 a2 c0 c1 c2)] w fun e w' => e = .returned (.bool (Gate.useLetGo l (⟨who, 4, kd, nm, tm, vs, hs, sn, hd, to, r, no⟩ : Ak) && Gate.unused ⟨who, 4, ByteArray.empty, ByteArray.empty, tm, vs, hs, sn, ByteArray.empty, to, r, no⟩)) ∧ Below w.heap.size w w' := by
  have HL : Hid (LwAt w l la lb lc) := hl
  have HX : Hid (AkAt w (⟨who, 4, kd, nm, tm, vs, hs, sn, hd, to, r, no⟩ : Ak) a0 a1 a2) := hx
  have HN : Hid (Gate.nameOk who = true) := hn
  clear hl hx hn
  unfold Ak.cells Lw.cells
  dsimp only
  by_cases hu : Gate.useLetGo l (⟨who, 4, kd, nm, tm, vs, hs, sn, hd, to, r, no⟩ : Ak) = true
  · have HU : Hid (Gate.useLetGo l (⟨who, 4, kd, nm, tm, vs, hs, sn, hd, to, r, no⟩ : Ak) = true) := hu
    clear hu
    go_enter Tryz.func25, Tryz.ntmps25
    go_wp2_with fail
    obtain ⟨W0, hW0, hX0, hY0, hz0, hB0⟩ := pair_boxes w #[.slice la l.ss.length lca, .slice lb l.ms.length lcb, .slice lc l.ts.length lcc] #[.string who, .int .i64 4, .string kd, .string nm, .string tm, .slice a0 vs.length c0, .slice a1 hs.length c1, .int .i64 sn, .string hd, .string to, .slice a2 r.vs.length c2, .string r.kd, .string r.tm, .string r.px, .int .i64 no] 40 44
    rw [← hW0]
    clear hW0
    have hq0 := Nat.lt_of_succ_lt hz0
    refine (as_bool HN.out (isName_any who _ HX.out.small.who)).mono ?_
    rintro e w1 ⟨rfl, rfl⟩
    go_wp2_with fail
    refine (as_bool (show Gate.within 4 1 6 = true from rfl) (isWithin_any 4 1 6 _)).mono ?_
    rintro e w1 ⟨rfl, rfl⟩
    go_wp2_with fail
    have hX := box_later hX0 hq0 (Below.refl w1.heap.size w1).drew
    have hY := box_later hY0 hz0 (Below.refl w1.heap.size w1).drew
    have hz : w.heap.size + 1 < w1.drew.heap.size := hz0
    have hB := hB0.drew
    clear hX0 hY0 hz0 hB0 hq0
    have hix := index_letGo
    go_region_held3 (fun w' => (∀ j, w'.cell? ⟨w.heap.size, j, none⟩ = (#[.slice la l.ss.length lca, .slice lb l.ms.length lcb, .slice lc l.ts.length lcc] : Array Value)[j]?) ∧ ∀ j, w'.cell? ⟨w.heap.size + 1, j, none⟩ = (#[.string who, .int .i64 4, .string kd, .string nm, .string tm, .slice a0 vs.length c0, .slice a1 hs.length c1, .int .i64 sn, .string hd, .string to, .slice a2 r.vs.length c2, .string r.kd, .string r.tm, .string r.px, .int .i64 no] : Array Value)[j]?) (exact ⟨hX, hY⟩) (first
      | (go_at_call 53; refine (deeds_any _).mono ?_; rintro e w3 ⟨rfl, hb⟩; unfold deedsV; have hX := box_later hX (Nat.lt_of_succ_lt hz) hb; have hY := box_later hY hz hb; have hB := hB.trans (hb.mono hB.size); have hz := Nat.lt_of_lt_of_le hz hb.size; clear hb))
    have hm1 := method_letGo_isUse
    have hm2 := method_letGo_rest
    have hq := Nat.lt_of_succ_lt hz
    go_wp2_with fail
    refine (as_bool HU.out (letGoUse_any l la lb lc lca lcb lcc (⟨who, 4, kd, nm, tm, vs, hs, sn, hd, to, r, no⟩ : Ak) a0 a1 a2 c0 c1 c2 _ (HL.out.mono hB) (HX.out.mono hB))).mono ?_
    rintro e w4 ⟨rfl, hb⟩
    have hX4 := box_later hX hq hb
    have hY4 := box_later hY hz hb
    have hz4 := Nat.lt_of_lt_of_le hz hb.size
    have hq4 := Nat.lt_of_lt_of_le hq hb.size
    have hB4 := hB.trans (hb.mono hB.size)
    clear hb hX hY hB hz hq
    go_wp2_with fail
    refine (letGoRest_any (⟨who, 4, kd, nm, tm, vs, hs, sn, hd, to, r, no⟩ : Ak) a0 a1 a2 c0 c1 c2 _).mono ?_
    rintro e w5 ⟨rfl, hb⟩
    have hB5 := hB4.trans (hb.mono hB4.size)
    clear hb hX4 hY4 hz4 hq4 hB4
    go_wp2_with fail
    refine (isUnused_any ⟨who, 4, ByteArray.empty, ByteArray.empty, tm, vs, hs, sn, ByteArray.empty, to, r, no⟩ _ _ _ _ _ _ _).mono ?_
    rintro e w6 ⟨rfl, hb⟩
    have hB6 := hB5.trans (hb.mono hB5.size)
    clear hb hB5
    go_wp2_with fail
    go_ret
    exact ⟨ret_bool (by rw [HU.out]; rfl), hB6⟩
  · have HU : Hid (Gate.useLetGo l (⟨who, 4, kd, nm, tm, vs, hs, sn, hd, to, r, no⟩ : Ak) = false) := Bool.eq_false_iff.2 hu
    clear hu
    go_enter Tryz.func25, Tryz.ntmps25
    go_wp2_with fail
    obtain ⟨W0, hW0, hX0, hY0, hz0, hB0⟩ := pair_boxes w #[.slice la l.ss.length lca, .slice lb l.ms.length lcb, .slice lc l.ts.length lcc] #[.string who, .int .i64 4, .string kd, .string nm, .string tm, .slice a0 vs.length c0, .slice a1 hs.length c1, .int .i64 sn, .string hd, .string to, .slice a2 r.vs.length c2, .string r.kd, .string r.tm, .string r.px, .int .i64 no] 40 44
    rw [← hW0]
    clear hW0
    have hq0 := Nat.lt_of_succ_lt hz0
    refine (as_bool HN.out (isName_any who _ HX.out.small.who)).mono ?_
    rintro e w1 ⟨rfl, rfl⟩
    go_wp2_with fail
    refine (as_bool (show Gate.within 4 1 6 = true from rfl) (isWithin_any 4 1 6 _)).mono ?_
    rintro e w1 ⟨rfl, rfl⟩
    go_wp2_with fail
    have hX := box_later hX0 hq0 (Below.refl w1.heap.size w1).drew
    have hY := box_later hY0 hz0 (Below.refl w1.heap.size w1).drew
    have hz : w.heap.size + 1 < w1.drew.heap.size := hz0
    have hB := hB0.drew
    clear hX0 hY0 hz0 hB0 hq0
    have hix := index_letGo
    go_region_held3 (fun w' => (∀ j, w'.cell? ⟨w.heap.size, j, none⟩ = (#[.slice la l.ss.length lca, .slice lb l.ms.length lcb, .slice lc l.ts.length lcc] : Array Value)[j]?) ∧ ∀ j, w'.cell? ⟨w.heap.size + 1, j, none⟩ = (#[.string who, .int .i64 4, .string kd, .string nm, .string tm, .slice a0 vs.length c0, .slice a1 hs.length c1, .int .i64 sn, .string hd, .string to, .slice a2 r.vs.length c2, .string r.kd, .string r.tm, .string r.px, .int .i64 no] : Array Value)[j]?) (exact ⟨hX, hY⟩) (first
      | (go_at_call 53; refine (deeds_any _).mono ?_; rintro e w3 ⟨rfl, hb⟩; unfold deedsV; have hX := box_later hX (Nat.lt_of_succ_lt hz) hb; have hY := box_later hY hz hb; have hB := hB.trans (hb.mono hB.size); have hz := Nat.lt_of_lt_of_le hz hb.size; clear hb))
    have hm1 := method_letGo_isUse
    have hm2 := method_letGo_rest
    have hq := Nat.lt_of_succ_lt hz
    go_wp2_with fail
    refine (as_bool HU.out (letGoUse_any l la lb lc lca lcb lcc (⟨who, 4, kd, nm, tm, vs, hs, sn, hd, to, r, no⟩ : Ak) a0 a1 a2 c0 c1 c2 _ (HL.out.mono hB) (HX.out.mono hB))).mono ?_
    rintro e w4 ⟨rfl, hb⟩
    have hX4 := box_later hX hq hb
    have hY4 := box_later hY hz hb
    have hz4 := Nat.lt_of_lt_of_le hz hb.size
    have hq4 := Nat.lt_of_lt_of_le hq hb.size
    have hB4 := hB.trans (hb.mono hB.size)
    clear hb hX hY hB hz hq
    go_wp2_with fail
    go_ret
    exact ⟨ret_bool (by rw [HU.out]; rfl), hB4⟩

set_option maxRecDepth 20000 in
set_option maxHeartbeats 4000000 in
theorem isAsk_give (l : Lw) (la lb lc : Option Addr) (lca lcb lcc : Nat) (who kd nm tm : ByteArray) (vs hs : List ByteArray) (sn : Int) (hd to : ByteArray) (r : Rl) (no : Int) (a0 a1 a2 : Option Addr) (c0 c1 c2 : Nat) (w : World) (hl : LwAt w l la lb lc) (hx : AkAt w (⟨who, 5, kd, nm, tm, vs, hs, sn, hd, to, r, no⟩ : Ak) a0 a1 a2) (hn : Gate.nameOk who = true) :
    Calls Tryz.prog 25 #[.agg (l.cells la lb lc lca lcb lcc), .agg ((⟨who, 5, kd, nm, tm, vs, hs, sn, hd, to, r, no⟩ : Ak).cells a0 a1 a2 c0 c1 c2)] w fun e w' => e = .returned (.bool (Gate.useGive (⟨who, 5, kd, nm, tm, vs, hs, sn, hd, to, r, no⟩ : Ak) && Gate.unused ⟨who, 5, kd, nm, tm, vs, hs, sn, hd, ByteArray.empty, Gate.noRule, no⟩)) ∧ Below w.heap.size w w' := by
  have HL : Hid (LwAt w l la lb lc) := hl
  have HX : Hid (AkAt w (⟨who, 5, kd, nm, tm, vs, hs, sn, hd, to, r, no⟩ : Ak) a0 a1 a2) := hx
  have HN : Hid (Gate.nameOk who = true) := hn
  clear hl hx hn
  unfold Ak.cells Lw.cells
  dsimp only
  by_cases hu : Gate.useGive (⟨who, 5, kd, nm, tm, vs, hs, sn, hd, to, r, no⟩ : Ak) = true
  · have HU : Hid (Gate.useGive (⟨who, 5, kd, nm, tm, vs, hs, sn, hd, to, r, no⟩ : Ak) = true) := hu
    clear hu
    go_enter Tryz.func25, Tryz.ntmps25
    go_wp2_with fail
    obtain ⟨W0, hW0, hX0, hY0, hz0, hB0⟩ := pair_boxes w #[.slice la l.ss.length lca, .slice lb l.ms.length lcb, .slice lc l.ts.length lcc] #[.string who, .int .i64 5, .string kd, .string nm, .string tm, .slice a0 vs.length c0, .slice a1 hs.length c1, .int .i64 sn, .string hd, .string to, .slice a2 r.vs.length c2, .string r.kd, .string r.tm, .string r.px, .int .i64 no] 40 44
    rw [← hW0]
    clear hW0
    have hq0 := Nat.lt_of_succ_lt hz0
    refine (as_bool HN.out (isName_any who _ HX.out.small.who)).mono ?_
    rintro e w1 ⟨rfl, rfl⟩
    go_wp2_with fail
    refine (as_bool (show Gate.within 5 1 6 = true from rfl) (isWithin_any 5 1 6 _)).mono ?_
    rintro e w1 ⟨rfl, rfl⟩
    go_wp2_with fail
    have hX := box_later hX0 hq0 (Below.refl w1.heap.size w1).drew
    have hY := box_later hY0 hz0 (Below.refl w1.heap.size w1).drew
    have hz : w.heap.size + 1 < w1.drew.heap.size := hz0
    have hB := hB0.drew
    clear hX0 hY0 hz0 hB0 hq0
    have hix := index_give
    go_region_held3 (fun w' => (∀ j, w'.cell? ⟨w.heap.size, j, none⟩ = (#[.slice la l.ss.length lca, .slice lb l.ms.length lcb, .slice lc l.ts.length lcc] : Array Value)[j]?) ∧ ∀ j, w'.cell? ⟨w.heap.size + 1, j, none⟩ = (#[.string who, .int .i64 5, .string kd, .string nm, .string tm, .slice a0 vs.length c0, .slice a1 hs.length c1, .int .i64 sn, .string hd, .string to, .slice a2 r.vs.length c2, .string r.kd, .string r.tm, .string r.px, .int .i64 no] : Array Value)[j]?) (exact ⟨hX, hY⟩) (first
      | (go_at_call 53; refine (deeds_any _).mono ?_; rintro e w3 ⟨rfl, hb⟩; unfold deedsV; have hX := box_later hX (Nat.lt_of_succ_lt hz) hb; have hY := box_later hY hz hb; have hB := hB.trans (hb.mono hB.size); have hz := Nat.lt_of_lt_of_le hz hb.size; clear hb))
    have hm1 := method_give_isUse
    have hm2 := method_give_rest
    have hq := Nat.lt_of_succ_lt hz
    go_wp2_with fail
    refine (as_bool HU.out (giveUse_any l la lb lc lca lcb lcc (⟨who, 5, kd, nm, tm, vs, hs, sn, hd, to, r, no⟩ : Ak) a0 a1 a2 c0 c1 c2 _ (HL.out.mono hB) (HX.out.mono hB))).mono ?_
    rintro e w4 ⟨rfl, hb⟩
    have hX4 := box_later hX hq hb
    have hY4 := box_later hY hz hb
    have hz4 := Nat.lt_of_lt_of_le hz hb.size
    have hq4 := Nat.lt_of_lt_of_le hq hb.size
    have hB4 := hB.trans (hb.mono hB.size)
    clear hb hX hY hB hz hq
    go_wp2_with fail
    refine (giveRest_any (⟨who, 5, kd, nm, tm, vs, hs, sn, hd, to, r, no⟩ : Ak) a0 a1 a2 c0 c1 c2 _).mono ?_
    rintro e w5 ⟨rfl, hb⟩
    have hB5 := hB4.trans (hb.mono hB4.size)
    clear hb hX4 hY4 hz4 hq4 hB4
    go_wp2_with fail
    refine (isUnused_any ⟨who, 5, kd, nm, tm, vs, hs, sn, hd, ByteArray.empty, Gate.noRule, no⟩ _ _ _ _ _ _ _).mono ?_
    rintro e w6 ⟨rfl, hb⟩
    have hB6 := hB5.trans (hb.mono hB5.size)
    clear hb hB5
    go_wp2_with fail
    go_ret
    exact ⟨ret_bool (by rw [HU.out]; rfl), hB6⟩
  · have HU : Hid (Gate.useGive (⟨who, 5, kd, nm, tm, vs, hs, sn, hd, to, r, no⟩ : Ak) = false) := Bool.eq_false_iff.2 hu
    clear hu
    go_enter Tryz.func25, Tryz.ntmps25
    go_wp2_with fail
    obtain ⟨W0, hW0, hX0, hY0, hz0, hB0⟩ := pair_boxes w #[.slice la l.ss.length lca, .slice lb l.ms.length lcb, .slice lc l.ts.length lcc] #[.string who, .int .i64 5, .string kd, .string nm, .string tm, .slice a0 vs.length c0, .slice a1 hs.length c1, .int .i64 sn, .string hd, .string to, .slice a2 r.vs.length c2, .string r.kd, .string r.tm, .string r.px, .int .i64 no] 40 44
    rw [← hW0]
    clear hW0
    have hq0 := Nat.lt_of_succ_lt hz0
    refine (as_bool HN.out (isName_any who _ HX.out.small.who)).mono ?_
    rintro e w1 ⟨rfl, rfl⟩
    go_wp2_with fail
    refine (as_bool (show Gate.within 5 1 6 = true from rfl) (isWithin_any 5 1 6 _)).mono ?_
    rintro e w1 ⟨rfl, rfl⟩
    go_wp2_with fail
    have hX := box_later hX0 hq0 (Below.refl w1.heap.size w1).drew
    have hY := box_later hY0 hz0 (Below.refl w1.heap.size w1).drew
    have hz : w.heap.size + 1 < w1.drew.heap.size := hz0
    have hB := hB0.drew
    clear hX0 hY0 hz0 hB0 hq0
    have hix := index_give
    go_region_held3 (fun w' => (∀ j, w'.cell? ⟨w.heap.size, j, none⟩ = (#[.slice la l.ss.length lca, .slice lb l.ms.length lcb, .slice lc l.ts.length lcc] : Array Value)[j]?) ∧ ∀ j, w'.cell? ⟨w.heap.size + 1, j, none⟩ = (#[.string who, .int .i64 5, .string kd, .string nm, .string tm, .slice a0 vs.length c0, .slice a1 hs.length c1, .int .i64 sn, .string hd, .string to, .slice a2 r.vs.length c2, .string r.kd, .string r.tm, .string r.px, .int .i64 no] : Array Value)[j]?) (exact ⟨hX, hY⟩) (first
      | (go_at_call 53; refine (deeds_any _).mono ?_; rintro e w3 ⟨rfl, hb⟩; unfold deedsV; have hX := box_later hX (Nat.lt_of_succ_lt hz) hb; have hY := box_later hY hz hb; have hB := hB.trans (hb.mono hB.size); have hz := Nat.lt_of_lt_of_le hz hb.size; clear hb))
    have hm1 := method_give_isUse
    have hm2 := method_give_rest
    have hq := Nat.lt_of_succ_lt hz
    go_wp2_with fail
    refine (as_bool HU.out (giveUse_any l la lb lc lca lcb lcc (⟨who, 5, kd, nm, tm, vs, hs, sn, hd, to, r, no⟩ : Ak) a0 a1 a2 c0 c1 c2 _ (HL.out.mono hB) (HX.out.mono hB))).mono ?_
    rintro e w4 ⟨rfl, hb⟩
    have hX4 := box_later hX hq hb
    have hY4 := box_later hY hz hb
    have hz4 := Nat.lt_of_lt_of_le hz hb.size
    have hq4 := Nat.lt_of_lt_of_le hq hb.size
    have hB4 := hB.trans (hb.mono hB.size)
    clear hb hX hY hB hz hq
    go_wp2_with fail
    go_ret
    exact ⟨ret_bool (by rw [HU.out]; rfl), hB4⟩

set_option maxRecDepth 20000 in
set_option maxHeartbeats 4000000 in
theorem isAsk_take (l : Lw) (la lb lc : Option Addr) (lca lcb lcc : Nat) (who kd nm tm : ByteArray) (vs hs : List ByteArray) (sn : Int) (hd to : ByteArray) (r : Rl) (no : Int) (a0 a1 a2 : Option Addr) (c0 c1 c2 : Nat) (w : World) (hl : LwAt w l la lb lc) (hx : AkAt w (⟨who, 6, kd, nm, tm, vs, hs, sn, hd, to, r, no⟩ : Ak) a0 a1 a2) (hn : Gate.nameOk who = true) :
    Calls Tryz.prog 25 #[.agg (l.cells la lb lc lca lcb lcc), .agg ((⟨who, 6, kd, nm, tm, vs, hs, sn, hd, to, r, no⟩ : Ak).cells a0 a1 a2 c0 c1 c2)] w fun e w' => e = .returned (.bool (Gate.useTake (⟨who, 6, kd, nm, tm, vs, hs, sn, hd, to, r, no⟩ : Ak) && Gate.unused ⟨who, 6, kd, nm, tm, vs, hs, sn, hd, to, r, 0⟩)) ∧ Below w.heap.size w w' := by
  have HL : Hid (LwAt w l la lb lc) := hl
  have HX : Hid (AkAt w (⟨who, 6, kd, nm, tm, vs, hs, sn, hd, to, r, no⟩ : Ak) a0 a1 a2) := hx
  have HN : Hid (Gate.nameOk who = true) := hn
  clear hl hx hn
  unfold Ak.cells Lw.cells
  dsimp only
  by_cases hu : Gate.useTake (⟨who, 6, kd, nm, tm, vs, hs, sn, hd, to, r, no⟩ : Ak) = true
  · have HU : Hid (Gate.useTake (⟨who, 6, kd, nm, tm, vs, hs, sn, hd, to, r, no⟩ : Ak) = true) := hu
    clear hu
    go_enter Tryz.func25, Tryz.ntmps25
    go_wp2_with fail
    obtain ⟨W0, hW0, hX0, hY0, hz0, hB0⟩ := pair_boxes w #[.slice la l.ss.length lca, .slice lb l.ms.length lcb, .slice lc l.ts.length lcc] #[.string who, .int .i64 6, .string kd, .string nm, .string tm, .slice a0 vs.length c0, .slice a1 hs.length c1, .int .i64 sn, .string hd, .string to, .slice a2 r.vs.length c2, .string r.kd, .string r.tm, .string r.px, .int .i64 no] 40 44
    rw [← hW0]
    clear hW0
    have hq0 := Nat.lt_of_succ_lt hz0
    refine (as_bool HN.out (isName_any who _ HX.out.small.who)).mono ?_
    rintro e w1 ⟨rfl, rfl⟩
    go_wp2_with fail
    refine (as_bool (show Gate.within 6 1 6 = true from rfl) (isWithin_any 6 1 6 _)).mono ?_
    rintro e w1 ⟨rfl, rfl⟩
    go_wp2_with fail
    have hX := box_later hX0 hq0 (Below.refl w1.heap.size w1).drew
    have hY := box_later hY0 hz0 (Below.refl w1.heap.size w1).drew
    have hz : w.heap.size + 1 < w1.drew.heap.size := hz0
    have hB := hB0.drew
    clear hX0 hY0 hz0 hB0 hq0
    have hix := index_take
    go_region_held3 (fun w' => (∀ j, w'.cell? ⟨w.heap.size, j, none⟩ = (#[.slice la l.ss.length lca, .slice lb l.ms.length lcb, .slice lc l.ts.length lcc] : Array Value)[j]?) ∧ ∀ j, w'.cell? ⟨w.heap.size + 1, j, none⟩ = (#[.string who, .int .i64 6, .string kd, .string nm, .string tm, .slice a0 vs.length c0, .slice a1 hs.length c1, .int .i64 sn, .string hd, .string to, .slice a2 r.vs.length c2, .string r.kd, .string r.tm, .string r.px, .int .i64 no] : Array Value)[j]?) (exact ⟨hX, hY⟩) (first
      | (go_at_call 53; refine (deeds_any _).mono ?_; rintro e w3 ⟨rfl, hb⟩; unfold deedsV; have hX := box_later hX (Nat.lt_of_succ_lt hz) hb; have hY := box_later hY hz hb; have hB := hB.trans (hb.mono hB.size); have hz := Nat.lt_of_lt_of_le hz hb.size; clear hb))
    have hm1 := method_take_isUse
    have hm2 := method_take_rest
    have hq := Nat.lt_of_succ_lt hz
    go_wp2_with fail
    refine (as_bool HU.out (takeUse_any l la lb lc lca lcb lcc (⟨who, 6, kd, nm, tm, vs, hs, sn, hd, to, r, no⟩ : Ak) a0 a1 a2 c0 c1 c2 _ (HL.out.mono hB) (HX.out.mono hB))).mono ?_
    rintro e w4 ⟨rfl, hb⟩
    have hX4 := box_later hX hq hb
    have hY4 := box_later hY hz hb
    have hz4 := Nat.lt_of_lt_of_le hz hb.size
    have hq4 := Nat.lt_of_lt_of_le hq hb.size
    have hB4 := hB.trans (hb.mono hB.size)
    clear hb hX hY hB hz hq
    go_wp2_with fail
    refine (takeRest_any (⟨who, 6, kd, nm, tm, vs, hs, sn, hd, to, r, no⟩ : Ak) a0 a1 a2 c0 c1 c2 _).mono ?_
    rintro e w5 ⟨rfl, hb⟩
    have hB5 := hB4.trans (hb.mono hB4.size)
    clear hb hX4 hY4 hz4 hq4 hB4
    go_wp2_with fail
    refine (isUnused_any ⟨who, 6, kd, nm, tm, vs, hs, sn, hd, to, r, 0⟩ _ _ _ _ _ _ _).mono ?_
    rintro e w6 ⟨rfl, hb⟩
    have hB6 := hB5.trans (hb.mono hB5.size)
    clear hb hB5
    go_wp2_with fail
    go_ret
    exact ⟨ret_bool (by rw [HU.out]; rfl), hB6⟩
  · have HU : Hid (Gate.useTake (⟨who, 6, kd, nm, tm, vs, hs, sn, hd, to, r, no⟩ : Ak) = false) := Bool.eq_false_iff.2 hu
    clear hu
    go_enter Tryz.func25, Tryz.ntmps25
    go_wp2_with fail
    obtain ⟨W0, hW0, hX0, hY0, hz0, hB0⟩ := pair_boxes w #[.slice la l.ss.length lca, .slice lb l.ms.length lcb, .slice lc l.ts.length lcc] #[.string who, .int .i64 6, .string kd, .string nm, .string tm, .slice a0 vs.length c0, .slice a1 hs.length c1, .int .i64 sn, .string hd, .string to, .slice a2 r.vs.length c2, .string r.kd, .string r.tm, .string r.px, .int .i64 no] 40 44
    rw [← hW0]
    clear hW0
    have hq0 := Nat.lt_of_succ_lt hz0
    refine (as_bool HN.out (isName_any who _ HX.out.small.who)).mono ?_
    rintro e w1 ⟨rfl, rfl⟩
    go_wp2_with fail
    refine (as_bool (show Gate.within 6 1 6 = true from rfl) (isWithin_any 6 1 6 _)).mono ?_
    rintro e w1 ⟨rfl, rfl⟩
    go_wp2_with fail
    have hX := box_later hX0 hq0 (Below.refl w1.heap.size w1).drew
    have hY := box_later hY0 hz0 (Below.refl w1.heap.size w1).drew
    have hz : w.heap.size + 1 < w1.drew.heap.size := hz0
    have hB := hB0.drew
    clear hX0 hY0 hz0 hB0 hq0
    have hix := index_take
    go_region_held3 (fun w' => (∀ j, w'.cell? ⟨w.heap.size, j, none⟩ = (#[.slice la l.ss.length lca, .slice lb l.ms.length lcb, .slice lc l.ts.length lcc] : Array Value)[j]?) ∧ ∀ j, w'.cell? ⟨w.heap.size + 1, j, none⟩ = (#[.string who, .int .i64 6, .string kd, .string nm, .string tm, .slice a0 vs.length c0, .slice a1 hs.length c1, .int .i64 sn, .string hd, .string to, .slice a2 r.vs.length c2, .string r.kd, .string r.tm, .string r.px, .int .i64 no] : Array Value)[j]?) (exact ⟨hX, hY⟩) (first
      | (go_at_call 53; refine (deeds_any _).mono ?_; rintro e w3 ⟨rfl, hb⟩; unfold deedsV; have hX := box_later hX (Nat.lt_of_succ_lt hz) hb; have hY := box_later hY hz hb; have hB := hB.trans (hb.mono hB.size); have hz := Nat.lt_of_lt_of_le hz hb.size; clear hb))
    have hm1 := method_take_isUse
    have hm2 := method_take_rest
    have hq := Nat.lt_of_succ_lt hz
    go_wp2_with fail
    refine (as_bool HU.out (takeUse_any l la lb lc lca lcb lcc (⟨who, 6, kd, nm, tm, vs, hs, sn, hd, to, r, no⟩ : Ak) a0 a1 a2 c0 c1 c2 _ (HL.out.mono hB) (HX.out.mono hB))).mono ?_
    rintro e w4 ⟨rfl, hb⟩
    have hX4 := box_later hX hq hb
    have hY4 := box_later hY hz hb
    have hz4 := Nat.lt_of_lt_of_le hz hb.size
    have hq4 := Nat.lt_of_lt_of_le hq hb.size
    have hB4 := hB.trans (hb.mono hB.size)
    clear hb hX hY hB hz hq
    go_wp2_with fail
    go_ret
    exact ⟨ret_bool (by rw [HU.out]; rfl), hB4⟩

end Go.Proofs.YtpmlngcljbkchaaGreat
