import Derived.Test.YtpmlngcljbkchaaGreatM19
import Derived.Test.YtpmlngcljbkchaaGreatM17
namespace Go.Proofs.YtpmlngcljbkchaaGreat
open Go.RowKit

theorem method_bare1 (x : Value) (w : World) : (method 325 143 x "loop.example/wharfgate/impl.bare").run Tryz.prog w = .ok (154, x) w := by kernel_rfl
theorem method_sound1 (x : Value) (w : World) : (method 325 143 x "loop.example/wharfgate/impl.sound").run Tryz.prog w = .ok (156, x) w := by kernel_rfl
theorem method_bare2 (x : Value) (w : World) : (method 325 145 x "loop.example/wharfgate/impl.bare").run Tryz.prog w = .ok (159, x) w := by kernel_rfl
theorem method_sound2 (x : Value) (w : World) : (method 325 145 x "loop.example/wharfgate/impl.sound").run Tryz.prog w = .ok (161, x) w := by kernel_rfl
theorem method_bare3 (x : Value) (w : World) : (method 325 146 x "loop.example/wharfgate/impl.bare").run Tryz.prog w = .ok (164, x) w := by kernel_rfl
theorem method_sound3 (x : Value) (w : World) : (method 325 146 x "loop.example/wharfgate/impl.sound").run Tryz.prog w = .ok (166, x) w := by kernel_rfl
theorem method_bare4 (x : Value) (w : World) : (method 325 147 x "loop.example/wharfgate/impl.bare").run Tryz.prog w = .ok (167, x) w := by kernel_rfl
theorem method_sound4 (x : Value) (w : World) : (method 325 147 x "loop.example/wharfgate/impl.sound").run Tryz.prog w = .ok (169, x) w := by kernel_rfl

set_option maxHeartbeats 1000000 in
theorem fieldOk_1 (r : Nat) (nm : ByteArray) (ls ms : Int) (a : Option Addr) (cap : Nat) (ws : List ByteArray) (to : ByteArray) (rl : Int) (mu fx : Bool) (df wg : ByteArray) (a0 : Option Addr) (cap0 : Nat) (ss : List Shp) (w : World) (hr : w.heap[r]? = some (.map kindEs 4)) (hdf : df.size ≤ maxLen) (hwg : wg.size ≤ maxLen) :
    Calls Tryz.prog 104 #[.map (some r), .slice a0 ss.length cap0, .agg #[.string nm, .int .i64 1, .int .i64 ls, .int .i64 ms, .slice a ws.length cap, .string to, .int .i64 rl, .bool mu, .bool fx, .string df, .string wg]] w
      fun e w' => e = .returned (.bool (Gate.fieldOk ss ⟨nm, 1, ls, ms, ws, to, rl, mu, fx, df, wg⟩)) ∧ Below w.heap.size w w' := by
  have HO : Hid (Gate.fieldOk ss ⟨nm, 1, ls, ms, ws, to, rl, mu, fx, df, wg⟩ = (Gate.bareOf 1 ls ms ws.length to rl wg && Gate.soundOf ss ⟨nm, 1, ls, ms, ws, to, rl, mu, fx, df, wg⟩ && (df.toList.isEmpty || Gate.fits 1 ls ms ws df))) := rfl
  have hlt : r < w.heap.size := (Array.getElem?_eq_some_iff.1 hr).1
  have hlk : ∀ o, (Instr.lookup 111 (.map (some r)) (.int .i64 1) true).run Tryz.prog (w.alloc o) = .ok (.tuple #[.func (.func 86) #[] #[], .bool true]) (w.alloc o) :=
    fun o => run_lookup_hit Tryz.underlying111 Tryz.underlying3 (.int .i64 1) _ rfl kindEs 4 0 rfl (w.alloc o) r ((Below.heap_alloc w o r hlt).trans hr)
  clear hr
  have hm1 := method_bare1
  have hm2 := method_sound1
  have hm3 := method_fits1
  by_cases hbare : Gate.bareOf 1 ls ms ws.length to rl wg = true
  rotate_left
  · have HBare : Hid (Gate.bareOf 1 ls ms ws.length to rl wg = false) := by simpa [Hid] using hbare
    clear hbare hm2 hm3
    go_enter Tryz.func104, Tryz.ntmps104
    go_wp2_with fail
    refine (kind1_any _ _ _ _ _ _ _ _ _ _ _ _ _ _).mono ?_
    rintro e w1 ⟨rfl, hb1⟩
    have hX1 := box_later (box_new w _ _) (by simp) hb1
    have hz1 : w.heap.size < w1.heap.size := by have := hb1.size; simp at this; omega
    have hB1 : Below w.heap.size w w1 := ((Below.refl _ _).alloc (Nat.le_refl _) _).trans (hb1.mono (by simp))
    clear hb1 hlk
    go_wp2_with fail
    refine (as_bool HBare.out (numberBare_any _ _ _ _ _ _ _ _ _ _ _ _ _ _)).mono ?_
    rintro e w2 ⟨rfl, hb2⟩
    have hX2 := box_later hX1 hz1 hb2
    have hz2 : w.heap.size < w2.heap.size := by have := hb2.size; omega
    have hB2 : Below w.heap.size w w2 := hB1.trans (hb2.mono (by omega))
    clear hb2 hX1 hz1 hB1
    go_wp2_with fail
    go_ret
    exact ⟨ret_bool (by rw [HO.out, HBare.out]; rfl), hB2⟩
  have HBare : Hid (Gate.bareOf 1 ls ms ws.length to rl wg = true) := hbare
  clear hbare
  by_cases hsnd : Gate.soundOf ss ⟨nm, 1, ls, ms, ws, to, rl, mu, fx, df, wg⟩ = true
  rotate_left
  · have HSnd : Hid (Gate.soundOf ss ⟨nm, 1, ls, ms, ws, to, rl, mu, fx, df, wg⟩ = false) := by simpa [Hid] using hsnd
    clear hsnd hm3
    go_enter Tryz.func104, Tryz.ntmps104
    go_wp2_with fail
    refine (kind1_any _ _ _ _ _ _ _ _ _ _ _ _ _ _).mono ?_
    rintro e w1 ⟨rfl, hb1⟩
    have hX1 := box_later (box_new w _ _) (by simp) hb1
    have hz1 : w.heap.size < w1.heap.size := by have := hb1.size; simp at this; omega
    have hB1 : Below w.heap.size w w1 := ((Below.refl _ _).alloc (Nat.le_refl _) _).trans (hb1.mono (by simp))
    clear hb1 hlk
    go_wp2_with fail
    refine (as_bool HBare.out (numberBare_any _ _ _ _ _ _ _ _ _ _ _ _ _ _)).mono ?_
    rintro e w2 ⟨rfl, hb2⟩
    have hX2 := box_later hX1 hz1 hb2
    have hz2 : w.heap.size < w2.heap.size := by have := hb2.size; omega
    have hB2 : Below w.heap.size w w2 := hB1.trans (hb2.mono (by omega))
    clear hb2 hX1 hz1 hB1
    go_wp2_with fail
    refine (as_bool HSnd.out (numberSound_any _ _ _ _ _ _ _ _ _ _ _ _ _ _ _ _ hwg)).mono ?_
    rintro e w3 ⟨rfl, hb3⟩
    have hX3 := box_later hX2 hz2 hb3
    have hz3 : w.heap.size < w3.heap.size := by have := hb3.size; omega
    have hB3 : Below w.heap.size w w3 := hB2.trans (hb3.mono (by omega))
    clear hb3 hX2 hz2 hB2
    go_wp2_with fail
    go_ret
    exact ⟨ret_bool (by rw [HO.out, HBare.out, HSnd.out]; rfl), hB3⟩
  have HSnd : Hid (Gate.soundOf ss ⟨nm, 1, ls, ms, ws, to, rl, mu, fx, df, wg⟩ = true) := hsnd
  clear hsnd
  by_cases hd : df.toList.isEmpty = true
  · have HD : Hid (df.toList.isEmpty = true) := hd
    go_enter Tryz.func104, Tryz.ntmps104
    go_wp2_with fail
    refine (kind1_any _ _ _ _ _ _ _ _ _ _ _ _ _ _).mono ?_
    rintro e w1 ⟨rfl, hb1⟩
    have hX1 := box_later (box_new w _ _) (by simp) hb1
    have hz1 : w.heap.size < w1.heap.size := by have := hb1.size; simp at this; omega
    have hB1 : Below w.heap.size w w1 := ((Below.refl _ _).alloc (Nat.le_refl _) _).trans (hb1.mono (by simp))
    clear hb1 hlk
    go_wp2_with fail
    refine (as_bool HBare.out (numberBare_any _ _ _ _ _ _ _ _ _ _ _ _ _ _)).mono ?_
    rintro e w2 ⟨rfl, hb2⟩
    have hX2 := box_later hX1 hz1 hb2
    have hz2 : w.heap.size < w2.heap.size := by have := hb2.size; omega
    have hB2 : Below w.heap.size w w2 := hB1.trans (hb2.mono (by omega))
    clear hb2 hX1 hz1 hB1
    go_wp2_with fail
    refine (as_bool HSnd.out (numberSound_any _ _ _ _ _ _ _ _ _ _ _ _ _ _ _ _ hwg)).mono ?_
    rintro e w3 ⟨rfl, hb3⟩
    have hX3 := box_later hX2 hz2 hb3
    have hz3 : w.heap.size < w3.heap.size := by have := hb3.size; omega
    have hB3 : Below w.heap.size w w3 := hB2.trans (hb3.mono (by omega))
    clear hb3 hX2 hz2 hB2
    go_wp2_with fail
    go_ret
    exact ⟨ret_bool (by rw [HO.out, HBare.out, HSnd.out, HD.out]; rfl), hB3⟩
  · have hd' : df.toList.isEmpty = false := by simpa using hd
    have HD : Hid (df.toList.isEmpty = false) := hd'
    have HZ : Hid (Gate.fits 1 ls ms ws df = Gate.numFits ls ms df) := Gate.fits_1 ls ms ws df (by intro h; rw [Gate.isEmpty_of_size] at hd'; simp [h] at hd')
    clear hd
    go_enter Tryz.func104, Tryz.ntmps104
    go_wp2_with fail
    refine (kind1_any _ _ _ _ _ _ _ _ _ _ _ _ _ _).mono ?_
    rintro e w1 ⟨rfl, hb1⟩
    have hX1 := box_later (box_new w _ _) (by simp) hb1
    have hz1 : w.heap.size < w1.heap.size := by have := hb1.size; simp at this; omega
    have hB1 : Below w.heap.size w w1 := ((Below.refl _ _).alloc (Nat.le_refl _) _).trans (hb1.mono (by simp))
    clear hb1 hlk
    go_wp2_with fail
    refine (as_bool HBare.out (numberBare_any _ _ _ _ _ _ _ _ _ _ _ _ _ _)).mono ?_
    rintro e w2 ⟨rfl, hb2⟩
    have hX2 := box_later hX1 hz1 hb2
    have hz2 : w.heap.size < w2.heap.size := by have := hb2.size; omega
    have hB2 : Below w.heap.size w w2 := hB1.trans (hb2.mono (by omega))
    clear hb2 hX1 hz1 hB1
    go_wp2_with fail
    refine (as_bool HSnd.out (numberSound_any _ _ _ _ _ _ _ _ _ _ _ _ _ _ _ _ hwg)).mono ?_
    rintro e w3 ⟨rfl, hb3⟩
    have hX3 := box_later hX2 hz2 hb3
    have hz3 : w.heap.size < w3.heap.size := by have := hb3.size; omega
    have hB3 : Below w.heap.size w w3 := hB2.trans (hb3.mono (by omega))
    clear hb3 hX2 hz2 hB2
    go_wp2_with fail
    refine (numberFits_any _ _ _ _ _ _ _ _ _ _ _ _ _ hdf).mono ?_
    rintro e w4 ⟨rfl, hb4⟩
    have hB4 : Below w.heap.size w w4 := hB3.trans (hb4.mono (by omega))
    clear hb4
    go_wp2_with fail
    go_ret
    exact ⟨ret_bool (by rw [HO.out, HBare.out, HSnd.out, HD.out, HZ.out]; rfl), hB4⟩

set_option maxHeartbeats 1000000 in
theorem fieldOk_2 (r : Nat) (nm : ByteArray) (ls ms : Int) (a : Option Addr) (cap : Nat) (ws : List ByteArray) (to : ByteArray) (rl : Int) (mu fx : Bool) (df wg : ByteArray) (a0 : Option Addr) (cap0 : Nat) (ss : List Shp) (w : World) (hr : w.heap[r]? = some (.map kindEs 4)) (hws : StrsAt w a ws) :
    Calls Tryz.prog 104 #[.map (some r), .slice a0 ss.length cap0, .agg #[.string nm, .int .i64 2, .int .i64 ls, .int .i64 ms, .slice a ws.length cap, .string to, .int .i64 rl, .bool mu, .bool fx, .string df, .string wg]] w
      fun e w' => e = .returned (.bool (Gate.fieldOk ss ⟨nm, 2, ls, ms, ws, to, rl, mu, fx, df, wg⟩)) ∧ Below w.heap.size w w' := by
  have HO : Hid (Gate.fieldOk ss ⟨nm, 2, ls, ms, ws, to, rl, mu, fx, df, wg⟩ = (Gate.bareOf 2 ls ms ws.length to rl wg && Gate.soundOf ss ⟨nm, 2, ls, ms, ws, to, rl, mu, fx, df, wg⟩ && (df.toList.isEmpty || Gate.fits 2 ls ms ws df))) := rfl
  have hlt : r < w.heap.size := (Array.getElem?_eq_some_iff.1 hr).1
  have hlk : ∀ o, (Instr.lookup 111 (.map (some r)) (.int .i64 2) true).run Tryz.prog (w.alloc o) = .ok (.tuple #[.func (.func 87) #[] #[], .bool true]) (w.alloc o) :=
    fun o => run_lookup_hit Tryz.underlying111 Tryz.underlying3 (.int .i64 2) _ rfl kindEs 4 1 rfl (w.alloc o) r ((Below.heap_alloc w o r hlt).trans hr)
  clear hr
  have hm1 := method_bare2
  have hm2 := method_sound2
  have hm3 := method_fits2
  by_cases hbare : Gate.bareOf 2 ls ms ws.length to rl wg = true
  rotate_left
  · have HBare : Hid (Gate.bareOf 2 ls ms ws.length to rl wg = false) := by simpa [Hid] using hbare
    clear hbare hm2 hm3
    go_enter Tryz.func104, Tryz.ntmps104
    go_wp2_with fail
    refine (kind2_any _ _ _ _ _ _ _ _ _ _ _ _ _ _).mono ?_
    rintro e w1 ⟨rfl, hb1⟩
    have hX1 := box_later (box_new w _ _) (by simp) hb1
    have hz1 : w.heap.size < w1.heap.size := by have := hb1.size; simp at this; omega
    have hB1 : Below w.heap.size w w1 := ((Below.refl _ _).alloc (Nat.le_refl _) _).trans (hb1.mono (by simp))
    clear hb1 hlk
    go_wp2_with fail
    refine (as_bool HBare.out (wordBare_any _ _ _ _ _ _ _ _ _ _ _ _ _ _)).mono ?_
    rintro e w2 ⟨rfl, hb2⟩
    have hX2 := box_later hX1 hz1 hb2
    have hz2 : w.heap.size < w2.heap.size := by have := hb2.size; omega
    have hB2 : Below w.heap.size w w2 := hB1.trans (hb2.mono (by omega))
    clear hb2 hX1 hz1 hB1
    go_wp2_with fail
    go_ret
    exact ⟨ret_bool (by rw [HO.out, HBare.out]; rfl), hB2⟩
  have HBare : Hid (Gate.bareOf 2 ls ms ws.length to rl wg = true) := hbare
  clear hbare
  by_cases hsnd : Gate.soundOf ss ⟨nm, 2, ls, ms, ws, to, rl, mu, fx, df, wg⟩ = true
  rotate_left
  · have HSnd : Hid (Gate.soundOf ss ⟨nm, 2, ls, ms, ws, to, rl, mu, fx, df, wg⟩ = false) := by simpa [Hid] using hsnd
    clear hsnd hm3
    go_enter Tryz.func104, Tryz.ntmps104
    go_wp2_with fail
    refine (kind2_any _ _ _ _ _ _ _ _ _ _ _ _ _ _).mono ?_
    rintro e w1 ⟨rfl, hb1⟩
    have hX1 := box_later (box_new w _ _) (by simp) hb1
    have hz1 : w.heap.size < w1.heap.size := by have := hb1.size; simp at this; omega
    have hB1 : Below w.heap.size w w1 := ((Below.refl _ _).alloc (Nat.le_refl _) _).trans (hb1.mono (by simp))
    clear hb1 hlk
    go_wp2_with fail
    refine (as_bool HBare.out (wordBare_any _ _ _ _ _ _ _ _ _ _ _ _ _ _)).mono ?_
    rintro e w2 ⟨rfl, hb2⟩
    have hX2 := box_later hX1 hz1 hb2
    have hz2 : w.heap.size < w2.heap.size := by have := hb2.size; omega
    have hB2 : Below w.heap.size w w2 := hB1.trans (hb2.mono (by omega))
    clear hb2 hX1 hz1 hB1
    go_wp2_with fail
    refine (as_bool HSnd.out (wordSound_any _ _ _ _ _ _ _ _ _ _ _ _ _ _ _ _ (by exact hws.mono hB2))).mono ?_
    rintro e w3 ⟨rfl, hb3⟩
    have hX3 := box_later hX2 hz2 hb3
    have hz3 : w.heap.size < w3.heap.size := by have := hb3.size; omega
    have hB3 : Below w.heap.size w w3 := hB2.trans (hb3.mono (by omega))
    clear hb3 hX2 hz2 hB2
    go_wp2_with fail
    go_ret
    exact ⟨ret_bool (by rw [HO.out, HBare.out, HSnd.out]; rfl), hB3⟩
  have HSnd : Hid (Gate.soundOf ss ⟨nm, 2, ls, ms, ws, to, rl, mu, fx, df, wg⟩ = true) := hsnd
  clear hsnd
  by_cases hd : df.toList.isEmpty = true
  · have HD : Hid (df.toList.isEmpty = true) := hd
    go_enter Tryz.func104, Tryz.ntmps104
    go_wp2_with fail
    refine (kind2_any _ _ _ _ _ _ _ _ _ _ _ _ _ _).mono ?_
    rintro e w1 ⟨rfl, hb1⟩
    have hX1 := box_later (box_new w _ _) (by simp) hb1
    have hz1 : w.heap.size < w1.heap.size := by have := hb1.size; simp at this; omega
    have hB1 : Below w.heap.size w w1 := ((Below.refl _ _).alloc (Nat.le_refl _) _).trans (hb1.mono (by simp))
    clear hb1 hlk
    go_wp2_with fail
    refine (as_bool HBare.out (wordBare_any _ _ _ _ _ _ _ _ _ _ _ _ _ _)).mono ?_
    rintro e w2 ⟨rfl, hb2⟩
    have hX2 := box_later hX1 hz1 hb2
    have hz2 : w.heap.size < w2.heap.size := by have := hb2.size; omega
    have hB2 : Below w.heap.size w w2 := hB1.trans (hb2.mono (by omega))
    clear hb2 hX1 hz1 hB1
    go_wp2_with fail
    refine (as_bool HSnd.out (wordSound_any _ _ _ _ _ _ _ _ _ _ _ _ _ _ _ _ (by exact hws.mono hB2))).mono ?_
    rintro e w3 ⟨rfl, hb3⟩
    have hX3 := box_later hX2 hz2 hb3
    have hz3 : w.heap.size < w3.heap.size := by have := hb3.size; omega
    have hB3 : Below w.heap.size w w3 := hB2.trans (hb3.mono (by omega))
    clear hb3 hX2 hz2 hB2
    go_wp2_with fail
    go_ret
    exact ⟨ret_bool (by rw [HO.out, HBare.out, HSnd.out, HD.out]; rfl), hB3⟩
  · have hd' : df.toList.isEmpty = false := by simpa using hd
    have HD : Hid (df.toList.isEmpty = false) := hd'
    have HZ : Hid (Gate.fits 2 ls ms ws df = Gate.has ws df) := Gate.fits_2 ls ms ws df (by intro h; rw [Gate.isEmpty_of_size] at hd'; simp [h] at hd')
    clear hd
    go_enter Tryz.func104, Tryz.ntmps104
    go_wp2_with fail
    refine (kind2_any _ _ _ _ _ _ _ _ _ _ _ _ _ _).mono ?_
    rintro e w1 ⟨rfl, hb1⟩
    have hX1 := box_later (box_new w _ _) (by simp) hb1
    have hz1 : w.heap.size < w1.heap.size := by have := hb1.size; simp at this; omega
    have hB1 : Below w.heap.size w w1 := ((Below.refl _ _).alloc (Nat.le_refl _) _).trans (hb1.mono (by simp))
    clear hb1 hlk
    go_wp2_with fail
    refine (as_bool HBare.out (wordBare_any _ _ _ _ _ _ _ _ _ _ _ _ _ _)).mono ?_
    rintro e w2 ⟨rfl, hb2⟩
    have hX2 := box_later hX1 hz1 hb2
    have hz2 : w.heap.size < w2.heap.size := by have := hb2.size; omega
    have hB2 : Below w.heap.size w w2 := hB1.trans (hb2.mono (by omega))
    clear hb2 hX1 hz1 hB1
    go_wp2_with fail
    refine (as_bool HSnd.out (wordSound_any _ _ _ _ _ _ _ _ _ _ _ _ _ _ _ _ (by exact hws.mono hB2))).mono ?_
    rintro e w3 ⟨rfl, hb3⟩
    have hX3 := box_later hX2 hz2 hb3
    have hz3 : w.heap.size < w3.heap.size := by have := hb3.size; omega
    have hB3 : Below w.heap.size w w3 := hB2.trans (hb3.mono (by omega))
    clear hb3 hX2 hz2 hB2
    go_wp2_with fail
    refine (wordFits_any _ _ _ _ _ _ _ _ _ _ _ _ _ _ _ (by exact hws.mono hB3)).mono ?_
    rintro e w4 ⟨rfl, hb4⟩
    have hB4 : Below w.heap.size w w4 := hB3.trans (hb4.mono (by omega))
    clear hb4
    go_wp2_with fail
    go_ret
    exact ⟨ret_bool (by rw [HO.out, HBare.out, HSnd.out, HD.out, HZ.out]; rfl), hB4⟩

set_option maxHeartbeats 1000000 in
theorem fieldOk_3 (r : Nat) (nm : ByteArray) (ls ms : Int) (a : Option Addr) (cap : Nat) (ws : List ByteArray) (to : ByteArray) (rl : Int) (mu fx : Bool) (df wg : ByteArray) (a0 : Option Addr) (cap0 : Nat) (ss : List Shp) (w : World) (hr : w.heap[r]? = some (.map kindEs 4)) (hdf : df.size ≤ maxLen) :
    Calls Tryz.prog 104 #[.map (some r), .slice a0 ss.length cap0, .agg #[.string nm, .int .i64 3, .int .i64 ls, .int .i64 ms, .slice a ws.length cap, .string to, .int .i64 rl, .bool mu, .bool fx, .string df, .string wg]] w
      fun e w' => e = .returned (.bool (Gate.fieldOk ss ⟨nm, 3, ls, ms, ws, to, rl, mu, fx, df, wg⟩)) ∧ Below w.heap.size w w' := by
  have HO : Hid (Gate.fieldOk ss ⟨nm, 3, ls, ms, ws, to, rl, mu, fx, df, wg⟩ = (Gate.bareOf 3 ls ms ws.length to rl wg && Gate.soundOf ss ⟨nm, 3, ls, ms, ws, to, rl, mu, fx, df, wg⟩ && (df.toList.isEmpty || Gate.fits 3 ls ms ws df))) := rfl
  have hlt : r < w.heap.size := (Array.getElem?_eq_some_iff.1 hr).1
  have hlk : ∀ o, (Instr.lookup 111 (.map (some r)) (.int .i64 3) true).run Tryz.prog (w.alloc o) = .ok (.tuple #[.func (.func 88) #[] #[], .bool true]) (w.alloc o) :=
    fun o => run_lookup_hit Tryz.underlying111 Tryz.underlying3 (.int .i64 3) _ rfl kindEs 4 2 rfl (w.alloc o) r ((Below.heap_alloc w o r hlt).trans hr)
  clear hr
  have hm1 := method_bare3
  have hm2 := method_sound3
  have hm3 := method_fits3
  by_cases hbare : Gate.bareOf 3 ls ms ws.length to rl wg = true
  rotate_left
  · have HBare : Hid (Gate.bareOf 3 ls ms ws.length to rl wg = false) := by simpa [Hid] using hbare
    clear hbare hm2 hm3
    go_enter Tryz.func104, Tryz.ntmps104
    go_wp2_with fail
    refine (kind3_any _ _ _ _ _ _ _ _ _ _ _ _ _ _).mono ?_
    rintro e w1 ⟨rfl, hb1⟩
    have hX1 := box_later (box_new w _ _) (by simp) hb1
    have hz1 : w.heap.size < w1.heap.size := by have := hb1.size; simp at this; omega
    have hB1 : Below w.heap.size w w1 := ((Below.refl _ _).alloc (Nat.le_refl _) _).trans (hb1.mono (by simp))
    clear hb1 hlk
    go_wp2_with fail
    refine (as_bool HBare.out (textBare_any _ _ _ _ _ _ _ _ _ _ _ _ _ _)).mono ?_
    rintro e w2 ⟨rfl, hb2⟩
    have hX2 := box_later hX1 hz1 hb2
    have hz2 : w.heap.size < w2.heap.size := by have := hb2.size; omega
    have hB2 : Below w.heap.size w w2 := hB1.trans (hb2.mono (by omega))
    clear hb2 hX1 hz1 hB1
    go_wp2_with fail
    go_ret
    exact ⟨ret_bool (by rw [HO.out, HBare.out]; rfl), hB2⟩
  have HBare : Hid (Gate.bareOf 3 ls ms ws.length to rl wg = true) := hbare
  clear hbare
  by_cases hsnd : Gate.soundOf ss ⟨nm, 3, ls, ms, ws, to, rl, mu, fx, df, wg⟩ = true
  rotate_left
  · have HSnd : Hid (Gate.soundOf ss ⟨nm, 3, ls, ms, ws, to, rl, mu, fx, df, wg⟩ = false) := by simpa [Hid] using hsnd
    clear hsnd hm3
    go_enter Tryz.func104, Tryz.ntmps104
    go_wp2_with fail
    refine (kind3_any _ _ _ _ _ _ _ _ _ _ _ _ _ _).mono ?_
    rintro e w1 ⟨rfl, hb1⟩
    have hX1 := box_later (box_new w _ _) (by simp) hb1
    have hz1 : w.heap.size < w1.heap.size := by have := hb1.size; simp at this; omega
    have hB1 : Below w.heap.size w w1 := ((Below.refl _ _).alloc (Nat.le_refl _) _).trans (hb1.mono (by simp))
    clear hb1 hlk
    go_wp2_with fail
    refine (as_bool HBare.out (textBare_any _ _ _ _ _ _ _ _ _ _ _ _ _ _)).mono ?_
    rintro e w2 ⟨rfl, hb2⟩
    have hX2 := box_later hX1 hz1 hb2
    have hz2 : w.heap.size < w2.heap.size := by have := hb2.size; omega
    have hB2 : Below w.heap.size w w2 := hB1.trans (hb2.mono (by omega))
    clear hb2 hX1 hz1 hB1
    go_wp2_with fail
    refine (as_bool HSnd.out (textSound_any _ _ _ _ _ _ _ _ _ _ _ _ _ _ _ _)).mono ?_
    rintro e w3 ⟨rfl, hb3⟩
    have hX3 := box_later hX2 hz2 hb3
    have hz3 : w.heap.size < w3.heap.size := by have := hb3.size; omega
    have hB3 : Below w.heap.size w w3 := hB2.trans (hb3.mono (by omega))
    clear hb3 hX2 hz2 hB2
    go_wp2_with fail
    go_ret
    exact ⟨ret_bool (by rw [HO.out, HBare.out, HSnd.out]; rfl), hB3⟩
  have HSnd : Hid (Gate.soundOf ss ⟨nm, 3, ls, ms, ws, to, rl, mu, fx, df, wg⟩ = true) := hsnd
  clear hsnd
  by_cases hd : df.toList.isEmpty = true
  · have HD : Hid (df.toList.isEmpty = true) := hd
    go_enter Tryz.func104, Tryz.ntmps104
    go_wp2_with fail
    refine (kind3_any _ _ _ _ _ _ _ _ _ _ _ _ _ _).mono ?_
    rintro e w1 ⟨rfl, hb1⟩
    have hX1 := box_later (box_new w _ _) (by simp) hb1
    have hz1 : w.heap.size < w1.heap.size := by have := hb1.size; simp at this; omega
    have hB1 : Below w.heap.size w w1 := ((Below.refl _ _).alloc (Nat.le_refl _) _).trans (hb1.mono (by simp))
    clear hb1 hlk
    go_wp2_with fail
    refine (as_bool HBare.out (textBare_any _ _ _ _ _ _ _ _ _ _ _ _ _ _)).mono ?_
    rintro e w2 ⟨rfl, hb2⟩
    have hX2 := box_later hX1 hz1 hb2
    have hz2 : w.heap.size < w2.heap.size := by have := hb2.size; omega
    have hB2 : Below w.heap.size w w2 := hB1.trans (hb2.mono (by omega))
    clear hb2 hX1 hz1 hB1
    go_wp2_with fail
    refine (as_bool HSnd.out (textSound_any _ _ _ _ _ _ _ _ _ _ _ _ _ _ _ _)).mono ?_
    rintro e w3 ⟨rfl, hb3⟩
    have hX3 := box_later hX2 hz2 hb3
    have hz3 : w.heap.size < w3.heap.size := by have := hb3.size; omega
    have hB3 : Below w.heap.size w w3 := hB2.trans (hb3.mono (by omega))
    clear hb3 hX2 hz2 hB2
    go_wp2_with fail
    go_ret
    exact ⟨ret_bool (by rw [HO.out, HBare.out, HSnd.out, HD.out]; rfl), hB3⟩
  · have hd' : df.toList.isEmpty = false := by simpa using hd
    have HD : Hid (df.toList.isEmpty = false) := hd'
    have HZ : Hid (Gate.fits 3 ls ms ws df = Gate.textFits ls ms df) := Gate.fits_3 ls ms ws df (by intro h; rw [Gate.isEmpty_of_size] at hd'; simp [h] at hd')
    clear hd
    go_enter Tryz.func104, Tryz.ntmps104
    go_wp2_with fail
    refine (kind3_any _ _ _ _ _ _ _ _ _ _ _ _ _ _).mono ?_
    rintro e w1 ⟨rfl, hb1⟩
    have hX1 := box_later (box_new w _ _) (by simp) hb1
    have hz1 : w.heap.size < w1.heap.size := by have := hb1.size; simp at this; omega
    have hB1 : Below w.heap.size w w1 := ((Below.refl _ _).alloc (Nat.le_refl _) _).trans (hb1.mono (by simp))
    clear hb1 hlk
    go_wp2_with fail
    refine (as_bool HBare.out (textBare_any _ _ _ _ _ _ _ _ _ _ _ _ _ _)).mono ?_
    rintro e w2 ⟨rfl, hb2⟩
    have hX2 := box_later hX1 hz1 hb2
    have hz2 : w.heap.size < w2.heap.size := by have := hb2.size; omega
    have hB2 : Below w.heap.size w w2 := hB1.trans (hb2.mono (by omega))
    clear hb2 hX1 hz1 hB1
    go_wp2_with fail
    refine (as_bool HSnd.out (textSound_any _ _ _ _ _ _ _ _ _ _ _ _ _ _ _ _)).mono ?_
    rintro e w3 ⟨rfl, hb3⟩
    have hX3 := box_later hX2 hz2 hb3
    have hz3 : w.heap.size < w3.heap.size := by have := hb3.size; omega
    have hB3 : Below w.heap.size w w3 := hB2.trans (hb3.mono (by omega))
    clear hb3 hX2 hz2 hB2
    go_wp2_with fail
    refine (textFits_any _ _ _ _ _ _ _ _ _ _ _ _ _ hdf).mono ?_
    rintro e w4 ⟨rfl, hb4⟩
    have hB4 : Below w.heap.size w w4 := hB3.trans (hb4.mono (by omega))
    clear hb4
    go_wp2_with fail
    go_ret
    exact ⟨ret_bool (by rw [HO.out, HBare.out, HSnd.out, HD.out, HZ.out]; rfl), hB4⟩

set_option maxHeartbeats 1000000 in
theorem fieldOk_4 (r : Nat) (nm : ByteArray) (ls ms : Int) (a : Option Addr) (cap : Nat) (ws : List ByteArray) (to : ByteArray) (rl : Int) (mu fx : Bool) (df wg : ByteArray) (a0 : Option Addr) (cap0 : Nat) (ss : List Shp) (w : World) (hr : w.heap[r]? = some (.map kindEs 4)) (hdf : df.size ≤ maxLen) (hss : ShpsAt w a0 ss) :
    Calls Tryz.prog 104 #[.map (some r), .slice a0 ss.length cap0, .agg #[.string nm, .int .i64 4, .int .i64 ls, .int .i64 ms, .slice a ws.length cap, .string to, .int .i64 rl, .bool mu, .bool fx, .string df, .string wg]] w
      fun e w' => e = .returned (.bool (Gate.fieldOk ss ⟨nm, 4, ls, ms, ws, to, rl, mu, fx, df, wg⟩)) ∧ Below w.heap.size w w' := by
  have HO : Hid (Gate.fieldOk ss ⟨nm, 4, ls, ms, ws, to, rl, mu, fx, df, wg⟩ = (Gate.bareOf 4 ls ms ws.length to rl wg && Gate.soundOf ss ⟨nm, 4, ls, ms, ws, to, rl, mu, fx, df, wg⟩ && (df.toList.isEmpty || Gate.fits 4 ls ms ws df))) := rfl
  have hlt : r < w.heap.size := (Array.getElem?_eq_some_iff.1 hr).1
  have hlk : ∀ o, (Instr.lookup 111 (.map (some r)) (.int .i64 4) true).run Tryz.prog (w.alloc o) = .ok (.tuple #[.func (.func 89) #[] #[], .bool true]) (w.alloc o) :=
    fun o => run_lookup_hit Tryz.underlying111 Tryz.underlying3 (.int .i64 4) _ rfl kindEs 4 3 rfl (w.alloc o) r ((Below.heap_alloc w o r hlt).trans hr)
  clear hr
  have hm1 := method_bare4
  have hm2 := method_sound4
  have hm3 := method_fits4
  by_cases hbare : Gate.bareOf 4 ls ms ws.length to rl wg = true
  rotate_left
  · have HBare : Hid (Gate.bareOf 4 ls ms ws.length to rl wg = false) := by simpa [Hid] using hbare
    clear hbare hm2 hm3
    go_enter Tryz.func104, Tryz.ntmps104
    go_wp2_with fail
    refine (kind4_any _ _ _ _ _ _ _ _ _ _ _ _ _ _).mono ?_
    rintro e w1 ⟨rfl, hb1⟩
    have hX1 := box_later (box_new w _ _) (by simp) hb1
    have hz1 : w.heap.size < w1.heap.size := by have := hb1.size; simp at this; omega
    have hB1 : Below w.heap.size w w1 := ((Below.refl _ _).alloc (Nat.le_refl _) _).trans (hb1.mono (by simp))
    clear hb1 hlk
    go_wp2_with fail
    refine (as_bool HBare.out (linkBare_any _ _ _ _ _ _ _ _ _ _ _ _ _ _)).mono ?_
    rintro e w2 ⟨rfl, hb2⟩
    have hX2 := box_later hX1 hz1 hb2
    have hz2 : w.heap.size < w2.heap.size := by have := hb2.size; omega
    have hB2 : Below w.heap.size w w2 := hB1.trans (hb2.mono (by omega))
    clear hb2 hX1 hz1 hB1
    go_wp2_with fail
    go_ret
    exact ⟨ret_bool (by rw [HO.out, HBare.out]; rfl), hB2⟩
  have HBare : Hid (Gate.bareOf 4 ls ms ws.length to rl wg = true) := hbare
  clear hbare
  by_cases hsnd : Gate.soundOf ss ⟨nm, 4, ls, ms, ws, to, rl, mu, fx, df, wg⟩ = true
  rotate_left
  · have HSnd : Hid (Gate.soundOf ss ⟨nm, 4, ls, ms, ws, to, rl, mu, fx, df, wg⟩ = false) := by simpa [Hid] using hsnd
    clear hsnd hm3
    go_enter Tryz.func104, Tryz.ntmps104
    go_wp2_with fail
    refine (kind4_any _ _ _ _ _ _ _ _ _ _ _ _ _ _).mono ?_
    rintro e w1 ⟨rfl, hb1⟩
    have hX1 := box_later (box_new w _ _) (by simp) hb1
    have hz1 : w.heap.size < w1.heap.size := by have := hb1.size; simp at this; omega
    have hB1 : Below w.heap.size w w1 := ((Below.refl _ _).alloc (Nat.le_refl _) _).trans (hb1.mono (by simp))
    clear hb1 hlk
    go_wp2_with fail
    refine (as_bool HBare.out (linkBare_any _ _ _ _ _ _ _ _ _ _ _ _ _ _)).mono ?_
    rintro e w2 ⟨rfl, hb2⟩
    have hX2 := box_later hX1 hz1 hb2
    have hz2 : w.heap.size < w2.heap.size := by have := hb2.size; omega
    have hB2 : Below w.heap.size w w2 := hB1.trans (hb2.mono (by omega))
    clear hb2 hX1 hz1 hB1
    go_wp2_with fail
    refine (as_bool HSnd.out (linkSound_any _ _ _ _ _ _ _ _ _ _ _ _ _ _ _ _ (by exact hss.mono hB2))).mono ?_
    rintro e w3 ⟨rfl, hb3⟩
    have hX3 := box_later hX2 hz2 hb3
    have hz3 : w.heap.size < w3.heap.size := by have := hb3.size; omega
    have hB3 : Below w.heap.size w w3 := hB2.trans (hb3.mono (by omega))
    clear hb3 hX2 hz2 hB2
    go_wp2_with fail
    go_ret
    exact ⟨ret_bool (by rw [HO.out, HBare.out, HSnd.out]; rfl), hB3⟩
  have HSnd : Hid (Gate.soundOf ss ⟨nm, 4, ls, ms, ws, to, rl, mu, fx, df, wg⟩ = true) := hsnd
  clear hsnd
  by_cases hd : df.toList.isEmpty = true
  · have HD : Hid (df.toList.isEmpty = true) := hd
    go_enter Tryz.func104, Tryz.ntmps104
    go_wp2_with fail
    refine (kind4_any _ _ _ _ _ _ _ _ _ _ _ _ _ _).mono ?_
    rintro e w1 ⟨rfl, hb1⟩
    have hX1 := box_later (box_new w _ _) (by simp) hb1
    have hz1 : w.heap.size < w1.heap.size := by have := hb1.size; simp at this; omega
    have hB1 : Below w.heap.size w w1 := ((Below.refl _ _).alloc (Nat.le_refl _) _).trans (hb1.mono (by simp))
    clear hb1 hlk
    go_wp2_with fail
    refine (as_bool HBare.out (linkBare_any _ _ _ _ _ _ _ _ _ _ _ _ _ _)).mono ?_
    rintro e w2 ⟨rfl, hb2⟩
    have hX2 := box_later hX1 hz1 hb2
    have hz2 : w.heap.size < w2.heap.size := by have := hb2.size; omega
    have hB2 : Below w.heap.size w w2 := hB1.trans (hb2.mono (by omega))
    clear hb2 hX1 hz1 hB1
    go_wp2_with fail
    refine (as_bool HSnd.out (linkSound_any _ _ _ _ _ _ _ _ _ _ _ _ _ _ _ _ (by exact hss.mono hB2))).mono ?_
    rintro e w3 ⟨rfl, hb3⟩
    have hX3 := box_later hX2 hz2 hb3
    have hz3 : w.heap.size < w3.heap.size := by have := hb3.size; omega
    have hB3 : Below w.heap.size w w3 := hB2.trans (hb3.mono (by omega))
    clear hb3 hX2 hz2 hB2
    go_wp2_with fail
    go_ret
    exact ⟨ret_bool (by rw [HO.out, HBare.out, HSnd.out, HD.out]; rfl), hB3⟩
  · have hd' : df.toList.isEmpty = false := by simpa using hd
    have HD : Hid (df.toList.isEmpty = false) := hd'
    have HZ : Hid (Gate.fits 4 ls ms ws df = Gate.nameOk df) := Gate.fits_4 ls ms ws df (by intro h; rw [Gate.isEmpty_of_size] at hd'; simp [h] at hd')
    clear hd
    go_enter Tryz.func104, Tryz.ntmps104
    go_wp2_with fail
    refine (kind4_any _ _ _ _ _ _ _ _ _ _ _ _ _ _).mono ?_
    rintro e w1 ⟨rfl, hb1⟩
    have hX1 := box_later (box_new w _ _) (by simp) hb1
    have hz1 : w.heap.size < w1.heap.size := by have := hb1.size; simp at this; omega
    have hB1 : Below w.heap.size w w1 := ((Below.refl _ _).alloc (Nat.le_refl _) _).trans (hb1.mono (by simp))
    clear hb1 hlk
    go_wp2_with fail
    refine (as_bool HBare.out (linkBare_any _ _ _ _ _ _ _ _ _ _ _ _ _ _)).mono ?_
    rintro e w2 ⟨rfl, hb2⟩
    have hX2 := box_later hX1 hz1 hb2
    have hz2 : w.heap.size < w2.heap.size := by have := hb2.size; omega
    have hB2 : Below w.heap.size w w2 := hB1.trans (hb2.mono (by omega))
    clear hb2 hX1 hz1 hB1
    go_wp2_with fail
    refine (as_bool HSnd.out (linkSound_any _ _ _ _ _ _ _ _ _ _ _ _ _ _ _ _ (by exact hss.mono hB2))).mono ?_
    rintro e w3 ⟨rfl, hb3⟩
    have hX3 := box_later hX2 hz2 hb3
    have hz3 : w.heap.size < w3.heap.size := by have := hb3.size; omega
    have hB3 : Below w.heap.size w w3 := hB2.trans (hb3.mono (by omega))
    clear hb3 hX2 hz2 hB2
    go_wp2_with fail
    refine (linkFits_any _ _ _ _ _ _ _ _ _ _ _ _ _ hdf).mono ?_
    rintro e w4 ⟨rfl, hb4⟩
    have hB4 : Below w.heap.size w w4 := hB3.trans (hb4.mono (by omega))
    clear hb4
    go_wp2_with fail
    go_ret
    exact ⟨ret_bool (by rw [HO.out, HBare.out, HSnd.out, HD.out, HZ.out]; rfl), hB4⟩

set_option maxHeartbeats 400000 in
theorem fieldOk_other (r : Nat) (nm : ByteArray) (kd ls ms : Int) (a : Option Addr) (cap : Nat) (ws : List ByteArray) (to : ByteArray) (rl : Int) (mu fx : Bool) (df wg : ByteArray) (a0 : Option Addr) (cap0 : Nat) (ss : List Shp) (w : World) (hr : w.heap[r]? = some (.map kindEs 4)) (h1 : kd ≠ 1) (h2 : kd ≠ 2) (h3 : kd ≠ 3) (h4 : kd ≠ 4) :
    Calls Tryz.prog 104 #[.map (some r), .slice a0 ss.length cap0, .agg #[.string nm, .int .i64 kd, .int .i64 ls, .int .i64 ms, .slice a ws.length cap, .string to, .int .i64 rl, .bool mu, .bool fx, .string df, .string wg]] w
      fun e w' => e = .returned (.bool (Gate.fieldOk ss ⟨nm, kd, ls, ms, ws, to, rl, mu, fx, df, wg⟩)) ∧ Below w.heap.size w w' := by
  have HO : Hid (Gate.fieldOk ss ⟨nm, kd, ls, ms, ws, to, rl, mu, fx, df, wg⟩ = false) := by simp [Hid, Gate.fieldOk, Gate.bare, Gate.bareOf, h1, h2, h3, h4]
  have hlt : r < w.heap.size := (Array.getElem?_eq_some_iff.1 hr).1
  have hlk : ∀ o, (Instr.lookup 111 (.map (some r)) (.int .i64 kd) true).run Tryz.prog (w.alloc o) = .ok (.tuple #[.nilFunc, .bool false]) (w.alloc o) :=
    fun o => run_lookup_miss Tryz.underlying111 Tryz.underlying3 (.int .i64 kd) _ rfl kindEs 4 (kind_find kd h1 h2 h3 h4) (w.alloc o) (kind_zero _) r ((Below.heap_alloc w o r hlt).trans hr)
  clear hr h1 h2 h3 h4
  go_enter Tryz.func104, Tryz.ntmps104
  go_wp2_with fail
  go_ret
  exact ⟨ret_bool HO.out.symm, (Below.refl _ _).alloc (Nat.le_refl _) _⟩

theorem fieldOk_any (r : Nat) (nm : ByteArray) (kd ls ms : Int) (a : Option Addr) (cap : Nat) (ws : List ByteArray) (to : ByteArray) (rl : Int) (mu fx : Bool) (df wg : ByteArray) (a0 : Option Addr) (cap0 : Nat) (ss : List Shp) (w : World) (hr : w.heap[r]? = some (.map kindEs 4)) (hdf : df.size ≤ maxLen) (hwg : wg.size ≤ maxLen) (hws : StrsAt w a ws) (hss : ShpsAt w a0 ss) :
    Calls Tryz.prog 104 #[.map (some r), .slice a0 ss.length cap0, .agg #[.string nm, .int .i64 kd, .int .i64 ls, .int .i64 ms, .slice a ws.length cap, .string to, .int .i64 rl, .bool mu, .bool fx, .string df, .string wg]] w
      fun e w' => e = .returned (.bool (Gate.fieldOk ss ⟨nm, kd, ls, ms, ws, to, rl, mu, fx, df, wg⟩)) ∧ Below w.heap.size w w' := by
  by_cases h1 : kd = 1
  · subst h1; exact fieldOk_1 r nm ls ms a cap ws to rl mu fx df wg a0 cap0 ss w hr hdf hwg
  by_cases h2 : kd = 2
  · subst h2; exact fieldOk_2 r nm ls ms a cap ws to rl mu fx df wg a0 cap0 ss w hr hws
  by_cases h3 : kd = 3
  · subst h3; exact fieldOk_3 r nm ls ms a cap ws to rl mu fx df wg a0 cap0 ss w hr hdf
  by_cases h4 : kd = 4
  · subst h4; exact fieldOk_4 r nm ls ms a cap ws to rl mu fx df wg a0 cap0 ss w hr hdf hss
  exact fieldOk_other r nm kd ls ms a cap ws to rl mu fx df wg a0 cap0 ss w hr h1 h2 h3 h4

end Go.Proofs.YtpmlngcljbkchaaGreat
