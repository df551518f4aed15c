import Derived.Test.YtmfgjafdnopfbaaGreatM15
import Derived.Test.YtmfgjafdnopfbaaGreatM12
namespace Go.Proofs.YtmfgjafdnopfbaaGreat
open Go.RowKit
theorem zfT (x : Value) (w : World) : (method 288 77 x "loop.example/wharfgate/impl.bare").run Tryz.prog w = .ok (109, x) w := by kernel_rfl
theorem zeW (x : Value) (w : World) : (method 288 77 x "loop.example/wharfgate/impl.sound").run Tryz.prog w = .ok (111, x) w := by kernel_rfl
theorem zfv (x : Value) (w : World) : (method 288 79 x "loop.example/wharfgate/impl.bare").run Tryz.prog w = .ok (114, x) w := by kernel_rfl
theorem zeM (x : Value) (w : World) : (method 288 79 x "loop.example/wharfgate/impl.sound").run Tryz.prog w = .ok (116, x) w := by kernel_rfl
theorem zfZ (x : Value) (w : World) : (method 288 80 x "loop.example/wharfgate/impl.bare").run Tryz.prog w = .ok (120, x) w := by kernel_rfl
theorem zeL (x : Value) (w : World) : (method 288 80 x "loop.example/wharfgate/impl.sound").run Tryz.prog w = .ok (122, x) w := by kernel_rfl
theorem zfS (x : Value) (w : World) : (method 288 81 x "loop.example/wharfgate/impl.bare").run Tryz.prog w = .ok (123, x) w := by kernel_rfl
theorem ze0 (x : Value) (w : World) : (method 288 81 x "loop.example/wharfgate/impl.sound").run Tryz.prog w = .ok (125, x) w := by kernel_rfl
set_option maxHeartbeats 1000000 in
theorem zhM (r : Nat) (nm : ByteArray) (ls ms : Int) (a : Option Addr) (cap : Nat) (ws : List ByteArray) (to : ByteArray) (rl : Int) (mu fx : Bool) (df wg : ByteArray) (a0 : Option Addr) (cap0 : Nat) (ss : List Shp) (w : World) (hr : w.heap[r]? = some (.map yU 4)) (hdf : df.size <= maxLen) (hwg : wg.size <= maxLen) :
    Calls Tryz.prog 74 #[.map (some r), .slice a0 ss.length cap0, .agg #[.string nm, .int .i64 1, .int .i64 ls, .int .i64 ms, .slice a ws.length cap, .string to, .int .i64 rl, .bool mu, .bool fx, .string df, .string wg]] w
      fun e w' => e = .returned (.bool (Gate.yA ss ⟨nm, 1, ls, ms, ws, to, rl, mu, fx, df, wg⟩)) /\ Below w.heap.size w w' := by
  have HO : Hid (Gate.yA ss ⟨nm, 1, ls, ms, ws, to, rl, mu, fx, df, wg⟩ = (Gate.yP 1 ls ms ws.length to rl wg && Gate.zV ss ⟨nm, 1, ls, ms, ws, to, rl, mu, fx, df, wg⟩ && (df.toList.isEmpty || Gate.fits 1 ls ms ws df))) := rfl
  have hlt := (Array.getElem?_eq_some_iff.1 hr).1
  have hlk : ∀ o, (Instr.lookup 53 (.map (some r)) (.int .i64 1) true).run Tryz.prog (w.alloc o) = .ok (.tuple #[.func (.func 42) #[] #[], .bool true]) (w.alloc o) :=
    fun o => yT Tryz.underlying53 Tryz.underlying3 (.int .i64 1) _ rfl yU 4 0 rfl (w.alloc o) r ((Below.heap_alloc w o r hlt).trans hr)
  clear hr
  have hm1 := zfT
  have hm2 := zeW
  have hm3 := zdy
  by_cases hbare : Gate.yP 1 ls ms ws.length to rl wg = true
  rotate_left
  · have HBare : Hid (Gate.yP 1 ls ms ws.length to rl wg = false) := by simpa [Hid] using hbare
    clear hbare hm2 hm3
    go_enter Tryz.func74, Tryz.ntmps74
    go_wp2_with fail
    refine (zbB _ _ _ _ _ _ _ _ _ _ _ _ _ _).mono ?_
    rintro e w1 ⟨rfl, hb1⟩
    have hX1 := ze (zo w _ _) (by simp) hb1
    have hz1 : w.heap.size < w1.heap.size := by have := hb1.size; simp at this; omega
    have hB1 := ((Below.refl _ _).alloc (Nat.le_refl _) _).trans (hb1.mono (by simp))
    clear hb1 hlk
    go_wp2_with fail
    refine (zl HBare.out (zan _ _ _ _ _ _ _ _ _ _ _ _ _ _)).mono ?_
    rintro e w2 ⟨rfl, hb2⟩
    have hX2 := ze hX1 hz1 hb2
    have hz2 : w.heap.size < w2.heap.size := by have := hb2.size; omega
    have hB2 := hB1.trans (hb2.mono (by omega))
    clear hb2 hX1 hz1 hB1
    go_wp2_with fail
    go_ret
    exact ⟨zh (by rw [HO.out, HBare.out]; rfl), hB2⟩
  have HBare := hid hbare
  clear hbare
  by_cases hsnd : Gate.zV ss ⟨nm, 1, ls, ms, ws, to, rl, mu, fx, df, wg⟩ = true
  rotate_left
  · have HSnd : Hid (Gate.zV ss ⟨nm, 1, ls, ms, ws, to, rl, mu, fx, df, wg⟩ = false) := by simpa [Hid] using hsnd
    clear hsnd hm3
    go_enter Tryz.func74, Tryz.ntmps74
    go_wp2_with fail
    refine (zbB _ _ _ _ _ _ _ _ _ _ _ _ _ _).mono ?_
    rintro e w1 ⟨rfl, hb1⟩
    have hX1 := ze (zo w _ _) (by simp) hb1
    have hz1 : w.heap.size < w1.heap.size := by have := hb1.size; simp at this; omega
    have hB1 := ((Below.refl _ _).alloc (Nat.le_refl _) _).trans (hb1.mono (by simp))
    clear hb1 hlk
    go_wp2_with fail
    refine (zl HBare.out (zan _ _ _ _ _ _ _ _ _ _ _ _ _ _)).mono ?_
    rintro e w2 ⟨rfl, hb2⟩
    have hX2 := ze hX1 hz1 hb2
    have hz2 : w.heap.size < w2.heap.size := by have := hb2.size; omega
    have hB2 := hB1.trans (hb2.mono (by omega))
    clear hb2 hX1 hz1 hB1
    go_wp2_with fail
    refine (zl HSnd.out (zaT _ _ _ _ _ _ _ _ _ _ _ _ _ _ _ _ hwg)).mono ?_
    rintro e w3 ⟨rfl, hb3⟩
    have hX3 := ze hX2 hz2 hb3
    have hz3 : w.heap.size < w3.heap.size := by have := hb3.size; omega
    have hB3 := hB2.trans (hb3.mono (by omega))
    clear hb3 hX2 hz2 hB2
    go_wp2_with fail
    go_ret
    exact ⟨zh (by rw [HO.out, HBare.out, HSnd.out]; rfl), hB3⟩
  have HSnd := hid hsnd
  clear hsnd
  by_cases hd : df.toList.isEmpty = true
  · have HD := hid hd
    go_enter Tryz.func74, Tryz.ntmps74
    go_wp2_with fail
    refine (zbB _ _ _ _ _ _ _ _ _ _ _ _ _ _).mono ?_
    rintro e w1 ⟨rfl, hb1⟩
    have hX1 := ze (zo w _ _) (by simp) hb1
    have hz1 : w.heap.size < w1.heap.size := by have := hb1.size; simp at this; omega
    have hB1 := ((Below.refl _ _).alloc (Nat.le_refl _) _).trans (hb1.mono (by simp))
    clear hb1 hlk
    go_wp2_with fail
    refine (zl HBare.out (zan _ _ _ _ _ _ _ _ _ _ _ _ _ _)).mono ?_
    rintro e w2 ⟨rfl, hb2⟩
    have hX2 := ze hX1 hz1 hb2
    have hz2 : w.heap.size < w2.heap.size := by have := hb2.size; omega
    have hB2 := hB1.trans (hb2.mono (by omega))
    clear hb2 hX1 hz1 hB1
    go_wp2_with fail
    refine (zl HSnd.out (zaT _ _ _ _ _ _ _ _ _ _ _ _ _ _ _ _ hwg)).mono ?_
    rintro e w3 ⟨rfl, hb3⟩
    have hX3 := ze hX2 hz2 hb3
    have hz3 : w.heap.size < w3.heap.size := by have := hb3.size; omega
    have hB3 := hB2.trans (hb3.mono (by omega))
    clear hb3 hX2 hz2 hB2
    go_wp2_with fail
    go_ret
    exact ⟨zh (by rw [HO.out, HBare.out, HSnd.out, HD.out]; rfl), hB3⟩
  · have hd' : df.toList.isEmpty = false := by simpa using hd
    have HD := hid hd'
    have HZ := hid (Gate.zgX ls ms ws df (by intro h; rw [Gate.zW] at hd'; simp [h] at hd'))
    clear hd
    go_enter Tryz.func74, Tryz.ntmps74
    go_wp2_with fail
    refine (zbB _ _ _ _ _ _ _ _ _ _ _ _ _ _).mono ?_
    rintro e w1 ⟨rfl, hb1⟩
    have hX1 := ze (zo w _ _) (by simp) hb1
    have hz1 : w.heap.size < w1.heap.size := by have := hb1.size; simp at this; omega
    have hB1 := ((Below.refl _ _).alloc (Nat.le_refl _) _).trans (hb1.mono (by simp))
    clear hb1 hlk
    go_wp2_with fail
    refine (zl HBare.out (zan _ _ _ _ _ _ _ _ _ _ _ _ _ _)).mono ?_
    rintro e w2 ⟨rfl, hb2⟩
    have hX2 := ze hX1 hz1 hb2
    have hz2 : w.heap.size < w2.heap.size := by have := hb2.size; omega
    have hB2 := hB1.trans (hb2.mono (by omega))
    clear hb2 hX1 hz1 hB1
    go_wp2_with fail
    refine (zl HSnd.out (zaT _ _ _ _ _ _ _ _ _ _ _ _ _ _ _ _ hwg)).mono ?_
    rintro e w3 ⟨rfl, hb3⟩
    have hX3 := ze hX2 hz2 hb3
    have hz3 : w.heap.size < w3.heap.size := by have := hb3.size; omega
    have hB3 := hB2.trans (hb3.mono (by omega))
    clear hb3 hX2 hz2 hB2
    go_wp2_with fail
    refine (zcB _ _ _ _ _ _ _ _ _ _ _ _ _ hdf).mono ?_
    rintro e w4 ⟨rfl, hb4⟩
    have hB4 := hB3.trans (hb4.mono (by omega))
    clear hb4
    go_wp2_with fail
    go_ret
    exact ⟨zh (by rw [HO.out, HBare.out, HSnd.out, HD.out, HZ.out]; rfl), hB4⟩
set_option maxHeartbeats 1000000 in
theorem zhv (r : Nat) (nm : ByteArray) (ls ms : Int) (a : Option Addr) (cap : Nat) (ws : List ByteArray) (to : ByteArray) (rl : Int) (mu fx : Bool) (df wg : ByteArray) (a0 : Option Addr) (cap0 : Nat) (ss : List Shp) (w : World) (hr : w.heap[r]? = some (.map yU 4)) (hws : zZ w a ws) :
    Calls Tryz.prog 74 #[.map (some r), .slice a0 ss.length cap0, .agg #[.string nm, .int .i64 2, .int .i64 ls, .int .i64 ms, .slice a ws.length cap, .string to, .int .i64 rl, .bool mu, .bool fx, .string df, .string wg]] w
      fun e w' => e = .returned (.bool (Gate.yA ss ⟨nm, 2, ls, ms, ws, to, rl, mu, fx, df, wg⟩)) /\ Below w.heap.size w w' := by
  have HO : Hid (Gate.yA ss ⟨nm, 2, ls, ms, ws, to, rl, mu, fx, df, wg⟩ = (Gate.yP 2 ls ms ws.length to rl wg && Gate.zV ss ⟨nm, 2, ls, ms, ws, to, rl, mu, fx, df, wg⟩ && (df.toList.isEmpty || Gate.fits 2 ls ms ws df))) := rfl
  have hlt := (Array.getElem?_eq_some_iff.1 hr).1
  have hlk : ∀ o, (Instr.lookup 53 (.map (some r)) (.int .i64 2) true).run Tryz.prog (w.alloc o) = .ok (.tuple #[.func (.func 43) #[] #[], .bool true]) (w.alloc o) :=
    fun o => yT Tryz.underlying53 Tryz.underlying3 (.int .i64 2) _ rfl yU 4 1 rfl (w.alloc o) r ((Below.heap_alloc w o r hlt).trans hr)
  clear hr
  have hm1 := zfv
  have hm2 := zeM
  have hm3 := zdh
  by_cases hbare : Gate.yP 2 ls ms ws.length to rl wg = true
  rotate_left
  · have HBare : Hid (Gate.yP 2 ls ms ws.length to rl wg = false) := by simpa [Hid] using hbare
    clear hbare hm2 hm3
    go_enter Tryz.func74, Tryz.ntmps74
    go_wp2_with fail
    refine (zbP _ _ _ _ _ _ _ _ _ _ _ _ _ _).mono ?_
    rintro e w1 ⟨rfl, hb1⟩
    have hX1 := ze (zo w _ _) (by simp) hb1
    have hz1 : w.heap.size < w1.heap.size := by have := hb1.size; simp at this; omega
    have hB1 := ((Below.refl _ _).alloc (Nat.le_refl _) _).trans (hb1.mono (by simp))
    clear hb1 hlk
    go_wp2_with fail
    refine (zl HBare.out (zaZ _ _ _ _ _ _ _ _ _ _ _ _ _ _)).mono ?_
    rintro e w2 ⟨rfl, hb2⟩
    have hX2 := ze hX1 hz1 hb2
    have hz2 : w.heap.size < w2.heap.size := by have := hb2.size; omega
    have hB2 := hB1.trans (hb2.mono (by omega))
    clear hb2 hX1 hz1 hB1
    go_wp2_with fail
    go_ret
    exact ⟨zh (by rw [HO.out, HBare.out]; rfl), hB2⟩
  have HBare := hid hbare
  clear hbare
  by_cases hsnd : Gate.zV ss ⟨nm, 2, ls, ms, ws, to, rl, mu, fx, df, wg⟩ = true
  rotate_left
  · have HSnd : Hid (Gate.zV ss ⟨nm, 2, ls, ms, ws, to, rl, mu, fx, df, wg⟩ = false) := by simpa [Hid] using hsnd
    clear hsnd hm3
    go_enter Tryz.func74, Tryz.ntmps74
    go_wp2_with fail
    refine (zbP _ _ _ _ _ _ _ _ _ _ _ _ _ _).mono ?_
    rintro e w1 ⟨rfl, hb1⟩
    have hX1 := ze (zo w _ _) (by simp) hb1
    have hz1 : w.heap.size < w1.heap.size := by have := hb1.size; simp at this; omega
    have hB1 := ((Below.refl _ _).alloc (Nat.le_refl _) _).trans (hb1.mono (by simp))
    clear hb1 hlk
    go_wp2_with fail
    refine (zl HBare.out (zaZ _ _ _ _ _ _ _ _ _ _ _ _ _ _)).mono ?_
    rintro e w2 ⟨rfl, hb2⟩
    have hX2 := ze hX1 hz1 hb2
    have hz2 : w.heap.size < w2.heap.size := by have := hb2.size; omega
    have hB2 := hB1.trans (hb2.mono (by omega))
    clear hb2 hX1 hz1 hB1
    go_wp2_with fail
    refine (zl HSnd.out (zby _ _ _ _ _ _ _ _ _ _ _ _ _ _ _ _ (by exact hws.mono hB2))).mono ?_
    rintro e w3 ⟨rfl, hb3⟩
    have hX3 := ze hX2 hz2 hb3
    have hz3 : w.heap.size < w3.heap.size := by have := hb3.size; omega
    have hB3 := hB2.trans (hb3.mono (by omega))
    clear hb3 hX2 hz2 hB2
    go_wp2_with fail
    go_ret
    exact ⟨zh (by rw [HO.out, HBare.out, HSnd.out]; rfl), hB3⟩
  have HSnd := hid hsnd
  clear hsnd
  by_cases hd : df.toList.isEmpty = true
  · have HD := hid hd
    go_enter Tryz.func74, Tryz.ntmps74
    go_wp2_with fail
    refine (zbP _ _ _ _ _ _ _ _ _ _ _ _ _ _).mono ?_
    rintro e w1 ⟨rfl, hb1⟩
    have hX1 := ze (zo w _ _) (by simp) hb1
    have hz1 : w.heap.size < w1.heap.size := by have := hb1.size; simp at this; omega
    have hB1 := ((Below.refl _ _).alloc (Nat.le_refl _) _).trans (hb1.mono (by simp))
    clear hb1 hlk
    go_wp2_with fail
    refine (zl HBare.out (zaZ _ _ _ _ _ _ _ _ _ _ _ _ _ _)).mono ?_
    rintro e w2 ⟨rfl, hb2⟩
    have hX2 := ze hX1 hz1 hb2
    have hz2 : w.heap.size < w2.heap.size := by have := hb2.size; omega
    have hB2 := hB1.trans (hb2.mono (by omega))
    clear hb2 hX1 hz1 hB1
    go_wp2_with fail
    refine (zl HSnd.out (zby _ _ _ _ _ _ _ _ _ _ _ _ _ _ _ _ (by exact hws.mono hB2))).mono ?_
    rintro e w3 ⟨rfl, hb3⟩
    have hX3 := ze hX2 hz2 hb3
    have hz3 : w.heap.size < w3.heap.size := by have := hb3.size; omega
    have hB3 := hB2.trans (hb3.mono (by omega))
    clear hb3 hX2 hz2 hB2
    go_wp2_with fail
    go_ret
    exact ⟨zh (by rw [HO.out, HBare.out, HSnd.out, HD.out]; rfl), hB3⟩
  · have hd' : df.toList.isEmpty = false := by simpa using hd
    have HD := hid hd'
    have HZ := hid (Gate.zg5 ls ms ws df (by intro h; rw [Gate.zW] at hd'; simp [h] at hd'))
    clear hd
    go_enter Tryz.func74, Tryz.ntmps74
    go_wp2_with fail
    refine (zbP _ _ _ _ _ _ _ _ _ _ _ _ _ _).mono ?_
    rintro e w1 ⟨rfl, hb1⟩
    have hX1 := ze (zo w _ _) (by simp) hb1
    have hz1 : w.heap.size < w1.heap.size := by have := hb1.size; simp at this; omega
    have hB1 := ((Below.refl _ _).alloc (Nat.le_refl _) _).trans (hb1.mono (by simp))
    clear hb1 hlk
    go_wp2_with fail
    refine (zl HBare.out (zaZ _ _ _ _ _ _ _ _ _ _ _ _ _ _)).mono ?_
    rintro e w2 ⟨rfl, hb2⟩
    have hX2 := ze hX1 hz1 hb2
    have hz2 : w.heap.size < w2.heap.size := by have := hb2.size; omega
    have hB2 := hB1.trans (hb2.mono (by omega))
    clear hb2 hX1 hz1 hB1
    go_wp2_with fail
    refine (zl HSnd.out (zby _ _ _ _ _ _ _ _ _ _ _ _ _ _ _ _ (by exact hws.mono hB2))).mono ?_
    rintro e w3 ⟨rfl, hb3⟩
    have hX3 := ze hX2 hz2 hb3
    have hz3 : w.heap.size < w3.heap.size := by have := hb3.size; omega
    have hB3 := hB2.trans (hb3.mono (by omega))
    clear hb3 hX2 hz2 hB2
    go_wp2_with fail
    refine (zdz _ _ _ _ _ _ _ _ _ _ _ _ _ _ _ (by exact hws.mono hB3)).mono ?_
    rintro e w4 ⟨rfl, hb4⟩
    have hB4 := hB3.trans (hb4.mono (by omega))
    clear hb4
    go_wp2_with fail
    go_ret
    exact ⟨zh (by rw [HO.out, HBare.out, HSnd.out, HD.out, HZ.out]; rfl), hB4⟩
set_option maxHeartbeats 1000000 in
theorem zhB (r : Nat) (nm : ByteArray) (ls ms : Int) (a : Option Addr) (cap : Nat) (ws : List ByteArray) (to : ByteArray) (rl : Int) (mu fx : Bool) (df wg : ByteArray) (a0 : Option Addr) (cap0 : Nat) (ss : List Shp) (w : World) (hr : w.heap[r]? = some (.map yU 4)) (hdf : df.size <= maxLen) :
    Calls Tryz.prog 74 #[.map (some r), .slice a0 ss.length cap0, .agg #[.string nm, .int .i64 3, .int .i64 ls, .int .i64 ms, .slice a ws.length cap, .string to, .int .i64 rl, .bool mu, .bool fx, .string df, .string wg]] w
      fun e w' => e = .returned (.bool (Gate.yA ss ⟨nm, 3, ls, ms, ws, to, rl, mu, fx, df, wg⟩)) /\ Below w.heap.size w w' := by
  have HO : Hid (Gate.yA ss ⟨nm, 3, ls, ms, ws, to, rl, mu, fx, df, wg⟩ = (Gate.yP 3 ls ms ws.length to rl wg && Gate.zV ss ⟨nm, 3, ls, ms, ws, to, rl, mu, fx, df, wg⟩ && (df.toList.isEmpty || Gate.fits 3 ls ms ws df))) := rfl
  have hlt := (Array.getElem?_eq_some_iff.1 hr).1
  have hlk : ∀ o, (Instr.lookup 53 (.map (some r)) (.int .i64 3) true).run Tryz.prog (w.alloc o) = .ok (.tuple #[.func (.func 44) #[] #[], .bool true]) (w.alloc o) :=
    fun o => yT Tryz.underlying53 Tryz.underlying3 (.int .i64 3) _ rfl yU 4 2 rfl (w.alloc o) r ((Below.heap_alloc w o r hlt).trans hr)
  clear hr
  have hm1 := zfZ
  have hm2 := zeL
  have hm3 := zdw
  by_cases hbare : Gate.yP 3 ls ms ws.length to rl wg = true
  rotate_left
  · have HBare : Hid (Gate.yP 3 ls ms ws.length to rl wg = false) := by simpa [Hid] using hbare
    clear hbare hm2 hm3
    go_enter Tryz.func74, Tryz.ntmps74
    go_wp2_with fail
    refine (zbF _ _ _ _ _ _ _ _ _ _ _ _ _ _).mono ?_
    rintro e w1 ⟨rfl, hb1⟩
    have hX1 := ze (zo w _ _) (by simp) hb1
    have hz1 : w.heap.size < w1.heap.size := by have := hb1.size; simp at this; omega
    have hB1 := ((Below.refl _ _).alloc (Nat.le_refl _) _).trans (hb1.mono (by simp))
    clear hb1 hlk
    go_wp2_with fail
    refine (zl HBare.out (za3 _ _ _ _ _ _ _ _ _ _ _ _ _ _)).mono ?_
    rintro e w2 ⟨rfl, hb2⟩
    have hX2 := ze hX1 hz1 hb2
    have hz2 : w.heap.size < w2.heap.size := by have := hb2.size; omega
    have hB2 := hB1.trans (hb2.mono (by omega))
    clear hb2 hX1 hz1 hB1
    go_wp2_with fail
    go_ret
    exact ⟨zh (by rw [HO.out, HBare.out]; rfl), hB2⟩
  have HBare := hid hbare
  clear hbare
  by_cases hsnd : Gate.zV ss ⟨nm, 3, ls, ms, ws, to, rl, mu, fx, df, wg⟩ = true
  rotate_left
  · have HSnd : Hid (Gate.zV ss ⟨nm, 3, ls, ms, ws, to, rl, mu, fx, df, wg⟩ = false) := by simpa [Hid] using hsnd
    clear hsnd hm3
    go_enter Tryz.func74, Tryz.ntmps74
    go_wp2_with fail
    refine (zbF _ _ _ _ _ _ _ _ _ _ _ _ _ _).mono ?_
    rintro e w1 ⟨rfl, hb1⟩
    have hX1 := ze (zo w _ _) (by simp) hb1
    have hz1 : w.heap.size < w1.heap.size := by have := hb1.size; simp at this; omega
    have hB1 := ((Below.refl _ _).alloc (Nat.le_refl _) _).trans (hb1.mono (by simp))
    clear hb1 hlk
    go_wp2_with fail
    refine (zl HBare.out (za3 _ _ _ _ _ _ _ _ _ _ _ _ _ _)).mono ?_
    rintro e w2 ⟨rfl, hb2⟩
    have hX2 := ze hX1 hz1 hb2
    have hz2 : w.heap.size < w2.heap.size := by have := hb2.size; omega
    have hB2 := hB1.trans (hb2.mono (by omega))
    clear hb2 hX1 hz1 hB1
    go_wp2_with fail
    refine (zl HSnd.out (zbx _ _ _ _ _ _ _ _ _ _ _ _ _ _ _ _)).mono ?_
    rintro e w3 ⟨rfl, hb3⟩
    have hX3 := ze hX2 hz2 hb3
    have hz3 : w.heap.size < w3.heap.size := by have := hb3.size; omega
    have hB3 := hB2.trans (hb3.mono (by omega))
    clear hb3 hX2 hz2 hB2
    go_wp2_with fail
    go_ret
    exact ⟨zh (by rw [HO.out, HBare.out, HSnd.out]; rfl), hB3⟩
  have HSnd := hid hsnd
  clear hsnd
  by_cases hd : df.toList.isEmpty = true
  · have HD := hid hd
    go_enter Tryz.func74, Tryz.ntmps74
    go_wp2_with fail
    refine (zbF _ _ _ _ _ _ _ _ _ _ _ _ _ _).mono ?_
    rintro e w1 ⟨rfl, hb1⟩
    have hX1 := ze (zo w _ _) (by simp) hb1
    have hz1 : w.heap.size < w1.heap.size := by have := hb1.size; simp at this; omega
    have hB1 := ((Below.refl _ _).alloc (Nat.le_refl _) _).trans (hb1.mono (by simp))
    clear hb1 hlk
    go_wp2_with fail
    refine (zl HBare.out (za3 _ _ _ _ _ _ _ _ _ _ _ _ _ _)).mono ?_
    rintro e w2 ⟨rfl, hb2⟩
    have hX2 := ze hX1 hz1 hb2
    have hz2 : w.heap.size < w2.heap.size := by have := hb2.size; omega
    have hB2 := hB1.trans (hb2.mono (by omega))
    clear hb2 hX1 hz1 hB1
    go_wp2_with fail
    refine (zl HSnd.out (zbx _ _ _ _ _ _ _ _ _ _ _ _ _ _ _ _)).mono ?_
    rintro e w3 ⟨rfl, hb3⟩
    have hX3 := ze hX2 hz2 hb3
    have hz3 : w.heap.size < w3.heap.size := by have := hb3.size; omega
    have hB3 := hB2.trans (hb3.mono (by omega))
    clear hb3 hX2 hz2 hB2
    go_wp2_with fail
    go_ret
    exact ⟨zh (by rw [HO.out, HBare.out, HSnd.out, HD.out]; rfl), hB3⟩
  · have hd' : df.toList.isEmpty = false := by simpa using hd
    have HD := hid hd'
    have HZ := hid (Gate.zfu ls ms ws df (by intro h; rw [Gate.zW] at hd'; simp [h] at hd'))
    clear hd
    go_enter Tryz.func74, Tryz.ntmps74
    go_wp2_with fail
    refine (zbF _ _ _ _ _ _ _ _ _ _ _ _ _ _).mono ?_
    rintro e w1 ⟨rfl, hb1⟩
    have hX1 := ze (zo w _ _) (by simp) hb1
    have hz1 : w.heap.size < w1.heap.size := by have := hb1.size; simp at this; omega
    have hB1 := ((Below.refl _ _).alloc (Nat.le_refl _) _).trans (hb1.mono (by simp))
    clear hb1 hlk
    go_wp2_with fail
    refine (zl HBare.out (za3 _ _ _ _ _ _ _ _ _ _ _ _ _ _)).mono ?_
    rintro e w2 ⟨rfl, hb2⟩
    have hX2 := ze hX1 hz1 hb2
    have hz2 : w.heap.size < w2.heap.size := by have := hb2.size; omega
    have hB2 := hB1.trans (hb2.mono (by omega))
    clear hb2 hX1 hz1 hB1
    go_wp2_with fail
    refine (zl HSnd.out (zbx _ _ _ _ _ _ _ _ _ _ _ _ _ _ _ _)).mono ?_
    rintro e w3 ⟨rfl, hb3⟩
    have hX3 := ze hX2 hz2 hb3
    have hz3 : w.heap.size < w3.heap.size := by have := hb3.size; omega
    have hB3 := hB2.trans (hb3.mono (by omega))
    clear hb3 hX2 hz2 hB2
    go_wp2_with fail
    refine (zdp _ _ _ _ _ _ _ _ _ _ _ _ _ hdf).mono ?_
    rintro e w4 ⟨rfl, hb4⟩
    have hB4 := hB3.trans (hb4.mono (by omega))
    clear hb4
    go_wp2_with fail
    go_ret
    exact ⟨zh (by rw [HO.out, HBare.out, HSnd.out, HD.out, HZ.out]; rfl), hB4⟩
set_option maxHeartbeats 1000000 in
theorem zhr (r : Nat) (nm : ByteArray) (ls ms : Int) (a : Option Addr) (cap : Nat) (ws : List ByteArray) (to : ByteArray) (rl : Int) (mu fx : Bool) (df wg : ByteArray) (a0 : Option Addr) (cap0 : Nat) (ss : List Shp) (w : World) (hr : w.heap[r]? = some (.map yU 4)) (hdf : df.size <= maxLen) (hss : yG w a0 ss) :
    Calls Tryz.prog 74 #[.map (some r), .slice a0 ss.length cap0, .agg #[.string nm, .int .i64 4, .int .i64 ls, .int .i64 ms, .slice a ws.length cap, .string to, .int .i64 rl, .bool mu, .bool fx, .string df, .string wg]] w
      fun e w' => e = .returned (.bool (Gate.yA ss ⟨nm, 4, ls, ms, ws, to, rl, mu, fx, df, wg⟩)) /\ Below w.heap.size w w' := by
  have HO : Hid (Gate.yA ss ⟨nm, 4, ls, ms, ws, to, rl, mu, fx, df, wg⟩ = (Gate.yP 4 ls ms ws.length to rl wg && Gate.zV ss ⟨nm, 4, ls, ms, ws, to, rl, mu, fx, df, wg⟩ && (df.toList.isEmpty || Gate.fits 4 ls ms ws df))) := rfl
  have hlt := (Array.getElem?_eq_some_iff.1 hr).1
  have hlk : ∀ o, (Instr.lookup 53 (.map (some r)) (.int .i64 4) true).run Tryz.prog (w.alloc o) = .ok (.tuple #[.func (.func 45) #[] #[], .bool true]) (w.alloc o) :=
    fun o => yT Tryz.underlying53 Tryz.underlying3 (.int .i64 4) _ rfl yU 4 3 rfl (w.alloc o) r ((Below.heap_alloc w o r hlt).trans hr)
  clear hr
  have hm1 := zfS
  have hm2 := ze0
  have hm3 := zdo
  by_cases hbare : Gate.yP 4 ls ms ws.length to rl wg = true
  rotate_left
  · have HBare : Hid (Gate.yP 4 ls ms ws.length to rl wg = false) := by simpa [Hid] using hbare
    clear hbare hm2 hm3
    go_enter Tryz.func74, Tryz.ntmps74
    go_wp2_with fail
    refine (zbJ _ _ _ _ _ _ _ _ _ _ _ _ _ _).mono ?_
    rintro e w1 ⟨rfl, hb1⟩
    have hX1 := ze (zo w _ _) (by simp) hb1
    have hz1 : w.heap.size < w1.heap.size := by have := hb1.size; simp at this; omega
    have hB1 := ((Below.refl _ _).alloc (Nat.le_refl _) _).trans (hb1.mono (by simp))
    clear hb1 hlk
    go_wp2_with fail
    refine (zl HBare.out (za4 _ _ _ _ _ _ _ _ _ _ _ _ _ _)).mono ?_
    rintro e w2 ⟨rfl, hb2⟩
    have hX2 := ze hX1 hz1 hb2
    have hz2 : w.heap.size < w2.heap.size := by have := hb2.size; omega
    have hB2 := hB1.trans (hb2.mono (by omega))
    clear hb2 hX1 hz1 hB1
    go_wp2_with fail
    go_ret
    exact ⟨zh (by rw [HO.out, HBare.out]; rfl), hB2⟩
  have HBare := hid hbare
  clear hbare
  by_cases hsnd : Gate.zV ss ⟨nm, 4, ls, ms, ws, to, rl, mu, fx, df, wg⟩ = true
  rotate_left
  · have HSnd : Hid (Gate.zV ss ⟨nm, 4, ls, ms, ws, to, rl, mu, fx, df, wg⟩ = false) := by simpa [Hid] using hsnd
    clear hsnd hm3
    go_enter Tryz.func74, Tryz.ntmps74
    go_wp2_with fail
    refine (zbJ _ _ _ _ _ _ _ _ _ _ _ _ _ _).mono ?_
    rintro e w1 ⟨rfl, hb1⟩
    have hX1 := ze (zo w _ _) (by simp) hb1
    have hz1 : w.heap.size < w1.heap.size := by have := hb1.size; simp at this; omega
    have hB1 := ((Below.refl _ _).alloc (Nat.le_refl _) _).trans (hb1.mono (by simp))
    clear hb1 hlk
    go_wp2_with fail
    refine (zl HBare.out (za4 _ _ _ _ _ _ _ _ _ _ _ _ _ _)).mono ?_
    rintro e w2 ⟨rfl, hb2⟩
    have hX2 := ze hX1 hz1 hb2
    have hz2 : w.heap.size < w2.heap.size := by have := hb2.size; omega
    have hB2 := hB1.trans (hb2.mono (by omega))
    clear hb2 hX1 hz1 hB1
    go_wp2_with fail
    refine (zl HSnd.out (zbw _ _ _ _ _ _ _ _ _ _ _ _ _ _ _ _ (by exact hss.mono hB2))).mono ?_
    rintro e w3 ⟨rfl, hb3⟩
    have hX3 := ze hX2 hz2 hb3
    have hz3 : w.heap.size < w3.heap.size := by have := hb3.size; omega
    have hB3 := hB2.trans (hb3.mono (by omega))
    clear hb3 hX2 hz2 hB2
    go_wp2_with fail
    go_ret
    exact ⟨zh (by rw [HO.out, HBare.out, HSnd.out]; rfl), hB3⟩
  have HSnd := hid hsnd
  clear hsnd
  by_cases hd : df.toList.isEmpty = true
  · have HD := hid hd
    go_enter Tryz.func74, Tryz.ntmps74
    go_wp2_with fail
    refine (zbJ _ _ _ _ _ _ _ _ _ _ _ _ _ _).mono ?_
    rintro e w1 ⟨rfl, hb1⟩
    have hX1 := ze (zo w _ _) (by simp) hb1
    have hz1 : w.heap.size < w1.heap.size := by have := hb1.size; simp at this; omega
    have hB1 := ((Below.refl _ _).alloc (Nat.le_refl _) _).trans (hb1.mono (by simp))
    clear hb1 hlk
    go_wp2_with fail
    refine (zl HBare.out (za4 _ _ _ _ _ _ _ _ _ _ _ _ _ _)).mono ?_
    rintro e w2 ⟨rfl, hb2⟩
    have hX2 := ze hX1 hz1 hb2
    have hz2 : w.heap.size < w2.heap.size := by have := hb2.size; omega
    have hB2 := hB1.trans (hb2.mono (by omega))
    clear hb2 hX1 hz1 hB1
    go_wp2_with fail
    refine (zl HSnd.out (zbw _ _ _ _ _ _ _ _ _ _ _ _ _ _ _ _ (by exact hss.mono hB2))).mono ?_
    rintro e w3 ⟨rfl, hb3⟩
    have hX3 := ze hX2 hz2 hb3
    have hz3 : w.heap.size < w3.heap.size := by have := hb3.size; omega
    have hB3 := hB2.trans (hb3.mono (by omega))
    clear hb3 hX2 hz2 hB2
    go_wp2_with fail
    go_ret
    exact ⟨zh (by rw [HO.out, HBare.out, HSnd.out, HD.out]; rfl), hB3⟩
  · have hd' : df.toList.isEmpty = false := by simpa using hd
    have HD := hid hd'
    have HZ := hid (Gate.zgN ls ms ws df (by intro h; rw [Gate.zW] at hd'; simp [h] at hd'))
    clear hd
    go_enter Tryz.func74, Tryz.ntmps74
    go_wp2_with fail
    refine (zbJ _ _ _ _ _ _ _ _ _ _ _ _ _ _).mono ?_
    rintro e w1 ⟨rfl, hb1⟩
    have hX1 := ze (zo w _ _) (by simp) hb1
    have hz1 : w.heap.size < w1.heap.size := by have := hb1.size; simp at this; omega
    have hB1 := ((Below.refl _ _).alloc (Nat.le_refl _) _).trans (hb1.mono (by simp))
    clear hb1 hlk
    go_wp2_with fail
    refine (zl HBare.out (za4 _ _ _ _ _ _ _ _ _ _ _ _ _ _)).mono ?_
    rintro e w2 ⟨rfl, hb2⟩
    have hX2 := ze hX1 hz1 hb2
    have hz2 : w.heap.size < w2.heap.size := by have := hb2.size; omega
    have hB2 := hB1.trans (hb2.mono (by omega))
    clear hb2 hX1 hz1 hB1
    go_wp2_with fail
    refine (zl HSnd.out (zbw _ _ _ _ _ _ _ _ _ _ _ _ _ _ _ _ (by exact hss.mono hB2))).mono ?_
    rintro e w3 ⟨rfl, hb3⟩
    have hX3 := ze hX2 hz2 hb3
    have hz3 : w.heap.size < w3.heap.size := by have := hb3.size; omega
    have hB3 := hB2.trans (hb3.mono (by omega))
    clear hb3 hX2 hz2 hB2
    go_wp2_with fail
    refine (zdu _ _ _ _ _ _ _ _ _ _ _ _ _ hdf).mono ?_
    rintro e w4 ⟨rfl, hb4⟩
    have hB4 := hB3.trans (hb4.mono (by omega))
    clear hb4
    go_wp2_with fail
    go_ret
    exact ⟨zh (by rw [HO.out, HBare.out, HSnd.out, HD.out, HZ.out]; rfl), hB4⟩
set_option maxHeartbeats 400000 in
theorem zeN (r : Nat) (nm : ByteArray) (kd ls ms : Int) (a : Option Addr) (cap : Nat) (ws : List ByteArray) (to : ByteArray) (rl : Int) (mu fx : Bool) (df wg : ByteArray) (a0 : Option Addr) (cap0 : Nat) (ss : List Shp) (w : World) (hr : w.heap[r]? = some (.map yU 4)) (h1 : kd ≠ 1) (h2 : kd ≠ 2) (h3 : kd ≠ 3) (h4 : kd ≠ 4) :
    Calls Tryz.prog 74 #[.map (some r), .slice a0 ss.length cap0, .agg #[.string nm, .int .i64 kd, .int .i64 ls, .int .i64 ms, .slice a ws.length cap, .string to, .int .i64 rl, .bool mu, .bool fx, .string df, .string wg]] w
      fun e w' => e = .returned (.bool (Gate.yA ss ⟨nm, kd, ls, ms, ws, to, rl, mu, fx, df, wg⟩)) /\ Below w.heap.size w w' := by
  have HO : Hid (Gate.yA ss ⟨nm, kd, ls, ms, ws, to, rl, mu, fx, df, wg⟩ = false) := by simp [Hid, Gate.yA, Gate.bare, Gate.yP, h1, h2, h3, h4]
  have hlt := (Array.getElem?_eq_some_iff.1 hr).1
  have hlk : ∀ o, (Instr.lookup 53 (.map (some r)) (.int .i64 kd) true).run Tryz.prog (w.alloc o) = .ok (.tuple #[.nilFunc, .bool false]) (w.alloc o) :=
    fun o => zaQ Tryz.underlying53 Tryz.underlying3 (.int .i64 kd) _ rfl yU 4 (zfm kd h1 h2 h3 h4) (w.alloc o) (ze5 _) r ((Below.heap_alloc w o r hlt).trans hr)
  clear hr h1 h2 h3 h4
  go_enter Tryz.func74, Tryz.ntmps74
  go_wp2_with fail
  go_ret
  exact ⟨zh HO.out.symm, (Below.refl _ _).alloc (Nat.le_refl _) _⟩
theorem zgs (r : Nat) (nm : ByteArray) (kd ls ms : Int) (a : Option Addr) (cap : Nat) (ws : List ByteArray) (to : ByteArray) (rl : Int) (mu fx : Bool) (df wg : ByteArray) (a0 : Option Addr) (cap0 : Nat) (ss : List Shp) (w : World) (hr : w.heap[r]? = some (.map yU 4)) (hdf : df.size <= maxLen) (hwg : wg.size <= maxLen) (hws : zZ w a ws) (hss : yG w a0 ss) :
    Calls Tryz.prog 74 #[.map (some r), .slice a0 ss.length cap0, .agg #[.string nm, .int .i64 kd, .int .i64 ls, .int .i64 ms, .slice a ws.length cap, .string to, .int .i64 rl, .bool mu, .bool fx, .string df, .string wg]] w
      fun e w' => e = .returned (.bool (Gate.yA ss ⟨nm, kd, ls, ms, ws, to, rl, mu, fx, df, wg⟩)) /\ Below w.heap.size w w' := by
  by_cases h1 : kd = 1
  · subst h1; exact zhM r nm ls ms a cap ws to rl mu fx df wg a0 cap0 ss w hr hdf hwg
  by_cases h2 : kd = 2
  · subst h2; exact zhv r nm ls ms a cap ws to rl mu fx df wg a0 cap0 ss w hr hws
  by_cases h3 : kd = 3
  · subst h3; exact zhB r nm ls ms a cap ws to rl mu fx df wg a0 cap0 ss w hr hdf
  by_cases h4 : kd = 4
  · subst h4; exact zhr r nm ls ms a cap ws to rl mu fx df wg a0 cap0 ss w hr hdf hss
  exact zeN r nm kd ls ms a cap ws to rl mu fx df wg a0 cap0 ss w hr h1 h2 h3 h4
end Go.Proofs.YtmfgjafdnopfbaaGreat
