import Derived.Test.YtnbpglbbjnkhpaaGreatM07
import Derived.Test.YtnbpglbbjnkhpaaGreatM10
import Derived.Test.YtnbpglbbjnkhpaaGreatM04
import Derived.Test.YtnbpglbbjnkhpaaGreatM08
namespace Go.Proofs.YtnbpglbbjnkhpaaGreat
open Go.RowKit
set_option maxHeartbeats 400000 in
theorem zmu (a : Option Addr) (cap : Nat) (ws : List ByteArray) (v : ByteArray) (w : World) (hw : zD w a ws) :
    Calls Tryz.prog 224 #[.slice a ws.length cap, .string v] w fun e w' => ∃ r : Int, e = .returned (.int .i64 r) /\ decide (0 <= r) = Gate.has ws v /\ w' = w := by
  have hl := hw.len
  unfold maxLen at hl
  by_cases hne : ws = []
  · subst hne
    go_enter Tryz.func224, Tryz.ntmps224
    go_wp2
    go_loop [8] (fun i => i = .int .i64 0) (fun i => 0)
    case atStart => rfl
    case round =>
      subst hrel
      go_wp2
      go_ret
      exact ⟨_, rfl, rfl, rfl⟩
  · obtain ⟨b, off, rfl, hb, hc⟩ := hw.cells hne
    clear hw
    have HL : Hid (0 < ws.length) := List.length_pos_iff.2 hne
    clear hne
    go_enter Tryz.func224, Tryz.ntmps224
    go_wp2
    go_loop [8] (fun i => ∃ k : Nat, k <= ws.length /\ i = .int .i64 k /\ Gate.has (ws.take k) v = false) (fun i => ws.length - (intOf i).toNat)
    case atStart => exact ⟨0, Nat.zero_le _, rfl, rfl⟩
    case round =>
      obtain ⟨k, hk, rfl, hall⟩ := hrel
      by_cases hlt : k < ws.length
      · have hck := hc k hlt
        clear hc
        have HS : Hid (Gate.has (ws.take (k + 1)) v = (false || decide (ws[k] = v))) := by rw [Gate.zj6 ws v k hlt, hall]; rfl
        have HN : Hid (ws[k] = v -> Gate.has ws v = true) := fun h => Gate.znu ws v k hlt h
        clear hall
        by_cases he : ws[k] = v
        · have hbe : (v.toList == ws[k].toList) = true := by rw [Gate.beq_toList]; simpa using he.symm
          have HE : Hid (ws[k] = v) := he
          clear he
          go_wp2
          go_ret
          exact ⟨_, rfl, by rw [HN.out HE.out]; simp, rfl⟩
        · have hbe : (v.toList == ws[k].toList) = false := by rw [Gate.beq_toList]; simpa using fun h => he h.symm
          have HE : Hid (¬ ws[k] = v) := he
          clear he
          go_wp2
          go_round
          case rel => exact ⟨k + 1, by omega, by go_num, by rw [HS.out, decide_eq_false HE.out]; rfl⟩
          case measure => simp [intOf]; omega
      · have HA : Hid (Gate.has ws v = false) := by rw [<- Gate.zmc ws v k (by omega)]; exact hall
        clear hall hc
        go_wp2
        go_ret
        exact ⟨_, rfl, by rw [HA.out]; rfl, rfl⟩
set_option maxHeartbeats 400000 in
theorem zjt (a : Option Addr) (cap : Nat) (ws : List ByteArray) (v : ByteArray) (w : World) (hw : zD w a ws) :
    Calls Tryz.prog 223 #[.slice a ws.length cap, .string v] w fun e w' => e = .returned (.bool (Gate.has ws v)) /\ w' = w := by
  go_enter Tryz.func223, Tryz.ntmps223
  go_wp2_with (go_at_call 224; refine (zmu _ _ _ _ _ hw).mono ?_; rintro e w' ⟨r, rfl, hr, rfl⟩)
  go_ret
  exact ⟨rfl, rfl⟩
set_option maxHeartbeats 400000 in
theorem zeO (nm : ByteArray) (kd ls ms : Int) (a : Option Addr) (cap : Nat) (ws : List ByteArray) (to : ByteArray) (rl : Int) (mu fx : Bool) (df wg : ByteArray) (v : ByteArray) (w : World) (hw : zD w a ws) :
    Calls Tryz.prog 221 #[.agg #[.string nm, .int .i64 kd, .int .i64 ls, .int .i64 ms, .slice a ws.length cap, .string to, .int .i64 rl, .bool mu, .bool fx, .string df, .string wg], .string v] w
      fun e w' => e = .returned (.bool (Gate.has ws v)) /\ Below w.heap.size w w' := by
  go_enter Tryz.func221, Tryz.ntmps221
  go_wp2_with (go_at_call 223; refine (zjt _ _ _ _ _ (hw.mono (by exact (Below.refl _ _).alloc (Nat.le_refl _) _))).mono ?_; rintro e w' ⟨rfl, rfl⟩)
  go_ret
  exact ⟨rfl, (Below.refl _ _).alloc (Nat.le_refl _) _⟩
set_option maxHeartbeats 400000 in
theorem zff (nm : ByteArray) (kd ls ms : Int) (sl : Value) (to : ByteArray) (rl : Int) (mu fx : Bool) (df wg : ByteArray) (v : ByteArray) (w : World) (hs : v.size <= maxLen) :
    Calls Tryz.prog 229 #[.agg #[.string nm, .int .i64 kd, .int .i64 ls, .int .i64 ms, sl, .string to, .int .i64 rl, .bool mu, .bool fx, .string df, .string wg], .string v] w
      fun e w' => e = .returned (.bool (Gate.zx v)) /\ Below w.heap.size w w' := by
  go_enter Tryz.func229, Tryz.ntmps229
  go_wp2_with (go_at_call 108; refine (zF _ _ hs).mono ?_; rintro e w' ⟨rfl, rfl⟩)
  go_ret
  exact ⟨rfl, (Below.refl _ _).alloc (Nat.le_refl _) _⟩
set_option maxHeartbeats 400000 in
theorem zeZ (nm : ByteArray) (kd ls ms : Int) (sl : Value) (to : ByteArray) (rl : Int) (mu fx : Bool) (df wg : ByteArray) (s : ByteArray) (w : World) (hs : s.size <= maxLen) :
    Calls Tryz.prog 226 #[.agg #[.string nm, .int .i64 kd, .int .i64 ls, .int .i64 ms, sl, .string to, .int .i64 rl, .bool mu, .bool fx, .string df, .string wg], .string s] w
      fun e w' => e = .returned (.bool (Gate.zaE ls ms s)) /\ Below w.heap.size w w' := by
  unfold maxLen at hs
  by_cases h1 : (s.size : Int) < ls
  · go_enter Tryz.func226, Tryz.ntmps226
    go_wp2
    go_ret
    refine ⟨ze ?_, (Below.refl _ _).alloc (Nat.le_refl _) _⟩
    unfold Gate.zaE; rw [decide_eq_false (by omega)]; rfl
  · by_cases h2 : ms < (s.size : Int)
    · go_enter Tryz.func226, Tryz.ntmps226
      go_wp2
      go_ret
      refine ⟨ze ?_, (Below.refl _ _).alloc (Nat.le_refl _) _⟩
      unfold Gate.zaE; rw [decide_eq_false (show ¬ (s.size : Int) <= ms by omega)]; simp
    · have HF : Hid (Gate.zaE ls ms s = Gate.za2 s) := by
        unfold Gate.zaE
        rw [decide_eq_true (show ls <= s.size by omega), decide_eq_true (show (s.size : Int) <= ms by omega)]; simp [Hid]
      go_enter Tryz.func226, Tryz.ntmps226
      go_wp2
      go_loop [20] (fun i => ∃ k : Nat, k <= s.size /\ i = .int .i64 k /\ (s.data.toList.take k).all Gate.yU = true) (fun i => s.size - (intOf i).toNat)
      case atStart => exact ⟨0, Nat.zero_le _, rfl, rfl⟩
      case round =>
        obtain ⟨k, hk, rfl, hall⟩ := hrel
        by_cases hlt : k < s.size
        · have HS : Hid ((s.data.toList.take (k + 1)).all Gate.yU = (true && Gate.yU s[k])) := by rw [Gate.zaq _ s k hlt, hall]; rfl
          have HN : Hid (Gate.yU s[k] = false -> Gate.za2 s = false) := fun h => Gate.zbp Gate.yU s k hlt h
          clear hall
          by_cases h33 : (s[k].toNat : Int) < 33
          · have HC : Hid (Gate.yU s[k] = false) := by simp [Gate.yU, Hid]; omega
            go_wp2
            go_ret
            exact ⟨ze (HF.out.trans (HN.out HC.out)).symm, (Below.refl _ _).alloc (Nat.le_refl _) _⟩
          · by_cases h126 : 126 < (s[k].toNat : Int)
            · have HC : Hid (Gate.yU s[k] = false) := by simp [Gate.yU, Hid]; omega
              go_wp2
              go_ret
              exact ⟨ze (HF.out.trans (HN.out HC.out)).symm, (Below.refl _ _).alloc (Nat.le_refl _) _⟩
            · have HC : Hid (Gate.yU s[k] = true) := by simp [Gate.yU, Hid]; omega
              go_wp2
              go_round
              case rel => exact ⟨k + 1, by omega, by go_num, by rw [HS.out, HC.out]; rfl⟩
              case measure => simp [intOf]; omega
        · have HA : Hid (Gate.za2 s = true) := by unfold Gate.za2 Hid; rw [<- Gate.j6 s k (by omega)]; exact hall
          clear hall
          go_wp2
          go_ret
          exact ⟨ze (HF.out.trans HA.out).symm, (Below.refl _ _).alloc (Nat.le_refl _) _⟩
end Go.Proofs.YtnbpglbbjnkhpaaGreat

namespace Go.Proofs.YtnbpglbbjnkhpaaGreat
open Go.RowKit
set_option maxHeartbeats 400000 in
theorem zdL (nm : ByteArray) (kd ls ms : Int) (sl : Value) (to : ByteArray) (rl : Int) (mu fx : Bool) (df wg : ByteArray) (s : ByteArray) (w : World) (hs : s.size <= maxLen) :
    Calls Tryz.prog 218 #[.agg #[.string nm, .int .i64 kd, .int .i64 ls, .int .i64 ms, sl, .string to, .int .i64 rl, .bool mu, .bool fx, .string df, .string wg], .string s] w
      fun e w' => e = .returned (.bool (Gate.j3 ls ms s)) /\ Below w.heap.size w w' := by
  by_cases hd : Gate.jS s = true
  · have HE : Hid (zaf s = Gate.ze7 s) := by unfold zaf Hid; rw [hd]; rfl
    have HF : Hid (Gate.j3 ls ms s = (decide (ls <= Gate.ze7 s) && decide (Gate.ze7 s <= ms))) := by unfold Gate.j3 Hid; rw [hd]; rfl
    go_enter Tryz.func218, Tryz.ntmps218
    go_wp2_with (go_at_call 199; refine (zcp _ _ hs).mono ?_; rintro e w' ⟨rfl, rfl⟩)
    all_goals
      go_ret
      refine ⟨ze ?_, (Below.refl _ _).alloc (Nat.le_refl _) _⟩
      rw [HF.out]; have := HE.out; rw [Bool.eq_iff_iff]; simp; omega
  · have hd' : Gate.jS s = false := by simpa using hd
    have HF : Hid (Gate.j3 ls ms s = false) := by unfold Gate.j3 Hid; rw [hd']; rfl
    go_enter Tryz.func218, Tryz.ntmps218
    go_wp2_with (go_at_call 199; refine (zcp _ _ hs).mono ?_; rintro e w' ⟨rfl, rfl⟩)
    go_ret
    exact ⟨ze HF.out.symm, (Below.refl _ _).alloc (Nat.le_refl _) _⟩
end Go.Proofs.YtnbpglbbjnkhpaaGreat

namespace Go.Proofs.YtnbpglbbjnkhpaaGreat
open Go.RowKit
def yK : Array MapEntry := #[⟨.int .i64 1, .func (.func 147) #[] #[], 0⟩, ⟨.int .i64 2, .func (.func 148) #[] #[], 1⟩, ⟨.int .i64 3, .func (.func 149) #[] #[], 2⟩, ⟨.int .i64 4, .func (.func 150) #[] #[], 3⟩]
set_option maxHeartbeats 400000 in
theorem zbV (w : World) :
    Calls Tryz.prog 104 #[] w fun e w' => e = .returned (.map (some w.heap.size)) /\ w' = w.alloc (.map yK 4) := by
  have hmm := @run_makeMap Tryz.prog
  have i1 := zaM (P := Tryz.prog) Tryz.underlying163 Tryz.underlying3 (.int .i64 1) (.func (.func 147) #[] #[]) rfl #[] 0 rfl
  have i2 := zaM (P := Tryz.prog) Tryz.underlying163 Tryz.underlying3 (.int .i64 2) (.func (.func 148) #[] #[]) rfl #[⟨.int .i64 1, .func (.func 147) #[] #[], 0⟩] 1 rfl
  have i3 := zaM (P := Tryz.prog) Tryz.underlying163 Tryz.underlying3 (.int .i64 3) (.func (.func 149) #[] #[]) rfl #[⟨.int .i64 1, .func (.func 147) #[] #[], 0⟩, ⟨.int .i64 2, .func (.func 148) #[] #[], 1⟩] 2 rfl
  have i4 := zaM (P := Tryz.prog) Tryz.underlying163 Tryz.underlying3 (.int .i64 4) (.func (.func 150) #[] #[]) rfl #[⟨.int .i64 1, .func (.func 147) #[] #[], 0⟩, ⟨.int .i64 2, .func (.func 148) #[] #[], 1⟩, ⟨.int .i64 3, .func (.func 149) #[] #[], 2⟩] 3 rfl
  simp only [List.push_toArray, List.cons_append, List.nil_append, Nat.zero_add, Nat.reduceAdd] at i1 i2 i3 i4
  go_enter Tryz.func104, Tryz.ntmps104
  go_wp2
  go_ret
  exact ⟨rfl, rfl⟩
set_option maxHeartbeats 400000 in
theorem zcL (nm : ByteArray) (kd ls ms : Int) (a : Option Addr) (n cap : Nat) (to : ByteArray) (rl : Int) (mu fx : Bool) (df wg : ByteArray) (w : World) :
    Calls Tryz.prog 147 #[.agg #[.string nm, .int .i64 kd, .int .i64 ls, .int .i64 ms, .slice a n cap, .string to, .int .i64 rl, .bool mu, .bool fx, .string df, .string wg]] w
      fun e w' => e = .returned (.iface 210 (.agg #[.string nm, .int .i64 kd, .int .i64 ls, .int .i64 ms, .slice a n cap, .string to, .int .i64 rl, .bool mu, .bool fx, .string df, .string wg])) /\ Below w.heap.size w w' := by
  go_enter Tryz.func147, Tryz.ntmps147
  go_wp2
  go_ret
  exact ⟨rfl, (Below.refl _ _).alloc (Nat.le_refl _) _⟩
set_option maxHeartbeats 400000 in
theorem zcR (nm : ByteArray) (kd ls ms : Int) (a : Option Addr) (n cap : Nat) (to : ByteArray) (rl : Int) (mu fx : Bool) (df wg : ByteArray) (w : World) :
    Calls Tryz.prog 148 #[.agg #[.string nm, .int .i64 kd, .int .i64 ls, .int .i64 ms, .slice a n cap, .string to, .int .i64 rl, .bool mu, .bool fx, .string df, .string wg]] w
      fun e w' => e = .returned (.iface 212 (.agg #[.string nm, .int .i64 kd, .int .i64 ls, .int .i64 ms, .slice a n cap, .string to, .int .i64 rl, .bool mu, .bool fx, .string df, .string wg])) /\ Below w.heap.size w w' := by
  go_enter Tryz.func148, Tryz.ntmps148
  go_wp2
  go_ret
  exact ⟨rfl, (Below.refl _ _).alloc (Nat.le_refl _) _⟩
set_option maxHeartbeats 400000 in
theorem zcM (nm : ByteArray) (kd ls ms : Int) (a : Option Addr) (n cap : Nat) (to : ByteArray) (rl : Int) (mu fx : Bool) (df wg : ByteArray) (w : World) :
    Calls Tryz.prog 149 #[.agg #[.string nm, .int .i64 kd, .int .i64 ls, .int .i64 ms, .slice a n cap, .string to, .int .i64 rl, .bool mu, .bool fx, .string df, .string wg]] w
      fun e w' => e = .returned (.iface 213 (.agg #[.string nm, .int .i64 kd, .int .i64 ls, .int .i64 ms, .slice a n cap, .string to, .int .i64 rl, .bool mu, .bool fx, .string df, .string wg])) /\ Below w.heap.size w w' := by
  go_enter Tryz.func149, Tryz.ntmps149
  go_wp2
  go_ret
  exact ⟨rfl, (Below.refl _ _).alloc (Nat.le_refl _) _⟩
set_option maxHeartbeats 400000 in
theorem zcK (nm : ByteArray) (kd ls ms : Int) (a : Option Addr) (n cap : Nat) (to : ByteArray) (rl : Int) (mu fx : Bool) (df wg : ByteArray) (w : World) :
    Calls Tryz.prog 150 #[.agg #[.string nm, .int .i64 kd, .int .i64 ls, .int .i64 ms, .slice a n cap, .string to, .int .i64 rl, .bool mu, .bool fx, .string df, .string wg]] w
      fun e w' => e = .returned (.iface 214 (.agg #[.string nm, .int .i64 kd, .int .i64 ls, .int .i64 ms, .slice a n cap, .string to, .int .i64 rl, .bool mu, .bool fx, .string df, .string wg])) /\ Below w.heap.size w w' := by
  go_enter Tryz.func150, Tryz.ntmps150
  go_wp2
  go_ret
  exact ⟨rfl, (Below.refl _ _).alloc (Nat.le_refl _) _⟩
theorem ze0 (x : Value) (w : World) : (method 376 210 x "loop.example/wharfgate/impl.fits").run Tryz.prog w = .ok (218, x) w := by kernel_rfl
theorem zfc (x : Value) (w : World) : (method 376 212 x "loop.example/wharfgate/impl.fits").run Tryz.prog w = .ok (221, x) w := by kernel_rfl
theorem zeQ (x : Value) (w : World) : (method 376 213 x "loop.example/wharfgate/impl.fits").run Tryz.prog w = .ok (226, x) w := by kernel_rfl
theorem zeI (x : Value) (w : World) : (method 376 214 x "loop.example/wharfgate/impl.fits").run Tryz.prog w = .ok (229, x) w := by kernel_rfl
set_option maxHeartbeats 400000 in
theorem zla (r : Nat) (nm : ByteArray) (ls ms : Int) (a : Option Addr) (cap : Nat) (ws : List ByteArray) (to : ByteArray) (rl : Int) (mu fx : Bool) (df wg : ByteArray) (v : ByteArray) (w : World) (hr : w.heap[r]? = some (.map yK 4)) (hv : v.size <= maxLen) (hz : ¬ v.size = 0) :
    Calls Tryz.prog 153 #[.map (some r), .agg #[.string nm, .int .i64 1, .int .i64 ls, .int .i64 ms, .slice a ws.length cap, .string to, .int .i64 rl, .bool mu, .bool fx, .string df, .string wg], .string v] w
      fun e w' => e = .returned (.bool (Gate.fits 1 ls ms ws v)) /\ Below w.heap.size w w' := by
  rw [Gate.zlB ls ms ws v hz]
  have hne : v.toList.isEmpty = false := by rw [Gate.zq]; simp [hz]
  have hlt : r < w.heap.size := (Array.getElem?_eq_some_iff.1 hr).1
  have hlk : ∀ o, (Instr.lookup 163 (.map (some r)) (.int .i64 1) true).run Tryz.prog (w.alloc o) = .ok (.tuple #[.func (.func 147) #[] #[], .bool true]) (w.alloc o) :=
    fun o => yN Tryz.underlying163 Tryz.underlying3 (.int .i64 1) _ rfl yK 4 0 rfl (w.alloc o) r ((Below.heap_alloc w o r hlt).trans hr)
  clear hr
  have hmt := ze0
  go_enter Tryz.func153, Tryz.ntmps153
  go_wp2_with (first
    | (go_at_call 147; refine (zcL _ _ _ _ _ _ _ _ _ _ _ _ _ _).mono ?_; rintro e w1 ⟨rfl, hb1⟩)
    | (go_at_call 218; refine (zdL _ _ _ _ _ _ _ _ _ _ _ _ _ hv).mono ?_; rintro e w2 ⟨rfl, hb2⟩))
  go_ret
  exact ⟨rfl, (((Below.refl _ _).alloc (Nat.le_refl _) _).trans (hb1.mono (by simp))).trans (hb2.mono (by have := hb1.size; simp at this; omega))⟩
set_option maxHeartbeats 400000 in
theorem zk4 (r : Nat) (nm : ByteArray) (ls ms : Int) (a : Option Addr) (cap : Nat) (ws : List ByteArray) (to : ByteArray) (rl : Int) (mu fx : Bool) (df wg : ByteArray) (v : ByteArray) (w : World) (hr : w.heap[r]? = some (.map yK 4)) (hws : zD w a ws) (hz : ¬ v.size = 0) :
    Calls Tryz.prog 153 #[.map (some r), .agg #[.string nm, .int .i64 2, .int .i64 ls, .int .i64 ms, .slice a ws.length cap, .string to, .int .i64 rl, .bool mu, .bool fx, .string df, .string wg], .string v] w
      fun e w' => e = .returned (.bool (Gate.fits 2 ls ms ws v)) /\ Below w.heap.size w w' := by
  rw [Gate.zl4 ls ms ws v hz]
  have hne : v.toList.isEmpty = false := by rw [Gate.zq]; simp [hz]
  have hlt : r < w.heap.size := (Array.getElem?_eq_some_iff.1 hr).1
  have hlk : ∀ o, (Instr.lookup 163 (.map (some r)) (.int .i64 2) true).run Tryz.prog (w.alloc o) = .ok (.tuple #[.func (.func 148) #[] #[], .bool true]) (w.alloc o) :=
    fun o => yN Tryz.underlying163 Tryz.underlying3 (.int .i64 2) _ rfl yK 4 1 rfl (w.alloc o) r ((Below.heap_alloc w o r hlt).trans hr)
  clear hr
  have hmt := zfc
  go_enter Tryz.func153, Tryz.ntmps153
  go_wp2_with (first
    | (go_at_call 148; refine (zcR _ _ _ _ _ _ _ _ _ _ _ _ _ _).mono ?_; rintro e w1 ⟨rfl, hb1⟩; have hws1 := (hws.mono ((Below.refl _ _).alloc (Nat.le_refl _) _)).mono hb1)
    | (go_at_call 221; refine (zeO _ _ _ _ _ _ _ _ _ _ _ _ _ _ _ (by exact hws1)).mono ?_; rintro e w2 ⟨rfl, hb2⟩))
  go_ret
  exact ⟨rfl, (((Below.refl _ _).alloc (Nat.le_refl _) _).trans (hb1.mono (by simp))).trans (hb2.mono (by have := hb1.size; simp at this; omega))⟩
set_option maxHeartbeats 400000 in
theorem zj8 (r : Nat) (nm : ByteArray) (ls ms : Int) (a : Option Addr) (cap : Nat) (ws : List ByteArray) (to : ByteArray) (rl : Int) (mu fx : Bool) (df wg : ByteArray) (v : ByteArray) (w : World) (hr : w.heap[r]? = some (.map yK 4)) (hv : v.size <= maxLen) (hz : ¬ v.size = 0) :
    Calls Tryz.prog 153 #[.map (some r), .agg #[.string nm, .int .i64 3, .int .i64 ls, .int .i64 ms, .slice a ws.length cap, .string to, .int .i64 rl, .bool mu, .bool fx, .string df, .string wg], .string v] w
      fun e w' => e = .returned (.bool (Gate.fits 3 ls ms ws v)) /\ Below w.heap.size w w' := by
  rw [Gate.zjv ls ms ws v hz]
  have hne : v.toList.isEmpty = false := by rw [Gate.zq]; simp [hz]
  have hlt : r < w.heap.size := (Array.getElem?_eq_some_iff.1 hr).1
  have hlk : ∀ o, (Instr.lookup 163 (.map (some r)) (.int .i64 3) true).run Tryz.prog (w.alloc o) = .ok (.tuple #[.func (.func 149) #[] #[], .bool true]) (w.alloc o) :=
    fun o => yN Tryz.underlying163 Tryz.underlying3 (.int .i64 3) _ rfl yK 4 2 rfl (w.alloc o) r ((Below.heap_alloc w o r hlt).trans hr)
  clear hr
  have hmt := zeQ
  go_enter Tryz.func153, Tryz.ntmps153
  go_wp2_with (first
    | (go_at_call 149; refine (zcM _ _ _ _ _ _ _ _ _ _ _ _ _ _).mono ?_; rintro e w1 ⟨rfl, hb1⟩)
    | (go_at_call 226; refine (zeZ _ _ _ _ _ _ _ _ _ _ _ _ _ hv).mono ?_; rintro e w2 ⟨rfl, hb2⟩))
  go_ret
  exact ⟨rfl, (((Below.refl _ _).alloc (Nat.le_refl _) _).trans (hb1.mono (by simp))).trans (hb2.mono (by have := hb1.size; simp at this; omega))⟩
set_option maxHeartbeats 400000 in
theorem zkn (r : Nat) (nm : ByteArray) (ls ms : Int) (a : Option Addr) (cap : Nat) (ws : List ByteArray) (to : ByteArray) (rl : Int) (mu fx : Bool) (df wg : ByteArray) (v : ByteArray) (w : World) (hr : w.heap[r]? = some (.map yK 4)) (hv : v.size <= maxLen) (hz : ¬ v.size = 0) :
    Calls Tryz.prog 153 #[.map (some r), .agg #[.string nm, .int .i64 4, .int .i64 ls, .int .i64 ms, .slice a ws.length cap, .string to, .int .i64 rl, .bool mu, .bool fx, .string df, .string wg], .string v] w
      fun e w' => e = .returned (.bool (Gate.fits 4 ls ms ws v)) /\ Below w.heap.size w w' := by
  rw [Gate.zlM ls ms ws v hz]
  have hne : v.toList.isEmpty = false := by rw [Gate.zq]; simp [hz]
  have hlt : r < w.heap.size := (Array.getElem?_eq_some_iff.1 hr).1
  have hlk : ∀ o, (Instr.lookup 163 (.map (some r)) (.int .i64 4) true).run Tryz.prog (w.alloc o) = .ok (.tuple #[.func (.func 150) #[] #[], .bool true]) (w.alloc o) :=
    fun o => yN Tryz.underlying163 Tryz.underlying3 (.int .i64 4) _ rfl yK 4 3 rfl (w.alloc o) r ((Below.heap_alloc w o r hlt).trans hr)
  clear hr
  have hmt := zeI
  go_enter Tryz.func153, Tryz.ntmps153
  go_wp2_with (first
    | (go_at_call 150; refine (zcK _ _ _ _ _ _ _ _ _ _ _ _ _ _).mono ?_; rintro e w1 ⟨rfl, hb1⟩)
    | (go_at_call 229; refine (zff _ _ _ _ _ _ _ _ _ _ _ _ _ hv).mono ?_; rintro e w2 ⟨rfl, hb2⟩))
  go_ret
  exact ⟨rfl, (((Below.refl _ _).alloc (Nat.le_refl _) _).trans (hb1.mono (by simp))).trans (hb2.mono (by have := hb1.size; simp at this; omega))⟩
theorem zjh (w : World) : (zeroValue 211).run Tryz.prog w = .ok .nilFunc w := by kernel_rfl
theorem ziZ (kd : Int) (h1 : kd ≠ 1) (h2 : kd ≠ 2) (h3 : kd ≠ 3) (h4 : kd ≠ 4) : Instr.findNow (.int .i64) (.int .i64 kd) yK.toList 0 = some none := by
  have e1 : (kd == 1) = false := by simpa using h1
  have e2 : (kd == 2) = false := by simpa using h2
  have e3 : (kd == 3) = false := by simpa using h3
  have e4 : (kd == 4) = false := by simpa using h4
  simp [Instr.findNow, Instr.sameNow, yK, e1, e2, e3, e4]
set_option maxHeartbeats 400000 in
theorem zgL (r : Nat) (nm : ByteArray) (kd ls ms : Int) (a : Option Addr) (cap : Nat) (ws : List ByteArray) (to : ByteArray) (rl : Int) (mu fx : Bool) (df wg : ByteArray) (v : ByteArray) (w : World) (hr : w.heap[r]? = some (.map yK 4)) (h1 : kd ≠ 1) (h2 : kd ≠ 2) (h3 : kd ≠ 3) (h4 : kd ≠ 4) :
    Calls Tryz.prog 153 #[.map (some r), .agg #[.string nm, .int .i64 kd, .int .i64 ls, .int .i64 ms, .slice a ws.length cap, .string to, .int .i64 rl, .bool mu, .bool fx, .string df, .string wg], .string v] w
      fun e w' => e = .returned (.bool (Gate.fits kd ls ms ws v)) /\ Below w.heap.size w w' := by
  rw [Gate.zeq kd ls ms ws v h1 h2 h3 h4]
  have hlt : r < w.heap.size := (Array.getElem?_eq_some_iff.1 hr).1
  have hlk : ∀ o, (Instr.lookup 163 (.map (some r)) (.int .i64 kd) true).run Tryz.prog (w.alloc o) = .ok (.tuple #[.nilFunc, .bool false]) (w.alloc o) :=
    fun o => zbD Tryz.underlying163 Tryz.underlying3 (.int .i64 kd) _ rfl yK 4 (ziZ kd h1 h2 h3 h4) (w.alloc o) (zjh _) r ((Below.heap_alloc w o r hlt).trans hr)
  clear hr h1 h2 h3 h4
  go_enter Tryz.func153, Tryz.ntmps153
  go_wp2_with fail
  go_ret
  exact ⟨rfl, (Below.refl _ _).alloc (Nat.le_refl _) _⟩
set_option maxHeartbeats 400000 in
theorem zew (r : Nat) (nm : ByteArray) (ls ms : Int) (a : Option Addr) (cap : Nat) (ws : List ByteArray) (to : ByteArray) (rl : Int) (mu fx : Bool) (df wg : ByteArray) (v : ByteArray) (w : World) (hr : w.heap[r]? = some (.map yK 4)) (hz : v.size = 0) :
    Calls Tryz.prog 153 #[.map (some r), .agg #[.string nm, .int .i64 1, .int .i64 ls, .int .i64 ms, .slice a ws.length cap, .string to, .int .i64 rl, .bool mu, .bool fx, .string df, .string wg], .string v] w
      fun e w' => e = .returned (.bool (Gate.fits 1 ls ms ws v)) /\ Below w.heap.size w w' := by
  rw [Gate.jY 1 ls ms ws v hz]
  have hne : v.toList.isEmpty = true := by rw [Gate.zq]; simp [hz]
  clear hz
  have hlt : r < w.heap.size := (Array.getElem?_eq_some_iff.1 hr).1
  have hlk : ∀ o, (Instr.lookup 163 (.map (some r)) (.int .i64 1) true).run Tryz.prog (w.alloc o) = .ok (.tuple #[.func (.func 147) #[] #[], .bool true]) (w.alloc o) :=
    fun o => yN Tryz.underlying163 Tryz.underlying3 (.int .i64 1) _ rfl yK 4 0 rfl (w.alloc o) r ((Below.heap_alloc w o r hlt).trans hr)
  clear hr
  go_enter Tryz.func153, Tryz.ntmps153
  go_wp2_with fail
  go_ret
  exact ⟨rfl, (Below.refl _ _).alloc (Nat.le_refl _) _⟩
set_option maxHeartbeats 400000 in
theorem zfb (r : Nat) (nm : ByteArray) (ls ms : Int) (a : Option Addr) (cap : Nat) (ws : List ByteArray) (to : ByteArray) (rl : Int) (mu fx : Bool) (df wg : ByteArray) (v : ByteArray) (w : World) (hr : w.heap[r]? = some (.map yK 4)) (hz : v.size = 0) :
    Calls Tryz.prog 153 #[.map (some r), .agg #[.string nm, .int .i64 2, .int .i64 ls, .int .i64 ms, .slice a ws.length cap, .string to, .int .i64 rl, .bool mu, .bool fx, .string df, .string wg], .string v] w
      fun e w' => e = .returned (.bool (Gate.fits 2 ls ms ws v)) /\ Below w.heap.size w w' := by
  rw [Gate.jY 2 ls ms ws v hz]
  have hne : v.toList.isEmpty = true := by rw [Gate.zq]; simp [hz]
  clear hz
  have hlt : r < w.heap.size := (Array.getElem?_eq_some_iff.1 hr).1
  have hlk : ∀ o, (Instr.lookup 163 (.map (some r)) (.int .i64 2) true).run Tryz.prog (w.alloc o) = .ok (.tuple #[.func (.func 148) #[] #[], .bool true]) (w.alloc o) :=
    fun o => yN Tryz.underlying163 Tryz.underlying3 (.int .i64 2) _ rfl yK 4 1 rfl (w.alloc o) r ((Below.heap_alloc w o r hlt).trans hr)
  clear hr
  go_enter Tryz.func153, Tryz.ntmps153
  go_wp2_with fail
  go_ret
  exact ⟨rfl, (Below.refl _ _).alloc (Nat.le_refl _) _⟩
set_option maxHeartbeats 400000 in
theorem ze9 (r : Nat) (nm : ByteArray) (ls ms : Int) (a : Option Addr) (cap : Nat) (ws : List ByteArray) (to : ByteArray) (rl : Int) (mu fx : Bool) (df wg : ByteArray) (v : ByteArray) (w : World) (hr : w.heap[r]? = some (.map yK 4)) (hz : v.size = 0) :
    Calls Tryz.prog 153 #[.map (some r), .agg #[.string nm, .int .i64 3, .int .i64 ls, .int .i64 ms, .slice a ws.length cap, .string to, .int .i64 rl, .bool mu, .bool fx, .string df, .string wg], .string v] w
      fun e w' => e = .returned (.bool (Gate.fits 3 ls ms ws v)) /\ Below w.heap.size w w' := by
  rw [Gate.jY 3 ls ms ws v hz]
  have hne : v.toList.isEmpty = true := by rw [Gate.zq]; simp [hz]
  clear hz
  have hlt : r < w.heap.size := (Array.getElem?_eq_some_iff.1 hr).1
  have hlk : ∀ o, (Instr.lookup 163 (.map (some r)) (.int .i64 3) true).run Tryz.prog (w.alloc o) = .ok (.tuple #[.func (.func 149) #[] #[], .bool true]) (w.alloc o) :=
    fun o => yN Tryz.underlying163 Tryz.underlying3 (.int .i64 3) _ rfl yK 4 2 rfl (w.alloc o) r ((Below.heap_alloc w o r hlt).trans hr)
  clear hr
  go_enter Tryz.func153, Tryz.ntmps153
  go_wp2_with fail
  go_ret
  exact ⟨rfl, (Below.refl _ _).alloc (Nat.le_refl _) _⟩
set_option maxHeartbeats 400000 in
theorem zeV (r : Nat) (nm : ByteArray) (ls ms : Int) (a : Option Addr) (cap : Nat) (ws : List ByteArray) (to : ByteArray) (rl : Int) (mu fx : Bool) (df wg : ByteArray) (v : ByteArray) (w : World) (hr : w.heap[r]? = some (.map yK 4)) (hz : v.size = 0) :
    Calls Tryz.prog 153 #[.map (some r), .agg #[.string nm, .int .i64 4, .int .i64 ls, .int .i64 ms, .slice a ws.length cap, .string to, .int .i64 rl, .bool mu, .bool fx, .string df, .string wg], .string v] w
      fun e w' => e = .returned (.bool (Gate.fits 4 ls ms ws v)) /\ Below w.heap.size w w' := by
  rw [Gate.jY 4 ls ms ws v hz]
  have hne : v.toList.isEmpty = true := by rw [Gate.zq]; simp [hz]
  clear hz
  have hlt : r < w.heap.size := (Array.getElem?_eq_some_iff.1 hr).1
  have hlk : ∀ o, (Instr.lookup 163 (.map (some r)) (.int .i64 4) true).run Tryz.prog (w.alloc o) = .ok (.tuple #[.func (.func 150) #[] #[], .bool true]) (w.alloc o) :=
    fun o => yN Tryz.underlying163 Tryz.underlying3 (.int .i64 4) _ rfl yK 4 3 rfl (w.alloc o) r ((Below.heap_alloc w o r hlt).trans hr)
  clear hr
  go_enter Tryz.func153, Tryz.ntmps153
  go_wp2_with fail
  go_ret
  exact ⟨rfl, (Below.refl _ _).alloc (Nat.le_refl _) _⟩
theorem zei (r : Nat) (nm : ByteArray) (kd ls ms : Int) (a : Option Addr) (cap : Nat) (ws : List ByteArray) (to : ByteArray) (rl : Int) (mu fx : Bool) (df wg : ByteArray) (v : ByteArray) (w : World) (hr : w.heap[r]? = some (.map yK 4)) (hv : v.size <= maxLen) (hws : zD w a ws) :
    Calls Tryz.prog 153 #[.map (some r), .agg #[.string nm, .int .i64 kd, .int .i64 ls, .int .i64 ms, .slice a ws.length cap, .string to, .int .i64 rl, .bool mu, .bool fx, .string df, .string wg], .string v] w
      fun e w' => e = .returned (.bool (Gate.fits kd ls ms ws v)) /\ Below w.heap.size w w' := by
  by_cases h1 : kd = 1
  · subst h1; by_cases hz : v.size = 0
    · exact zew r nm ls ms a cap ws to rl mu fx df wg v w hr hz
    · exact zla r nm ls ms a cap ws to rl mu fx df wg v w hr hv hz
  by_cases h2 : kd = 2
  · subst h2; by_cases hz : v.size = 0
    · exact zfb r nm ls ms a cap ws to rl mu fx df wg v w hr hz
    · exact zk4 r nm ls ms a cap ws to rl mu fx df wg v w hr hws hz
  by_cases h3 : kd = 3
  · subst h3; by_cases hz : v.size = 0
    · exact ze9 r nm ls ms a cap ws to rl mu fx df wg v w hr hz
    · exact zj8 r nm ls ms a cap ws to rl mu fx df wg v w hr hv hz
  by_cases h4 : kd = 4
  · subst h4; by_cases hz : v.size = 0
    · exact zeV r nm ls ms a cap ws to rl mu fx df wg v w hr hz
    · exact zkn r nm ls ms a cap ws to rl mu fx df wg v w hr hv hz
  exact zgL r nm kd ls ms a cap ws to rl mu fx df wg v w hr h1 h2 h3 h4
end Go.Proofs.YtnbpglbbjnkhpaaGreat

namespace Go.Proofs.YtnbpglbbjnkhpaaGreat
open Go.RowKit
theorem zjs (x : Value) (w : World) : (method 376 210 x "loop.example/wharfgate/impl.bare").run Tryz.prog w = .ok (217, x) w := by kernel_rfl
theorem ziF (x : Value) (w : World) : (method 376 210 x "loop.example/wharfgate/impl.sound").run Tryz.prog w = .ok (219, x) w := by kernel_rfl
theorem zjq (x : Value) (w : World) : (method 376 212 x "loop.example/wharfgate/impl.bare").run Tryz.prog w = .ok (220, x) w := by kernel_rfl
theorem zix (x : Value) (w : World) : (method 376 212 x "loop.example/wharfgate/impl.sound").run Tryz.prog w = .ok (222, x) w := by kernel_rfl
theorem zjH (x : Value) (w : World) : (method 376 213 x "loop.example/wharfgate/impl.bare").run Tryz.prog w = .ok (225, x) w := by kernel_rfl
theorem ziI (x : Value) (w : World) : (method 376 213 x "loop.example/wharfgate/impl.sound").run Tryz.prog w = .ok (227, x) w := by kernel_rfl
theorem zjw (x : Value) (w : World) : (method 376 214 x "loop.example/wharfgate/impl.bare").run Tryz.prog w = .ok (228, x) w := by kernel_rfl
theorem zij (x : Value) (w : World) : (method 376 214 x "loop.example/wharfgate/impl.sound").run Tryz.prog w = .ok (230, x) w := by kernel_rfl
set_option maxHeartbeats 1000000 in
theorem zmO (r : Nat) (nm : ByteArray) (ls ms : Int) (a : Option Addr) (cap : Nat) (ws : List ByteArray) (to : ByteArray) (rl : Int) (mu fx : Bool) (df wg : ByteArray) (a0 : Option Addr) (cap0 : Nat) (ss : List Shp) (w : World) (hr : w.heap[r]? = some (.map yK 4)) (hdf : df.size <= maxLen) (hwg : wg.size <= maxLen) :
    Calls Tryz.prog 176 #[.map (some r), .slice a0 ss.length cap0, .agg #[.string nm, .int .i64 1, .int .i64 ls, .int .i64 ms, .slice a ws.length cap, .string to, .int .i64 rl, .bool mu, .bool fx, .string df, .string wg]] w
      fun e w' => e = .returned (.bool (Gate.yE ss ⟨nm, 1, ls, ms, ws, to, rl, mu, fx, df, wg⟩)) /\ Below w.heap.size w w' := by
  have HO : Hid (Gate.yE ss ⟨nm, 1, ls, ms, ws, to, rl, mu, fx, df, wg⟩ = (Gate.yD 1 ls ms ws.length to rl wg && Gate.zS ss ⟨nm, 1, ls, ms, ws, to, rl, mu, fx, df, wg⟩ && (df.toList.isEmpty || Gate.fits 1 ls ms ws df))) := rfl
  have hlt : r < w.heap.size := (Array.getElem?_eq_some_iff.1 hr).1
  have hlk : ∀ o, (Instr.lookup 163 (.map (some r)) (.int .i64 1) true).run Tryz.prog (w.alloc o) = .ok (.tuple #[.func (.func 147) #[] #[], .bool true]) (w.alloc o) :=
    fun o => yN Tryz.underlying163 Tryz.underlying3 (.int .i64 1) _ rfl yK 4 0 rfl (w.alloc o) r ((Below.heap_alloc w o r hlt).trans hr)
  clear hr
  have hm1 := zjs
  have hm2 := ziF
  have hm3 := ze0
  by_cases hbare : Gate.yD 1 ls ms ws.length to rl wg = true
  rotate_left
  · have HBare : Hid (Gate.yD 1 ls ms ws.length to rl wg = false) := by simpa [Hid] using hbare
    clear hbare hm2 hm3
    go_enter Tryz.func176, Tryz.ntmps176
    go_wp2_with fail
    refine (zcL _ _ _ _ _ _ _ _ _ _ _ _ _ _).mono ?_
    rintro e w1 ⟨rfl, hb1⟩
    have hX1 := za (zl w _ _) (by simp) hb1
    have hz1 : w.heap.size < w1.heap.size := by have := hb1.size; simp at this; omega
    have hB1 : Below w.heap.size w w1 := ((Below.refl _ _).alloc (Nat.le_refl _) _).trans (hb1.mono (by simp))
    clear hb1 hlk
    go_wp2_with fail
    refine (zf HBare.out (zba _ _ _ _ _ _ _ _ _ _ _ _ _ _)).mono ?_
    rintro e w2 ⟨rfl, hb2⟩
    have hX2 := za hX1 hz1 hb2
    have hz2 : w.heap.size < w2.heap.size := by have := hb2.size; omega
    have hB2 : Below w.heap.size w w2 := hB1.trans (hb2.mono (by omega))
    clear hb2 hX1 hz1 hB1
    go_wp2_with fail
    go_ret
    exact ⟨ze (by rw [HO.out, HBare.out]; rfl), hB2⟩
  have HBare : Hid (Gate.yD 1 ls ms ws.length to rl wg = true) := hbare
  clear hbare
  by_cases hsnd : Gate.zS ss ⟨nm, 1, ls, ms, ws, to, rl, mu, fx, df, wg⟩ = true
  rotate_left
  · have HSnd : Hid (Gate.zS ss ⟨nm, 1, ls, ms, ws, to, rl, mu, fx, df, wg⟩ = false) := by simpa [Hid] using hsnd
    clear hsnd hm3
    go_enter Tryz.func176, Tryz.ntmps176
    go_wp2_with fail
    refine (zcL _ _ _ _ _ _ _ _ _ _ _ _ _ _).mono ?_
    rintro e w1 ⟨rfl, hb1⟩
    have hX1 := za (zl w _ _) (by simp) hb1
    have hz1 : w.heap.size < w1.heap.size := by have := hb1.size; simp at this; omega
    have hB1 : Below w.heap.size w w1 := ((Below.refl _ _).alloc (Nat.le_refl _) _).trans (hb1.mono (by simp))
    clear hb1 hlk
    go_wp2_with fail
    refine (zf HBare.out (zba _ _ _ _ _ _ _ _ _ _ _ _ _ _)).mono ?_
    rintro e w2 ⟨rfl, hb2⟩
    have hX2 := za hX1 hz1 hb2
    have hz2 : w.heap.size < w2.heap.size := by have := hb2.size; omega
    have hB2 : Below w.heap.size w w2 := hB1.trans (hb2.mono (by omega))
    clear hb2 hX1 hz1 hB1
    go_wp2_with fail
    refine (zf HSnd.out (zbF _ _ _ _ _ _ _ _ _ _ _ _ _ _ _ _ hwg)).mono ?_
    rintro e w3 ⟨rfl, hb3⟩
    have hX3 := za hX2 hz2 hb3
    have hz3 : w.heap.size < w3.heap.size := by have := hb3.size; omega
    have hB3 : Below w.heap.size w w3 := hB2.trans (hb3.mono (by omega))
    clear hb3 hX2 hz2 hB2
    go_wp2_with fail
    go_ret
    exact ⟨ze (by rw [HO.out, HBare.out, HSnd.out]; rfl), hB3⟩
  have HSnd : Hid (Gate.zS ss ⟨nm, 1, ls, ms, ws, to, rl, mu, fx, df, wg⟩ = true) := hsnd
  clear hsnd
  by_cases hd : df.toList.isEmpty = true
  · have HD : Hid (df.toList.isEmpty = true) := hd
    go_enter Tryz.func176, Tryz.ntmps176
    go_wp2_with fail
    refine (zcL _ _ _ _ _ _ _ _ _ _ _ _ _ _).mono ?_
    rintro e w1 ⟨rfl, hb1⟩
    have hX1 := za (zl w _ _) (by simp) hb1
    have hz1 : w.heap.size < w1.heap.size := by have := hb1.size; simp at this; omega
    have hB1 : Below w.heap.size w w1 := ((Below.refl _ _).alloc (Nat.le_refl _) _).trans (hb1.mono (by simp))
    clear hb1 hlk
    go_wp2_with fail
    refine (zf HBare.out (zba _ _ _ _ _ _ _ _ _ _ _ _ _ _)).mono ?_
    rintro e w2 ⟨rfl, hb2⟩
    have hX2 := za hX1 hz1 hb2
    have hz2 : w.heap.size < w2.heap.size := by have := hb2.size; omega
    have hB2 : Below w.heap.size w w2 := hB1.trans (hb2.mono (by omega))
    clear hb2 hX1 hz1 hB1
    go_wp2_with fail
    refine (zf HSnd.out (zbF _ _ _ _ _ _ _ _ _ _ _ _ _ _ _ _ hwg)).mono ?_
    rintro e w3 ⟨rfl, hb3⟩
    have hX3 := za hX2 hz2 hb3
    have hz3 : w.heap.size < w3.heap.size := by have := hb3.size; omega
    have hB3 : Below w.heap.size w w3 := hB2.trans (hb3.mono (by omega))
    clear hb3 hX2 hz2 hB2
    go_wp2_with fail
    go_ret
    exact ⟨ze (by rw [HO.out, HBare.out, HSnd.out, HD.out]; rfl), hB3⟩
  · have hd' : df.toList.isEmpty = false := by simpa using hd
    have HD : Hid (df.toList.isEmpty = false) := hd'
    have HZ : Hid (Gate.fits 1 ls ms ws df = Gate.j3 ls ms df) := Gate.zlB ls ms ws df (by intro h; rw [Gate.zq] at hd'; simp [h] at hd')
    clear hd
    go_enter Tryz.func176, Tryz.ntmps176
    go_wp2_with fail
    refine (zcL _ _ _ _ _ _ _ _ _ _ _ _ _ _).mono ?_
    rintro e w1 ⟨rfl, hb1⟩
    have hX1 := za (zl w _ _) (by simp) hb1
    have hz1 : w.heap.size < w1.heap.size := by have := hb1.size; simp at this; omega
    have hB1 : Below w.heap.size w w1 := ((Below.refl _ _).alloc (Nat.le_refl _) _).trans (hb1.mono (by simp))
    clear hb1 hlk
    go_wp2_with fail
    refine (zf HBare.out (zba _ _ _ _ _ _ _ _ _ _ _ _ _ _)).mono ?_
    rintro e w2 ⟨rfl, hb2⟩
    have hX2 := za hX1 hz1 hb2
    have hz2 : w.heap.size < w2.heap.size := by have := hb2.size; omega
    have hB2 : Below w.heap.size w w2 := hB1.trans (hb2.mono (by omega))
    clear hb2 hX1 hz1 hB1
    go_wp2_with fail
    refine (zf HSnd.out (zbF _ _ _ _ _ _ _ _ _ _ _ _ _ _ _ _ hwg)).mono ?_
    rintro e w3 ⟨rfl, hb3⟩
    have hX3 := za hX2 hz2 hb3
    have hz3 : w.heap.size < w3.heap.size := by have := hb3.size; omega
    have hB3 : Below w.heap.size w w3 := hB2.trans (hb3.mono (by omega))
    clear hb3 hX2 hz2 hB2
    go_wp2_with fail
    refine (zdL _ _ _ _ _ _ _ _ _ _ _ _ _ hdf).mono ?_
    rintro e w4 ⟨rfl, hb4⟩
    have hB4 : Below w.heap.size w w4 := hB3.trans (hb4.mono (by omega))
    clear hb4
    go_wp2_with fail
    go_ret
    exact ⟨ze (by rw [HO.out, HBare.out, HSnd.out, HD.out, HZ.out]; rfl), hB4⟩
set_option maxHeartbeats 1000000 in
theorem zm3 (r : Nat) (nm : ByteArray) (ls ms : Int) (a : Option Addr) (cap : Nat) (ws : List ByteArray) (to : ByteArray) (rl : Int) (mu fx : Bool) (df wg : ByteArray) (a0 : Option Addr) (cap0 : Nat) (ss : List Shp) (w : World) (hr : w.heap[r]? = some (.map yK 4)) (hws : zD w a ws) :
    Calls Tryz.prog 176 #[.map (some r), .slice a0 ss.length cap0, .agg #[.string nm, .int .i64 2, .int .i64 ls, .int .i64 ms, .slice a ws.length cap, .string to, .int .i64 rl, .bool mu, .bool fx, .string df, .string wg]] w
      fun e w' => e = .returned (.bool (Gate.yE ss ⟨nm, 2, ls, ms, ws, to, rl, mu, fx, df, wg⟩)) /\ Below w.heap.size w w' := by
  have HO : Hid (Gate.yE ss ⟨nm, 2, ls, ms, ws, to, rl, mu, fx, df, wg⟩ = (Gate.yD 2 ls ms ws.length to rl wg && Gate.zS ss ⟨nm, 2, ls, ms, ws, to, rl, mu, fx, df, wg⟩ && (df.toList.isEmpty || Gate.fits 2 ls ms ws df))) := rfl
  have hlt : r < w.heap.size := (Array.getElem?_eq_some_iff.1 hr).1
  have hlk : ∀ o, (Instr.lookup 163 (.map (some r)) (.int .i64 2) true).run Tryz.prog (w.alloc o) = .ok (.tuple #[.func (.func 148) #[] #[], .bool true]) (w.alloc o) :=
    fun o => yN Tryz.underlying163 Tryz.underlying3 (.int .i64 2) _ rfl yK 4 1 rfl (w.alloc o) r ((Below.heap_alloc w o r hlt).trans hr)
  clear hr
  have hm1 := zjq
  have hm2 := zix
  have hm3 := zfc
  by_cases hbare : Gate.yD 2 ls ms ws.length to rl wg = true
  rotate_left
  · have HBare : Hid (Gate.yD 2 ls ms ws.length to rl wg = false) := by simpa [Hid] using hbare
    clear hbare hm2 hm3
    go_enter Tryz.func176, Tryz.ntmps176
    go_wp2_with fail
    refine (zcR _ _ _ _ _ _ _ _ _ _ _ _ _ _).mono ?_
    rintro e w1 ⟨rfl, hb1⟩
    have hX1 := za (zl w _ _) (by simp) hb1
    have hz1 : w.heap.size < w1.heap.size := by have := hb1.size; simp at this; omega
    have hB1 : Below w.heap.size w w1 := ((Below.refl _ _).alloc (Nat.le_refl _) _).trans (hb1.mono (by simp))
    clear hb1 hlk
    go_wp2_with fail
    refine (zf HBare.out (zbL _ _ _ _ _ _ _ _ _ _ _ _ _ _)).mono ?_
    rintro e w2 ⟨rfl, hb2⟩
    have hX2 := za hX1 hz1 hb2
    have hz2 : w.heap.size < w2.heap.size := by have := hb2.size; omega
    have hB2 : Below w.heap.size w w2 := hB1.trans (hb2.mono (by omega))
    clear hb2 hX1 hz1 hB1
    go_wp2_with fail
    go_ret
    exact ⟨ze (by rw [HO.out, HBare.out]; rfl), hB2⟩
  have HBare : Hid (Gate.yD 2 ls ms ws.length to rl wg = true) := hbare
  clear hbare
  by_cases hsnd : Gate.zS ss ⟨nm, 2, ls, ms, ws, to, rl, mu, fx, df, wg⟩ = true
  rotate_left
  · have HSnd : Hid (Gate.zS ss ⟨nm, 2, ls, ms, ws, to, rl, mu, fx, df, wg⟩ = false) := by simpa [Hid] using hsnd
    clear hsnd hm3
    go_enter Tryz.func176, Tryz.ntmps176
    go_wp2_with fail
    refine (zcR _ _ _ _ _ _ _ _ _ _ _ _ _ _).mono ?_
    rintro e w1 ⟨rfl, hb1⟩
    have hX1 := za (zl w _ _) (by simp) hb1
    have hz1 : w.heap.size < w1.heap.size := by have := hb1.size; simp at this; omega
    have hB1 : Below w.heap.size w w1 := ((Below.refl _ _).alloc (Nat.le_refl _) _).trans (hb1.mono (by simp))
    clear hb1 hlk
    go_wp2_with fail
    refine (zf HBare.out (zbL _ _ _ _ _ _ _ _ _ _ _ _ _ _)).mono ?_
    rintro e w2 ⟨rfl, hb2⟩
    have hX2 := za hX1 hz1 hb2
    have hz2 : w.heap.size < w2.heap.size := by have := hb2.size; omega
    have hB2 : Below w.heap.size w w2 := hB1.trans (hb2.mono (by omega))
    clear hb2 hX1 hz1 hB1
    go_wp2_with fail
    refine (zf HSnd.out (zcn _ _ _ _ _ _ _ _ _ _ _ _ _ _ _ _ (by exact hws.mono hB2))).mono ?_
    rintro e w3 ⟨rfl, hb3⟩
    have hX3 := za hX2 hz2 hb3
    have hz3 : w.heap.size < w3.heap.size := by have := hb3.size; omega
    have hB3 : Below w.heap.size w w3 := hB2.trans (hb3.mono (by omega))
    clear hb3 hX2 hz2 hB2
    go_wp2_with fail
    go_ret
    exact ⟨ze (by rw [HO.out, HBare.out, HSnd.out]; rfl), hB3⟩
  have HSnd : Hid (Gate.zS ss ⟨nm, 2, ls, ms, ws, to, rl, mu, fx, df, wg⟩ = true) := hsnd
  clear hsnd
  by_cases hd : df.toList.isEmpty = true
  · have HD : Hid (df.toList.isEmpty = true) := hd
    go_enter Tryz.func176, Tryz.ntmps176
    go_wp2_with fail
    refine (zcR _ _ _ _ _ _ _ _ _ _ _ _ _ _).mono ?_
    rintro e w1 ⟨rfl, hb1⟩
    have hX1 := za (zl w _ _) (by simp) hb1
    have hz1 : w.heap.size < w1.heap.size := by have := hb1.size; simp at this; omega
    have hB1 : Below w.heap.size w w1 := ((Below.refl _ _).alloc (Nat.le_refl _) _).trans (hb1.mono (by simp))
    clear hb1 hlk
    go_wp2_with fail
    refine (zf HBare.out (zbL _ _ _ _ _ _ _ _ _ _ _ _ _ _)).mono ?_
    rintro e w2 ⟨rfl, hb2⟩
    have hX2 := za hX1 hz1 hb2
    have hz2 : w.heap.size < w2.heap.size := by have := hb2.size; omega
    have hB2 : Below w.heap.size w w2 := hB1.trans (hb2.mono (by omega))
    clear hb2 hX1 hz1 hB1
    go_wp2_with fail
    refine (zf HSnd.out (zcn _ _ _ _ _ _ _ _ _ _ _ _ _ _ _ _ (by exact hws.mono hB2))).mono ?_
    rintro e w3 ⟨rfl, hb3⟩
    have hX3 := za hX2 hz2 hb3
    have hz3 : w.heap.size < w3.heap.size := by have := hb3.size; omega
    have hB3 : Below w.heap.size w w3 := hB2.trans (hb3.mono (by omega))
    clear hb3 hX2 hz2 hB2
    go_wp2_with fail
    go_ret
    exact ⟨ze (by rw [HO.out, HBare.out, HSnd.out, HD.out]; rfl), hB3⟩
  · have hd' : df.toList.isEmpty = false := by simpa using hd
    have HD : Hid (df.toList.isEmpty = false) := hd'
    have HZ : Hid (Gate.fits 2 ls ms ws df = Gate.has ws df) := Gate.zl4 ls ms ws df (by intro h; rw [Gate.zq] at hd'; simp [h] at hd')
    clear hd
    go_enter Tryz.func176, Tryz.ntmps176
    go_wp2_with fail
    refine (zcR _ _ _ _ _ _ _ _ _ _ _ _ _ _).mono ?_
    rintro e w1 ⟨rfl, hb1⟩
    have hX1 := za (zl w _ _) (by simp) hb1
    have hz1 : w.heap.size < w1.heap.size := by have := hb1.size; simp at this; omega
    have hB1 : Below w.heap.size w w1 := ((Below.refl _ _).alloc (Nat.le_refl _) _).trans (hb1.mono (by simp))
    clear hb1 hlk
    go_wp2_with fail
    refine (zf HBare.out (zbL _ _ _ _ _ _ _ _ _ _ _ _ _ _)).mono ?_
    rintro e w2 ⟨rfl, hb2⟩
    have hX2 := za hX1 hz1 hb2
    have hz2 : w.heap.size < w2.heap.size := by have := hb2.size; omega
    have hB2 : Below w.heap.size w w2 := hB1.trans (hb2.mono (by omega))
    clear hb2 hX1 hz1 hB1
    go_wp2_with fail
    refine (zf HSnd.out (zcn _ _ _ _ _ _ _ _ _ _ _ _ _ _ _ _ (by exact hws.mono hB2))).mono ?_
    rintro e w3 ⟨rfl, hb3⟩
    have hX3 := za hX2 hz2 hb3
    have hz3 : w.heap.size < w3.heap.size := by have := hb3.size; omega
    have hB3 : Below w.heap.size w w3 := hB2.trans (hb3.mono (by omega))
    clear hb3 hX2 hz2 hB2
    go_wp2_with fail
    refine (zeO _ _ _ _ _ _ _ _ _ _ _ _ _ _ _ (by exact hws.mono hB3)).mono ?_
    rintro e w4 ⟨rfl, hb4⟩
    have hB4 : Below w.heap.size w w4 := hB3.trans (hb4.mono (by omega))
    clear hb4
    go_wp2_with fail
    go_ret
    exact ⟨ze (by rw [HO.out, HBare.out, HSnd.out, HD.out, HZ.out]; rfl), hB4⟩
set_option maxHeartbeats 1000000 in
theorem zmS (r : Nat) (nm : ByteArray) (ls ms : Int) (a : Option Addr) (cap : Nat) (ws : List ByteArray) (to : ByteArray) (rl : Int) (mu fx : Bool) (df wg : ByteArray) (a0 : Option Addr) (cap0 : Nat) (ss : List Shp) (w : World) (hr : w.heap[r]? = some (.map yK 4)) (hdf : df.size <= maxLen) :
    Calls Tryz.prog 176 #[.map (some r), .slice a0 ss.length cap0, .agg #[.string nm, .int .i64 3, .int .i64 ls, .int .i64 ms, .slice a ws.length cap, .string to, .int .i64 rl, .bool mu, .bool fx, .string df, .string wg]] w
      fun e w' => e = .returned (.bool (Gate.yE ss ⟨nm, 3, ls, ms, ws, to, rl, mu, fx, df, wg⟩)) /\ Below w.heap.size w w' := by
  have HO : Hid (Gate.yE ss ⟨nm, 3, ls, ms, ws, to, rl, mu, fx, df, wg⟩ = (Gate.yD 3 ls ms ws.length to rl wg && Gate.zS ss ⟨nm, 3, ls, ms, ws, to, rl, mu, fx, df, wg⟩ && (df.toList.isEmpty || Gate.fits 3 ls ms ws df))) := rfl
  have hlt : r < w.heap.size := (Array.getElem?_eq_some_iff.1 hr).1
  have hlk : ∀ o, (Instr.lookup 163 (.map (some r)) (.int .i64 3) true).run Tryz.prog (w.alloc o) = .ok (.tuple #[.func (.func 149) #[] #[], .bool true]) (w.alloc o) :=
    fun o => yN Tryz.underlying163 Tryz.underlying3 (.int .i64 3) _ rfl yK 4 2 rfl (w.alloc o) r ((Below.heap_alloc w o r hlt).trans hr)
  clear hr
  have hm1 := zjH
  have hm2 := ziI
  have hm3 := zeQ
  by_cases hbare : Gate.yD 3 ls ms ws.length to rl wg = true
  rotate_left
  · have HBare : Hid (Gate.yD 3 ls ms ws.length to rl wg = false) := by simpa [Hid] using hbare
    clear hbare hm2 hm3
    go_enter Tryz.func176, Tryz.ntmps176
    go_wp2_with fail
    refine (zcM _ _ _ _ _ _ _ _ _ _ _ _ _ _).mono ?_
    rintro e w1 ⟨rfl, hb1⟩
    have hX1 := za (zl w _ _) (by simp) hb1
    have hz1 : w.heap.size < w1.heap.size := by have := hb1.size; simp at this; omega
    have hB1 : Below w.heap.size w w1 := ((Below.refl _ _).alloc (Nat.le_refl _) _).trans (hb1.mono (by simp))
    clear hb1 hlk
    go_wp2_with fail
    refine (zf HBare.out (zbR _ _ _ _ _ _ _ _ _ _ _ _ _ _)).mono ?_
    rintro e w2 ⟨rfl, hb2⟩
    have hX2 := za hX1 hz1 hb2
    have hz2 : w.heap.size < w2.heap.size := by have := hb2.size; omega
    have hB2 : Below w.heap.size w w2 := hB1.trans (hb2.mono (by omega))
    clear hb2 hX1 hz1 hB1
    go_wp2_with fail
    go_ret
    exact ⟨ze (by rw [HO.out, HBare.out]; rfl), hB2⟩
  have HBare : Hid (Gate.yD 3 ls ms ws.length to rl wg = true) := hbare
  clear hbare
  by_cases hsnd : Gate.zS ss ⟨nm, 3, ls, ms, ws, to, rl, mu, fx, df, wg⟩ = true
  rotate_left
  · have HSnd : Hid (Gate.zS ss ⟨nm, 3, ls, ms, ws, to, rl, mu, fx, df, wg⟩ = false) := by simpa [Hid] using hsnd
    clear hsnd hm3
    go_enter Tryz.func176, Tryz.ntmps176
    go_wp2_with fail
    refine (zcM _ _ _ _ _ _ _ _ _ _ _ _ _ _).mono ?_
    rintro e w1 ⟨rfl, hb1⟩
    have hX1 := za (zl w _ _) (by simp) hb1
    have hz1 : w.heap.size < w1.heap.size := by have := hb1.size; simp at this; omega
    have hB1 : Below w.heap.size w w1 := ((Below.refl _ _).alloc (Nat.le_refl _) _).trans (hb1.mono (by simp))
    clear hb1 hlk
    go_wp2_with fail
    refine (zf HBare.out (zbR _ _ _ _ _ _ _ _ _ _ _ _ _ _)).mono ?_
    rintro e w2 ⟨rfl, hb2⟩
    have hX2 := za hX1 hz1 hb2
    have hz2 : w.heap.size < w2.heap.size := by have := hb2.size; omega
    have hB2 : Below w.heap.size w w2 := hB1.trans (hb2.mono (by omega))
    clear hb2 hX1 hz1 hB1
    go_wp2_with fail
    refine (zf HSnd.out (zcr _ _ _ _ _ _ _ _ _ _ _ _ _ _ _ _)).mono ?_
    rintro e w3 ⟨rfl, hb3⟩
    have hX3 := za hX2 hz2 hb3
    have hz3 : w.heap.size < w3.heap.size := by have := hb3.size; omega
    have hB3 : Below w.heap.size w w3 := hB2.trans (hb3.mono (by omega))
    clear hb3 hX2 hz2 hB2
    go_wp2_with fail
    go_ret
    exact ⟨ze (by rw [HO.out, HBare.out, HSnd.out]; rfl), hB3⟩
  have HSnd : Hid (Gate.zS ss ⟨nm, 3, ls, ms, ws, to, rl, mu, fx, df, wg⟩ = true) := hsnd
  clear hsnd
  by_cases hd : df.toList.isEmpty = true
  · have HD : Hid (df.toList.isEmpty = true) := hd
    go_enter Tryz.func176, Tryz.ntmps176
    go_wp2_with fail
    refine (zcM _ _ _ _ _ _ _ _ _ _ _ _ _ _).mono ?_
    rintro e w1 ⟨rfl, hb1⟩
    have hX1 := za (zl w _ _) (by simp) hb1
    have hz1 : w.heap.size < w1.heap.size := by have := hb1.size; simp at this; omega
    have hB1 : Below w.heap.size w w1 := ((Below.refl _ _).alloc (Nat.le_refl _) _).trans (hb1.mono (by simp))
    clear hb1 hlk
    go_wp2_with fail
    refine (zf HBare.out (zbR _ _ _ _ _ _ _ _ _ _ _ _ _ _)).mono ?_
    rintro e w2 ⟨rfl, hb2⟩
    have hX2 := za hX1 hz1 hb2
    have hz2 : w.heap.size < w2.heap.size := by have := hb2.size; omega
    have hB2 : Below w.heap.size w w2 := hB1.trans (hb2.mono (by omega))
    clear hb2 hX1 hz1 hB1
    go_wp2_with fail
    refine (zf HSnd.out (zcr _ _ _ _ _ _ _ _ _ _ _ _ _ _ _ _)).mono ?_
    rintro e w3 ⟨rfl, hb3⟩
    have hX3 := za hX2 hz2 hb3
    have hz3 : w.heap.size < w3.heap.size := by have := hb3.size; omega
    have hB3 : Below w.heap.size w w3 := hB2.trans (hb3.mono (by omega))
    clear hb3 hX2 hz2 hB2
    go_wp2_with fail
    go_ret
    exact ⟨ze (by rw [HO.out, HBare.out, HSnd.out, HD.out]; rfl), hB3⟩
  · have hd' : df.toList.isEmpty = false := by simpa using hd
    have HD : Hid (df.toList.isEmpty = false) := hd'
    have HZ : Hid (Gate.fits 3 ls ms ws df = Gate.zaE ls ms df) := Gate.zjv ls ms ws df (by intro h; rw [Gate.zq] at hd'; simp [h] at hd')
    clear hd
    go_enter Tryz.func176, Tryz.ntmps176
    go_wp2_with fail
    refine (zcM _ _ _ _ _ _ _ _ _ _ _ _ _ _).mono ?_
    rintro e w1 ⟨rfl, hb1⟩
    have hX1 := za (zl w _ _) (by simp) hb1
    have hz1 : w.heap.size < w1.heap.size := by have := hb1.size; simp at this; omega
    have hB1 : Below w.heap.size w w1 := ((Below.refl _ _).alloc (Nat.le_refl _) _).trans (hb1.mono (by simp))
    clear hb1 hlk
    go_wp2_with fail
    refine (zf HBare.out (zbR _ _ _ _ _ _ _ _ _ _ _ _ _ _)).mono ?_
    rintro e w2 ⟨rfl, hb2⟩
    have hX2 := za hX1 hz1 hb2
    have hz2 : w.heap.size < w2.heap.size := by have := hb2.size; omega
    have hB2 : Below w.heap.size w w2 := hB1.trans (hb2.mono (by omega))
    clear hb2 hX1 hz1 hB1
    go_wp2_with fail
    refine (zf HSnd.out (zcr _ _ _ _ _ _ _ _ _ _ _ _ _ _ _ _)).mono ?_
    rintro e w3 ⟨rfl, hb3⟩
    have hX3 := za hX2 hz2 hb3
    have hz3 : w.heap.size < w3.heap.size := by have := hb3.size; omega
    have hB3 : Below w.heap.size w w3 := hB2.trans (hb3.mono (by omega))
    clear hb3 hX2 hz2 hB2
    go_wp2_with fail
    refine (zeZ _ _ _ _ _ _ _ _ _ _ _ _ _ hdf).mono ?_
    rintro e w4 ⟨rfl, hb4⟩
    have hB4 : Below w.heap.size w w4 := hB3.trans (hb4.mono (by omega))
    clear hb4
    go_wp2_with fail
    go_ret
    exact ⟨ze (by rw [HO.out, HBare.out, HSnd.out, HD.out, HZ.out]; rfl), hB4⟩
set_option maxHeartbeats 1000000 in
theorem zmX (r : Nat) (nm : ByteArray) (ls ms : Int) (a : Option Addr) (cap : Nat) (ws : List ByteArray) (to : ByteArray) (rl : Int) (mu fx : Bool) (df wg : ByteArray) (a0 : Option Addr) (cap0 : Nat) (ss : List Shp) (w : World) (hr : w.heap[r]? = some (.map yK 4)) (hdf : df.size <= maxLen) (hss : yG w a0 ss) :
    Calls Tryz.prog 176 #[.map (some r), .slice a0 ss.length cap0, .agg #[.string nm, .int .i64 4, .int .i64 ls, .int .i64 ms, .slice a ws.length cap, .string to, .int .i64 rl, .bool mu, .bool fx, .string df, .string wg]] w
      fun e w' => e = .returned (.bool (Gate.yE ss ⟨nm, 4, ls, ms, ws, to, rl, mu, fx, df, wg⟩)) /\ Below w.heap.size w w' := by
  have HO : Hid (Gate.yE ss ⟨nm, 4, ls, ms, ws, to, rl, mu, fx, df, wg⟩ = (Gate.yD 4 ls ms ws.length to rl wg && Gate.zS ss ⟨nm, 4, ls, ms, ws, to, rl, mu, fx, df, wg⟩ && (df.toList.isEmpty || Gate.fits 4 ls ms ws df))) := rfl
  have hlt : r < w.heap.size := (Array.getElem?_eq_some_iff.1 hr).1
  have hlk : ∀ o, (Instr.lookup 163 (.map (some r)) (.int .i64 4) true).run Tryz.prog (w.alloc o) = .ok (.tuple #[.func (.func 150) #[] #[], .bool true]) (w.alloc o) :=
    fun o => yN Tryz.underlying163 Tryz.underlying3 (.int .i64 4) _ rfl yK 4 3 rfl (w.alloc o) r ((Below.heap_alloc w o r hlt).trans hr)
  clear hr
  have hm1 := zjw
  have hm2 := zij
  have hm3 := zeI
  by_cases hbare : Gate.yD 4 ls ms ws.length to rl wg = true
  rotate_left
  · have HBare : Hid (Gate.yD 4 ls ms ws.length to rl wg = false) := by simpa [Hid] using hbare
    clear hbare hm2 hm3
    go_enter Tryz.func176, Tryz.ntmps176
    go_wp2_with fail
    refine (zcK _ _ _ _ _ _ _ _ _ _ _ _ _ _).mono ?_
    rintro e w1 ⟨rfl, hb1⟩
    have hX1 := za (zl w _ _) (by simp) hb1
    have hz1 : w.heap.size < w1.heap.size := by have := hb1.size; simp at this; omega
    have hB1 : Below w.heap.size w w1 := ((Below.refl _ _).alloc (Nat.le_refl _) _).trans (hb1.mono (by simp))
    clear hb1 hlk
    go_wp2_with fail
    refine (zf HBare.out (zbP _ _ _ _ _ _ _ _ _ _ _ _ _ _)).mono ?_
    rintro e w2 ⟨rfl, hb2⟩
    have hX2 := za hX1 hz1 hb2
    have hz2 : w.heap.size < w2.heap.size := by have := hb2.size; omega
    have hB2 : Below w.heap.size w w2 := hB1.trans (hb2.mono (by omega))
    clear hb2 hX1 hz1 hB1
    go_wp2_with fail
    go_ret
    exact ⟨ze (by rw [HO.out, HBare.out]; rfl), hB2⟩
  have HBare : Hid (Gate.yD 4 ls ms ws.length to rl wg = true) := hbare
  clear hbare
  by_cases hsnd : Gate.zS ss ⟨nm, 4, ls, ms, ws, to, rl, mu, fx, df, wg⟩ = true
  rotate_left
  · have HSnd : Hid (Gate.zS ss ⟨nm, 4, ls, ms, ws, to, rl, mu, fx, df, wg⟩ = false) := by simpa [Hid] using hsnd
    clear hsnd hm3
    go_enter Tryz.func176, Tryz.ntmps176
    go_wp2_with fail
    refine (zcK _ _ _ _ _ _ _ _ _ _ _ _ _ _).mono ?_
    rintro e w1 ⟨rfl, hb1⟩
    have hX1 := za (zl w _ _) (by simp) hb1
    have hz1 : w.heap.size < w1.heap.size := by have := hb1.size; simp at this; omega
    have hB1 : Below w.heap.size w w1 := ((Below.refl _ _).alloc (Nat.le_refl _) _).trans (hb1.mono (by simp))
    clear hb1 hlk
    go_wp2_with fail
    refine (zf HBare.out (zbP _ _ _ _ _ _ _ _ _ _ _ _ _ _)).mono ?_
    rintro e w2 ⟨rfl, hb2⟩
    have hX2 := za hX1 hz1 hb2
    have hz2 : w.heap.size < w2.heap.size := by have := hb2.size; omega
    have hB2 : Below w.heap.size w w2 := hB1.trans (hb2.mono (by omega))
    clear hb2 hX1 hz1 hB1
    go_wp2_with fail
    refine (zf HSnd.out (zcq _ _ _ _ _ _ _ _ _ _ _ _ _ _ _ _ (by exact hss.mono hB2))).mono ?_
    rintro e w3 ⟨rfl, hb3⟩
    have hX3 := za hX2 hz2 hb3
    have hz3 : w.heap.size < w3.heap.size := by have := hb3.size; omega
    have hB3 : Below w.heap.size w w3 := hB2.trans (hb3.mono (by omega))
    clear hb3 hX2 hz2 hB2
    go_wp2_with fail
    go_ret
    exact ⟨ze (by rw [HO.out, HBare.out, HSnd.out]; rfl), hB3⟩
  have HSnd : Hid (Gate.zS ss ⟨nm, 4, ls, ms, ws, to, rl, mu, fx, df, wg⟩ = true) := hsnd
  clear hsnd
  by_cases hd : df.toList.isEmpty = true
  · have HD : Hid (df.toList.isEmpty = true) := hd
    go_enter Tryz.func176, Tryz.ntmps176
    go_wp2_with fail
    refine (zcK _ _ _ _ _ _ _ _ _ _ _ _ _ _).mono ?_
    rintro e w1 ⟨rfl, hb1⟩
    have hX1 := za (zl w _ _) (by simp) hb1
    have hz1 : w.heap.size < w1.heap.size := by have := hb1.size; simp at this; omega
    have hB1 : Below w.heap.size w w1 := ((Below.refl _ _).alloc (Nat.le_refl _) _).trans (hb1.mono (by simp))
    clear hb1 hlk
    go_wp2_with fail
    refine (zf HBare.out (zbP _ _ _ _ _ _ _ _ _ _ _ _ _ _)).mono ?_
    rintro e w2 ⟨rfl, hb2⟩
    have hX2 := za hX1 hz1 hb2
    have hz2 : w.heap.size < w2.heap.size := by have := hb2.size; omega
    have hB2 : Below w.heap.size w w2 := hB1.trans (hb2.mono (by omega))
    clear hb2 hX1 hz1 hB1
    go_wp2_with fail
    refine (zf HSnd.out (zcq _ _ _ _ _ _ _ _ _ _ _ _ _ _ _ _ (by exact hss.mono hB2))).mono ?_
    rintro e w3 ⟨rfl, hb3⟩
    have hX3 := za hX2 hz2 hb3
    have hz3 : w.heap.size < w3.heap.size := by have := hb3.size; omega
    have hB3 : Below w.heap.size w w3 := hB2.trans (hb3.mono (by omega))
    clear hb3 hX2 hz2 hB2
    go_wp2_with fail
    go_ret
    exact ⟨ze (by rw [HO.out, HBare.out, HSnd.out, HD.out]; rfl), hB3⟩
  · have hd' : df.toList.isEmpty = false := by simpa using hd
    have HD : Hid (df.toList.isEmpty = false) := hd'
    have HZ : Hid (Gate.fits 4 ls ms ws df = Gate.zx df) := Gate.zlM ls ms ws df (by intro h; rw [Gate.zq] at hd'; simp [h] at hd')
    clear hd
    go_enter Tryz.func176, Tryz.ntmps176
    go_wp2_with fail
    refine (zcK _ _ _ _ _ _ _ _ _ _ _ _ _ _).mono ?_
    rintro e w1 ⟨rfl, hb1⟩
    have hX1 := za (zl w _ _) (by simp) hb1
    have hz1 : w.heap.size < w1.heap.size := by have := hb1.size; simp at this; omega
    have hB1 : Below w.heap.size w w1 := ((Below.refl _ _).alloc (Nat.le_refl _) _).trans (hb1.mono (by simp))
    clear hb1 hlk
    go_wp2_with fail
    refine (zf HBare.out (zbP _ _ _ _ _ _ _ _ _ _ _ _ _ _)).mono ?_
    rintro e w2 ⟨rfl, hb2⟩
    have hX2 := za hX1 hz1 hb2
    have hz2 : w.heap.size < w2.heap.size := by have := hb2.size; omega
    have hB2 : Below w.heap.size w w2 := hB1.trans (hb2.mono (by omega))
    clear hb2 hX1 hz1 hB1
    go_wp2_with fail
    refine (zf HSnd.out (zcq _ _ _ _ _ _ _ _ _ _ _ _ _ _ _ _ (by exact hss.mono hB2))).mono ?_
    rintro e w3 ⟨rfl, hb3⟩
    have hX3 := za hX2 hz2 hb3
    have hz3 : w.heap.size < w3.heap.size := by have := hb3.size; omega
    have hB3 : Below w.heap.size w w3 := hB2.trans (hb3.mono (by omega))
    clear hb3 hX2 hz2 hB2
    go_wp2_with fail
    refine (zff _ _ _ _ _ _ _ _ _ _ _ _ _ hdf).mono ?_
    rintro e w4 ⟨rfl, hb4⟩
    have hB4 : Below w.heap.size w w4 := hB3.trans (hb4.mono (by omega))
    clear hb4
    go_wp2_with fail
    go_ret
    exact ⟨ze (by rw [HO.out, HBare.out, HSnd.out, HD.out, HZ.out]; rfl), hB4⟩
set_option maxHeartbeats 400000 in
theorem zik (r : Nat) (nm : ByteArray) (kd ls ms : Int) (a : Option Addr) (cap : Nat) (ws : List ByteArray) (to : ByteArray) (rl : Int) (mu fx : Bool) (df wg : ByteArray) (a0 : Option Addr) (cap0 : Nat) (ss : List Shp) (w : World) (hr : w.heap[r]? = some (.map yK 4)) (h1 : kd ≠ 1) (h2 : kd ≠ 2) (h3 : kd ≠ 3) (h4 : kd ≠ 4) :
    Calls Tryz.prog 176 #[.map (some r), .slice a0 ss.length cap0, .agg #[.string nm, .int .i64 kd, .int .i64 ls, .int .i64 ms, .slice a ws.length cap, .string to, .int .i64 rl, .bool mu, .bool fx, .string df, .string wg]] w
      fun e w' => e = .returned (.bool (Gate.yE ss ⟨nm, kd, ls, ms, ws, to, rl, mu, fx, df, wg⟩)) /\ Below w.heap.size w w' := by
  have HO : Hid (Gate.yE ss ⟨nm, kd, ls, ms, ws, to, rl, mu, fx, df, wg⟩ = false) := by simp [Hid, Gate.yE, Gate.bare, Gate.yD, h1, h2, h3, h4]
  have hlt : r < w.heap.size := (Array.getElem?_eq_some_iff.1 hr).1
  have hlk : ∀ o, (Instr.lookup 163 (.map (some r)) (.int .i64 kd) true).run Tryz.prog (w.alloc o) = .ok (.tuple #[.nilFunc, .bool false]) (w.alloc o) :=
    fun o => zbD Tryz.underlying163 Tryz.underlying3 (.int .i64 kd) _ rfl yK 4 (ziZ kd h1 h2 h3 h4) (w.alloc o) (zjh _) r ((Below.heap_alloc w o r hlt).trans hr)
  clear hr h1 h2 h3 h4
  go_enter Tryz.func176, Tryz.ntmps176
  go_wp2_with fail
  go_ret
  exact ⟨ze HO.out.symm, (Below.refl _ _).alloc (Nat.le_refl _) _⟩
theorem zkr (r : Nat) (nm : ByteArray) (kd ls ms : Int) (a : Option Addr) (cap : Nat) (ws : List ByteArray) (to : ByteArray) (rl : Int) (mu fx : Bool) (df wg : ByteArray) (a0 : Option Addr) (cap0 : Nat) (ss : List Shp) (w : World) (hr : w.heap[r]? = some (.map yK 4)) (hdf : df.size <= maxLen) (hwg : wg.size <= maxLen) (hws : zD w a ws) (hss : yG w a0 ss) :
    Calls Tryz.prog 176 #[.map (some r), .slice a0 ss.length cap0, .agg #[.string nm, .int .i64 kd, .int .i64 ls, .int .i64 ms, .slice a ws.length cap, .string to, .int .i64 rl, .bool mu, .bool fx, .string df, .string wg]] w
      fun e w' => e = .returned (.bool (Gate.yE ss ⟨nm, kd, ls, ms, ws, to, rl, mu, fx, df, wg⟩)) /\ Below w.heap.size w w' := by
  by_cases h1 : kd = 1
  · subst h1; exact zmO r nm ls ms a cap ws to rl mu fx df wg a0 cap0 ss w hr hdf hwg
  by_cases h2 : kd = 2
  · subst h2; exact zm3 r nm ls ms a cap ws to rl mu fx df wg a0 cap0 ss w hr hws
  by_cases h3 : kd = 3
  · subst h3; exact zmS r nm ls ms a cap ws to rl mu fx df wg a0 cap0 ss w hr hdf
  by_cases h4 : kd = 4
  · subst h4; exact zmX r nm ls ms a cap ws to rl mu fx df wg a0 cap0 ss w hr hdf hss
  exact zik r nm kd ls ms a cap ws to rl mu fx df wg a0 cap0 ss w hr h1 h2 h3 h4
end Go.Proofs.YtnbpglbbjnkhpaaGreat
