import Derived.Test.YtkfigdbbncjojaaGreatM11
import Derived.Test.YtkfigdbbncjojaaGreatM05
import Derived.Test.YtkfigdbbncjojaaGreatM03
import Derived.Test.YtkfigdbbncjojaaGreatM01
import Derived.Deep.QuietTactic
import Derived.BigQuiet
import Derived.Deep.OwnRows
import Derived.MapKept
import Derived.Test.YtkfigdbbncjojaaGreatM08
import Derived.WalkKit
import Derived.Test.YtkfigdbbncjojaaGreatM09
import Derived.Deep.RegionHeld3
namespace Go.Proofs.YtkfigdbbncjojaaGreat
open Go.RowKit
set_option maxHeartbeats 1000000 in
theorem zhv (a : Option Addr) (cap : Nat) (ws : List ByteArray) (w : World) (hw : zB w a ws) :
    Calls Tryz.prog 196 #[.slice a ws.length cap] w fun e w' => e = .returned (.bool (Gate.asc ws)) /\ w' = w := by
  have hl := hw.len
  unfold maxLen at hl
  go_enter Tryz.func196, Tryz.ntmps196
  go_wp2
  go_loop [7] (fun i => ∃ k : Nat, k <= ws.length /\ i = .int .i64 k /\ Gate.up (Gate.zci ws) k = true) (fun i => ws.length - (intOf i).toNat)
  case atStart => exact ⟨0, Nat.zero_le _, rfl, rfl⟩
  case round =>
    obtain ⟨k, hk, rfl, hup⟩ := hrel
    by_cases hlt : k < ws.length
    · obtain ⟨b, off, rfl, hb, hc⟩ := hw.cells (by rintro rfl; simp at hlt)
      have hsm := hw.small _ (List.getElem_mem hlt)
      clear hw
      have hck := hc k hlt
      by_cases hn : Gate.zy ws[k] = true
      · by_cases hk0 : k = 0
        · have HF : Hid (Gate.up (Gate.zci ws) (k + 1) = true) := by subst hk0; unfold Hid; rw [Gate.je, Gate.zfF hlt hn]; rfl
          have hg : decide (0 < k) = false := by simp; omega
          have HN : Hid (Gate.zy ws[k] = true) := hn
          clear hn hc hup hk0
          go_wp2_with (go_at_call 108; refine (zu HN.out (zL _ _ hsm)).mono ?_; rintro e w' ⟨rfl, rfl⟩)
          go_round
          case rel => exact ⟨k + 1, by omega, by go_num, HF.out⟩
          case measure => simp [intOf]; omega
        · obtain ⟨m, rfl⟩ : ∃ m, k = m + 1 := ⟨k - 1, by omega⟩
          have hcm := hc m (by omega)
          have HU : Hid (Gate.up (Gate.zci ws) (m + 1 + 1) = Gate.less ws[m] ws[m + 1]) := by unfold Hid; rw [Gate.je, hup, Gate.zcM hlt hn]; rfl
          have HNN : Hid (Gate.less ws[m] ws[m + 1] = false -> Gate.asc ws = false) := fun h => Gate.zaF hlt (by rw [Gate.zcM hlt hn]; exact h)
          have HN : Hid (Gate.zy ws[m + 1] = true) := hn
          clear hn hc hup hk0
          by_cases hls : Gate.less ws[m] ws[m + 1] = true
          · have hls' : Op.bytesLess ws[m].toList ws[m + 1].toList = true := hls
            have HLS : Hid (Gate.less ws[m] ws[m + 1] = true) := hls
            clear hls
            go_wp2_with (go_at_call 108; refine (zu HN.out (zL _ _ hsm)).mono ?_; rintro e w' ⟨rfl, rfl⟩)
            go_round
            case rel => exact ⟨m + 1 + 1, by omega, by go_num, by rw [HU.out, HLS.out]⟩
            case measure => simp [intOf]; omega
          · have hls' : Op.bytesLess ws[m].toList ws[m + 1].toList = false := by simpa [Gate.less] using hls
            have HLS : Hid (Gate.less ws[m] ws[m + 1] = false) := hls'
            clear hls
            go_wp2_with (go_at_call 108; refine (zu HN.out (zL _ _ hsm)).mono ?_; rintro e w' ⟨rfl, rfl⟩)
            go_ret
            exact ⟨ze (HNN.out HLS.out).symm, rfl⟩
      · have hn' : Gate.zy ws[k] = false := by simpa using hn
        have HF : Hid (Gate.asc ws = false) := Gate.zaF hlt (Gate.zho hlt hn')
        have HN : Hid (Gate.zy ws[k] = false) := hn'
        clear hn hn' hc hup
        go_wp2_with (go_at_call 108; refine (zu HN.out (zL _ _ hsm)).mono ?_; rintro e w' ⟨rfl, rfl⟩)
        go_ret
        exact ⟨ze HF.out.symm, rfl⟩
    · have HF : Hid (Gate.asc ws = true) := by
        have e : k = ws.length := by omega
        subst e; exact hup
      clear hw hup
      go_wp2
      go_ret
      exact ⟨ze HF.out.symm, rfl⟩
end Go.Proofs.YtkfigdbbncjojaaGreat

namespace Go.Proofs.YtkfigdbbncjojaaGreat
open Go.RowKit
set_option maxHeartbeats 400000 in
theorem zmM (a : Option Addr) (cap : Nat) (ws : List ByteArray) (v : ByteArray) (w : World) (hw : zB w a ws) :
    Calls Tryz.prog 226 #[.slice a ws.length cap, .string v] w fun e w' => ∃ r : Int, e = .returned (.int .i64 r) /\ decide (0 <= r) = Gate.has ws v /\ w' = w := by
  have hl := hw.len
  unfold maxLen at hl
  by_cases hne : ws = []
  · subst hne
    go_enter Tryz.func226, Tryz.ntmps226
    go_wp2
    go_loop [8] (fun i => i = .int .i64 0) (fun i => 0)
    case atStart => rfl
    case round =>
      subst hrel
      go_wp2
      go_ret
      exact ⟨_, rfl, rfl, rfl⟩
  · obtain ⟨b, off, rfl, hb, hc⟩ := hw.cells hne
    clear hw
    have HL : Hid (0 < ws.length) := List.length_pos_iff.2 hne
    clear hne
    go_enter Tryz.func226, Tryz.ntmps226
    go_wp2
    go_loop [8] (fun i => ∃ k : Nat, k <= ws.length /\ i = .int .i64 k /\ Gate.has (ws.take k) v = false) (fun i => ws.length - (intOf i).toNat)
    case atStart => exact ⟨0, Nat.zero_le _, rfl, rfl⟩
    case round =>
      obtain ⟨k, hk, rfl, hall⟩ := hrel
      by_cases hlt : k < ws.length
      · have hck := hc k hlt
        clear hc
        have HS : Hid (Gate.has (ws.take (k + 1)) v = (false || decide (ws[k] = v))) := by rw [Gate.zkf ws v k hlt, hall]; rfl
        have HN : Hid (ws[k] = v -> Gate.has ws v = true) := fun h => Gate.zmZ ws v k hlt h
        clear hall
        by_cases he : ws[k] = v
        · have hbe : (v.toList == ws[k].toList) = true := by rw [Gate.beq_toList]; simpa using he.symm
          have HE : Hid (ws[k] = v) := he
          clear he
          go_wp2
          go_ret
          exact ⟨_, rfl, by rw [HN.out HE.out]; simp, rfl⟩
        · have hbe : (v.toList == ws[k].toList) = false := by rw [Gate.beq_toList]; simpa using fun h => he h.symm
          have HE : Hid (¬ ws[k] = v) := he
          clear he
          go_wp2
          go_round
          case rel => exact ⟨k + 1, by omega, by go_num, by rw [HS.out, decide_eq_false HE.out]; rfl⟩
          case measure => simp [intOf]; omega
      · have HA : Hid (Gate.has ws v = false) := by rw [<- Gate.zmc ws v k (by omega)]; exact hall
        clear hall hc
        go_wp2
        go_ret
        exact ⟨_, rfl, by rw [HA.out]; rfl, rfl⟩
set_option maxHeartbeats 400000 in
theorem zjM (a : Option Addr) (cap : Nat) (ws : List ByteArray) (v : ByteArray) (w : World) (hw : zB w a ws) :
    Calls Tryz.prog 225 #[.slice a ws.length cap, .string v] w fun e w' => e = .returned (.bool (Gate.has ws v)) /\ w' = w := by
  go_enter Tryz.func225, Tryz.ntmps225
  go_wp2_with (go_at_call 226; refine (zmM _ _ _ _ _ hw).mono ?_; rintro e w' ⟨r, rfl, hr, rfl⟩)
  go_ret
  exact ⟨rfl, rfl⟩
set_option maxHeartbeats 400000 in
theorem zeu (nm : ByteArray) (kd ls ms : Int) (a : Option Addr) (cap : Nat) (ws : List ByteArray) (to : ByteArray) (rl : Int) (mu fx : Bool) (df wg : ByteArray) (v : ByteArray) (w : World) (hw : zB w a ws) :
    Calls Tryz.prog 223 #[.agg #[.string nm, .int .i64 kd, .int .i64 ls, .int .i64 ms, .slice a ws.length cap, .string to, .int .i64 rl, .bool mu, .bool fx, .string df, .string wg], .string v] w
      fun e w' => e = .returned (.bool (Gate.has ws v)) /\ Below w.heap.size w w' := by
  go_enter Tryz.func223, Tryz.ntmps223
  go_wp2_with (go_at_call 225; refine (zjM _ _ _ _ _ (hw.mono (by exact (Below.refl _ _).alloc (Nat.le_refl _) _))).mono ?_; rintro e w' ⟨rfl, rfl⟩)
  go_ret
  exact ⟨rfl, (Below.refl _ _).alloc (Nat.le_refl _) _⟩
set_option maxHeartbeats 400000 in
theorem zeH (nm : ByteArray) (kd ls ms : Int) (sl : Value) (to : ByteArray) (rl : Int) (mu fx : Bool) (df wg : ByteArray) (v : ByteArray) (w : World) (hs : v.size <= maxLen) :
    Calls Tryz.prog 231 #[.agg #[.string nm, .int .i64 kd, .int .i64 ls, .int .i64 ms, sl, .string to, .int .i64 rl, .bool mu, .bool fx, .string df, .string wg], .string v] w
      fun e w' => e = .returned (.bool (Gate.zy v)) /\ Below w.heap.size w w' := by
  go_enter Tryz.func231, Tryz.ntmps231
  go_wp2_with (go_at_call 108; refine (zL _ _ hs).mono ?_; rintro e w' ⟨rfl, rfl⟩)
  go_ret
  exact ⟨rfl, (Below.refl _ _).alloc (Nat.le_refl _) _⟩
set_option maxHeartbeats 400000 in
theorem zeF (nm : ByteArray) (kd ls ms : Int) (sl : Value) (to : ByteArray) (rl : Int) (mu fx : Bool) (df wg : ByteArray) (s : ByteArray) (w : World) (hs : s.size <= maxLen) :
    Calls Tryz.prog 228 #[.agg #[.string nm, .int .i64 kd, .int .i64 ls, .int .i64 ms, sl, .string to, .int .i64 rl, .bool mu, .bool fx, .string df, .string wg], .string s] w
      fun e w' => e = .returned (.bool (Gate.zaH ls ms s)) /\ Below w.heap.size w w' := by
  unfold maxLen at hs
  by_cases h1 : (s.size : Int) < ls
  · go_enter Tryz.func228, Tryz.ntmps228
    go_wp2
    go_ret
    refine ⟨ze ?_, (Below.refl _ _).alloc (Nat.le_refl _) _⟩
    unfold Gate.zaH; rw [decide_eq_false (by omega)]; rfl
  · by_cases h2 : ms < (s.size : Int)
    · go_enter Tryz.func228, Tryz.ntmps228
      go_wp2
      go_ret
      refine ⟨ze ?_, (Below.refl _ _).alloc (Nat.le_refl _) _⟩
      unfold Gate.zaH; rw [decide_eq_false (show ¬ (s.size : Int) <= ms by omega)]; simp
    · have HF : Hid (Gate.zaH ls ms s = Gate.zaE s) := by
        unfold Gate.zaH
        rw [decide_eq_true (show ls <= s.size by omega), decide_eq_true (show (s.size : Int) <= ms by omega)]; simp [Hid]
      go_enter Tryz.func228, Tryz.ntmps228
      go_wp2
      go_loop [20] (fun i => ∃ k : Nat, k <= s.size /\ i = .int .i64 k /\ (s.data.toList.take k).all Gate.yF = true) (fun i => s.size - (intOf i).toNat)
      case atStart => exact ⟨0, Nat.zero_le _, rfl, rfl⟩
      case round =>
        obtain ⟨k, hk, rfl, hall⟩ := hrel
        by_cases hlt : k < s.size
        · have HS : Hid ((s.data.toList.take (k + 1)).all Gate.yF = (true && Gate.yF s[k])) := by rw [Gate.za3 _ s k hlt, hall]; rfl
          have HN : Hid (Gate.yF s[k] = false -> Gate.zaE s = false) := fun h => Gate.zcL Gate.yF s k hlt h
          clear hall
          by_cases h33 : (s[k].toNat : Int) < 33
          · have HC : Hid (Gate.yF s[k] = false) := by simp [Gate.yF, Hid]; omega
            go_wp2
            go_ret
            exact ⟨ze (HF.out.trans (HN.out HC.out)).symm, (Below.refl _ _).alloc (Nat.le_refl _) _⟩
          · by_cases h126 : 126 < (s[k].toNat : Int)
            · have HC : Hid (Gate.yF s[k] = false) := by simp [Gate.yF, Hid]; omega
              go_wp2
              go_ret
              exact ⟨ze (HF.out.trans (HN.out HC.out)).symm, (Below.refl _ _).alloc (Nat.le_refl _) _⟩
            · have HC : Hid (Gate.yF s[k] = true) := by simp [Gate.yF, Hid]; omega
              go_wp2
              go_round
              case rel => exact ⟨k + 1, by omega, by go_num, by rw [HS.out, HC.out]; rfl⟩
              case measure => simp [intOf]; omega
        · have HA : Hid (Gate.zaE s = true) := by unfold Gate.zaE Hid; rw [<- Gate.zaG s k (by omega)]; exact hall
          clear hall
          go_wp2
          go_ret
          exact ⟨ze (HF.out.trans HA.out).symm, (Below.refl _ _).alloc (Nat.le_refl _) _⟩
end Go.Proofs.YtkfigdbbncjojaaGreat

namespace Go.Proofs.YtkfigdbbncjojaaGreat
open Go.RowKit
set_option maxHeartbeats 1000000 in
theorem zcV (a : Option Addr) (cap : Nat) (ws : List ByteArray) (w : World) (hw : zB w a ws) :
    Calls Tryz.prog 91 #[.slice a ws.length cap] w fun e w' => e = .returned (.bool (Gate.asc ws)) /\ ∃ n, w' = w.drewN n := by
  have hl := hw.len
  unfold maxLen at hl
  go_enter Tryz.func91, Tryz.ntmps91
  go_wp2
  go_loopw [3] (fun i wr => ∃ k : Nat, k <= ws.length /\ i = .int .i64 k /\ Gate.up (Gate.zci ws) k = true /\ ∃ n, wr = w.drewN n) (fun i _ => ws.length - (intOf i).toNat)
  case atStart => exact ⟨0, Nat.zero_le _, rfl, rfl, 0, rfl⟩
  case round =>
    obtain ⟨k, hk, rfl, hup, hwr⟩ := hrel
    have HW : Hid (∃ n, wr = w.drewN n) := hwr
    by_cases hlt : k < ws.length
    · obtain ⟨b, off, rfl, hb, hc0⟩ := hw.cells (by rintro rfl; simp at hlt)
      have hc : ∀ i (h : i < ws.length), wr.cell? ⟨b, off + i, none⟩ = some (.string ws[i]) := by obtain ⟨n, rfl⟩ := hwr; exact hc0
      have hsm := hw.small _ (List.getElem_mem hlt)
      clear hw hc0 hwr
      have hck := hc k hlt
      have hltI : (k : Int) < (ws.length : Int) := by omega
      by_cases hn : Gate.zy ws[k] = true
      · have hn' := hn
        by_cases hk0 : k = 0
        · have HF : Hid (Gate.up (Gate.zci ws) (k + 1) = true) := by subst hk0; unfold Hid; rw [Gate.je, Gate.zfF hlt hn]; rfl
          have hg : decide (0 < k) = false := by simp; omega
          clear hn hc hup hk0
          go_wp2
          go_quiet ((go_at_call 56; exact Calls.quiet_of_same (zu hn' (zN _ _ hsm))))
          go_wp2
          obtain ⟨n, rfl⟩ := HW.out
          exact ⟨⟨k + 1, by omega, by go_num, HF.out, n + nq, by simp⟩, by simp [intOf]; omega⟩
        · obtain ⟨m, rfl⟩ : ∃ m, k = m + 1 := ⟨k - 1, by omega⟩
          have hcm := hc m (by omega)
          have HU : Hid (Gate.up (Gate.zci ws) (m + 1 + 1) = Gate.less ws[m] ws[m + 1]) := by unfold Hid; rw [Gate.je, hup, Gate.zcM hlt hn]; rfl
          have HN : Hid (Gate.less ws[m] ws[m + 1] = false -> Gate.asc ws = false) := fun h => Gate.zaF hlt (by rw [Gate.zcM hlt hn]; exact h)
          clear hn hc hup hk0
          by_cases hls : Gate.less ws[m] ws[m + 1] = true
          · have hls' : Op.bytesLess ws[m].toList ws[m + 1].toList = true := hls
            have HLS : Hid (Gate.less ws[m] ws[m + 1] = true) := hls
            clear hls
            go_wp2
            go_quiet ((go_at_call 56; exact Calls.quiet_of_same (zu hn' (zN _ _ hsm))))
            go_wp2
            obtain ⟨n, rfl⟩ := HW.out
            exact ⟨⟨m + 1 + 1, by omega, by go_num, by rw [HU.out, HLS.out], n + nq, by simp⟩, by simp [intOf]; omega⟩
          · have hls' : Op.bytesLess ws[m].toList ws[m + 1].toList = false := by simpa [Gate.less] using hls
            have HLS : Hid (Gate.less ws[m] ws[m + 1] = false) := hls'
            clear hls
            go_wp2
            go_quiet ((go_at_call 56; exact Calls.quiet_of_same (zu hn' (zN _ _ hsm))))
            go_wp2
            go_ret
            refine ⟨ze (HN.out HLS.out).symm, ?_⟩
            obtain ⟨n, rfl⟩ := HW.out
            exact ⟨n + nq, by simp⟩
      · have hn' : Gate.zy ws[k] = false := by simpa using hn
        have HF : Hid (Gate.asc ws = false) := Gate.zaF hlt (Gate.zho hlt hn')
        clear hn hc hup
        go_wp2
        go_quiet ((go_at_call 56; exact Calls.quiet_of_same (zu hn' (zN _ _ hsm))))
        go_wp2
        go_ret
        refine ⟨ze HF.out.symm, ?_⟩
        obtain ⟨n, rfl⟩ := HW.out
        exact ⟨n + nq, by simp⟩
    · have HF : Hid (Gate.asc ws = true) := by
        have e : k = ws.length := by omega
        subst e; exact hup
      clear hw hup hwr
      go_wp2
      go_ret
      exact ⟨ze HF.out.symm, HW.out⟩
end Go.Proofs.YtkfigdbbncjojaaGreat

namespace Go.Proofs.YtkfigdbbncjojaaGreat
open Go.RowKit
set_option maxHeartbeats 1000000 in
theorem zdL (b off cap : Nat) (ws : List ByteArray) (w : World) (hw : zB w (some ⟨b, off, none⟩) ws) (hl : ws.length <= 1048576) :
    Calls Tryz.prog 200 #[.slice (some ⟨b, off, none⟩) ws.length cap] w
      fun e w' => ∃ v, e = .returned v /\ w'.ownsRow w.heap.size 9 1 v ws.length (ws.map Value.string) /\ Below w.heap.size w w' := by
  obtain ⟨i0, hi, hz0, hz1, hz2⟩ := info_parts Tryz.zcm
  have hnews : ∀ j u, (ws.map Value.string)[j]? = some u -> w.cell? ((⟨b, off, none⟩ : Addr).add j) = some u := by
    intro j u hj
    have hlt : j < ws.length := by
      have := (List.getElem?_eq_some_iff.1 hj).1; simpa using this
    obtain ⟨b', off', he, hb, hc⟩ := hw.cells (by rintro rfl; simp at hlt)
    simp only [Option.some.injEq, Addr.mk.injEq] at he
    obtain ⟨rfl, rfl, _⟩ := he
    have h1 := hc j hlt
    have e1 : (⟨b, off, none⟩ : Addr).add j = ⟨b, off + j, none⟩ := by
      unfold Addr.add; split
      · rename_i h; subst h; simp
      · rfl
    rw [e1, h1]
    rw [List.getElem?_map, List.getElem?_eq_getElem hlt] at hj
    simpa using hj
  have hone : ∀ u ∈ ws.map Value.string, u.oneCell' = true := by
    intro u hu; simp only [List.mem_map] at hu; obtain ⟨s, _, rfl⟩ := hu; rfl
  go_enter Tryz.func200, Tryz.ntmps200
  go_wp2_with (at_builtin; refine wpList_append_own _ rfl _ _ 87 rfl w.heap.size 9 i0 (.string ByteArray.empty) 1 16 Tryz.underlying87 hi hz0 hz1 hz2 rfl (by decide) (.slice none 0 0) 0 [] rfl ⟨rfl, .inl ⟨rfl, rfl⟩⟩ ⟨b, off, none⟩ ws.length cap (ws.map Value.string) rfl (by simp) hnews hone (by unfold maxLen; omega) (by omega) (Nat.le_refl _) ?_; intro v' w1 hown hgr _)
  simp only [Nat.zero_add, List.nil_append] at hown
  go_ret
  exact ⟨v', rfl, hown, (Below.refl _ _).grown hgr (Nat.le_refl _) (by simp [Value.ownBlock])⟩
end Go.Proofs.YtkfigdbbncjojaaGreat

namespace Go.Proofs.YtkfigdbbncjojaaGreat
open Go.RowKit
def Mnd.sz (m : Mnd) : Nat := m.kd.size + m.fd.size + m.wh.size + m.wi.size + m.pt.size + m.fr.size
def zf7 (ms : List Mnd) : Nat := (ms.map Mnd.sz).sum
def zaj (ms : List Mnd) : Nat := ms.length + zf7 ms
set_option maxHeartbeats 1000000 in
theorem zc4 (m : Mnd) (left : Int) (w : World) (hm : m.Small) (h0 : 0 <= left) (h1 : left <= 1048576) :
    Calls Tryz.prog 41 #[.agg m.cells, .int .i64 left] w fun e w' => e = .returned (.int .i64 (zF m.sz left)) /\ Below w.heap.size w w' := by
  have k1 := hm.kd
  have k2 := hm.fd
  have k3 := hm.wh
  have k4 := hm.wi
  have k5 := hm.pt
  have k6 := hm.fr
  unfold maxLen at k1 k2 k3 k4 k5 k6
  unfold Mnd.cells
  have hB : ∀ ob, Below w.heap.size w (w.alloc ob) := fun ob => (Below.refl _ _).alloc (Nat.le_refl _) _
  by_cases hf : (m.sz : Int) <= left
  · have HF : Hid (zF m.sz left = left - m.kd.size - m.fd.size - m.wh.size - m.wi.size - m.pt.size - m.fr.size) := by
      unfold Hid; rw [zG hf]; unfold Mnd.sz; omega
    unfold Mnd.sz at hf
    go_enter Tryz.func41, Tryz.ntmps41
    go_wp2_with fail
    go_ret
    exact ⟨zk HF.out.symm, hB _⟩
  · have HF : Hid (zF m.sz left = -1) := zx hf
    have HN : Hid (¬ ((m.kd.size + m.fd.size + m.wh.size + m.wi.size + m.pt.size + m.fr.size : Nat) : Int) <= left) := hf
    clear hf
    go_enter Tryz.func41, Tryz.ntmps41
    go_wp2_with fail
    all_goals go_ret
    all_goals first | exact ⟨zk HF.out.symm, hB _⟩ | (exfalso; have := HN.out; simp at *; omega)
theorem zhM (m : Mnd) (left : Int) (w : World) (hm : m.Small) (h0 : 0 <= left) (h1 : left <= 1048576) (h : (m.sz : Int) <= left) :
    Calls Tryz.prog 41 #[.agg m.cells, .int .i64 left] w fun e w' => e = .returned (.int .i64 (left - m.sz)) /\ Below w.heap.size w w' := by
  refine (zc4 m left w hm h0 h1).mono ?_
  rintro e w' ⟨rfl, hb⟩
  exact ⟨zk (zG h), hb⟩
theorem ziq (m : Mnd) (left : Int) (w : World) (hm : m.Small) (h0 : 0 <= left) (h1 : left <= 1048576) (h : ¬ (m.sz : Int) <= left) :
    Calls Tryz.prog 41 #[.agg m.cells, .int .i64 left] w fun e w' => e = .returned (.int .i64 (-1)) /\ Below w.heap.size w w' := by
  refine (zc4 m left w hm h0 h1).mono ?_
  rintro e w' ⟨rfl, hb⟩
  exact ⟨zk (zx h), hb⟩
set_option maxHeartbeats 1000000 in
theorem zgv (a : Option Addr) (cap : Nat) (ms : List Mnd) (left : Int) (w : World) (hw : y5 w a ms) (h0 : 0 <= left) (h1 : left <= 1048576) :
    Calls Tryz.prog 13 #[.slice a ms.length cap, .int .i64 left] w fun e w' => e = .returned (.int .i64 (zF (zaj ms) left)) /\ Below w.heap.size w w' := by
  have hl := hw.len
  unfold maxLen at hl
  by_cases hfit : (ms.length : Int) <= left
  · go_enter Tryz.func13, Tryz.ntmps13
    go_wp2_with fail
    go_loopw [1, 5] (fun l i wr => ∃ k : Nat, k <= ms.length /\ i = .int .i64 k /\ 0 <= left - ms.length - zf7 (ms.take k) /\ l = .int .i64 (left - ms.length - zf7 (ms.take k)) /\ Below w.heap.size w wr) (fun _ i _ => ms.length - (intOf i).toNat)
    case atStart => exact ⟨0, Nat.zero_le _, rfl, by simp [zf7]; omega, by simp [zf7], Below.refl _ _⟩
    case round =>
      obtain ⟨k, hk, rfl, hpos, rfl, hB⟩ := hrel
      by_cases hlt : k < ms.length
      · obtain ⟨b, off, rfl, hb, c0, c1, c2, c3, c4, c5⟩ := hw.load hB k hlt
        have hsm := hw.small k hlt
        have HS : Hid (zf7 (ms.take (k + 1)) = zf7 (ms.take k) + ms[k].sz) := zad Mnd.sz ms k hlt
        have hle : zf7 (ms.take (k + 1)) <= zf7 ms := zbE Mnd.sz ms (k + 1)
        clear hw
        by_cases hneg : (ms[k].sz : Int) <= left - ms.length - zf7 (ms.take k)
        · have HNG : Hid ((ms[k].sz : Int) <= left - ms.length - zf7 (ms.take k)) := hneg
          clear hle
          go_wp2_with fail
          refine (zhM _ _ _ hsm hpos (by omega) HNG.out).mono ?_
          rintro e w1 ⟨rfl, hb1⟩
          have hB1 := hB.trans (hb1.mono hB.size)
          clear hb1
          go_wp2_with fail
          exact ⟨⟨k + 1, by omega, by go_num, by rw [HS.out]; omega, by rw [HS.out]; congr 1; omega, hB1⟩, by simp [intOf]; omega⟩
        · have HF : Hid (zF (zaj ms) left = -1) := zx (by have := HS.out; unfold zaj; omega)
          have HNG := hid hneg
          clear hneg hle
          go_wp2_with fail
          refine (ziq _ _ _ hsm hpos (by omega) (by have := HNG.out; omega)).mono ?_
          rintro e w1 ⟨rfl, hb1⟩
          have hB1 := hB.trans (hb1.mono hB.size)
          clear hb1
          go_wp2_with fail
          go_ret
          exact ⟨zk HF.out.symm, hB1⟩
      · have HF : Hid (zF (zaj ms) left = left - ms.length - zf7 (ms.take k)) := by
          rw [List.take_of_length_le (by omega)] at hpos ⊢
          have e : zF (zaj ms) left = left - zaj ms := zG (by unfold zaj; omega)
          unfold Hid; rw [e]; unfold zaj; omega
        clear hw
        go_wp2
        go_ret
        exact ⟨zk HF.out.symm, hB⟩
  · have HF : Hid (zF (zaj ms) left = -1) := zx (by unfold zaj; omega)
    clear hw
    go_enter Tryz.func13, Tryz.ntmps13
    go_wp2
    go_ret
    exact ⟨zk HF.out.symm, Below.refl _ _⟩
theorem zhs (m : Mnd) (w : World) : Calls Tryz.prog 78 #[.agg m.cells, .agg m.cells] w fun e w' => e = .returned (.bool true) /\ Below w.heap.size w w' := by
  unfold Mnd.cells
  go_enter Tryz.func78, Tryz.ntmps78
  go_wp2_with fail
  go_ret
  exact ⟨rfl, zq _ _ _⟩
set_option maxHeartbeats 2000000 in
theorem zgr (a a' : Option Addr) (cap cap' : Nat) (ms : List Mnd) (w : World) (hw : y5 w a ms) (hw' : y5 w a' ms) :
    Calls Tryz.prog 34 #[.slice a ms.length cap, .slice a' ms.length cap'] w fun e w' => e = .returned (.bool true) /\ Below w.heap.size w w' := by
  have hl := hw.len
  unfold maxLen at hl
  have hnn : ((ms.length : Int) != ms.length) = false := by simp
  go_enter Tryz.func34, Tryz.ntmps34
  go_wp2_with fail
  go_loopw [5] (fun i wr => ∃ k : Nat, k <= ms.length /\ i = .int .i64 k /\ Below w.heap.size w wr) (fun i _ => ms.length - (intOf i).toNat)
  case atStart => exact ⟨0, Nat.zero_le _, rfl, Below.refl _ _⟩
  case round =>
    obtain ⟨k, hk, rfl, hB⟩ := hrel
    by_cases hlt : k < ms.length
    · obtain ⟨b, off, rfl, hb, c0, c1, c2, c3, c4, c5⟩ := hw.load hB k hlt
      obtain ⟨b', off', rfl, hb', d0, d1, d2, d3, d4, d5⟩ := hw'.load hB k hlt
      have hltI : (k : Int) < (ms.length : Int) := by omega
      clear hw hw'
      go_wp2_with fail
      go_region_with (go_at_call 78; refine (zhs ms[k] _).mono ?_; rintro e w1 ⟨rfl, hb1'⟩; have hb1 := (Below.refl wr.heap.size wr).drew.trans hb1'; clear hb1')
      all_goals go_wp2_with fail
      all_goals exact ⟨⟨k + 1, by omega, by go_num, hB.trans (hb1.mono hB.size)⟩, by simp [intOf]; omega⟩
    · clear hw hw'
      go_wp2_with fail
      go_ret
      exact ⟨rfl, hB⟩
structure qF (lo : Nat) (w : World) (bo : Nat) (ms : List Mnd) (k : Nat) : Prop where
  low : lo <= bo
  rows : ∃ C, w.heap[bo]? = some (.cells C 129) /\ C.size = ms.length * 6 /\ ∀ i (h : i < ms.length), i < k -> ∀ j, j < 6 -> C[i * 6 + j]? = ms[i].cells[j]?
theorem qF.at {lo : Nat} {w : World} {bo : Nat} {ms : List Mnd} (h : qF lo w bo ms ms.length) (hs : ∀ i (h : i < ms.length), ms[i].Small) (hl : ms.length <= maxLen) : y5 w (some ⟨bo, 0, none⟩) ms := by
  obtain ⟨C, hC, hsz, hr⟩ := h.rows
  refine ⟨hl, hs, fun _ => ⟨bo, 0, rfl, (Array.getElem?_eq_some_iff.1 hC).1, fun i hi j hj => ?_⟩⟩
  rw [cell_of_block hC, Nat.zero_add]
  exact hr i hi hi j hj
theorem qF.later {lo : Nat} {w w' : World} {bo : Nat} {ms : List Mnd} {k : Nat} (h : qF lo w bo ms k) (hb : Below w.heap.size w w') : qF lo w' bo ms k := by
  obtain ⟨C, hC, hsz, hr⟩ := h.rows
  exact ⟨h.low, C, (hb.block bo (Array.getElem?_eq_some_iff.1 hC).1).trans hC, hsz, hr⟩
end Go.Proofs.YtkfigdbbncjojaaGreat
