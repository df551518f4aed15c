import Derived.Test.YtfcdmlnpfoikhaaGreatM17
import Derived.Laws.EntriesVeiled
import Derived.Test.YtfcdmlnpfoikhaaGreatM13
import Derived.Deep.QuietTactic
import Derived.BigQuiet
import Derived.Test.YtfcdmlnpfoikhaaGreatM07
import Derived.Test.YtfcdmlnpfoikhaaGreatM02
import Derived.Test.YtfcdmlnpfoikhaaGreatM15
namespace Go.Proofs.YtfcdmlnpfoikhaaGreat
open Go.RowKit
def zk9 (w : World) (a : Option Addr) (n : Nat) : Prop := 0 < n -> ∃ g, a = some ⟨g, 0, none⟩ /\ g < w.heap.size /\ ∀ q, q < n -> w.cell? ⟨g, q, none⟩ = some (.int .i64 (q : Int))
set_option maxRecDepth 20000 in
set_option maxHeartbeats 4000000 in
theorem znz (s : Shp) (ms : List Mnd) (w0 : World) (ma fa ia : Option Addr) (mcap fcap icap bm bs : Nat) (w : World) (hm : qw w0 ma ms) (hf : zY w0 fa s.fs) (hl : ms.length <= 1048576) (hn : s.fs.length <= 6)
    (hrd : ∀ q, q < s.fs.length -> ∀ x ∈ Gate.yg s ms q, 0 <= x /\ x < s.fs.length) (hB : Below w0.heap.size w0 w) (hbm : bm < w.heap.size) (hbs : bs < w.heap.size) (hcm : w.cell? ⟨bm, 0, none⟩ = some (.slice ma ms.length mcap)) (hcs : ∀ j, w.cell? ⟨bs, j, none⟩ = (#[.string s.kd, .slice fa s.fs.length fcap] : Array Value)[j]?)
    (hit : zk9 w ia s.fs.length) :
    Calls Tryz.prog 182 #[.slice ia s.fs.length icap, .func (.func 183) #[] #[.pointer (some ⟨bm, 0, none⟩), .pointer (some ⟨bs, 0, none⟩)]] w
      fun e w' => ∃ v, e = .returned (.tuple #[v, .bool (Gate.zC (Gate.zi s ms) s.fs.length).1]) /\ Below w0.heap.size w0 w' /\ ((Gate.zC (Gate.zi s ms) s.fs.length).1 = true -> w'.ownsRow w.heap.size 3 1 v (Gate.zC (Gate.zi s ms) s.fs.length).2.row.length (zdz (Gate.zC (Gate.zi s ms) s.fs.length).2.row)) := by
  have hmk : ∀ w : World, (Instr.makeMap 260 none).run Tryz.prog w = .ok (.map (some w.heap.size)) (w.alloc (.map #[] 0)) := fun w => by kernel_rfl
  go_enter Tryz.func182, Tryz.ntmps182
  go_wp2_with fail
  have hb2 : Below w.heap.size w ((w.alloc (.map #[] 0)).alloc (.cells #[(.func (.func 183) #[] #[.pointer (some ⟨bm, 0, none⟩), .pointer (some ⟨bs, 0, none⟩)]), .map (some w.heap.size), .slice none 0 0] 262)) := zq _ _ _
  have hs0 := hB.size
  obtain ⟨c, hceq⟩ : ∃ c, c = (⟨s, ms, w0, ma, fa, mcap, fcap, bm, bs, w.heap.size + 1, w.heap.size, w.heap.size + 2⟩ : WalkC) := ⟨_, rfl⟩
  have hc : c.Ok := by
    subst hceq
    exact ⟨hm, hf, hl, hn, hrd, by show w0.heap.size <= w.heap.size + 1; omega, hs0, by show w.heap.size + 1 < w.heap.size + 2; omega, by show w.heap.size < w.heap.size + 2; omega, by show bm < w.heap.size + 2; omega, by show bs < w.heap.size + 2; omega, by show w.heap.size + 1 ≠ w.heap.size; omega, by show bm ≠ w.heap.size + 1; omega, by show bm ≠ w.heap.size; omega, by show bs ≠ w.heap.size + 1; omega, by show bs ≠ w.heap.size; omega⟩
  have hW : jO c ((w.alloc (.map #[] 0)).alloc (.cells #[(.func (.func 183) #[] #[.pointer (some ⟨bm, 0, none⟩), .pointer (some ⟨bs, 0, none⟩)]), .map (some w.heap.size), .slice none 0 0] 262)) Gate.q8 (.slice none 0 0) := by
    subst hceq
    refine ⟨hB.trans (hb2.mono hs0), (hb2.cell (p := ⟨bm, 0, none⟩) hbm).trans hcm, za hcs hbs hb2, by show w.heap.size + 2 <= _; simp, (zR _ _ _).2, World.ownsRow_nil _ _ _ _, ⟨#[], 0, (zR _ _ _).1, fun x hx => by simp at hx, fun k v hk => ?_, fun i j x y hx => by simp at hx⟩⟩
    unfold Gate.zex Gate.q8 at hk
    simp at hk
  have HC : Hid (c.Ok /\ c.s = s /\ c.ms = ms /\ c.w0 = w0 /\ c.p = w.heap.size + 1 /\ c.mr = w.heap.size /\ c.lo = w.heap.size + 2) := ⟨hc, by rw [hceq], by rw [hceq], by rw [hceq], by rw [hceq], by rw [hceq], by rw [hceq]⟩
  have HW := hid hW
  have HRD : Hid (∀ p, p < s.fs.length -> ∀ q ∈ Gate.zi s ms p, q < s.fs.length) := by have h := hc.rd; rw [hceq] at h; exact h
  have HIT := hid hit
  have HN := hid hn
  have HOP : Hid (∀ T, Gate.open' s.fs.length T <= s.fs.length) := by
    intro T
    unfold Gate.open'
    exact Nat.le_trans (List.length_filter_le _ _) (by simp)
  have HW2 : Hid (∃ W, W = ((w.alloc (.map #[] 0)).alloc (.cells #[(.func (.func 183) #[] #[.pointer (some ⟨bm, 0, none⟩), .pointer (some ⟨bs, 0, none⟩)]), .map (some w.heap.size), .slice none 0 0] 262))) := ⟨_, rfl⟩
  clear hW hc hceq hmk hB hcm hcs hrd hit hs0
  go_loopw [14] (fun iv wr => ∃ (j : Nat) (v : Value), j <= s.fs.length /\ iv = .int .i64 j /\ (Gate.zm (Gate.down (Gate.zi s ms) (s.fs.length + 1)) ((List.range s.fs.length).take j) Gate.q8).1 = true /\ jO c wr (Gate.zm (Gate.down (Gate.zi s ms) (s.fs.length + 1)) ((List.range s.fs.length).take j) Gate.q8).2 v /\ Moves c (.slice none 0 0) ((w.alloc (.map #[] 0)).alloc (.cells #[(.func (.func 183) #[] #[.pointer (some ⟨bm, 0, none⟩), .pointer (some ⟨bs, 0, none⟩)]), .map (some w.heap.size), .slice none 0 0] 262)) v wr) (fun iv _ => s.fs.length - (intOf iv).toNat)
  case atStart => exact ⟨0, _, Nat.zero_le _, rfl, rfl, HW.out, Moves.refl _ _ _⟩
  case round =>
    obtain ⟨j, v, hj, rfl, hD, hWr, hMr⟩ := hrel
    have HWr := jE hWr hMr
    have HD := hid hD
    clear hWr hMr hD
    by_cases hjl : j < s.fs.length
    · have HTK : Hid ((List.range s.fs.length).take (j + 1) = (List.range s.fs.length).take j ++ [j]) := by
        unfold Hid
        rw [List.take_succ_eq_append_getElem (by simpa using hjl)]
        simp
      obtain ⟨g, rfl, hgl, hgc⟩ := HIT.out (by omega)
      have hcell : wr.cell? ⟨g, j, none⟩ = some (.int .i64 (j : Int)) := by
        rw [zfP (HWr.out.2.out g (by have := hb2.size; omega) (by rw [HC.out.2.2.2.2.1]; omega) (by rw [HC.out.2.2.2.2.2.1]; omega) (by simp [Value.ownBlock]))]
        exact (hb2.cell (p := ⟨g, j, none⟩) hgl).trans (hgc j hjl)
      have hjI : (j : Int) < (s.fs.length : Int) := by omega
      have HSX : Hid ((Gate.zm (Gate.down (Gate.zi s ms) (s.fs.length + 1)) ((List.range s.fs.length).take j) Gate.q8).2.row.length + Gate.open' s.fs.length (Gate.zm (Gate.down (Gate.zi s ms) (s.fs.length + 1)) ((List.range s.fs.length).take j) Gate.q8).2 <= 6) := by
        have h1 := Gate.zer HRD.out (s.fs.length + 1) _ Gate.q8 (fun a ha => List.mem_range.1 (List.mem_of_mem_take ha)) HD.out
        have h2 := HOP.out Gate.q8
        have h3 : Gate.q8.row.length = 0 := rfl
        have h4 := HN.out
        show _ <= _
        omega
      have HDA : Hid (Calls Tryz.prog 202 #[.pointer (some ⟨w.heap.size + 1, 0, none⟩), .int .i64 (j : Int)] wr fun e w' => ∃ v', e = .returned (.bool (Gate.down (Gate.zi s ms) (s.fs.length + 1) j (Gate.zm (Gate.down (Gate.zi s ms) (s.fs.length + 1)) ((List.range s.fs.length).take j) Gate.q8).2).1) /\ Below w0.heap.size w0 w' /\ ((Gate.down (Gate.zi s ms) (s.fs.length + 1) j (Gate.zm (Gate.down (Gate.zi s ms) (s.fs.length + 1)) ((List.range s.fs.length).take j) Gate.q8).2).1 = true -> jO c w' (Gate.down (Gate.zi s ms) (s.fs.length + 1) j (Gate.zm (Gate.down (Gate.zi s ms) (s.fs.length + 1)) ((List.range s.fs.length).take j) Gate.q8).2).2 v' /\ Moves c v wr v' w')) := by
        have h := zoF c HC.out.1 (s.fs.length + 1) j (Gate.zm (Gate.down (Gate.zi s ms) (s.fs.length + 1)) ((List.range s.fs.length).take j) Gate.q8).2 v wr (by rw [HC.out.2.1]; exact hjl) (by rw [HC.out.2.1]; have := HOP.out (Gate.zm (Gate.down (Gate.zi s ms) (s.fs.length + 1)) ((List.range s.fs.length).take j) Gate.q8).2; omega) (by rw [HC.out.2.1]; exact HSX.out) HWr.out.1
        rw [HC.out.2.1, HC.out.2.2.1, HC.out.2.2.2.1, HC.out.2.2.2.2.1] at h
        exact h
      go_wp2_with fail
      refine HDA.out.mono ?_
      rintro e w3 ⟨v3, rfl, hb3, hyes⟩
      by_cases hd : (Gate.down (Gate.zi s ms) (s.fs.length + 1) j (Gate.zm (Gate.down (Gate.zi s ms) (s.fs.length + 1)) ((List.range s.fs.length).take j) Gate.q8).2).1 = true
      · have HS : Hid ((Gate.zm (Gate.down (Gate.zi s ms) (s.fs.length + 1)) ((List.range s.fs.length).take (j + 1)) Gate.q8) = Gate.down (Gate.zi s ms) (s.fs.length + 1) j (Gate.zm (Gate.down (Gate.zi s ms) (s.fs.length + 1)) ((List.range s.fs.length).take j) Gate.q8).2) := by unfold Hid; rw [HTK.out, Gate.zaD, if_pos HD.out]
        have HY := hid (hyes hd)
        have HDD := hid hd
        rw [hd]
        clear hyes hb3 hd hcell hgc HDA
        go_wp2_with fail
        exact ⟨⟨j + 1, v3, by omega, by go_num, by rw [HS.out]; exact HDD.out, by rw [HS.out]; exact HY.out.1, HWr.out.2.trans HY.out.2⟩, zk hjl⟩
      · have hdf : (Gate.down (Gate.zi s ms) (s.fs.length + 1) j (Gate.zm (Gate.down (Gate.zi s ms) (s.fs.length + 1)) ((List.range s.fs.length).take j) Gate.q8).2).1 = false := by simpa using hd
        have HF : Hid ((Gate.zC (Gate.zi s ms) s.fs.length).1 = false) := by
          have h1 : (Gate.zm (Gate.down (Gate.zi s ms) (s.fs.length + 1)) ((List.range s.fs.length).take (j + 1)) Gate.q8).1 = false := by rw [HTK.out, Gate.zaD, if_pos HD.out]; exact hdf
          have h2 := Gate.zb1 (Gate.down (Gate.zi s ms) (s.fs.length + 1)) ((List.range s.fs.length).take (j + 1)) ((List.range s.fs.length).drop (j + 1)) Gate.q8 h1
          rw [List.take_append_drop] at h2
          exact h2
        have HB3 : Hid (Below w0.heap.size w0 w3) := hb3
        rw [hdf]
        clear hyes hb3 hd hdf hcell hgc HDA
        go_wp2_with fail
        go_ret2
        exact ⟨_, by rw [HF.out]; rfl, HB3.out, fun h => by rw [HF.out] at h; cases h⟩
    · have e : j = s.fs.length := by omega
      have hall : (List.range s.fs.length).take j = List.range s.fs.length := List.take_of_length_le (by simp; omega)
      rw [hall] at HWr HD
      have HY : Hid ((Gate.zC (Gate.zi s ms) s.fs.length).1 = true) := HD.out
      have HWW : Hid (jO c wr (Gate.zC (Gate.zi s ms) s.fs.length).2 v) := HWr.out.1
      have hpc : ∀ k, wr.cell? ⟨w.heap.size + 1, k, none⟩ = (#[c.fn, .map (some c.mr), v] : Array Value)[k]? := by have h := zaV HWW.out.cells; rw [HC.out.2.2.2.2.1] at h; exact h
      obtain ⟨va, vcap, hve⟩ := yM HWW.out.row
      subst hve
      subst e
      clear HWr HD hall
      go_wp2_with fail
      go_ret2
      refine ⟨_, by rw [HY.out]; rfl, by have h := HWW.out.base; rw [HC.out.2.2.2.1] at h; exact h, fun _ => ?_⟩
      have h := HWW.out.row
      rw [HC.out.2.2.2.2.2.2] at h
      exact jN h (by omega)
end Go.Proofs.YtfcdmlnpfoikhaaGreat

namespace Go.Proofs.YtfcdmlnpfoikhaaGreat
open Go.RowKit
theorem zn1 (k : Nat) : zdz (List.range (k + 1)) = zdz (List.range k) ++ [.int .i64 (k : Int)] := by simp [zdz, List.range_succ]
set_option maxRecDepth 20000 in
set_option maxHeartbeats 4000000 in
theorem zgm (s : Shp) (ms : List Mnd) (ma fa : Option Addr) (mcap fcap : Nat) (w : World) (hm : qw w ma ms) (hf : zY w fa s.fs) (hl : ms.length <= 1048576) (hn : s.fs.length <= 6)
    (hrd : ∀ q, q < s.fs.length -> ∀ x ∈ Gate.yg s ms q, 0 <= x /\ x < s.fs.length) :
    Calls Tryz.prog 139 #[.agg #[.string s.kd, .slice fa s.fs.length fcap], .slice ma ms.length mcap] w
      fun e w' => ∃ v, e = .returned (.tuple #[v, .bool (Gate.zC (Gate.zi s ms) s.fs.length).1]) /\ Below w.heap.size w w' /\ ((Gate.zC (Gate.zi s ms) s.fs.length).1 = true -> w'.ownsRow w.heap.size 3 1 v (Gate.zC (Gate.zi s ms) s.fs.length).2.row.length (zdz (Gate.zC (Gate.zi s ms) s.fs.length).2.row)) := by
  obtain ⟨i0, hi0, hz0, hz1', hz2⟩ := info_parts Tryz.zeO
  have HH := zol hm hf hl hn hrd
  clear hm hf hl hrd
  go_enter Tryz.func139, Tryz.ntmps139
  go_wp2_with fail
  go_loopw [6, 11] (fun v0 iv wr => ∃ (k : Nat) (v : Value), v = v0 /\ k <= s.fs.length /\ iv = .int .i64 k /\ wr.ownsRow (w.heap.size + 2) 3 1 v k (zdz (List.range k)) /\ wr.heap[w.heap.size]? = some (.cells #[.string s.kd, .slice fa s.fs.length fcap] 119) /\ wr.heap[w.heap.size + 1]? = some (.cells #[.slice ma ms.length mcap] 38) /\ Below w.heap.size w wr) (fun _ iv _ => s.fs.length - (intOf iv).toNat)
  case atStart => exact ⟨0, _, rfl, Nat.zero_le _, rfl, World.ownsRow_nil _ _ _ _, (zR _ _ _).1, (zR _ _ _).2, zq _ _ _⟩
  case round =>
    obtain ⟨k, v, hv, hk, rfl, hown, hs, hmm, hB⟩ := hrel
    subst hv
    have HX := ziV hown hs hmm hB
    have hzz := (Array.getElem?_eq_some_iff.1 hmm).1
    clear hown hs hmm hB
    by_cases hlt : k < s.fs.length
    · have hltI : (k : Int) < (s.fs.length : Int) := by omega
      have hgb : ∀ g, v.ownBlock = some g -> w.heap.size + 2 <= g := fun g hg => (HX.out.1.lt g hg).1
      have HGB := hid hgb
      clear hgb
      go_wp2_with (at_builtin; refine zfJ ?_)
      show wpList _ _ _ _ _ _
      refine wpList_append_own _ rfl (.tmp 14) (.tmp 16) 35 rfl (w.heap.size + 2) 3 i0 (.int .i64 0) 1 8 Tryz.underlying35 hi0 hz0 hz1' hz2 rfl (by decide) v _ _ rfl (HX.out.1.alloc _) ⟨wr.heap.size, 0, none⟩ 1 1 [.int .i64 (k : Int)] rfl rfl (zbR _ _ _) (by intro u hu; simp at hu; subst hu; rfl) (by unfold maxLen; omega) (by omega) (by simp; omega) ?_
      intro v' w1 hown' hgr _
      obtain ⟨va, vcap, rfl⟩ := yM hown'
      go_wp2_with fail
      refine ⟨⟨k + 1, _, rfl, by omega, by go_num, by rw [zn1]; exact hown', ?_, ?_, zaR HX.out.2.2.2 HX.out.2.2.2.size hgr (fun g hg => by have := HGB.out g hg; omega)⟩, zk hlt⟩
      · exact (zah hgr (by simp; omega) (fun g hg => by have := HGB.out g hg; omega)).trans ((Below.heap_alloc _ _ _ (by omega)).trans HX.out.2.1)
      · exact (zah hgr (by simp; omega) (fun g hg => by have := HGB.out g hg; omega)).trans ((Below.heap_alloc _ _ _ hzz).trans HX.out.2.2.1)
    · have e : k = s.fs.length := by omega
      subst e
      obtain ⟨va, vcap, rfl⟩ := yM HX.out.1
      have HPL : Hid (zk9 wr va s.fs.length) := by
        intro hpos
        obtain ⟨_, ⟨h0, h1⟩ | ⟨g, cap, cur, h0, h1⟩⟩ := id HX.out.1
        · omega
        · cases h0
          refine ⟨g, rfl, (HX.out.1.lt g rfl).2, fun q hq => ?_⟩
          rw [HX.out.1.cellAt q (by omega)]
          simp [zdz, hq]
      go_wp2_with fail
      refine (znz s ms w ma fa va mcap fcap vcap (w.heap.size + 1) w.heap.size wr HH.out.1 HH.out.2.1 HH.out.2.2.1 HH.out.2.2.2.1 HH.out.2.2.2.2 HX.out.2.2.2 hzz (by omega) (by rw [cell_of_block HX.out.2.2.1]; rfl) (fun j => cell_of_block HX.out.2.1) HPL.out).mono ?_
      rintro e w2 ⟨v2, rfl, hb2, hyes⟩
      have HY : Hid (Below w.heap.size w w2 /\ ((Gate.zC (Gate.zi s ms) s.fs.length).1 = true -> w2.ownsRow w.heap.size 3 1 v2 (Gate.zC (Gate.zi s ms) s.fs.length).2.row.length (zdz (Gate.zC (Gate.zi s ms) s.fs.length).2.row))) := ⟨hb2, fun h => jN (hyes h) (by omega)⟩
      clear hb2 hyes
      go_wp2_with fail
      go_ret2
      exact ⟨v2, rfl, HY.out⟩
end Go.Proofs.YtfcdmlnpfoikhaaGreat

namespace Go.Proofs.YtfcdmlnpfoikhaaGreat
open Go.RowKit
set_option maxHeartbeats 2000000 in
theorem zcI (a : Option Addr) (cap : Nat) (ss : List Shp) (w : World) (hw : yE w a ss) :
    Calls Tryz.prog 135 #[.slice a ss.length cap] w fun e w' => e = .returned (.bool (Gate.zP ss)) /\ Below w.heap.size w w' := by
  have hl := hw.len
  unfold maxLen at hl
  by_cases h6 : ss.length <= 6
  rotate_left
  · have HF : Hid (Gate.zP ss = false) := by simp [Hid, Gate.zP, h6]
    clear hw
    go_enter Tryz.func135, Tryz.ntmps135
    go_wp2
    go_ret
    exact ⟨ze HF.out.symm, Below.refl _ _⟩
  have HG : Hid (Gate.zP ss = Gate.up (Gate.yD ss) ss.length) := by simp [Hid, Gate.zP, h6]
  have h6I : (ss.length : Int) <= 6 := by omega
  go_enter Tryz.func135, Tryz.ntmps135
  go_wp2_with fail
  refine (zbV _).mono ?_
  rintro e w0 ⟨rfl, hw0⟩
  have hB00 : Below w.heap.size w w0 := by rw [hw0]; exact (Below.refl _ _).alloc (Nat.le_refl _) _
  have hr0 : w0.heap[w.heap.size]? = some (.map qI 4) := by rw [hw0]; exact alloc_at _ _
  have hz0 : w.heap.size < w0.heap.size := by rw [hw0]; simp
  clear hw0
  go_wp2_with fail
  go_loopw [12] (fun i wr => ∃ k : Nat, k <= ss.length /\ i = .int .i64 k /\ Gate.up (Gate.yD ss) k = true /\ Below w0.heap.size w0 wr) (fun i _ => ss.length - (intOf i).toNat)
  case atStart => exact ⟨0, Nat.zero_le _, rfl, rfl, Below.refl _ _⟩
  case round =>
    obtain ⟨k, hk, rfl, hup, hB⟩ := hrel
    have hsz := hB.size
    by_cases hlt : k < ss.length
    · obtain ⟨b, off, rfl, hb, hrw⟩ := hw.rows (by rintro rfl; simp at hlt)
      have hb0 : b < w0.heap.size := by omega
      have hall : yE wr (some ⟨b, off, none⟩) ss := (hw.mono hB00).mono hB
      obtain ⟨fa, fcap, hs⟩ := hrw k hlt
      have hs' := (hs.mono hb hB00).mono hb0 hB
      have hck := hs'.kind
      have hcl := hs'.list
      have hfl := hs'.zcn
      have hsm := hs.small
      have hra : wr.heap[w.heap.size]? = some (.map qI 4) := (hB.block _ hz0).trans hr0
      have HS : Hid (Gate.yD ss k = true -> Gate.up (Gate.yD ss) (k + 1) = true) := fun h => by rw [Gate.jF, hup, h]; rfl
      have HN : Hid (Gate.yD ss k = false -> Gate.zP ss = false) := fun h => by rw [HG.out]; exact Gate.za4 hlt h
      have hltI : (k : Int) < (ss.length : Int) := by omega
      by_cases hn : Gate.zy ss[k].kd = true
      rotate_left
      · have HNm : Hid (Gate.zy ss[k].kd = false) := by simpa [Hid] using hn
        have HF : Hid (Gate.yD ss k = false) := by
          unfold Hid Gate.yD; rw [Gate.getD_at ss k _ hlt, HNm.out]; rfl
        clear hn hup hw hrw hs hs' hr0 hra
        go_wp2_with fail
        go_quiet ((go_at_call 140; exact Calls.quiet_of_same (zw HNm.out (zN _ _ hsm))))
        go_wp2_with fail
        go_ret
        exact ⟨ze (HN.out HF.out).symm, hB00.trans ((below_drewN (hB.alloc hsz _) _).mono (by omega))⟩
      have HNm : Hid (Gate.zy ss[k].kd = true) := hn
      clear hn
      by_cases hk0 : k = 0
      · have HA : Hid (Gate.yD ss k = Gate.yH ss ss[k].fs) := by subst hk0; unfold Hid; rw [Gate.zev ss hlt, HNm.out]; rfl
        have hg : decide (0 < k) = false := by simp; omega
        clear hup hw hrw hs hs' hr0 hk0
        by_cases hok : Gate.yH ss ss[k].fs = true
        · have HK : Hid (Gate.yH ss ss[k].fs = true) := hok
          clear hok
          go_wp2_with fail
          go_quiet ((go_at_call 140; exact Calls.quiet_of_same (zw HNm.out (zN _ _ hsm))))
          go_wp2_with fail
          have hbr2 : Below wr.heap.size wr ((wr.alloc (.cells #[.string ss[k].kd, .slice fa ss[k].fs.length fcap] 119)).drewN nq) := below_drewN ((Below.refl _ _).alloc (Nat.le_refl _) _) _
          refine (zw HK.out (zbL _ _ _ _ _ _ _ _ ((hbr2.block _ (by omega)).trans hra) (hall.mono hbr2) (hfl.mono hbr2))).mono ?_
          rintro e w3 ⟨rfl, hb3⟩
          have hB3 : Below w0.heap.size w0 w3 := (hB.trans (hbr2.mono hsz)).trans (hb3.mono (by simp; omega))
          clear hb3 hbr2
          go_wp2_with fail
          exact ⟨⟨k + 1, by omega, by go_num, HS.out (by rw [HA.out, HK.out]), hB3⟩, by simp [intOf]; omega⟩
        · have HK : Hid (Gate.yH ss ss[k].fs = false) := by simpa [Hid] using hok
          clear hok
          go_wp2_with fail
          go_quiet ((go_at_call 140; exact Calls.quiet_of_same (zw HNm.out (zN _ _ hsm))))
          go_wp2_with fail
          have hbr2 : Below wr.heap.size wr ((wr.alloc (.cells #[.string ss[k].kd, .slice fa ss[k].fs.length fcap] 119)).drewN nq) := below_drewN ((Below.refl _ _).alloc (Nat.le_refl _) _) _
          refine (zw HK.out (zbL _ _ _ _ _ _ _ _ ((hbr2.block _ (by omega)).trans hra) (hall.mono hbr2) (hfl.mono hbr2))).mono ?_
          rintro e w3 ⟨rfl, hb3⟩
          have hB3 : Below w0.heap.size w0 w3 := (hB.trans (hbr2.mono hsz)).trans (hb3.mono (by simp; omega))
          clear hb3 hbr2
          go_wp2_with fail
          go_ret
          exact ⟨ze (HN.out (by rw [HA.out, HK.out])).symm, hB00.trans (hB3.mono (by omega))⟩
      · obtain ⟨m, rfl⟩ : ∃ m, k = m + 1 := ⟨k - 1, by omega⟩
        obtain ⟨fam, fcapm, hsm0⟩ := hrw m (by omega)
        have hcm := ((hsm0.mono hb hB00).mono hb0 hB).kind
        have HA : Hid (Gate.yD ss (m + 1) = (Gate.less ss[m].kd ss[m + 1].kd && Gate.yH ss ss[m + 1].fs)) := by unfold Hid; rw [Gate.zeW ss m hlt, HNm.out]; rfl
        have hmI : (m : Int) < 6 := by omega
        have hm0 : (0 : Int) <= (m : Int) := by omega
        have hbr : b < wr.heap.size := by omega
        have hml : (m : Int) < (ss.length : Int) := by omega
        have hmw : IntKind.i64.wrap (m : Int) = m := by rw [IntKind.wrap_i64]; omega
        clear hup hw hrw hs hs' hr0 hk0 hsm0
        by_cases hls : Gate.less ss[m].kd ss[m + 1].kd = true
        rotate_left
        · have hls' : Op.bytesLess ss[m].kd.toList ss[m + 1].kd.toList = false := by simpa [Gate.less] using hls
          have HLS : Hid (Gate.less ss[m].kd ss[m + 1].kd = false) := hls'
          clear hls
          go_wp2_with fail
          go_quiet ((go_at_call 140; exact Calls.quiet_of_same (zw HNm.out (zN _ _ hsm))))
          go_wp2_with fail
          go_ret
          exact ⟨ze (HN.out (by rw [HA.out, HLS.out]; rfl)).symm, hB00.trans ((below_drewN (hB.alloc hsz _) _).mono (by omega))⟩
        have hls' : Op.bytesLess ss[m].kd.toList ss[m + 1].kd.toList = true := hls
        have HLS : Hid (Gate.less ss[m].kd ss[m + 1].kd = true) := hls
        clear hls
        by_cases hok : Gate.yH ss ss[m + 1].fs = true
        · have HK : Hid (Gate.yH ss ss[m + 1].fs = true) := hok
          clear hok
          go_wp2_with fail
          go_quiet ((go_at_call 140; exact Calls.quiet_of_same (zw HNm.out (zN _ _ hsm))))
          go_wp2_with fail
          have hbr2 : Below wr.heap.size wr ((wr.alloc (.cells #[.string ss[m + 1].kd, .slice fa ss[m + 1].fs.length fcap] 119)).drewN nq) := below_drewN ((Below.refl _ _).alloc (Nat.le_refl _) _) _
          refine (zw HK.out (zbL _ _ _ _ _ _ _ _ ((hbr2.block _ (by omega)).trans hra) (hall.mono hbr2) (hfl.mono hbr2))).mono ?_
          rintro e w3 ⟨rfl, hb3⟩
          have hB3 : Below w0.heap.size w0 w3 := (hB.trans (hbr2.mono hsz)).trans (hb3.mono (by simp; omega))
          clear hb3 hbr2
          go_wp2_with fail
          exact ⟨⟨m + 1 + 1, by omega, by go_num, HS.out (by rw [HA.out, HLS.out, HK.out]; rfl), hB3⟩, by simp [intOf]; omega⟩
        · have HK : Hid (Gate.yH ss ss[m + 1].fs = false) := by simpa [Hid] using hok
          clear hok
          go_wp2_with fail
          go_quiet ((go_at_call 140; exact Calls.quiet_of_same (zw HNm.out (zN _ _ hsm))))
          go_wp2_with fail
          have hbr2 : Below wr.heap.size wr ((wr.alloc (.cells #[.string ss[m + 1].kd, .slice fa ss[m + 1].fs.length fcap] 119)).drewN nq) := below_drewN ((Below.refl _ _).alloc (Nat.le_refl _) _) _
          refine (zw HK.out (zbL _ _ _ _ _ _ _ _ ((hbr2.block _ (by omega)).trans hra) (hall.mono hbr2) (hfl.mono hbr2))).mono ?_
          rintro e w3 ⟨rfl, hb3⟩
          have hB3 : Below w0.heap.size w0 w3 := (hB.trans (hbr2.mono hsz)).trans (hb3.mono (by simp; omega))
          clear hb3 hbr2
          go_wp2_with fail
          go_ret
          exact ⟨ze (HN.out (by rw [HA.out, HLS.out, HK.out]; rfl)).symm, hB00.trans (hB3.mono (by omega))⟩
    · have HF : Hid (Gate.zP ss = true) := by
        have e : k = ss.length := by omega
        subst e; rw [HG.out]; exact hup
      clear hup hw
      go_wp2
      go_ret
      exact ⟨ze HF.out.symm, hB00.trans (hB.mono (by omega))⟩
end Go.Proofs.YtfcdmlnpfoikhaaGreat

namespace Go.Proofs.YtfcdmlnpfoikhaaGreat
open Go.RowKit
namespace Gate
theorem jq (fs : List Fld) (v : ByteArray) : (zS fs v = -1 /\ fs.find? (fun f => decide (f.nm = v)) = none) \/ ∃ i, ∃ h : i < fs.length, zS fs v = (i : Int) /\ fs[i].nm = v /\ fs.find? (fun f => decide (f.nm = v)) = some fs[i] := by
  cases hf : fs.findIdx? (fun f => decide (f.nm = v)) with
  | none =>
    left
    refine ⟨by unfold zS; rw [hf], ?_⟩
    rw [List.findIdx?_eq_none_iff] at hf
    rw [List.find?_eq_none]
    intro x hx
    have := hf x hx
    simpa using this
  | some i =>
    right
    rw [List.findIdx?_eq_some_iff_getElem] at hf
    obtain ⟨hi, h1, h2⟩ := hf
    refine ⟨i, hi, ?_, by simpa using h1, ?_⟩
    · unfold zS
      have : fs.findIdx? (fun f => decide (f.nm = v)) = some i := by rw [List.findIdx?_eq_some_iff_getElem]; exact ⟨hi, h1, h2⟩
      rw [this]
    · rw [List.find?_eq_some_iff_append]
      refine ⟨h1, fs.take i, fs.drop (i + 1), ?_, ?_⟩
      · conv => lhs; rw [<- List.take_append_drop i fs, List.drop_eq_getElem_cons hi]
      · intro a ha
        obtain ⟨k, hk, rfl⟩ := List.mem_iff_getElem.1 ha
        have hk' : k < i := by simp at hk; omega
        have := h2 k hk'
        simpa using this
def plain (fs : List Fld) (v : ByteArray) : Bool := match fs.find? (fun f => decide (f.nm = v)) with | some f => decide (f.kd ≠ 4) | none => false
def zc5 (fs : List Fld) (v : ByteArray) : Fld := (fs.find? fun f => decide (f.nm = v)).getD zaZ
theorem zaN {fs : List Fld} {v : ByteArray} (h : fs.find? (fun f => decide (f.nm = v)) = none) : plain fs v = false := by unfold plain; rw [h]
theorem ziJ {fs : List Fld} {v : ByteArray} {f : Fld} (h : fs.find? (fun f => decide (f.nm = v)) = some f) : plain fs v = decide (f.kd ≠ 4) := by unfold plain; rw [h]
end Gate
theorem zph (k : Int) : Ending.returned (.bool (k != 4)) = Ending.returned (.bool (decide (k ≠ 4))) := by
  by_cases h : k = 4
  · subst h; rfl
  · have h1 : (k != 4) = true := by rw [bne_iff_ne]; exact h
    rw [h1, decide_eq_true h]
set_option maxHeartbeats 1000000 in
theorem zbS (a : Option Addr) (cap : Nat) (fs : List Fld) (v : ByteArray) (w : World) (hw : zY w a fs) :
    Calls Tryz.prog 178 #[.slice a fs.length cap, .string v] w fun e w' => e = .returned (.bool (Gate.plain fs v)) /\ Below w.heap.size w w' := by
  have hl := hw.len
  unfold maxLen at hl
  rcases Gate.jq fs v with ⟨h1, h2⟩ | ⟨i, hi, h1, h2, h3⟩
  · have HP : Hid (Gate.plain fs v = false) := Gate.zaN h2
    go_enter Tryz.func178, Tryz.ntmps178
    go_wp2_with fail
    have h := qG a cap fs v w hw
    rw [h1] at h
    refine h.mono ?_
    rintro e w1 ⟨rfl, hb1⟩
    clear h
    go_wp2_with fail
    go_ret
    exact ⟨by rw [HP.out]; rfl, hb1⟩
  · have HP : Hid (Gate.plain fs v = decide (fs[i].kd ≠ 4)) := Gate.ziJ h3
    obtain ⟨b, off, rfl, hb, hr⟩ := hw.rows (by rintro rfl; simp at hi)
    obtain ⟨wa, wcap, hf0⟩ := hr i hi
    go_enter Tryz.func178, Tryz.ntmps178
    go_wp2_with fail
    have h := qG (some ⟨b, off, none⟩) cap fs v w hw
    rw [h1] at h
    refine h.mono ?_
    rintro e w1 ⟨rfl, hb1⟩
    obtain ⟨c0, c1, c2, c3, c4, c5, c6, c7, c8, c9, c10⟩ := (hf0.mono hb hb1).load
    have hiI : (i : Int) < (fs.length : Int) := by omega
    have hge : decide ((i : Int) ≥ 0) = true := by simp
    have hb1w : b < w1.heap.size := Nat.lt_of_lt_of_le hb hb1.size
    clear h hw hr hf0 h3 h2 h1
    go_wp2_with fail
    go_ret
    exact ⟨by rw [HP.out]; exact zph fs[i].kd, hb1⟩
end Go.Proofs.YtfcdmlnpfoikhaaGreat

namespace Go.Proofs.YtfcdmlnpfoikhaaGreat
open Go.RowKit
theorem zpd {w w' : World} {g : Nat} {ws : List ByteArray} (h : zB w (some ⟨g, 0, none⟩) ws) (hl : Below w.heap.size w w') (i : Nat) (hi : i < ws.length) : g < w.heap.size /\ w'.cell? ⟨g, i, none⟩ = some (.string ws[i]) := by
  obtain ⟨b, off, e, hb, hr⟩ := h.cells (by rintro rfl; simp at hi)
  simp only [Option.some.injEq, Addr.mk.injEq] at e
  obtain ⟨rfl, rfl, _⟩ := e
  refine ⟨hb, ?_⟩
  have := hr i hi
  rw [Nat.zero_add] at this
  exact (hl.cell (p := ⟨g, i, none⟩) hb).trans this
theorem znk {w w' : World} {a : Option Addr} {fs : List Fld} (h : zY w a fs) (hl : Below w.heap.size w w') (i : Nat) (hi : i < fs.length) : ∃ b off fw fc, a = some ⟨b, off, none⟩ /\ b < w.heap.size /\ zeh w' b (off + i * 11) fs[i] fw fc := by
  obtain ⟨b, off, ha, hb, hr⟩ := (h.mono hl).rows (by rintro rfl; simp at hi)
  obtain ⟨b', off', ha', hb', _⟩ := h.rows (by rintro rfl; simp at hi)
  have e := ha.symm.trans ha'
  simp only [Option.some.injEq, Addr.mk.injEq] at e
  obtain ⟨rfl, rfl, _⟩ := e
  obtain ⟨fw, fc, hf⟩ := hr i hi
  exact ⟨b, off, fw, fc, ha, hb', hf⟩
end Go.Proofs.YtfcdmlnpfoikhaaGreat
