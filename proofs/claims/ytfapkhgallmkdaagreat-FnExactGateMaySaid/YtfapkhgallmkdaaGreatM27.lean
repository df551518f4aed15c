import Derived.Test.YtfapkhgallmkdaaGreatM16
import Derived.Test.YtfapkhgallmkdaaGreatM13
import Derived.Test.YtfapkhgallmkdaaGreatM17
import Derived.Test.YtfapkhgallmkdaaGreatM01
import Derived.Maps.AppendAt
import Derived.Laws.EntriesVeiled
namespace Go.Proofs.YtfapkhgallmkdaaGreat
open Go.RowKit
set_option maxHeartbeats 400000 in
theorem zbE (s p : ByteArray) (w : World) (_hs : s.size <= maxLen) (_hp : p.size <= maxLen) :
    Calls Tryz.prog 94 #[.string s, .string p] w fun e w' => e = .returned (.bool (Gate.begins s p)) /\ w' = w := by
  unfold maxLen at _hs _hp
  go_enter Tryz.func94, Tryz.ntmps94
  go_wp2_with fail
  all_goals
    go_ret
    refine ⟨ze ?_, rfl⟩
    simp [Gate.begins, *]
set_option maxHeartbeats 400000 in
theorem ze1 (s p : ByteArray) (w : World) (_hs : s.size <= maxLen) (_hp : p.size <= maxLen) :
    Calls Tryz.prog 196 #[.string s, .string p] w fun e w' => e = .returned (.bool (Gate.begins s p)) /\ w' = w := by
  unfold maxLen at _hs _hp
  go_enter Tryz.func196, Tryz.ntmps196
  go_wp2_with fail
  all_goals
    go_ret
    refine ⟨ze ?_, rfl⟩
    simp [Gate.begins, *]
set_option maxHeartbeats 400000 in
theorem qU (s p : ByteArray) (w : World) (hs : s.size <= maxLen) (hp : p.size <= maxLen) :
    Calls Tryz.prog 158 #[.string s, .string p] w fun e w' => e = .returned (.bool (Gate.begins s p)) /\ w' = w := by
  go_enter Tryz.func158, Tryz.ntmps158
  go_wp2_with (go_at_call 196; refine (ze1 s p _ hs hp).mono ?_; rintro e w' ⟨rfl, rfl⟩)
  go_ret
  exact ⟨rfl, rfl⟩
set_option maxHeartbeats 800000 in
theorem zae (r : Rl) (a : Option Addr) (cap : Nat) (v : Int) (w : World) (hw : yw w a r.vs) :
    Calls Tryz.prog 92 #[.agg (r.cells a cap), .int .i64 v] w fun e w' => e = .returned (.bool (Gate.yD r.vs v)) /\ Below w.heap.size w w' := by
  have hl := hw.len
  unfold maxLen at hl
  unfold Rl.cells
  have hB : ∀ ob, Below w.heap.size w (w.alloc ob) := fun ob => (Below.refl _ _).alloc (Nat.le_refl _) _
  go_enter Tryz.func92, Tryz.ntmps92
  go_wp2_with fail
  go_loop [5] (fun i => ∃ k : Nat, k <= r.vs.length /\ i = .int .i64 k /\ Gate.yD (r.vs.take k) v = false) (fun i => r.vs.length - (intOf i).toNat)
  case atStart => exact ⟨0, Nat.zero_le _, rfl, rfl⟩
  case round =>
    obtain ⟨k, hk, rfl, hall⟩ := hrel
    by_cases hlt : k < r.vs.length
    · obtain ⟨b, off, rfl, hb, c0⟩ := hw.load (Below.refl _ _) k hlt
      clear hw
      have HS : Hid (Gate.yD (r.vs.take (k + 1)) v = (false || decide (r.vs[k] = v))) := by rw [Gate.zeU r.vs v k hlt, hall]; rfl
      have hltI : (k : Int) < (r.vs.length : Int) := by omega
      by_cases he : r.vs[k] = v
      · have hbe : (r.vs[k] == v) = true := by simpa using he
        have HR : Hid (Gate.yD r.vs v = true) := Gate.zmo r.vs v k hlt he
        clear he hall
        go_wp2_with fail
        go_ret
        exact ⟨ze HR.out.symm, hB _⟩
      · have hbe : (r.vs[k] == v) = false := by simpa using he
        have HE : Hid (¬ r.vs[k] = v) := he
        clear he hall
        go_wp2_with fail
        go_round
        case rel => exact ⟨k + 1, by omega, by go_num, by rw [HS.out, decide_eq_false HE.out]; rfl⟩
        case measure => simp [intOf]; omega
    · have HR : Hid (Gate.yD r.vs v = false) := by rw [<- Gate.zlk r.vs v k (by omega)]; exact hall
      clear hall hw
      go_wp2_with fail
      go_ret
      exact ⟨ze HR.out.symm, hB _⟩
end Go.Proofs.YtfapkhgallmkdaaGreat

namespace Go.Proofs.YtfapkhgallmkdaaGreat
open Go.RowKit
def zd2 (ta : Option Addr) (tcap : Nat) (ts : List Tm) (r : Rl) (a : Option Addr) (cap : Nat) : Array Value :=
  #[.slice ta ts.length tcap, .slice a r.vs.length cap, .string r.kd, .string r.tm, .string r.px, .int .u8 (Gate.bitsOf (Gate.yD r.vs))]
def Gate.qz (ts : List Tm) (r : Rl) (kd tm nm : ByteArray) : Int := Gate.bitsOf (fun v => Gate.meets ts r kd tm nm && Gate.yD r.vs v)
theorem Gate.zbZ {ts : List Tm} {r : Rl} {kd tm nm : ByteArray} (h : Gate.meets ts r kd tm nm = false) : Gate.qz ts r kd tm nm = 0 := by
  unfold Gate.qz; rw [h]; rfl
theorem Gate.zdW {ts : List Tm} {r : Rl} {kd tm nm : ByteArray} (h : Gate.meets ts r kd tm nm = true) : Gate.qz ts r kd tm nm = Gate.bitsOf (Gate.yD r.vs) := by
  unfold Gate.qz; rw [h]; rfl
set_option maxHeartbeats 2000000 in
theorem zkm (ta : Option Addr) (tcap : Nat) (ts : List Tm) (r : Rl) (a : Option Addr) (cap : Nat) (kd tm nm : ByteArray) (w : World) (hw : qF w ta ts) (hm : r.Small) (hn : nm.size <= maxLen) :
    Calls Tryz.prog 108 #[.agg (zd2 ta tcap ts r a cap), .string kd, .string tm, .string nm] w fun e w' => e = .returned (.int .u8 (Gate.qz ts r kd tm nm)) /\ Below w.heap.size w w' := by
  have hpx := hm.px
  have HB : Hid (∀ ob, Below w.heap.size w (w.alloc ob)) := fun ob => (Below.refl _ _).alloc (Nat.le_refl _) _
  have HT : Hid (∀ ob, qF (w.alloc ob) ta ts) := fun ob => hw.mono (HB.out ob)
  clear hw hm
  unfold zd2
  have hkc : (r.kd.toList.isEmpty = true) \/ (r.kd.toList.isEmpty = false /\ (r.kd.toList == kd.toList) = true) \/ (r.kd.toList.isEmpty = false /\ (r.kd.toList == kd.toList) = false) := by
    cases r.kd.toList.isEmpty <;> cases (r.kd.toList == kd.toList) <;> simp
  have htc : (r.tm.toList.isEmpty = true) \/ (r.tm.toList.isEmpty = false /\ Hid (Gate.under ts 4 tm r.tm = true)) \/ (r.tm.toList.isEmpty = false /\ Hid (Gate.under ts 4 tm r.tm = false)) := by
    unfold Hid
    cases r.tm.toList.isEmpty <;> cases Gate.under ts 4 tm r.tm <;> simp
  have HM : Hid (Gate.meets ts r kd tm nm = ((r.kd.toList.isEmpty || (r.kd.toList == kd.toList)) && ((r.tm.toList.isEmpty || Gate.under ts 4 tm r.tm) && Gate.begins nm r.px))) := by
    unfold Hid Gate.meets; rw [Gate.beq_toList]
  rcases hkc with hk | ⟨hk, hke⟩ | ⟨hk, hke⟩
  · rcases htc with ht | ⟨ht, HU⟩ | ⟨ht, HU⟩
    · by_cases hb : Gate.begins nm r.px = true
      · have HP : Hid (Gate.begins nm r.px = true) := hb
        clear hb
        have HF : Hid (Gate.qz ts r kd tm nm = Gate.bitsOf (Gate.yD r.vs)) := Gate.zdW (by rw [HM.out, hk, ht, HP.out]; rfl)
        go_enter Tryz.func108, Tryz.ntmps108
        go_wp2_with (go_at_call 158; refine (zk HP.out (qU nm r.px _ hn hpx)).mono ?_; rintro e w' ⟨rfl, rfl⟩)
        go_ret
        exact ⟨zh HF.out.symm, HB.out _⟩
      · have HP : Hid (Gate.begins nm r.px = false) := by simpa [Hid] using hb
        clear hb
        have HF : Hid (Gate.qz ts r kd tm nm = 0) := Gate.zbZ (by rw [HM.out, hk, ht, HP.out]; simp)
        go_enter Tryz.func108, Tryz.ntmps108
        go_wp2_with (go_at_call 158; refine (zk HP.out (qU nm r.px _ hn hpx)).mono ?_; rintro e w' ⟨rfl, rfl⟩)
        go_ret
        exact ⟨zh HF.out.symm, HB.out _⟩
    · by_cases hb : Gate.begins nm r.px = true
      · have HP : Hid (Gate.begins nm r.px = true) := hb
        clear hb
        have HF : Hid (Gate.qz ts r kd tm nm = Gate.bitsOf (Gate.yD r.vs)) := Gate.zdW (by rw [HM.out, hk, ht, HU.out, HP.out]; rfl)
        go_enter Tryz.func108, Tryz.ntmps108
        go_wp2_with fail
        refine (zk HU.out (jo _ _ ts tm r.tm _ (HT.out _))).mono ?_
        rintro e w1 ⟨rfl, hb1⟩
        have hX1 := za (zG w _ _) (by simp) hb1
        have hz : w.heap.size < w1.heap.size := by have := hb1.size; simp at this; omega
        have HB1 : Hid (Below w.heap.size w w1) := (HB.out _).trans (hb1.mono (by simp))
        clear hb1
        go_wp2_with (go_at_call 158; refine (zk HP.out (qU nm r.px _ hn hpx)).mono ?_; rintro e w' ⟨rfl, rfl⟩)
        go_ret
        exact ⟨zh HF.out.symm, HB1.out⟩
      · have HP : Hid (Gate.begins nm r.px = false) := by simpa [Hid] using hb
        clear hb
        have HF : Hid (Gate.qz ts r kd tm nm = 0) := Gate.zbZ (by rw [HM.out, hk, ht, HU.out, HP.out]; simp)
        go_enter Tryz.func108, Tryz.ntmps108
        go_wp2_with fail
        refine (zk HU.out (jo _ _ ts tm r.tm _ (HT.out _))).mono ?_
        rintro e w1 ⟨rfl, hb1⟩
        have hX1 := za (zG w _ _) (by simp) hb1
        have hz : w.heap.size < w1.heap.size := by have := hb1.size; simp at this; omega
        have HB1 : Hid (Below w.heap.size w w1) := (HB.out _).trans (hb1.mono (by simp))
        clear hb1
        go_wp2_with (go_at_call 158; refine (zk HP.out (qU nm r.px _ hn hpx)).mono ?_; rintro e w' ⟨rfl, rfl⟩)
        go_ret
        exact ⟨zh HF.out.symm, HB1.out⟩
    · have HF : Hid (Gate.qz ts r kd tm nm = 0) := Gate.zbZ (by rw [HM.out, hk, ht, HU.out]; simp)
      go_enter Tryz.func108, Tryz.ntmps108
      go_wp2_with fail
      refine (zk HU.out (jo _ _ ts tm r.tm _ (HT.out _))).mono ?_
      rintro e w1 ⟨rfl, hb1⟩
      have HB1 : Hid (Below w.heap.size w w1) := (HB.out _).trans (hb1.mono (by simp))
      clear hb1
      go_wp2_with fail
      go_ret
      exact ⟨zh HF.out.symm, HB1.out⟩
  · rcases htc with ht | ⟨ht, HU⟩ | ⟨ht, HU⟩
    · by_cases hb : Gate.begins nm r.px = true
      · have HP : Hid (Gate.begins nm r.px = true) := hb
        clear hb
        have HF : Hid (Gate.qz ts r kd tm nm = Gate.bitsOf (Gate.yD r.vs)) := Gate.zdW (by rw [HM.out, hk, hke, ht, HP.out]; rfl)
        go_enter Tryz.func108, Tryz.ntmps108
        go_wp2_with (go_at_call 158; refine (zk HP.out (qU nm r.px _ hn hpx)).mono ?_; rintro e w' ⟨rfl, rfl⟩)
        go_ret
        exact ⟨zh HF.out.symm, HB.out _⟩
      · have HP : Hid (Gate.begins nm r.px = false) := by simpa [Hid] using hb
        clear hb
        have HF : Hid (Gate.qz ts r kd tm nm = 0) := Gate.zbZ (by rw [HM.out, hk, hke, ht, HP.out]; simp)
        go_enter Tryz.func108, Tryz.ntmps108
        go_wp2_with (go_at_call 158; refine (zk HP.out (qU nm r.px _ hn hpx)).mono ?_; rintro e w' ⟨rfl, rfl⟩)
        go_ret
        exact ⟨zh HF.out.symm, HB.out _⟩
    · by_cases hb : Gate.begins nm r.px = true
      · have HP : Hid (Gate.begins nm r.px = true) := hb
        clear hb
        have HF : Hid (Gate.qz ts r kd tm nm = Gate.bitsOf (Gate.yD r.vs)) := Gate.zdW (by rw [HM.out, hk, hke, ht, HU.out, HP.out]; rfl)
        go_enter Tryz.func108, Tryz.ntmps108
        go_wp2_with fail
        refine (zk HU.out (jo _ _ ts tm r.tm _ (HT.out _))).mono ?_
        rintro e w1 ⟨rfl, hb1⟩
        have hX1 := za (zG w _ _) (by simp) hb1
        have hz : w.heap.size < w1.heap.size := by have := hb1.size; simp at this; omega
        have HB1 : Hid (Below w.heap.size w w1) := (HB.out _).trans (hb1.mono (by simp))
        clear hb1
        go_wp2_with (go_at_call 158; refine (zk HP.out (qU nm r.px _ hn hpx)).mono ?_; rintro e w' ⟨rfl, rfl⟩)
        go_ret
        exact ⟨zh HF.out.symm, HB1.out⟩
      · have HP : Hid (Gate.begins nm r.px = false) := by simpa [Hid] using hb
        clear hb
        have HF : Hid (Gate.qz ts r kd tm nm = 0) := Gate.zbZ (by rw [HM.out, hk, hke, ht, HU.out, HP.out]; simp)
        go_enter Tryz.func108, Tryz.ntmps108
        go_wp2_with fail
        refine (zk HU.out (jo _ _ ts tm r.tm _ (HT.out _))).mono ?_
        rintro e w1 ⟨rfl, hb1⟩
        have hX1 := za (zG w _ _) (by simp) hb1
        have hz : w.heap.size < w1.heap.size := by have := hb1.size; simp at this; omega
        have HB1 : Hid (Below w.heap.size w w1) := (HB.out _).trans (hb1.mono (by simp))
        clear hb1
        go_wp2_with (go_at_call 158; refine (zk HP.out (qU nm r.px _ hn hpx)).mono ?_; rintro e w' ⟨rfl, rfl⟩)
        go_ret
        exact ⟨zh HF.out.symm, HB1.out⟩
    · have HF : Hid (Gate.qz ts r kd tm nm = 0) := Gate.zbZ (by rw [HM.out, hk, hke, ht, HU.out]; simp)
      go_enter Tryz.func108, Tryz.ntmps108
      go_wp2_with fail
      refine (zk HU.out (jo _ _ ts tm r.tm _ (HT.out _))).mono ?_
      rintro e w1 ⟨rfl, hb1⟩
      have HB1 : Hid (Below w.heap.size w w1) := (HB.out _).trans (hb1.mono (by simp))
      clear hb1
      go_wp2_with fail
      go_ret
      exact ⟨zh HF.out.symm, HB1.out⟩
  · have HF : Hid (Gate.qz ts r kd tm nm = 0) := Gate.zbZ (by rw [HM.out, hk, hke]; rfl)
    go_enter Tryz.func108, Tryz.ntmps108
    go_wp2_with fail
    go_ret
    exact ⟨zh HF.out.symm, HB.out _⟩
set_option maxHeartbeats 1000000 in
theorem zlm (ta : Option Addr) (tcap : Nat) (ts : List Tm) (r : Rl) (a : Option Addr) (cap : Nat) (w : World) (hw : yw w a r.vs) (hv : Gate.qD r.vs = true) :
    Calls Tryz.prog 65 #[.slice ta ts.length tcap, .agg (r.cells a cap)] w fun e w' => e = .returned (.func (.func 108) #[.agg (zd2 ta tcap ts r a cap)] #[]) /\ Below w.heap.size w w' := by
  unfold Rl.cells zd2
  have HI : Hid (∀ ob n, yw ((w.alloc ob).drewN n) a r.vs) := fun ob n => hw.mono (below_drewN ((Below.refl _ _).alloc (Nat.le_refl _) _) n)
  go_enter Tryz.func65, Tryz.ntmps65
  go_wp2_with fail
  go_quiet ((go_at_call 107; exact Calls.quiet_of_same (zk2 _ _ r.vs _ (by exact HI.out _ _) hv)))
  go_wp2_with fail
  go_ret
  exact ⟨rfl, below_drewN ((Below.refl _ _).alloc (Nat.le_refl _) _) _⟩
end Go.Proofs.YtfapkhgallmkdaaGreat

namespace Go.Proofs.YtfapkhgallmkdaaGreat
open Go.RowKit
namespace Gate
def zi (s : Shp) (ms : List Mnd) (p : Nat) : List Nat := (yh s ms p).map Int.toNat
def zel (S : Far) : Int -> Option Int := fun q => if 0 <= q then (S.far q.toNat).map fun b => if b = true then 2 else 1 else none
theorem zmp (S : Far) (i : Nat) : (fun q : Int => if q = (i : Int) then some 1 else zel S q) = zel (S.under i) := by
  funext q
  by_cases h : q = (i : Int)
  · subst h; simp [zel, Far.under]
  · rw [if_neg h]
    unfold zel Far.under
    by_cases h0 : 0 <= q
    · have : q.toNat ≠ i := by omega
      simp [h0, this]
    · simp [h0]
theorem zkU (S : Far) (i : Nat) : (fun q : Int => if q = (i : Int) then some 2 else zel S q) = zel (S.behind i) := by
  funext q
  by_cases h : q = (i : Int)
  · subst h; simp [zel, Far.behind]
  · rw [if_neg h]
    unfold zel Far.behind
    by_cases h0 : 0 <= q
    · have : q.toNat ≠ i := by omega
      simp [h0, this]
    · simp [h0]
theorem zoS (S : Far) (i : Nat) : zel S (i : Int) = (S.far i).map fun b => if b = true then 2 else 1 := by
  unfold zel; simp
theorem zav (d : Nat -> Far -> Bool × Far) : ∀ (l : List Nat) (q : Nat) (t : Far), zn d (l ++ [q]) t = if (zn d l t).1 = true then d q (zn d l t).2 else zn d l t
  | [], q, t => by
    show (if (d q t).1 = true then zn d [] (d q t).2 else (false, (d q t).2)) = d q t
    by_cases h : (d q t).1 = true
    · rw [if_pos h]; show (true, (d q t).2) = d q t; rw [<- h]
    · rw [if_neg h]
      have : (d q t).1 = false := by simpa using h
      rw [<- this]
  | a :: l, q, t => by
    show (if (d a t).1 = true then zn d (l ++ [q]) (d a t).2 else (false, (d a t).2)) = _
    by_cases h : (d a t).1 = true
    · have e : zn d (a :: l) t = zn d l (d a t).2 := by show (if (d a t).1 = true then _ else _) = _; rw [if_pos h]
      rw [if_pos h, e]; exact zav d l q _
    · have e : zn d (a :: l) t = (false, (d a t).2) := by show (if (d a t).1 = true then _ else _) = _; rw [if_neg h]
      rw [if_neg h, e]; rfl
theorem zbX (d : Nat -> Far -> Bool × Far) : ∀ (l r : List Nat) (t : Far), (zn d l t).1 = false -> (zn d (l ++ r) t).1 = false
  | [], r, t, h => by cases h
  | a :: l, r, t, h => by
    show (if (d a t).1 = true then zn d (l ++ r) (d a t).2 else (false, (d a t).2)).1 = false
    by_cases hc : (d a t).1 = true
    · have e : zn d (a :: l) t = zn d l (d a t).2 := by show (if (d a t).1 = true then _ else _) = _; rw [if_pos hc]
      rw [e] at h
      rw [if_pos hc]; exact zbX d l r _ h
    · rw [if_neg hc]
theorem znP {rd : Nat -> List Nat} {n : Nat} (hrd : ∀ p, p < n -> ∀ q ∈ rd p, q < n) : ∀ f p S, p < n -> (down rd f p S).1 = true -> (down rd f p S).2.row.length + open' n (down rd f p S).2 <= S.row.length + open' n S := by
  intro f
  induction f with
  | zero => intro p S _ h; cases h
  | succ f ih =>
    have hl : ∀ (l : List Nat) (t : Far), (∀ a ∈ l, a < n) -> (zn (down rd f) l t).1 = true -> (zn (down rd f) l t).2.row.length + open' n (zn (down rd f) l t).2 <= t.row.length + open' n t := by
      intro l
      induction l with
      | nil => intro t _ _; exact Nat.le_refl _
      | cons a l il =>
        intro t ha h
        unfold zn at h ⊢
        by_cases hc : (down rd f a t).1 = true
        · rw [if_pos hc] at h ⊢
          exact Nat.le_trans (il _ (fun b hb => ha b (by simp [hb])) h) (ih a t (ha a (by simp)) hc)
        · rw [if_neg hc] at h; cases h
    intro p S hp h
    unfold down at h ⊢
    rcases hf : S.far p with _ | b
    · rw [hf] at h
      simp only at h ⊢
      by_cases hc : (zn (down rd f) (rd p) (S.under p)).1 = true
      · rw [if_pos hc]
        have h1 := hl _ _ (hrd p hp) hc
        have h2 := zet hp hf
        have h3 : open' n ((zn (down rd f) (rd p) (S.under p)).2.behind p) <= open' n (zn (down rd f) (rd p) (S.under p)).2 := by
          apply zi5
          intro q hq
          simp only [Far.behind]
          split
          · rfl
          · exact hq
        have h4 : ((zn (down rd f) (rd p) (S.under p)).2.behind p).row.length = (zn (down rd f) (rd p) (S.under p)).2.row.length + 1 := by simp [Far.behind]
        have h5 : (S.under p).row = S.row := rfl
        rw [h5] at h1
        simp only
        omega
      · rw [if_neg hc] at h; cases h
    · exact Nat.le_refl _
theorem zef {rd : Nat -> List Nat} {n : Nat} (hrd : ∀ p, p < n -> ∀ q ∈ rd p, q < n) (f : Nat) : ∀ (l : List Nat) (t : Far), (∀ a ∈ l, a < n) -> (zn (down rd f) l t).1 = true -> (zn (down rd f) l t).2.row.length + open' n (zn (down rd f) l t).2 <= t.row.length + open' n t := by
  intro l
  induction l with
  | nil => intro t _ _; exact Nat.le_refl _
  | cons a l il =>
    intro t ha h
    unfold zn at h ⊢
    by_cases hc : (down rd f a t).1 = true
    · rw [if_pos hc] at h ⊢
      exact Nat.le_trans (il _ (fun b hb => ha b (by simp [hb])) h) (znP hrd f a t (ha a (by simp)) hc)
    · rw [if_neg hc] at h; cases h
end Gate
def zdn (l : List Nat) : List Value := l.map fun q : Nat => Value.int .i64 (q : Int)
theorem zaM {w : World} {b : Nat} {X : Array Value} {t : TypeId} (h : w.heap[b]? = some (.cells X t)) : ∀ j, w.cell? ⟨b, j, none⟩ = X[j]? := fun _ => cell_of_block h
theorem zeV {w : World} {b : Nat} {X : Array Value} {t : TypeId} (h : w.heap[b]? = some (.cells X t)) : ∀ j, w.frozen? ⟨b, j, none⟩ = false := fun _ => zl h
structure WalkC where
  s : Shp
  ms : List Mnd
  w0 : World
  ma : Option Addr
  fa : Option Addr
  mcap : Nat
  fcap : Nat
  bm : Nat
  bs : Nat
  p : Nat
  mr : Nat
  lo : Nat
structure WalkC.Ok (c : WalkC) : Prop where
  mnds : qp c.w0 c.ma c.ms
  flds : yc c.w0 c.fa c.s.fs
  few : c.ms.length <= 1048576
  fewf : c.s.fs.length <= 6
  reads : ∀ q, q < c.s.fs.length -> ∀ x ∈ Gate.yh c.s c.ms q, 0 <= x /\ x < c.s.fs.length
  bp : c.w0.heap.size <= c.p
  bmr : c.w0.heap.size <= c.mr
  plo : c.p < c.lo
  mlo : c.mr < c.lo
  bml : c.bm < c.lo
  bsl : c.bs < c.lo
  pm : c.p ≠ c.mr
  bmp : c.bm ≠ c.p
  bmm : c.bm ≠ c.mr
  bsp : c.bs ≠ c.p
  bsm : c.bs ≠ c.mr
def WalkC.fn (c : WalkC) : Value := .func (.func 179) #[] #[.pointer (some ⟨c.bm, 0, none⟩), .pointer (some ⟨c.bs, 0, none⟩)]
structure jK (c : WalkC) (w : World) (S : Gate.Far) (v : Value) : Prop where
  base : Below c.w0.heap.size c.w0 w
  cm : w.cell? ⟨c.bm, 0, none⟩ = some (.slice c.ma c.ms.length c.mcap)
  cs : ∀ j, w.cell? ⟨c.bs, j, none⟩ = (#[.string c.s.kd, .slice c.fa c.s.fs.length c.fcap] : Array Value)[j]?
  size : c.lo <= w.heap.size
  cells : w.heap[c.p]? = some (.cells #[c.fn, .map (some c.mr), v] 264)
  row : w.ownsRow c.lo 3 1 v S.row.length (zdn S.row)
  map : zaI w c.mr (Gate.zel S)
structure Moves (c : WalkC) (v : Value) (w : World) (v' : Value) (w' : World) : Prop where
  size : w.heap.size <= w'.heap.size
  out : ∀ k, k < w.heap.size -> k ≠ c.p -> k ≠ c.mr -> v.ownBlock ≠ some k -> w'.heap[k]? = w.heap[k]?
  own : v'.ownBlock = v.ownBlock \/ ∃ g, v'.ownBlock = some g /\ w.heap.size <= g
theorem Moves.refl (c : WalkC) (v : Value) (w : World) : Moves c v w v w := ⟨Nat.le_refl _, fun _ _ _ _ _ => rfl, Or.inl rfl⟩
theorem Moves.trans {c : WalkC} {v v1 v2 : Value} {w w1 w2 : World} (h : Moves c v w v1 w1) (k : Moves c v1 w1 v2 w2) : Moves c v w v2 w2 := by
  refine ⟨Nat.le_trans h.size k.size, fun i hi hp hm hv => ?_, ?_⟩
  · rw [k.out i (Nat.lt_of_lt_of_le hi h.size) hp hm ?_, h.out i hi hp hm hv]
    rcases h.own with e | ⟨g, e, hg⟩
    · rw [e]; exact hv
    · rw [e]; intro e'; cases e'; omega
  · rcases k.own with e | ⟨g, e, hg⟩
    · rw [e]; exact h.own
    · exact Or.inr ⟨g, e, Nat.le_trans h.size hg⟩
theorem zfy {w w' : World} {b j : Nat} (h : w'.heap[b]? = w.heap[b]?) : w'.cell? ⟨b, j, none⟩ = w.cell? ⟨b, j, none⟩ := by unfold World.cell?; rw [h]
theorem jK.next {c : WalkC} {w w' : World} {S S' : Gate.Far} {v v' : Value} (hc : c.Ok) (h : jK c w S v) (os : w'.os = w.os) (tape : w'.tape = w.tape) (output : w'.output = w.output) (size : w.heap.size <= w'.heap.size)
    (out : ∀ k, k < c.lo -> k ≠ c.p -> k ≠ c.mr -> w'.heap[k]? = w.heap[k]?)
    (cells : w'.heap[c.p]? = some (.cells #[c.fn, .map (some c.mr), v'] 264)) (row : w'.ownsRow c.lo 3 1 v' S'.row.length (zdn S'.row)) (map : zaI w' c.mr (Gate.zel S')) : jK c w' S' v' := by
  have hb := h.base.size
  have h1 := hc.bp
  have h2 := hc.plo
  have h3 := hc.bmr
  refine ⟨⟨os.trans h.base.os, tape.trans h.base.tape, output.trans h.base.output, Nat.le_trans hb size, fun k hk => ?_⟩, ?_, fun j => ?_, Nat.le_trans h.size size, cells, row, map⟩
  · rw [out k (by omega) (by omega) (by omega)]; exact h.base.block k hk
  · rw [zfy (out c.bm hc.bml hc.bmp hc.bmm)]; exact h.cm
  · rw [zfy (out c.bs hc.bsl hc.bsp hc.bsm)]; exact h.cs j
theorem jK.mark {c : WalkC} {w : World} {S : Gate.Far} {v : Value} (hc : c.Ok) (h : jK c w S v) (i : Nat) (x : Int) :
    ∃ w', (Instr.mapUpdate 262 (.map (some c.mr)) (.int .i64 i) (.int .i64 x)).run Tryz.prog w = .ok () w' /\ (∀ S' : Gate.Far, S'.row = S.row -> (fun q : Int => if q = (i : Int) then some x else Gate.zel S q) = Gate.zel S' -> jK c w' S' v) /\ Moves c v w v w' := by
  obtain ⟨w', hrun, hmap, hput⟩ := h.map.upd i x
  have hlt := h.map.lt
  refine ⟨w', hrun, fun S' hr hf => ?_, Nat.le_of_eq hput.size.symm, fun k _ _ hm _ => hput.out k hm, Or.inl rfl⟩
  have hrow : w'.ownsRow c.lo 3 1 v S'.row.length (zdn S'.row) := by
    rw [hr]
    exact zaj h.row fun g hg => hput.out g (by have := (h.row.lt g hg).1; have := hc.mlo; omega)
  exact h.next hc hput.os hput.tape hput.output (Nat.le_of_eq hput.size.symm) (fun k _ _ hm => hput.out k hm) ((hput.out c.p hc.pm).trans h.cells) hrow (by rw [<- hf]; exact hmap)
theorem WalkC.Ok.rd {c : WalkC} (hc : c.Ok) : ∀ p, p < c.s.fs.length -> ∀ q ∈ Gate.zi c.s c.ms p, q < c.s.fs.length := by
  intro p hp q hq
  unfold Gate.zi at hq
  obtain ⟨x, hx, rfl⟩ := List.mem_map.1 hq
  have := hc.reads p hp x hx
  omega
theorem jK.later {c : WalkC} {w w' : World} {S : Gate.Far} {v : Value} (hc : c.Ok) (h : jK c w S v) (hb : Below w.heap.size w w') : jK c w' S v /\ Moves c v w v w' := by
  have hs := h.size
  have hp := hc.plo
  have hm := hc.mlo
  exact ⟨h.next hc hb.os hb.tape hb.output hb.size (fun k hk _ _ => hb.block k (by omega)) ((hb.block c.p (by omega)).trans h.cells) (yZ h.row hb) (h.map.mono (hb.block c.mr (by omega))), hb.size, fun k hk _ _ _ => hb.block k hk, Or.inl rfl⟩
theorem jK.zkb {c : WalkC} {w : World} {S : Gate.Far} {v : Value} (h : jK c w S v) : ∀ j, w.cell? ⟨c.p, j, none⟩ = (#[.func (.func 179) #[] #[.pointer (some ⟨c.bm, 0, none⟩), .pointer (some ⟨c.bs, 0, none⟩)], .map (some c.mr), v] : Array Value)[j]? := fun _ => cell_of_block h.cells
theorem zfr {p : Prop} (h : Hid p) : p := h
set_option maxRecDepth 20000 in
set_option maxHeartbeats 4000000 in
theorem zoj (c : WalkC) (hc : c.Ok) : ∀ (f i : Nat) (S : Gate.Far) (v : Value) (w : World), i < c.s.fs.length -> Gate.open' c.s.fs.length S < f -> S.row.length + Gate.open' c.s.fs.length S <= 6 -> jK c w S v ->
    Calls Tryz.prog 201 #[.pointer (some ⟨c.p, 0, none⟩), .int .i64 i] w fun e w' => ∃ v', e = .returned (.bool (Gate.down (Gate.zi c.s c.ms) f i S).1) /\ Below c.w0.heap.size c.w0 w' /\ ((Gate.down (Gate.zi c.s c.ms) f i S).1 = true -> jK c w' (Gate.down (Gate.zi c.s c.ms) f i S).2 v' /\ Moves c v w v' w') := by
  intro f
  induction f with
  | zero => intro i S v w _ h _ _; omega
  | succ f ih =>
    intro i S v w hi hopen hsix hW
    have HI := hid ih
    clear ih
    obtain ⟨i0, hi0, hz0, hz1', hz2⟩ := info_parts Tryz.zjN
    have hpc := hW.zkb
    have hlook := hW.map.look (i : Int)
    rw [Gate.zoS] at hlook
    have HW := hid hW
    have HO := hid hopen
    clear hW hopen
    rcases hfar : S.far i with _ | b
    · rw [hfar] at hlook
      have hlook' := hlook
      obtain ⟨w1, hrun, hmk, hmv⟩ := HW.out.mark hc i 1
      have hW1 := hmk (S.under i) rfl (Gate.zmp S i)
      have hpc1 := hW1.zkb
      have HW1 := j4 hW1 hmv
      clear hlook hmk hmv hW1
      go_enter Tryz.func201, Tryz.ntmps201
      go_wp2_with fail
      refine (zlx c.s c.ms i c.bm c.bs c.ma c.fa c.mcap c.fcap w1 (hc.mnds.mono HW1.out.1.base) (hc.flds.mono HW1.out.1.base) hi hc.few (Nat.lt_of_lt_of_le hc.bsl HW1.out.1.size) HW1.out.1.cm HW1.out.1.cs).mono ?_
      rintro e w2 ⟨rv, rfl, hrow, hb2⟩
      obtain ⟨ra, rcap, rfl⟩ := yU hrow
      have hW2 := HW1.out.1.later hc hb2
      have HW2 := j4 hW2.1 (HW1.out.2.trans hW2.2)
      have HR2 := hid hrow
      have HRL : Hid ((Gate.yh c.s c.ms i).length <= 2097152) := by have h1 := Gate.zfP c.s i c.ms; have := hc.few; show _ <= _; omega
      have HAP : Hid (∀ g, v.ownBlock = some g -> (Value.slice ra (Gate.yh c.s c.ms i).length rcap).ownBlock ≠ some g) := by
        intro g hg he
        have h1 := (HW1.out.1.row.lt g hg).2
        have h2 := (hrow.lt g he).1
        omega
      have HLO := hid HW1.out.1.size
      have HOU : Hid (Gate.open' c.s.fs.length (S.under i) < f) := by have h1 := Gate.zet hi hfar; have h2 := HO.out; show _ < _; omega
      have HDN : Hid ((Gate.down (Gate.zi c.s c.ms) (f + 1) i S) = if (Gate.zn (Gate.down (Gate.zi c.s c.ms) f) ((Gate.zi c.s c.ms) i) (S.under i)).1 = true then (true, (Gate.zn (Gate.down (Gate.zi c.s c.ms) f) ((Gate.zi c.s c.ms) i) (S.under i)).2.behind i) else (false, (Gate.zn (Gate.down (Gate.zi c.s c.ms) f) ((Gate.zi c.s c.ms) i) (S.under i)).2)) := by
        unfold Hid; rw [Gate.down, hfar]
      clear hW2 hrow hb2 hpc hpc1 hlook' hrun
      go_wp2_with fail
      go_loopw [33] (fun iv wr => ∃ (j : Nat) (v1 : Value), j <= (Gate.yh c.s c.ms i).length /\ iv = .int .i64 j /\ (Gate.zn (Gate.down (Gate.zi c.s c.ms) f) (((Gate.zi c.s c.ms) i).take j) (S.under i)).1 = true /\ jK c wr (Gate.zn (Gate.down (Gate.zi c.s c.ms) f) (((Gate.zi c.s c.ms) i).take j) (S.under i)).2 v1 /\ Moves c v w v1 wr /\ wr.ownsRow w1.heap.size 3 1 (.slice ra (Gate.yh c.s c.ms i).length rcap) (Gate.yh c.s c.ms i).length (ints (Gate.yh c.s c.ms i)) /\ (∀ g, v1.ownBlock = some g -> (Value.slice ra (Gate.yh c.s c.ms i).length rcap).ownBlock ≠ some g)) (fun iv _ => (Gate.yh c.s c.ms i).length - (intOf iv).toNat)
      case atStart => exact ⟨0, v, Nat.zero_le _, rfl, rfl, HW2.out.1, HW2.out.2, HR2.out, HAP.out⟩
      case round =>
        obtain ⟨j, v1, hj, rfl, hD, hWr, hMr, hRr, hAp⟩ := hrel
        have HWr := zkI hWr hMr hRr hAp
        have HD := hid hD
        clear hWr hMr hRr hAp hD
        have HSX : Hid ((Gate.zn (Gate.down (Gate.zi c.s c.ms) f) (((Gate.zi c.s c.ms) i).take j) (S.under i)).2.row.length + Gate.open' c.s.fs.length (Gate.zn (Gate.down (Gate.zi c.s c.ms) f) (((Gate.zi c.s c.ms) i).take j) (S.under i)).2 <= 6) := by
          have h1 := Gate.zef hc.rd f _ (S.under i) (fun a ha => hc.rd i hi a (List.mem_of_mem_take ha)) HD.out
          have h2 := Gate.zet hi hfar
          have h3 : (S.under i).row = S.row := rfl
          rw [h3] at h1
          show _ <= _
          omega
        by_cases hjl : j < (Gate.yh c.s c.ms i).length
        · obtain ⟨q, hq, hqn⟩ : ∃ q : Nat, (Gate.yh c.s c.ms i)[j] = (q : Int) /\ q < c.s.fs.length := by
            have h1 := hc.reads i hi _ (List.getElem_mem hjl)
            exact ⟨((Gate.yh c.s c.ms i)[j]).toNat, by omega, by omega⟩
          have HTK : Hid (((Gate.zi c.s c.ms) i).take (j + 1) = ((Gate.zi c.s c.ms) i).take j ++ [q]) := by
            have hjl' : j < ((Gate.zi c.s c.ms) i).length := by unfold Gate.zi; rw [List.length_map]; exact hjl
            unfold Hid
            rw [List.take_succ_eq_append_getElem hjl']
            have : ((Gate.zi c.s c.ms) i)[j] = q := by simp [Gate.zi, hq]
            rw [this]
          obtain ⟨g, rfl, hcell⟩ : ∃ g, ra = some ⟨g, 0, none⟩ /\ wr.cell? ⟨g, j, none⟩ = some (.int .i64 (q : Int)) := by
            obtain ⟨_, ⟨h0, h1⟩ | ⟨g, cap, cur, h0, h1⟩⟩ := id HWr.out.2.2.1
            · rw [h1] at hjl; exact absurd hjl (by omega)
            · cases h0
              refine ⟨g, rfl, ?_⟩
              rw [HWr.out.2.2.1.cellAt j (by omega)]
              simp [ints, hjl, hq]
          have hjI : (j : Int) < ((Gate.yh c.s c.ms i).length : Int) := by omega
          have HOP : Hid (Gate.open' c.s.fs.length (Gate.zn (Gate.down (Gate.zi c.s c.ms) f) (((Gate.zi c.s c.ms) i).take j) (S.under i)).2 < f) := by
            have h1 := Gate.zi5 (n := c.s.fs.length) (s := S.under i) (t := (Gate.zn (Gate.down (Gate.zi c.s c.ms) f) (((Gate.zi c.s c.ms) i).take j) (S.under i)).2) (fun q' hq' => Gate.zjL _ _ q' _ _ hq')
            have h2 := HOU.out
            show _ < _
            omega
          go_wp2_with fail
          refine (HI.out q _ v1 wr hqn HOP.out HSX.out HWr.out.1).mono ?_
          rintro e w3 ⟨v3, rfl, hb3, hyes⟩
          by_cases hd : (Gate.down (Gate.zi c.s c.ms) f q (Gate.zn (Gate.down (Gate.zi c.s c.ms) f) (((Gate.zi c.s c.ms) i).take j) (S.under i)).2).1 = true
          · have HS : Hid ((Gate.zn (Gate.down (Gate.zi c.s c.ms) f) (((Gate.zi c.s c.ms) i).take (j + 1)) (S.under i)) = Gate.down (Gate.zi c.s c.ms) f q (Gate.zn (Gate.down (Gate.zi c.s c.ms) f) (((Gate.zi c.s c.ms) i).take j) (S.under i)).2) := by unfold Hid; rw [HTK.out, Gate.zav, if_pos HD.out]
            have hy := hyes hd
            have HY := hid hy
            have HDD := hid hd
            rw [hd]
            clear hyes hy hb3 hd hcell
            go_wp2_with fail
            have hg1 := HWr.out.2.2.1.lt g rfl
            have hap : v1.ownBlock ≠ some g := fun h => HWr.out.2.2.2 g h rfl
            refine ⟨⟨j + 1, v3, by omega, by rw [wrap_one (by have := HRL.out; omega)], by rw [HS.out]; exact HDD.out, by rw [HS.out]; exact HY.out.1, HWr.out.2.1.trans HY.out.2, ?_, ?_⟩, zdY hjl (by have := HRL.out; omega)⟩
            · refine zaj HWr.out.2.2.1 (fun g' hg' => ?_)
              cases hg'
              exact HY.out.2.out g hg1.2 (by have := hc.plo; have := HLO.out; omega) (by have := hc.mlo; have := HLO.out; omega) hap
            · intro g' hg' he
              have e0 : g = g' := Option.some.inj he
              subst e0
              rcases HY.out.2.own with e | ⟨g2, e, h2⟩
              · rw [e] at hg'; exact hap hg'
              · have e2 : g2 = g := Option.some.inj (e.symm.trans hg')
                have h3 := hg1.2
                omega
          · have hdf : (Gate.down (Gate.zi c.s c.ms) f q (Gate.zn (Gate.down (Gate.zi c.s c.ms) f) (((Gate.zi c.s c.ms) i).take j) (S.under i)).2).1 = false := by simpa using hd
            have HF : Hid ((Gate.down (Gate.zi c.s c.ms) (f + 1) i S).1 = false) := by
              have h1 : (Gate.zn (Gate.down (Gate.zi c.s c.ms) f) (((Gate.zi c.s c.ms) i).take (j + 1)) (S.under i)).1 = false := by rw [HTK.out, Gate.zav, if_pos HD.out]; exact hdf
              have h2 := Gate.zbX (Gate.down (Gate.zi c.s c.ms) f) (((Gate.zi c.s c.ms) i).take (j + 1)) (((Gate.zi c.s c.ms) i).drop (j + 1)) (S.under i) h1
              rw [List.take_append_drop] at h2
              unfold Hid
              rw [HDN.out, if_neg (by rw [h2]; simp)]
            rw [hdf]
            have HB3 : Hid (Below c.w0.heap.size c.w0 w3) := hb3
            clear hyes hb3 hcell hd hdf
            go_wp2_with fail
            go_ret
            exact ⟨v3, by rw [HF.out]; rfl, HB3.out, fun h => by rw [HF.out] at h; cases h⟩
        · have e : j = (Gate.yh c.s c.ms i).length := by omega
          have hall : ((Gate.zi c.s c.ms) i).take j = (Gate.zi c.s c.ms) i := List.take_of_length_le (by unfold Gate.zi; rw [List.length_map]; omega)
          rw [hall] at HWr HD HSX
          have HRES : Hid ((Gate.down (Gate.zi c.s c.ms) (f + 1) i S) = (true, (Gate.zn (Gate.down (Gate.zi c.s c.ms) f) ((Gate.zi c.s c.ms) i) (S.under i)).2.behind i)) := by unfold Hid; rw [HDN.out, if_pos HD.out]
          clear HDN HD hall
          revert HWr HRES HSX
          generalize (Gate.zn (Gate.down (Gate.zi c.s c.ms) f) ((Gate.zi c.s c.ms) i) (S.under i)).2 = D
          intro HWr HSX HRES
          obtain ⟨w3, hrun3, hmk3, hmv3⟩ := HWr.out.1.mark hc i 2
          have hW3 := hmk3 ⟨(D.behind i).far, D.row⟩ rfl (by rw [Gate.zkU]; rfl)
          have HW3 := j4 hW3 (HWr.out.2.1.trans hmv3)
          have hpcr := HWr.out.1.zkb
          have hpc3 := hW3.zkb
          have hpf3 := zeV hW3.cells
          have HDL : Hid (D.row.length <= 6) := by have := HSX.out; show _ <= _; omega
          have hp3 := Nat.lt_of_lt_of_le hc.plo hW3.size
          clear hmk3 hmv3 hW3 HWr
          subst e
          have HGE := hid HW3.out.1.row.lt
          go_wp2_with (at_builtin; refine zfr ?_)
          show wpList _ _ _ _ _ _
          refine wpList_append_own_at _ rfl (.tmp 51) (.tmp 53) 95 rfl c.lo 3 i0 (.int .i64 0) 1 8 Tryz.underlying95 hi0 hz0 hz1' hz2 rfl (by decide) v1 _ _ rfl (HW3.out.1.row.alloc _) ⟨w3.heap.size, 0, none⟩ 1 1 [.int .i64 (i : Int)] rfl rfl (zds _ _ _) (by intro u hu; simp at hu; subst hu; rfl) (by have := HDL.out; show D.row.length + 1 <= 2 ^ 63 - 1; omega) (by have := HDL.out; show (D.row.length + 1) * 8 <= 140737488355328; omega) (by have := HW3.out.1.size; simp; omega) ?_
          intro vN w4 hownN hgr _ hat
          obtain ⟨va, vcap, rfl⟩ := yU hownN
          have hown' := hownN
          clear hownN
          have hp4 := (j6 hgr (by simp; omega) (fun g hg => by have := (HGE.out g hg).1; have := hc.plo; omega)).trans ((Below.heap_alloc _ _ _ hp3).trans HW3.out.1.cells)
          have hpc4 := zaM hp4
          have hpf4 := zeV hp4
          have HP4 : Hid (w4.heap[c.p]? = some (.cells #[c.fn, .map (some c.mr), v1] 264)) := hp4
          have HG4 : Hid ((w3.alloc (.cells #[.int .i64 (i : Int)] 3)).grownBy w4 v1.ownBlock /\ ((Value.slice va (D.row.length + 1) vcap).ownBlock = v1.ownBlock \/ (Value.slice va (D.row.length + 1) vcap).ownBlock = some (w3.heap.size + 1))) := (by refine ⟨hgr, ?_⟩; simpa using hat)
          have HO4 := hid hown'
          clear hp4 hgr hat hown'
          go_wp2_with fail
          have hgb : ∀ k, k < w3.heap.size -> (∀ g, v1.ownBlock = some g -> k ≠ g) -> w4.heap[k]? = w3.heap[k]? := fun k hk hne => (j6 HG4.out.1 (by simp; omega) hne).trans (Below.heap_alloc _ _ _ hk)
          have hsz4 : w3.heap.size < w4.heap.size := by have := HG4.out.1.size; simp at this; omega
          have hv4 : ∀ g, (Value.slice va (D.row.length + 1) vcap).ownBlock = some g -> c.lo <= g := fun g hg => (HO4.out.lt g hg).1
          have hW5 : jK c (w4.setCell ⟨c.p, 2, none⟩ (.slice va (D.row.length + 1) vcap)) (D.behind i) (.slice va (D.row.length + 1) vcap) := by
            refine HW3.out.1.next hc HG4.out.1.os HG4.out.1.tape HG4.out.1.output (by simp [World.setCell]; omega) (fun k hk hp hm => ?_) ?_ ?_ ?_
            · rw [Below.heap_setCell _ _ _ _ hp]
              exact hgb k (by have := HW3.out.1.size; omega) (fun g hg => by have := (HGE.out g hg).1; omega)
            · exact zf HP4.out _
            · have e1 : (D.behind i).row.length = D.row.length + 1 := by simp [Gate.Far.behind]
              have e2 : zdn (D.behind i).row = zdn D.row ++ [.int .i64 (i : Int)] := by simp [Gate.Far.behind, zdn]
              rw [e1, e2]
              exact zaj HO4.out (fun g hg => Below.heap_setCell _ _ _ _ (by show g ≠ c.p; have := hv4 g hg; have := hc.plo; omega))
            · have hm3 := HW3.out.1.map.lt
              exact HW3.out.1.map.mono ((Below.heap_setCell _ _ _ _ (Ne.symm hc.pm)).trans (hgb c.mr hm3 (fun g hg => by have := (HGE.out g hg).1; have := hc.mlo; omega)))
          have hM5 : Moves c v1 w3 (.slice va (D.row.length + 1) vcap) (w4.setCell ⟨c.p, 2, none⟩ (.slice va (D.row.length + 1) vcap)) := by
            refine ⟨by simp [World.setCell]; omega, fun k hk hp _ hv => ?_, ?_⟩
            · rw [Below.heap_setCell _ _ _ _ hp]
              exact hgb k hk (fun g hg e => hv (by rw [e]; exact hg))
            · rcases HG4.out.2 with e | e
              · exact Or.inl e
              · exact Or.inr ⟨_, e, by omega⟩
          go_ret
          exact ⟨by rw [HRES.out]; rfl, hW5.base, _, fun _ => by rw [HRES.out]; exact ⟨hW5, HW3.out.2.trans hM5⟩⟩
    · have hr : Gate.down (Gate.zi c.s c.ms) (f + 1) i S = (b, S) := by rw [Gate.down, hfar]
      have HR := hid hr
      rw [hfar] at hlook
      clear hr
      cases b with
      | true =>
        have hlook' := hlook
        clear hlook
        go_enter Tryz.func201, Tryz.ntmps201
        go_wp2_with fail
        go_ret
        exact ⟨v, by rw [HR.out]; rfl, HW.out.base, fun _ => by rw [HR.out]; exact ⟨HW.out, Moves.refl _ _ _⟩⟩
      | false =>
        have hlook' := hlook
        clear hlook
        go_enter Tryz.func201, Tryz.ntmps201
        go_wp2_with fail
        go_ret
        exact ⟨v, by rw [HR.out]; rfl, HW.out.base, fun h => by rw [HR.out] at h; cases h⟩
end Go.Proofs.YtfapkhgallmkdaaGreat

namespace Go.Proofs.YtfapkhgallmkdaaGreat
open Go.RowKit
def zkN (w : World) (a : Option Addr) (n : Nat) : Prop := 0 < n -> ∃ g, a = some ⟨g, 0, none⟩ /\ g < w.heap.size /\ ∀ q, q < n -> w.cell? ⟨g, q, none⟩ = some (.int .i64 (q : Int))
set_option maxRecDepth 20000 in
set_option maxHeartbeats 4000000 in
theorem zne (s : Shp) (ms : List Mnd) (w0 : World) (ma fa ia : Option Addr) (mcap fcap icap bm bs : Nat) (w : World) (hm : qp w0 ma ms) (hf : yc w0 fa s.fs) (hl : ms.length <= 1048576) (hn : s.fs.length <= 6)
    (hrd : ∀ q, q < s.fs.length -> ∀ x ∈ Gate.yh s ms q, 0 <= x /\ x < s.fs.length) (hB : Below w0.heap.size w0 w) (hbm : bm < w.heap.size) (hbs : bs < w.heap.size) (hcm : w.cell? ⟨bm, 0, none⟩ = some (.slice ma ms.length mcap)) (hcs : ∀ j, w.cell? ⟨bs, j, none⟩ = (#[.string s.kd, .slice fa s.fs.length fcap] : Array Value)[j]?)
    (hit : zkN w ia s.fs.length) :
    Calls Tryz.prog 178 #[.slice ia s.fs.length icap, .func (.func 179) #[] #[.pointer (some ⟨bm, 0, none⟩), .pointer (some ⟨bs, 0, none⟩)]] w
      fun e w' => ∃ v, e = .returned (.tuple #[v, .bool (Gate.zD (Gate.zi s ms) s.fs.length).1]) /\ Below w0.heap.size w0 w' /\ ((Gate.zD (Gate.zi s ms) s.fs.length).1 = true -> w'.ownsRow w.heap.size 3 1 v (Gate.zD (Gate.zi s ms) s.fs.length).2.row.length (zdn (Gate.zD (Gate.zi s ms) s.fs.length).2.row)) := by
  have hmk : ∀ w : World, (Instr.makeMap 262 none).run Tryz.prog w = .ok (.map (some w.heap.size)) (w.alloc (.map #[] 0)) := fun w => by kernel_rfl
  go_enter Tryz.func178, Tryz.ntmps178
  go_wp2_with fail
  have hb2 : Below w.heap.size w ((w.alloc (.map #[] 0)).alloc (.cells #[(.func (.func 179) #[] #[.pointer (some ⟨bm, 0, none⟩), .pointer (some ⟨bs, 0, none⟩)]), .map (some w.heap.size), .slice none 0 0] 264)) := zu _ _ _
  have hs0 := hB.size
  obtain ⟨c, hceq⟩ : ∃ c, c = (⟨s, ms, w0, ma, fa, mcap, fcap, bm, bs, w.heap.size + 1, w.heap.size, w.heap.size + 2⟩ : WalkC) := ⟨_, rfl⟩
  have hc : c.Ok := by
    subst hceq
    exact ⟨hm, hf, hl, hn, hrd, by show w0.heap.size <= w.heap.size + 1; omega, hs0, by show w.heap.size + 1 < w.heap.size + 2; omega, by show w.heap.size < w.heap.size + 2; omega, by show bm < w.heap.size + 2; omega, by show bs < w.heap.size + 2; omega, by show w.heap.size + 1 ≠ w.heap.size; omega, by show bm ≠ w.heap.size + 1; omega, by show bm ≠ w.heap.size; omega, by show bs ≠ w.heap.size + 1; omega, by show bs ≠ w.heap.size; omega⟩
  have hW : jK c ((w.alloc (.map #[] 0)).alloc (.cells #[(.func (.func 179) #[] #[.pointer (some ⟨bm, 0, none⟩), .pointer (some ⟨bs, 0, none⟩)]), .map (some w.heap.size), .slice none 0 0] 264)) Gate.jc (.slice none 0 0) := by
    subst hceq
    refine ⟨hB.trans (hb2.mono hs0), (hb2.cell (p := ⟨bm, 0, none⟩) hbm).trans hcm, za hcs hbs hb2, by show w.heap.size + 2 <= _; simp, (zP _ _ _).2, World.ownsRow_nil _ _ _ _, ⟨#[], 0, (zP _ _ _).1, fun x hx => by simp at hx, fun k v hk => ?_, fun i j x y hx => by simp at hx⟩⟩
    unfold Gate.zel Gate.jc at hk
    simp at hk
  have HC : Hid (c.Ok /\ c.s = s /\ c.ms = ms /\ c.w0 = w0 /\ c.p = w.heap.size + 1 /\ c.mr = w.heap.size /\ c.lo = w.heap.size + 2) := ⟨hc, by rw [hceq], by rw [hceq], by rw [hceq], by rw [hceq], by rw [hceq], by rw [hceq]⟩
  have HW := hid hW
  have HRD : Hid (∀ p, p < s.fs.length -> ∀ q ∈ Gate.zi s ms p, q < s.fs.length) := by have h := hc.rd; rw [hceq] at h; exact h
  have HIT := hid hit
  have HN := hid hn
  have HOP : Hid (∀ T, Gate.open' s.fs.length T <= s.fs.length) := by
    intro T
    unfold Gate.open'
    exact Nat.le_trans (List.length_filter_le _ _) (by simp)
  have HW2 : Hid (∃ W, W = ((w.alloc (.map #[] 0)).alloc (.cells #[(.func (.func 179) #[] #[.pointer (some ⟨bm, 0, none⟩), .pointer (some ⟨bs, 0, none⟩)]), .map (some w.heap.size), .slice none 0 0] 264))) := ⟨_, rfl⟩
  clear hW hc hceq hmk hB hcm hcs hrd hit hs0
  go_loopw [14] (fun iv wr => ∃ (j : Nat) (v : Value), j <= s.fs.length /\ iv = .int .i64 j /\ (Gate.zn (Gate.down (Gate.zi s ms) (s.fs.length + 1)) ((List.range s.fs.length).take j) Gate.jc).1 = true /\ jK c wr (Gate.zn (Gate.down (Gate.zi s ms) (s.fs.length + 1)) ((List.range s.fs.length).take j) Gate.jc).2 v /\ Moves c (.slice none 0 0) ((w.alloc (.map #[] 0)).alloc (.cells #[(.func (.func 179) #[] #[.pointer (some ⟨bm, 0, none⟩), .pointer (some ⟨bs, 0, none⟩)]), .map (some w.heap.size), .slice none 0 0] 264)) v wr) (fun iv _ => s.fs.length - (intOf iv).toNat)
  case atStart => exact ⟨0, _, Nat.zero_le _, rfl, rfl, HW.out, Moves.refl _ _ _⟩
  case round =>
    obtain ⟨j, v, hj, rfl, hD, hWr, hMr⟩ := hrel
    have HWr := j4 hWr hMr
    have HD := hid hD
    clear hWr hMr hD
    by_cases hjl : j < s.fs.length
    · have HTK : Hid ((List.range s.fs.length).take (j + 1) = (List.range s.fs.length).take j ++ [j]) := by
        unfold Hid
        rw [List.take_succ_eq_append_getElem (by simpa using hjl)]
        simp
      obtain ⟨g, rfl, hgl, hgc⟩ := HIT.out (by omega)
      have hcell : wr.cell? ⟨g, j, none⟩ = some (.int .i64 (j : Int)) := by
        rw [zfy (HWr.out.2.out g (by have := hb2.size; omega) (by rw [HC.out.2.2.2.2.1]; omega) (by rw [HC.out.2.2.2.2.2.1]; omega) (by simp [Value.ownBlock]))]
        exact (hb2.cell (p := ⟨g, j, none⟩) hgl).trans (hgc j hjl)
      have hjI : (j : Int) < (s.fs.length : Int) := by omega
      have HSX : Hid ((Gate.zn (Gate.down (Gate.zi s ms) (s.fs.length + 1)) ((List.range s.fs.length).take j) Gate.jc).2.row.length + Gate.open' s.fs.length (Gate.zn (Gate.down (Gate.zi s ms) (s.fs.length + 1)) ((List.range s.fs.length).take j) Gate.jc).2 <= 6) := by
        have h1 := Gate.zef HRD.out (s.fs.length + 1) _ Gate.jc (fun a ha => List.mem_range.1 (List.mem_of_mem_take ha)) HD.out
        have h2 := HOP.out Gate.jc
        have h3 : Gate.jc.row.length = 0 := rfl
        have h4 := HN.out
        show _ <= _
        omega
      have HDA : Hid (Calls Tryz.prog 201 #[.pointer (some ⟨w.heap.size + 1, 0, none⟩), .int .i64 (j : Int)] wr fun e w' => ∃ v', e = .returned (.bool (Gate.down (Gate.zi s ms) (s.fs.length + 1) j (Gate.zn (Gate.down (Gate.zi s ms) (s.fs.length + 1)) ((List.range s.fs.length).take j) Gate.jc).2).1) /\ Below w0.heap.size w0 w' /\ ((Gate.down (Gate.zi s ms) (s.fs.length + 1) j (Gate.zn (Gate.down (Gate.zi s ms) (s.fs.length + 1)) ((List.range s.fs.length).take j) Gate.jc).2).1 = true -> jK c w' (Gate.down (Gate.zi s ms) (s.fs.length + 1) j (Gate.zn (Gate.down (Gate.zi s ms) (s.fs.length + 1)) ((List.range s.fs.length).take j) Gate.jc).2).2 v' /\ Moves c v wr v' w')) := by
        have h := zoj c HC.out.1 (s.fs.length + 1) j (Gate.zn (Gate.down (Gate.zi s ms) (s.fs.length + 1)) ((List.range s.fs.length).take j) Gate.jc).2 v wr (by rw [HC.out.2.1]; exact hjl) (by rw [HC.out.2.1]; have := HOP.out (Gate.zn (Gate.down (Gate.zi s ms) (s.fs.length + 1)) ((List.range s.fs.length).take j) Gate.jc).2; omega) (by rw [HC.out.2.1]; exact HSX.out) HWr.out.1
        rw [HC.out.2.1, HC.out.2.2.1, HC.out.2.2.2.1, HC.out.2.2.2.2.1] at h
        exact h
      go_wp2_with fail
      refine HDA.out.mono ?_
      rintro e w3 ⟨v3, rfl, hb3, hyes⟩
      by_cases hd : (Gate.down (Gate.zi s ms) (s.fs.length + 1) j (Gate.zn (Gate.down (Gate.zi s ms) (s.fs.length + 1)) ((List.range s.fs.length).take j) Gate.jc).2).1 = true
      · have HS : Hid ((Gate.zn (Gate.down (Gate.zi s ms) (s.fs.length + 1)) ((List.range s.fs.length).take (j + 1)) Gate.jc) = Gate.down (Gate.zi s ms) (s.fs.length + 1) j (Gate.zn (Gate.down (Gate.zi s ms) (s.fs.length + 1)) ((List.range s.fs.length).take j) Gate.jc).2) := by unfold Hid; rw [HTK.out, Gate.zav, if_pos HD.out]
        have HY := hid (hyes hd)
        have HDD := hid hd
        rw [hd]
        clear hyes hb3 hd hcell hgc HDA
        go_wp2_with fail
        exact ⟨⟨j + 1, v3, by omega, by go_num, by rw [HS.out]; exact HDD.out, by rw [HS.out]; exact HY.out.1, HWr.out.2.trans HY.out.2⟩, zm hjl⟩
      · have hdf : (Gate.down (Gate.zi s ms) (s.fs.length + 1) j (Gate.zn (Gate.down (Gate.zi s ms) (s.fs.length + 1)) ((List.range s.fs.length).take j) Gate.jc).2).1 = false := by simpa using hd
        have HF : Hid ((Gate.zD (Gate.zi s ms) s.fs.length).1 = false) := by
          have h1 : (Gate.zn (Gate.down (Gate.zi s ms) (s.fs.length + 1)) ((List.range s.fs.length).take (j + 1)) Gate.jc).1 = false := by rw [HTK.out, Gate.zav, if_pos HD.out]; exact hdf
          have h2 := Gate.zbX (Gate.down (Gate.zi s ms) (s.fs.length + 1)) ((List.range s.fs.length).take (j + 1)) ((List.range s.fs.length).drop (j + 1)) Gate.jc h1
          rw [List.take_append_drop] at h2
          exact h2
        have HB3 : Hid (Below w0.heap.size w0 w3) := hb3
        rw [hdf]
        clear hyes hb3 hd hdf hcell hgc HDA
        go_wp2_with fail
        go_ret2
        exact ⟨_, by rw [HF.out]; rfl, HB3.out, fun h => by rw [HF.out] at h; cases h⟩
    · have e : j = s.fs.length := by omega
      have hall : (List.range s.fs.length).take j = List.range s.fs.length := List.take_of_length_le (by simp; omega)
      rw [hall] at HWr HD
      have HY : Hid ((Gate.zD (Gate.zi s ms) s.fs.length).1 = true) := HD.out
      have HWW : Hid (jK c wr (Gate.zD (Gate.zi s ms) s.fs.length).2 v) := HWr.out.1
      have hpc : ∀ k, wr.cell? ⟨w.heap.size + 1, k, none⟩ = (#[c.fn, .map (some c.mr), v] : Array Value)[k]? := by have h := zaM HWW.out.cells; rw [HC.out.2.2.2.2.1] at h; exact h
      obtain ⟨va, vcap, hve⟩ := yU HWW.out.row
      subst hve
      subst e
      clear HWr HD hall
      go_wp2_with fail
      go_ret2
      refine ⟨_, by rw [HY.out]; rfl, by have h := HWW.out.base; rw [HC.out.2.2.2.1] at h; exact h, fun _ => ?_⟩
      have h := HWW.out.row
      rw [HC.out.2.2.2.2.2.2] at h
      exact zcb h (by omega)
end Go.Proofs.YtfapkhgallmkdaaGreat

namespace Go.Proofs.YtfapkhgallmkdaaGreat
open Go.RowKit
theorem znH (k : Nat) : zdn (List.range (k + 1)) = zdn (List.range k) ++ [.int .i64 (k : Int)] := by simp [zdn, List.range_succ]
set_option maxRecDepth 20000 in
set_option maxHeartbeats 4000000 in
theorem zf4 (s : Shp) (ms : List Mnd) (ma fa : Option Addr) (mcap fcap : Nat) (w : World) (hm : qp w ma ms) (hf : yc w fa s.fs) (hl : ms.length <= 1048576) (hn : s.fs.length <= 6)
    (hrd : ∀ q, q < s.fs.length -> ∀ x ∈ Gate.yh s ms q, 0 <= x /\ x < s.fs.length) :
    Calls Tryz.prog 133 #[.agg #[.string s.kd, .slice fa s.fs.length fcap], .slice ma ms.length mcap] w
      fun e w' => ∃ v, e = .returned (.tuple #[v, .bool (Gate.zD (Gate.zi s ms) s.fs.length).1]) /\ Below w.heap.size w w' /\ ((Gate.zD (Gate.zi s ms) s.fs.length).1 = true -> w'.ownsRow w.heap.size 3 1 v (Gate.zD (Gate.zi s ms) s.fs.length).2.row.length (zdn (Gate.zD (Gate.zi s ms) s.fs.length).2.row)) := by
  obtain ⟨i0, hi0, hz0, hz1', hz2⟩ := info_parts Tryz.zjN
  have HH := znZ hm hf hl hn hrd
  clear hm hf hl hrd
  go_enter Tryz.func133, Tryz.ntmps133
  go_wp2_with fail
  go_loopw [6, 11] (fun v0 iv wr => ∃ (k : Nat) (v : Value), v = v0 /\ k <= s.fs.length /\ iv = .int .i64 k /\ wr.ownsRow (w.heap.size + 2) 3 1 v k (zdn (List.range k)) /\ wr.heap[w.heap.size]? = some (.cells #[.string s.kd, .slice fa s.fs.length fcap] 115) /\ wr.heap[w.heap.size + 1]? = some (.cells #[.slice ma ms.length mcap] 40) /\ Below w.heap.size w wr) (fun _ iv _ => s.fs.length - (intOf iv).toNat)
  case atStart => exact ⟨0, _, rfl, Nat.zero_le _, rfl, World.ownsRow_nil _ _ _ _, (zP _ _ _).1, (zP _ _ _).2, zu _ _ _⟩
  case round =>
    obtain ⟨k, v, hv, hk, rfl, hown, hs, hmm, hB⟩ := hrel
    subst hv
    have HX := zkI hown hs hmm hB
    have hzz := (Array.getElem?_eq_some_iff.1 hmm).1
    clear hown hs hmm hB
    by_cases hlt : k < s.fs.length
    · have hltI : (k : Int) < (s.fs.length : Int) := by omega
      have hgb : ∀ g, v.ownBlock = some g -> w.heap.size + 2 <= g := fun g hg => (HX.out.1.lt g hg).1
      have HGB := hid hgb
      clear hgb
      go_wp2_with (at_builtin; refine zfr ?_)
      show wpList _ _ _ _ _ _
      refine wpList_append_own _ rfl (.tmp 14) (.tmp 16) 95 rfl (w.heap.size + 2) 3 i0 (.int .i64 0) 1 8 Tryz.underlying95 hi0 hz0 hz1' hz2 rfl (by decide) v _ _ rfl (HX.out.1.alloc _) ⟨wr.heap.size, 0, none⟩ 1 1 [.int .i64 (k : Int)] rfl rfl (zds _ _ _) (by intro u hu; simp at hu; subst hu; rfl) (by unfold maxLen; omega) (by omega) (by simp; omega) ?_
      intro v' w1 hown' hgr _
      obtain ⟨va, vcap, rfl⟩ := yU hown'
      go_wp2_with fail
      refine ⟨⟨k + 1, _, rfl, by omega, by go_num, by rw [znH]; exact hown', ?_, ?_, zb9 HX.out.2.2.2 HX.out.2.2.2.size hgr (fun g hg => by have := HGB.out g hg; omega)⟩, zm hlt⟩
      · exact (j6 hgr (by simp; omega) (fun g hg => by have := HGB.out g hg; omega)).trans ((Below.heap_alloc _ _ _ (by omega)).trans HX.out.2.1)
      · exact (j6 hgr (by simp; omega) (fun g hg => by have := HGB.out g hg; omega)).trans ((Below.heap_alloc _ _ _ hzz).trans HX.out.2.2.1)
    · have e : k = s.fs.length := by omega
      subst e
      obtain ⟨va, vcap, rfl⟩ := yU HX.out.1
      have HPL : Hid (zkN wr va s.fs.length) := by
        intro hpos
        obtain ⟨_, ⟨h0, h1⟩ | ⟨g, cap, cur, h0, h1⟩⟩ := id HX.out.1
        · omega
        · cases h0
          refine ⟨g, rfl, (HX.out.1.lt g rfl).2, fun q hq => ?_⟩
          rw [HX.out.1.cellAt q (by omega)]
          simp [zdn, hq]
      go_wp2_with fail
      refine (zne s ms w ma fa va mcap fcap vcap (w.heap.size + 1) w.heap.size wr HH.out.1 HH.out.2.1 HH.out.2.2.1 HH.out.2.2.2.1 HH.out.2.2.2.2 HX.out.2.2.2 hzz (by omega) (by rw [cell_of_block HX.out.2.2.1]; rfl) (fun j => cell_of_block HX.out.2.1) HPL.out).mono ?_
      rintro e w2 ⟨v2, rfl, hb2, hyes⟩
      have HY : Hid (Below w.heap.size w w2 /\ ((Gate.zD (Gate.zi s ms) s.fs.length).1 = true -> w2.ownsRow w.heap.size 3 1 v2 (Gate.zD (Gate.zi s ms) s.fs.length).2.row.length (zdn (Gate.zD (Gate.zi s ms) s.fs.length).2.row))) := ⟨hb2, fun h => zcb (hyes h) (by omega)⟩
      clear hb2 hyes
      go_wp2_with fail
      go_ret2
      exact ⟨v2, rfl, HY.out⟩
end Go.Proofs.YtfapkhgallmkdaaGreat
