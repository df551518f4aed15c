import Derived.Test.YtkfigdbbncjojaaGreatM48
import Derived.Test.YtkfigdbbncjojaaGreatM42
namespace Go.Proofs.YtkfigdbbncjojaaGreat
open Go.RowKit
structure zgx (b : Bk) : Prop where
  one : ∀ i j (hi : i < b.ls.length) (hj : j < b.ls.length), b.ls[i].tm = b.ls[j].tm -> b.ls[i].rs = b.ls[j].rs -> i = j
  has : ∀ k (hk : k < b.ps.length), ∃ j, ∃ hj : j < b.ls.length, b.ls[j].tm = b.ps[k].tm /\ b.ls[j].rs = b.ps[k].rs
  fr : ∀ i (hi : i < b.ls.length), 0 <= b.ls[i].fr /\ b.ls[i].fr <= 1000000
  am : ∀ i (hi : i < b.ps.length), 0 <= b.ps[i].am /\ b.ps[i].am <= 1000000
  ll : b.ls.length <= 1000
  lp : b.ps.length <= 1000
  sz : ql b.os <= 1048576
def Gate.sumTo (l : Lw) (b : Bk) (g : Lg) (k : Nat) : Int := g.fr + Gate.used l b.os g.tm g.rs + Gate.zao b.ps g.tm g.rs k
theorem zd2 (l : Lw) (b : Bk) (tm rs : ByteArray) (h : ql b.os <= 1048576) : 0 <= Gate.used l b.os tm rs /\ Gate.used l b.os tm rs <= 20000000000000 := by
  have h2 := Gate.za0 l b.os tm rs b.os.length (Nat.le_refl _)
  rw [List.take_of_length_le (Nat.le_refl _)] at h2
  unfold Gate.used
  unfold ql at h
  omega
theorem zem {r : Nat} {w w' : World} (h : zfi r w w') {b o : Nat} (hb : b ≠ r) : w'.cell? ⟨b, o, none⟩ = w.cell? ⟨b, o, none⟩ := by
  unfold World.cell?
  rw [h.out b hb]
set_option maxRecDepth 20000 in
set_option maxHeartbeats 4000000 in
theorem zlL (l : Lw) (la lb lc : Option Addr) (lca lcb lcc : Nat) (b : Bk) (a0 a1 a2 a3 : Option Addr) (c0 c1 c2 c3 : Nat) (w : World) (hl : qO w l la lb lc) (hb : qY w b a0 a1 a2 a3) (hs : zgx b) :
    Calls Tryz.prog 129 #[.agg (lC l la lb lc lca lcb lcc), .agg (bC b a0 a1 a2 a3 c0 c1 c2 c3)] w fun e w' => (∃ r f, e = .returned (.map (some r)) /\ w.heap.size <= r /\ yx w' r f /\ ∀ i (hi : i < b.ls.length), f b.ls[i].tm b.ls[i].rs = some (Gate.sumTo l b b.ls[i] b.ps.length)) /\ Below w.heap.size w w' := by
  have HH : Hid (qO w l la lb lc /\ qY w b a0 a1 a2 a3 /\ zgx b) := ⟨hl, hb, hs⟩
  have hll := hs.ll
  have hlp := hs.lp
  have hmk : ∀ w : World, (Instr.makeMap 190 none).run Tryz.prog w = .ok (.map (some w.heap.size)) (w.alloc (.map #[] 0)) := fun w => by kernel_rfl
  clear hl hb hs
  go_enter Tryz.func129, Tryz.ntmps129
  go_wp2_with fail
  have HB0 : Hid (Below w.heap.size w ((w.alloc (.cells (lC l la lb lc lca lcb lcc) 40)).alloc (.cells (bC b a0 a1 a2 a3 c0 c1 c2 c3) 47))) := zq _ _ _
  have hX0 : ∀ j, ((w.alloc (.cells (lC l la lb lc lca lcb lcc) 40)).alloc (.cells (bC b a0 a1 a2 a3 c0 c1 c2 c3) 47)).cell? ⟨w.heap.size, j, none⟩ = (lC l la lb lc lca lcb lcc)[j]? := fun j => cell_of_block (zP _ _ _).1
  have hX1 : ∀ j, ((w.alloc (.cells (lC l la lb lc lca lcb lcc) 40)).alloc (.cells (bC b a0 a1 a2 a3 c0 c1 c2 c3) 47)).cell? ⟨w.heap.size + 1, j, none⟩ = (bC b a0 a1 a2 a3 c0 c1 c2 c3)[j]? := fun j => cell_of_block (zP _ _ _).2
  obtain ⟨W0, hW0⟩ : ∃ W0, W0 = (w.alloc (.cells (lC l la lb lc lca lcb lcc) 40)).alloc (.cells (bC b a0 a1 a2 a3 c0 c1 c2 c3) 47) := ⟨_, rfl⟩
  have hsz : W0.heap.size = w.heap.size + 1 + 1 := by rw [hW0]; simp
  rw [<- hW0] at HB0 hX0 hX1 ⊢
  clear hW0
  have hz0 : w.heap.size < W0.heap.size := by omega
  have hz1 : w.heap.size + 1 < W0.heap.size := by omega
  have HSZ := hid hsz
  clear hsz
  have hba := (Below.refl W0.heap.size W0).alloc (Nat.le_refl _) (.map #[] 0)
  have hY1 := za hX1 hz1 hba
  have hzm := Nat.lt_of_lt_of_le hz1 hba.size
  go_wp2_with fail
  clear hmk hY1 hzm hba
  go_loopw [14] (fun iv wr => ∃ k : Nat, k <= b.ls.length /\ iv = .int .i64 k /\ Hid ((∃ f, yx wr W0.heap.size f /\ ∀ i (hi : i < b.ls.length), i < k -> f b.ls[i].tm b.ls[i].rs = some (Gate.sumTo l b b.ls[i] 0)) /\ Below W0.heap.size W0 wr)) (fun iv _ => b.ls.length - (intOf iv).toNat)
  case atStart => exact ⟨0, Nat.zero_le _, rfl, ⟨_, yx.new W0, fun i hi h => absurd h (Nat.not_lt_zero _)⟩, (Below.refl _ _).alloc (Nat.le_refl _) _⟩
  case round =>
    obtain ⟨k, hk, rfl, HQ⟩ := hrel
    have hkn : k <= 1000 := by omega
    by_cases hlt : k < b.ls.length
    · obtain ⟨f, hf, hfk⟩ := HQ.out.1
      have hBr := HQ.out.2
      have HBw : Hid (∀ W, Below W0.heap.size W0 W -> Below w.heap.size w W) := fun W hW => HB0.out.trans (hW.mono HB0.out.size)
      obtain ⟨ob, off, rfl, hob, d0, d1, d2, d3⟩ := HH.out.2.1.ls.load (HBw.out _ hBr) k hlt
      have hsm := HH.out.2.1.ls.small k hlt
      have hltI : (k : Int) < (b.ls.length : Int) := by omega
      have hob' := Nat.lt_of_lt_of_le hob (HBw.out _ hBr).size
      have hfr := HH.out.2.2.fr k hlt
      have hus := zd2 l b b.ls[k].tm b.ls[k].rs HH.out.2.2.sz
      have hwr : IntKind.i64.wrap (b.ls[k].fr + Gate.used l b.os b.ls[k].tm b.ls[k].rs) = b.ls[k].fr + Gate.used l b.os b.ls[k].tm b.ls[k].rs := by rw [IntKind.wrap_i64]; omega
      have hS0 := za hX0 hz0 hBr
      have hS1 := za hX1 hz1 hBr
      have HM := jO hf hBr
      have HFK := hid hfk
      have hzl := Nat.lt_of_lt_of_le hz0 hBr.size
      have hzb := Nat.lt_of_lt_of_le hz1 hBr.size
      clear hf hfk hBr HQ
      go_wp2_with fail
      have hba := (Below.refl wr.heap.size wr).alloc (Nat.le_refl _) (.cells #[.string b.ls[k].tm, .string b.ls[k].rs, .int .i64 b.ls[k].mo, .int .i64 b.ls[k].fr] 124)
      have hT0 := za hS0 hzl hba
      have hT1 := za hS1 hzb hba
      have hT2 := zH wr #[.string b.ls[k].tm, .string b.ls[k].rs, .int .i64 b.ls[k].mo, .int .i64 b.ls[k].fr] 124
      have hzg : wr.heap.size < (wr.alloc (.cells #[.string b.ls[k].tm, .string b.ls[k].rs, .int .i64 b.ls[k].mo, .int .i64 b.ls[k].fr] 124)).heap.size := by simp
      obtain ⟨W2, hW2⟩ : ∃ W2, W2 = wr.alloc (.cells #[.string b.ls[k].tm, .string b.ls[k].rs, .int .i64 b.ls[k].mo, .int .i64 b.ls[k].fr] 124) := ⟨_, rfl⟩
      rw [<- hW2] at hba hT0 hT1 hT2 hzg ⊢
      clear hW2 hS0 hS1 d0 d1 d2 d3
      have hS0 := za hT0 (Nat.lt_of_lt_of_le hzl hba.size) (Below.refl W2.heap.size W2).drew
      have hS1 := za hT1 (Nat.lt_of_lt_of_le hzb hba.size) (Below.refl W2.heap.size W2).drew
      have hS2 := za hT2 hzg (Below.refl W2.heap.size W2).drew
      have hb := hba.trans ((Below.refl W2.heap.size W2).drew.mono hba.size)
      have hy0 := Nat.lt_of_lt_of_le hzl hb.size
      have hy1 := Nat.lt_of_lt_of_le hzb hb.size
      have hy2 := hzg
      have hne0 : w.heap.size ≠ W0.heap.size := by have := HSZ.out; omega
      have hne1 : w.heap.size + 1 ≠ W0.heap.size := by have := HSZ.out; omega
      have hne2 : wr.heap.size ≠ W0.heap.size := by have := HM.out.1.lt; omega
      have HNE := zee hne0 hne1 hne2
      clear hne0 hne1 hne2
      clear hT0 hT1 hT2 hba
      go_region_held3 (fun w' => (∀ j, w'.cell? ⟨w.heap.size, j, none⟩ = (lC l la lb lc lca lcb lcc)[j]?) /\ (∀ j, w'.cell? ⟨w.heap.size + 1, j, none⟩ = (bC b a0 a1 (some ⟨ob, off, none⟩) a3 c0 c1 c2 c3)[j]?) /\ (∀ j, w'.cell? ⟨wr.heap.size, j, none⟩ = (#[.string b.ls[k].tm, .string b.ls[k].rs, .int .i64 b.ls[k].mo, .int .i64 b.ls[k].fr] : Array Value)[j]?)) (first | exact ⟨fun j => by rw [hS0], fun j => by rw [hS1], fun j => by rw [hS2]⟩ | exact ⟨fun j => by rw [hU0], fun j => by rw [hU1], fun j => by rw [hU2]⟩) (first
        | (go_at_call 130; refine (zaJ b.ls[k] _).mono ?_; rintro e w5 ⟨rfl, hb5⟩; unfold y9; have hS0 := za hS0 hy0 hb5; have hS1 := za hS1 hy1 hb5; have hS2 := za hS2 hy2 hb5; have hy0 := Nat.lt_of_lt_of_le hy0 hb5.size; have hy1 := Nat.lt_of_lt_of_le hy1 hb5.size; have hy2 := Nat.lt_of_lt_of_le hy2 hb5.size; have hb := hb.trans (hb5.mono hb.size); clear hb5)
        | (go_at_call 172; refine (zjm l la lb lc lca lcb lcc b a0 a1 (some ⟨ob, off, none⟩) a3 c0 c1 c2 c3 _ _ _ (by exact HH.out.1.mono ((HBw.out _ HM.out.2).trans (hb.mono (HBw.out _ HM.out.2).size))) (by exact HH.out.2.1.mono ((HBw.out _ HM.out.2).trans (hb.mono (HBw.out _ HM.out.2).size))) HH.out.2.2.sz).mono ?_; rintro e w6 ⟨rfl, hb6⟩; have hS0 := za hS0 hy0 hb6; have hS1 := za hS1 hy1 hb6; have hS2 := za hS2 hy2 hb6; have hb := hb.trans (hb6.mono hb.size); have hf6 := HM.out.1.mono hb; obtain ⟨w7, hup, hf7, hp7⟩ := hf6.upd zbr Tryz.underlying190 b.ls[k].tm b.ls[k].rs hsm.tm hsm.rs (b.ls[k].fr + Gate.used l b.os b.ls[k].tm b.ls[k].rs); unfold y9 at hup; rw [HSZ.out] at hup; have hU0 := fun j => (zem hp7 (o := j) HNE.out.1).trans (hS0 j); have hU1 := fun j => (zem hp7 (o := j) HNE.out.2.1).trans (hS1 j); have hU2 := fun j => (zem hp7 (o := j) HNE.out.2.2).trans (hS2 j); clear hb6))
      go_wp2_with fail
      refine ⟨⟨k + 1, by omega, by go_num, ⟨_, hf7, fun i hi hik => ?_⟩, hp7.below (HM.out.2.trans (hb.mono HM.out.2.size)) (Nat.le_refl _)⟩, zm hlt⟩
      by_cases e : i = k
      · subst e
        rw [if_pos ⟨rfl, rfl⟩]
        simp [Gate.sumTo, Gate.zao]
      · rw [if_neg (fun h => e (HH.out.2.2.one i k hi hlt h.1 h.2))]
        exact HFK.out i hi (by omega)
    · have e : k = b.ls.length := by omega
      have hBr := HQ.out.2
      have hS1 := za hX1 hz1 hBr
      have hzb := Nat.lt_of_lt_of_le hz1 hBr.size
      have HM : Hid (∃ f, yx wr W0.heap.size f /\ ∀ i (hi : i < b.ls.length), f b.ls[i].tm b.ls[i].rs = some (Gate.sumTo l b b.ls[i] 0)) := by
        obtain ⟨f, hf, hfk⟩ := HQ.out.1
        exact ⟨f, hf, fun i hi => hfk i hi (by omega)⟩
      have HBr := hid hBr
      have HBw : Hid (∀ W, Below W0.heap.size W0 W -> Below w.heap.size w W) := fun W hW => HB0.out.trans (hW.mono HB0.out.size)
      clear hBr HQ hlt hk hkn
      subst e
      go_wp2_with fail
      clear hS1
      go_loopw [35] (fun iv ws => ∃ k : Nat, k <= b.ps.length /\ iv = .int .i64 k /\ Hid ((∃ f, yx ws W0.heap.size f /\ ∀ i (hi : i < b.ls.length), f b.ls[i].tm b.ls[i].rs = some (Gate.sumTo l b b.ls[i] k)) /\ Below W0.heap.size W0 ws)) (fun iv _ => b.ps.length - (intOf iv).toNat)
      case atStart => exact ⟨0, Nat.zero_le _, rfl, HM.out, HBr.out⟩
      case round =>
        obtain ⟨k, hk, rfl, HQ⟩ := hrel
        have hkn : k <= 1000 := by omega
        by_cases hlt : k < b.ps.length
        · obtain ⟨f, hf, hfk⟩ := HQ.out.1
          have hBr := HQ.out.2
          obtain ⟨ob, off, rfl, hob, d0, d1, d2, d3, d4⟩ := HH.out.2.1.ps.load (HBw.out _ hBr) k hlt
          have hsm := HH.out.2.1.ps.small k hlt
          have hltI : (k : Int) < (b.ps.length : Int) := by omega
          have hob' := Nat.lt_of_lt_of_le hob (HBw.out _ hBr).size
          obtain ⟨v, hv, hvb⟩ : ∃ v, f b.ps[k].tm b.ps[k].rs = some v /\ 0 <= v /\ v <= 30000000000000 := by
            obtain ⟨j, hj, e1, e2⟩ := HH.out.2.2.has k hlt
            refine ⟨_, by rw [<- e1, <- e2]; exact hfk j hj, ?_⟩
            have h1 := HH.out.2.2.fr j hj
            have h2 := zd2 l b b.ls[j].tm b.ls[j].rs HH.out.2.2.sz
            have h3 := Gate.zbk b.ps b.ls[j].tm b.ls[j].rs HH.out.2.2.am k hk
            unfold Gate.sumTo
            omega
          have ham := HH.out.2.2.am k hlt
          have hwr : IntKind.i64.wrap (v + b.ps[k].am) = v + b.ps[k].am := by rw [IntKind.wrap_i64]; omega
          have HM2 := zkz hf hBr hv hfk
          clear hf hfk hBr HQ hv hvb
          have HFIN : Hid (∀ i (hi : i < b.ls.length), (if b.ls[i].tm = b.ps[k].tm /\ b.ls[i].rs = b.ps[k].rs then some (v + b.ps[k].am) else f b.ls[i].tm b.ls[i].rs) = some (Gate.sumTo l b b.ls[i] (k + 1))) := by
            intro i hi
            obtain ⟨_, _, g1, g2⟩ := HM2.out
            have g3 := g2 i hi
            by_cases e : b.ls[i].tm = b.ps[k].tm /\ b.ls[i].rs = b.ps[k].rs
            · rw [if_pos e]
              have g4 : v = Gate.sumTo l b b.ls[i] k := by
                rw [e.1, e.2, g1] at g3
                exact Option.some.inj g3
              unfold Gate.sumTo at g4 ⊢
              rw [Gate.zdy _ _ _ _ hlt, if_pos (by unfold Gate.zlX; simp [e.1, e.2]), g4]
              congr 1
              omega
            · rw [if_neg e, g3]
              unfold Gate.sumTo
              rw [Gate.zdy _ _ _ _ hlt, if_neg (by unfold Gate.zlX; simp only [Bool.and_eq_true, decide_eq_true_eq]; exact fun h => e ⟨h.1.symm, h.2.symm⟩)]
              congr 1
              omega
          go_wp2_with fail
          have hba := (Below.refl wr.heap.size wr).alloc (Nat.le_refl _) (.cells #[.string b.ps[k].dr, .string b.ps[k].tm, .string b.ps[k].rs, .int .i64 b.ps[k].am, .int .i64 b.ps[k].un] 122)
          have hT2 := zH wr #[.string b.ps[k].dr, .string b.ps[k].tm, .string b.ps[k].rs, .int .i64 b.ps[k].am, .int .i64 b.ps[k].un] 122
          have hzg : wr.heap.size < (wr.alloc (.cells #[.string b.ps[k].dr, .string b.ps[k].tm, .string b.ps[k].rs, .int .i64 b.ps[k].am, .int .i64 b.ps[k].un] 122)).heap.size := by simp
          obtain ⟨W2, hW2⟩ : ∃ W2, W2 = wr.alloc (.cells #[.string b.ps[k].dr, .string b.ps[k].tm, .string b.ps[k].rs, .int .i64 b.ps[k].am, .int .i64 b.ps[k].un] 122) := ⟨_, rfl⟩
          rw [<- hW2] at hba hT2 hzg ⊢
          clear hW2 d0 d1 d2 d3 d4
          have hS2 := za hT2 hzg (Below.refl W2.heap.size W2).drew
          have hb := hba.trans ((Below.refl W2.heap.size W2).drew.mono hba.size)
          have hy2 := hzg
          have HNE : Hid (wr.heap.size ≠ W0.heap.size) := by have := HM2.out.1.lt; intro h; omega
          clear hT2 hba
          go_region_held3 (fun w' => ∀ j, w'.cell? ⟨wr.heap.size, j, none⟩ = (#[.string b.ps[k].dr, .string b.ps[k].tm, .string b.ps[k].rs, .int .i64 b.ps[k].am, .int .i64 b.ps[k].un] : Array Value)[j]?) (first | exact fun j => by rw [hS2] | exact fun j => by rw [hU2]) (first
            | (go_at_call 128; refine (zcd b.ps[k] _).mono ?_; rintro e w5 ⟨rfl, hb5⟩; have hS2 := za hS2 hy2 hb5; have hb := hb.trans (hb5.mono hb.size); have hf5 := HM2.out.1.mono hb; have hlk := hf5.look zbr Tryz.underlying190 b.ps[k].tm b.ps[k].rs hsm.tm hsm.rs false; rw [HM2.out.2.2.1] at hlk; obtain ⟨st, hen, hst⟩ := hf5.entry zbr Tryz.underlying190 b.ps[k].tm b.ps[k].rs hsm.tm hsm.rs v HM2.out.2.2.1; obtain ⟨w7, hup, hf7, hp7⟩ := hst (v + b.ps[k].am); unfold y9 at hlk hen ⊢; rw [HSZ.out] at hlk hen hup; simp only [Option.getD_some, Bool.false_eq_true, if_false] at hlk; have hU2 := fun j => (zem hp7 (o := j) HNE.out).trans (hS2 j); clear hb5 hst))
          all_goals first | (go_wp2_with fail; exact ⟨⟨k + 1, by omega, by go_num, ⟨_, hf7, HFIN.out⟩, hp7.below (HM2.out.2.1.trans (hb.mono HM2.out.2.1.size)) (Nat.le_refl _)⟩, zm hlt⟩) | exact ⟨⟨k + 1, by omega, by go_num, ⟨_, hf7, HFIN.out⟩, hp7.below (HM2.out.2.1.trans (hb.mono HM2.out.2.1.size)) (Nat.le_refl _)⟩, zm hlt⟩
        · have e : k = b.ps.length := by omega
          subst e
          have HE := hid HQ.out
          clear HQ hlt hk
          go_wp2_with fail
          go_ret
          obtain ⟨⟨f, h1, h2⟩, h3⟩ := HE.out
          rw [HSZ.out] at h1
          exact ⟨⟨_, f, rfl, by omega, h1, h2⟩, HBw.out _ h3⟩
end Go.Proofs.YtkfigdbbncjojaaGreat

namespace Go.Proofs.YtkfigdbbncjojaaGreat
open Go.RowKit
namespace Gate
def zaO (l : Lw) (b : Bk) (g : Lg) : Bool := decide (sumTo l b g b.ps.length = g.mo)
def zbx (l : Lw) (b : Bk) : Bool := b.ls.all (zaO l b)
end Gate
set_option maxRecDepth 20000 in
set_option maxHeartbeats 4000000 in
theorem zkh (l : Lw) (la lb lc : Option Addr) (lca lcb lcc : Nat) (b : Bk) (a0 a1 a2 a3 : Option Addr) (c0 c1 c2 c3 : Nat) (w : World) (hl : qO w l la lb lc) (hb : qY w b a0 a1 a2 a3) (hs : zgx b) :
    Calls Tryz.prog 76 #[.agg (lC l la lb lc lca lcb lcc), .agg (bC b a0 a1 a2 a3 c0 c1 c2 c3)] w fun e w' => e = .returned (.bool (Gate.zbx l b)) /\ Below w.heap.size w w' := by
  have HH := zee hl hb hs
  have hll := hs.ll
  clear hl hb hs
  have HG : Hid (Gate.zbx l b = b.ls.all (Gate.zaO l b)) := rfl
  go_enter Tryz.func76, Tryz.ntmps76
  go_wp2_with fail
  have hb2 := zq w (.cells (lC l la lb lc lca lcb lcc) 40) (.cells (bC b a0 a1 a2 a3 c0 c1 c2 c3) 47)
  refine (zlL l la lb lc lca lcb lcc b a0 a1 a2 a3 c0 c1 c2 c3 _ (HH.out.1.mono hb2) (HH.out.2.1.mono hb2) HH.out.2.2).mono ?_
  rintro e w1 ⟨⟨r, f, rfl, hr, hf, hfk⟩, hb1⟩
  have hX1 : ∀ j, w1.cell? ⟨w.heap.size + 1, j, none⟩ = (bC b a0 a1 a2 a3 c0 c1 c2 c3)[j]? := fun j => cell_of_block ((hb1.block (w.heap.size + 1) (by simp)).trans (zP _ _ _).2)
  have hz1 : w.heap.size + 1 < w1.heap.size := by have := hb1.size; simp at this; omega
  have HB1 : Hid (Below w.heap.size w w1) := hb2.trans (hb1.mono (by simp; omega))
  have HM := jO hf hfk
  clear hb1 hb2 hf hfk hr
  go_wp2_with fail
  go_loopw [14] (fun iv wr => ∃ k : Nat, k <= b.ls.length /\ iv = .int .i64 k /\ Hid ((b.ls.take k).all (Gate.zaO l b) = true /\ Below w1.heap.size w1 wr)) (fun iv _ => b.ls.length - (intOf iv).toNat)
  case atStart => exact ⟨0, Nat.zero_le _, rfl, by simp, Below.refl _ _⟩
  case round =>
    obtain ⟨k, hk, rfl, HQ⟩ := hrel
    have hkn : k <= 1000 := by omega
    by_cases hlt : k < b.ls.length
    · have hBr := HQ.out.2
      have hBw := HB1.out.trans (hBr.mono HB1.out.size)
      obtain ⟨ob, off, rfl, hob, d0, d1, d2, d3⟩ := HH.out.2.1.ls.load hBw k hlt
      have hsm := HH.out.2.1.ls.small k hlt
      have hltI : (k : Int) < (b.ls.length : Int) := by omega
      have hob' : ob < wr.heap.size := Nat.lt_of_lt_of_le hob hBw.size
      have HSn : Hid ((b.ls.take (k + 1)).all (Gate.zaO l b) = ((b.ls.take k).all (Gate.zaO l b) && (Gate.zaO l b) b.ls[k])) := Gate.yS _ _ _ hlt
      have HNo : Hid ((Gate.zaO l b) b.ls[k] = false -> Gate.zbx l b = false) := fun h => by rw [HG.out]; exact Gate.jF _ _ _ hlt h
      have HYes : Hid ((Gate.zaO l b) b.ls[k] = true -> (b.ls.take (k + 1)).all (Gate.zaO l b) = true) := fun h => by rw [HSn.out, HQ.out.1, h]; rfl
      obtain ⟨v, hv⟩ : ∃ v, v = Gate.sumTo l b b.ls[k] b.ps.length := ⟨_, rfl⟩
      have HM2 : Hid (yx wr r f /\ Below w1.heap.size w1 wr /\ f b.ls[k].tm b.ls[k].rs = some v) := ⟨HM.out.1.mono hBr, hBr, by rw [hv]; exact HM.out.2 k hlt⟩
      have HV := hid hv
      clear hBr hBw HQ hv
      by_cases he : v = b.ls[k].mo
      · have e2 : (v != b.ls[k].mo) = false := by simp [he]
        have HN : Hid ((b.ls.take (k + 1)).all (Gate.zaO l b) = true) := HYes.out (by unfold Gate.zaO; rw [decide_eq_true_eq, <- HV.out]; exact he)
        clear he
        go_wp2_with fail
        have hba := (Below.refl wr.heap.size wr).alloc (Nat.le_refl _) (.cells #[.string b.ls[k].tm, .string b.ls[k].rs, .int .i64 b.ls[k].mo, .int .i64 b.ls[k].fr] 124)
        have hT2 := zH wr #[.string b.ls[k].tm, .string b.ls[k].rs, .int .i64 b.ls[k].mo, .int .i64 b.ls[k].fr] 124
        have hzg : wr.heap.size < (wr.alloc (.cells #[.string b.ls[k].tm, .string b.ls[k].rs, .int .i64 b.ls[k].mo, .int .i64 b.ls[k].fr] 124)).heap.size := by simp
        obtain ⟨W2, hW2⟩ : ∃ W2, W2 = wr.alloc (.cells #[.string b.ls[k].tm, .string b.ls[k].rs, .int .i64 b.ls[k].mo, .int .i64 b.ls[k].fr] 124) := ⟨_, rfl⟩
        rw [<- hW2] at hba hT2 hzg ⊢
        clear hW2 d0 d1 d2 d3
        have hS2 := za hT2 hzg (Below.refl W2.heap.size W2).drew
        have hb := hba.trans ((Below.refl W2.heap.size W2).drew.mono hba.size)
        have hy2 := hzg
        clear hT2 hba
        go_region_held3 (fun w' => ∀ j, w'.cell? ⟨wr.heap.size, j, none⟩ = (#[.string b.ls[k].tm, .string b.ls[k].rs, .int .i64 b.ls[k].mo, .int .i64 b.ls[k].fr] : Array Value)[j]?) (exact fun j => by rw [hS2]) (first
          | (go_at_call 130; refine (zaJ b.ls[k] _).mono ?_; rintro e w5 ⟨rfl, hb5⟩; have hS2 := za hS2 hy2 hb5; have hb := hb.trans (hb5.mono hb.size); have hf5 := HM2.out.1.mono hb; have hlk := hf5.look zbr Tryz.underlying190 b.ls[k].tm b.ls[k].rs hsm.tm hsm.rs false; rw [HM2.out.2.2] at hlk; unfold y9 at hlk ⊢; simp only [Option.getD_some, Bool.false_eq_true, if_false] at hlk; clear hb5))
        go_wp2_with fail
        exact ⟨⟨k + 1, by omega, by go_num, HN.out, HM2.out.2.1.trans (hb.mono HM2.out.2.1.size)⟩, zm hlt⟩
      · have e2 : (v != b.ls[k].mo) = true := by simp [he]
        have HN : Hid (Gate.zbx l b = false) := HNo.out (by unfold Gate.zaO; rw [decide_eq_false_iff_not, <- HV.out]; exact he)
        clear he
        go_wp2_with fail
        have hba := (Below.refl wr.heap.size wr).alloc (Nat.le_refl _) (.cells #[.string b.ls[k].tm, .string b.ls[k].rs, .int .i64 b.ls[k].mo, .int .i64 b.ls[k].fr] 124)
        have hT2 := zH wr #[.string b.ls[k].tm, .string b.ls[k].rs, .int .i64 b.ls[k].mo, .int .i64 b.ls[k].fr] 124
        have hzg : wr.heap.size < (wr.alloc (.cells #[.string b.ls[k].tm, .string b.ls[k].rs, .int .i64 b.ls[k].mo, .int .i64 b.ls[k].fr] 124)).heap.size := by simp
        obtain ⟨W2, hW2⟩ : ∃ W2, W2 = wr.alloc (.cells #[.string b.ls[k].tm, .string b.ls[k].rs, .int .i64 b.ls[k].mo, .int .i64 b.ls[k].fr] 124) := ⟨_, rfl⟩
        rw [<- hW2] at hba hT2 hzg ⊢
        clear hW2 d0 d1 d2 d3
        have hS2 := za hT2 hzg (Below.refl W2.heap.size W2).drew
        have hb := hba.trans ((Below.refl W2.heap.size W2).drew.mono hba.size)
        have hy2 := hzg
        clear hT2 hba
        go_region_held3 (fun w' => ∀ j, w'.cell? ⟨wr.heap.size, j, none⟩ = (#[.string b.ls[k].tm, .string b.ls[k].rs, .int .i64 b.ls[k].mo, .int .i64 b.ls[k].fr] : Array Value)[j]?) (exact fun j => by rw [hS2]) (first
          | (go_at_call 130; refine (zaJ b.ls[k] _).mono ?_; rintro e w5 ⟨rfl, hb5⟩; have hS2 := za hS2 hy2 hb5; have hb := hb.trans (hb5.mono hb.size); have hf5 := HM2.out.1.mono hb; have hlk := hf5.look zbr Tryz.underlying190 b.ls[k].tm b.ls[k].rs hsm.tm hsm.rs false; rw [HM2.out.2.2] at hlk; unfold y9 at hlk ⊢; simp only [Option.getD_some, Bool.false_eq_true, if_false] at hlk; clear hb5))
        go_wp2_with fail
        go_ret
        have h9 := HM2.out.2.1.trans (hb.mono HM2.out.2.1.size)
        exact ⟨ze HN.out.symm, HB1.out.trans (h9.mono HB1.out.size)⟩
    · have e : k = b.ls.length := by omega
      subst e
      have HE : Hid (Gate.zbx l b = true) := by have := HQ.out.1; rw [List.take_of_length_le (Nat.le_refl _)] at this; unfold Hid; rw [HG.out]; exact this
      have HB := hid HQ.out.2
      clear HQ hlt hk
      go_wp2_with fail
      go_ret
      exact ⟨ze HE.out.symm, HB1.out.trans (HB.out.mono HB1.out.size)⟩
end Go.Proofs.YtkfigdbbncjojaaGreat
