import Derived.Test.YtfapkhgallmkdaaGreatM14
namespace Go.Proofs.YtfapkhgallmkdaaGreat
open Go.RowKit
theorem zh4 {p : Prop} (h : p) : Hid p := h
theorem qM (w : World) (X Y : Array Value) (s t : TypeId) : (∀ j, ((w.alloc (.cells X s)).alloc (.cells Y t)).cell? ⟨w.heap.size, j, none⟩ = X[j]?) /\ ∀ j, ((w.alloc (.cells X s)).alloc (.cells Y t)).cell? ⟨w.heap.size + 1, j, none⟩ = Y[j]? := by
  refine ⟨za (zG w X s) (by simp) ((Below.refl _ _).alloc (Nat.le_refl _) _), fun j => ?_⟩
  have h := zG (w.alloc (.cells X s)) Y t j
  rw [World.size_alloc] at h
  exact h
set_option maxHeartbeats 2000000 in
theorem zi3 (l : Lw) (la lb lc : Option Addr) (lca lcb lcc : Nat) (o : Ob) (oa oa' : Option Addr) (ocap ocap' : Nat) (res : ByteArray) (w : World) (hl : qH w l la lb lc) (_ho : jg w o oa oa') (hc : ¬ (Gate.zx l.ss o = true /\ res.toList.isEmpty = false)) :
    Calls Tryz.prog 213 #[.agg (l.cells la lb lc lca lcb lcc), .agg (oC o oa oa' ocap ocap'), .string res] w fun e w' => e = .returned (.int .i64 (Gate.y9 l.ss o res)) /\ Below w.heap.size w w' := by
  have HL := hid hl
  have HW : Hid (Gate.y9 l.ss o res = 0) := by unfold Hid Gate.y9; rw [if_neg hc]
  have HC := hid hc
  clear hl hc
  unfold Lw.cells
  go_enter Tryz.func213, Tryz.ntmps213
  go_wp2_with fail
  refine (qC _ _ l.ss o.kd _ (HL.out.ss.mono (zu _ _ _))).mono ?_
  rintro e w1 ⟨fa, fcap, rfl, hfl, hb⟩
  obtain ⟨hX0, hY0⟩ := qM w (lC l la lb lc lca lcb lcc) (oC o oa oa' ocap ocap') 43 121
  have hX1 := za hX0 (by simp; omega) hb
  have hY1 := za hY0 (by simp) hb
  have hz1 : w.heap.size + 1 < w1.heap.size := by have := hb.size; simp at this; omega
  have HB1 : Hid (Below w.heap.size w w1) := (zu w _ _).trans (hb.mono (by simp; omega))
  clear hfl hb hX0 hY0
  by_cases hk : Gate.zF l.ss o.kd = true
  rotate_left
  · have hk' : Gate.zF l.ss o.kd = false := by simpa using hk
    rw [hk']
    clear hk hk'
    go_wp2_with fail
    go_ret
    exact ⟨zh HW.out.symm, HB1.out.alloc HB1.out.size _⟩
  by_cases he : res.toList.isEmpty = true
  · have HK := hid hk
    rw [HK.out]
    clear hk
    go_wp2_with fail
    go_ret
    exact ⟨zh HW.out.symm, HB1.out.alloc HB1.out.size _⟩
  · have he' : res.toList.isEmpty = false := by simpa using he
    have hne : ((o.vs.length : Int) != ((Gate.shapeOf l.ss o.kd).fs.length : Int)) = true := by
      have h := HC.out
      unfold Gate.zx at h
      rw [hk] at h
      simp only [Bool.true_and, decide_eq_true_eq] at h
      have h2 : ¬ o.vs.length = (Gate.shapeOf l.ss o.kd).fs.length := fun e => h ⟨e, he'⟩
      simp; omega
    have HK := hid hk
    rw [HK.out]
    clear he hk
    go_wp2_with fail
    go_ret
    exact ⟨zh HW.out.symm, HB1.out.alloc HB1.out.size _⟩
set_option maxHeartbeats 4000000 in
theorem zhF (l : Lw) (la lb lc : Option Addr) (lca lcb lcc : Nat) (o : Ob) (oa oa' : Option Addr) (ocap ocap' : Nat) (res : ByteArray) (w : World) (hl : qH w l la lb lc) (ho : jg w o oa oa') (hc : Gate.zx l.ss o = true) (he : res.toList.isEmpty = false) (hlen : o.vs.length <= 1048576) :
    Calls Tryz.prog 213 #[.agg (l.cells la lb lc lca lcb lcc), .agg (oC o oa oa' ocap ocap'), .string res] w fun e w' => e = .returned (.int .i64 (Gate.y9 l.ss o res)) /\ Below w.heap.size w w' := by
  have HL := hid hl
  have HO := hid ho
  have HW : Hid (Gate.y9 l.ss o res = (if res = o.kd then 1 else 0) + Gate.zcU (Gate.shapeOf l.ss o.kd).fs o.vs res (Gate.shapeOf l.ss o.kd).fs.length) := by unfold Hid Gate.y9; rw [if_pos ⟨hc, he⟩]
  have HK : Hid (Gate.zF l.ss o.kd = true /\ o.vs.length = (Gate.shapeOf l.ss o.kd).fs.length) := by unfold Gate.zx at hc; unfold Hid; simpa using hc
  have HN := hid hlen
  clear hl ho hc hlen
  unfold Lw.cells
  go_enter Tryz.func213, Tryz.ntmps213
  go_wp2_with fail
  refine (qC _ _ l.ss o.kd _ (HL.out.ss.mono (zu _ _ _))).mono ?_
  rintro e w1 ⟨fa, fcap, rfl, hfl, hb⟩
  obtain ⟨hX0, hY0⟩ := qM w (lC l la lb lc lca lcb lcc) (oC o oa oa' ocap ocap') 43 121
  have hY1 := za hY0 (by simp) hb
  have hz1 : w.heap.size + 1 < w1.heap.size := by have := hb.size; simp at this; omega
  have HB1 : Hid (Below w.heap.size w w1) := (zu w _ _).trans (hb.mono (by simp; omega))
  have HFl := hid (hfl.mono hb)
  clear hfl hb hX0 hY0
  rw [HK.out.1]
  obtain ⟨S, HS⟩ : ∃ S, Hid (S = Gate.shapeOf l.ss o.kd) := ⟨_, rfl⟩
  rw [<- HS.out] at HFl HK HW ⊢
  have hne : ((o.vs.length : Int) != (S.fs.length : Int)) = false := by have := HK.out.2; simp [this]
  obtain ⟨n0, hn0⟩ : ∃ n0 : Int, n0 = if res = o.kd then 1 else 0 := ⟨_, rfl⟩
  have hb0 : 0 <= n0 /\ n0 <= 1 := by rw [hn0]; split <;> omega
  rw [<- hn0] at HW
  have HN0 := hid hn0
  clear hn0
  by_cases hk : res = o.kd
  all_goals (
    first
    | (have hq : (res.toList == o.kd.toList) = true := by rw [Gate.beq_toList]; simpa using hk)
    | (have hq : (res.toList == o.kd.toList) = false := by rw [Gate.beq_toList]; simpa using hk)
    have HKE := zh4 hk
    clear hk
    go_wp2_with fail
    go_loopw [9, 44] (fun nv iv wr => ∃ (k : Nat) (s : Int), k <= S.fs.length /\ iv = .int .i64 k /\ nv = .int .i64 s /\ Hid (s = n0 + Gate.zcU S.fs o.vs res k /\ Below w1.heap.size w1 wr)) (fun _ iv _ => S.fs.length - (intOf iv).toNat)
    case atStart => exact ⟨0, n0, Nat.zero_le _, rfl, by have := HN0.out; first | (rw [if_pos HKE.out] at this; rw [this]) | (rw [if_neg HKE.out] at this; rw [this]), by simp [Gate.zcU], (Below.refl _ _).alloc (Nat.le_refl _) _⟩
    case round =>
      obtain ⟨k, s, hk, rfl, rfl, HQ⟩ := hrel
      have hsb : 0 <= s /\ s <= 1 + k * 10000000 := by have h1 := HQ.out.1; have h2 := Gate.zb6 S.fs o.vs res k; omega
      have hkn : k <= 1048576 := by have := HN.out; have := HK.out.2; omega
      by_cases hlt : k < S.fs.length
      · obtain ⟨b, off, rfl, hb, hr⟩ := HFl.out.rows (by intro e; rw [e] at hlt; simp at hlt)
        obtain ⟨wa, wcap, hf⟩ := hr k hlt
        obtain ⟨c0, c1, c2, c3, c4, c5, c6, c7, c8, c9, c10⟩ := (hf.mono hb HQ.out.2).load
        have hlv : k < o.vs.length := by have := HK.out.2; omega
        have hltI : (k : Int) < (S.fs.length : Int) := by omega
        have hlvI : (k : Int) < (o.vs.length : Int) := by omega
        obtain ⟨vb, voff, rfl, hvb, hvc0⟩ := HO.out.vals.cells (by intro e; rw [e] at hlv; simp at hlv)
        have hvc := ((HB1.out.trans (HQ.out.2.mono HB1.out.size)).cell (p := ⟨vb, voff + k, none⟩) hvb).trans (hvc0 k hlv)
        have hvb' := Nat.lt_of_lt_of_le hvb (HB1.out.trans (HQ.out.2.mono HB1.out.size)).size
        have hb' := Nat.lt_of_lt_of_le hb HQ.out.2.size
        have hY := za hY1 hz1 HQ.out.2
        have hz := Nat.lt_of_lt_of_le hz1 HQ.out.2.size
        have HSt := Gate.zm1 S.fs o.vs res k hlt hlv
        have HSt : Hid (Gate.zcU S.fs o.vs res (k + 1) = Gate.zcU S.fs o.vs res k + Gate.yC S.fs[k] o.vs[k] res) := HSt
        have HVs : Hid (o.vs[k].size <= maxLen) := HO.out.vals.small _ (List.getElem_mem _)
        have HBo : Hid (∀ ob, Below w1.heap.size w1 (wr.alloc ob)) := fun ob => HQ.out.2.alloc HQ.out.2.size _
        clear hf hr hvc0
        by_cases h1 : S.fs[k].kd = 1
        · have e1 : (S.fs[k].kd == 1) = true := by simpa using h1
          by_cases h2 : S.fs[k].wg = res
          · have e2 : (S.fs[k].wg.toList == res.toList) = true := by rw [Gate.beq_toList]; simpa using h2
            have HFw : Hid (Gate.yC S.fs[k] o.vs[k] res = jV o.vs[k]) := by unfold Hid Gate.yC; rw [if_pos ⟨h1, h2⟩]
            have hdb := Gate.zcS o.vs[k]
            clear h1 h2
            go_wp2_with fail
            refine (zcn o.vs[k] _ HVs.out).mono ?_
            rintro e w2 ⟨rfl, rfl⟩
            go_wp2_with fail
            exact ⟨⟨k + 1, s + jV o.vs[k], by omega, by go_num, by go_num, by rw [HSt.out, HFw.out, HQ.out.1]; omega, HBo.out _⟩, zm hlt⟩
          · have e2 : (S.fs[k].wg.toList == res.toList) = false := by rw [Gate.beq_toList]; simpa using h2
            have HFw : Hid (Gate.yC S.fs[k] o.vs[k] res = 0) := by unfold Hid Gate.yC; rw [if_neg (fun h => h2 h.2)]
            clear h1 h2
            go_wp2_with fail
            exact ⟨⟨k + 1, s, by omega, by go_num, rfl, by rw [HSt.out, HFw.out, HQ.out.1]; omega, HBo.out _⟩, zm hlt⟩
        · have e1 : (S.fs[k].kd == 1) = false := by simpa using h1
          have HFw : Hid (Gate.yC S.fs[k] o.vs[k] res = 0) := by unfold Hid Gate.yC; rw [if_neg (fun h => h1 h.1)]
          clear h1
          go_wp2_with fail
          exact ⟨⟨k + 1, s, by omega, by go_num, rfl, by rw [HSt.out, HFw.out, HQ.out.1]; omega, HBo.out _⟩, zm hlt⟩
      · have e : k = S.fs.length := by omega
        subst e
        have HE : Hid (Gate.y9 l.ss o res = s) := by unfold Hid; rw [HW.out, HQ.out.1]
        clear hlt hk
        go_wp2_with fail
        go_ret
        exact ⟨zh HE.out.symm, HB1.out.trans (HQ.out.2.mono HB1.out.size)⟩)
end Go.Proofs.YtfapkhgallmkdaaGreat
