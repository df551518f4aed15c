import Derived.Test.YtkfigdbbncjojaaGreatM01
import Derived.Test.YtkfigdbbncjojaaGreatRows
import Derived.WalkKit
import Derived.WalkSpells
import Derived.WalkLawsBesides
import Derived.Maps.AppendAt
import Derived.Test.YtkfigdbbncjojaaGreatM02
namespace Go.Proofs.YtkfigdbbncjojaaGreat
open Go.RowKit
structure Fld where
  nm : ByteArray
  kd : Int
  ls : Int
  ms : Int
  ws : List ByteArray
  to : ByteArray
  rl : Int
  mu : Bool
  fx : Bool
  df : ByteArray
  wg : ByteArray
structure Shp where
  kd : ByteArray
  fs : List Fld
def Fld.cells (f : Fld) (a : Option Addr) (cap : Nat) : Array Value :=
  #[.string f.nm, .int .i64 f.kd, .int .i64 f.ls, .int .i64 f.ms, .slice a f.ws.length cap, .string f.to, .int .i64 f.rl, .bool f.mu, .bool f.fx, .string f.df, .string f.wg]
structure Fld.Small (f : Fld) : Prop where
  nm : f.nm.size <= maxLen
  to : f.to.size <= maxLen
  df : f.df.size <= maxLen
  wg : f.wg.size <= maxLen
structure zdK (w : World) (b off : Nat) (f : Fld) (a : Option Addr) (cap : Nat) : Prop where
  small : f.Small
  strs : zB w a f.ws
  cell : ∀ j, j < 11 -> w.cell? ⟨b, off + j, none⟩ = (f.cells a cap)[j]?
structure zW (w : World) (a : Option Addr) (fs : List Fld) : Prop where
  len : fs.length <= maxLen
  rows : fs ≠ [] -> ∃ b off, a = some ⟨b, off, none⟩ /\ b < w.heap.size /\ ∀ i (h : i < fs.length), ∃ wa wcap, zdK w b (off + i * 11) fs[i] wa wcap
structure ziz (w : World) (b off : Nat) (s : Shp) (a : Option Addr) (cap : Nat) : Prop where
  small : s.kd.size <= maxLen
  flds : zW w a s.fs
  kind : w.cell? ⟨b, off, none⟩ = some (.string s.kd)
  list : w.cell? ⟨b, off + 1, none⟩ = some (.slice a s.fs.length cap)
structure yB (w : World) (a : Option Addr) (ss : List Shp) : Prop where
  len : ss.length <= maxLen
  rows : ss ≠ [] -> ∃ b off, a = some ⟨b, off, none⟩ /\ b < w.heap.size /\ ∀ i (h : i < ss.length), ∃ fa fcap, ziz w b (off + i * 2) ss[i] fa fcap
theorem zdK.mono {w w' : World} {b off : Nat} {f : Fld} {a : Option Addr} {cap : Nat} (h : zdK w b off f a cap) (hb : b < w.heap.size) (hl : Below w.heap.size w w') : zdK w' b off f a cap :=
  ⟨h.small, h.strs.mono hl, fun j hj => (hl.cell (p := ⟨b, off + j, none⟩) hb).trans (h.cell j hj)⟩
theorem zW.mono {w w' : World} {a : Option Addr} {fs : List Fld} (h : zW w a fs) (hl : Below w.heap.size w w') : zW w' a fs :=
  ⟨h.len, fun hne => by
    obtain ⟨b, off, ha, hb, hr⟩ := h.rows hne
    refine ⟨b, off, ha, Nat.lt_of_lt_of_le hb hl.size, fun i hi => ?_⟩
    obtain ⟨wa, wcap, hf⟩ := hr i hi
    exact ⟨wa, wcap, hf.mono hb hl⟩⟩
theorem ziz.mono {w w' : World} {b off : Nat} {s : Shp} {a : Option Addr} {cap : Nat} (h : ziz w b off s a cap) (hb : b < w.heap.size) (hl : Below w.heap.size w w') : ziz w' b off s a cap :=
  ⟨h.small, h.flds.mono hl, (hl.cell (p := ⟨b, off, none⟩) hb).trans h.kind, (hl.cell (p := ⟨b, off + 1, none⟩) hb).trans h.list⟩
theorem yB.mono {w w' : World} {a : Option Addr} {ss : List Shp} (h : yB w a ss) (hl : Below w.heap.size w w') : yB w' a ss :=
  ⟨h.len, fun hne => by
    obtain ⟨b, off, ha, hb, hr⟩ := h.rows hne
    refine ⟨b, off, ha, Nat.lt_of_lt_of_le hb hl.size, fun i hi => ?_⟩
    obtain ⟨fa, fcap, hs⟩ := hr i hi
    exact ⟨fa, fcap, hs.mono hb hl⟩⟩
end Go.Proofs.YtkfigdbbncjojaaGreat

namespace Go.Proofs.YtkfigdbbncjojaaGreat
open Go.RowKit
set_option maxHeartbeats 400000 in
theorem jh (n lo hi : Int) (w : World) :
    Calls Tryz.prog 20 #[.int .i64 n, .int .i64 lo, .int .i64 hi] w fun e w' => e = .returned (.bool (decide (lo <= n) && decide (n <= hi))) /\ w' = w := by
  go_enter Tryz.func20, Tryz.ntmps20
  go_wp2
  all_goals
    go_ret
    refine ⟨ze ?_, rfl⟩
    simp; try omega
theorem zbA (n lo hi : Int) (w : World) (h1 : lo <= n) (h2 : n <= hi) :
    Calls Tryz.prog 20 #[.int .i64 n, .int .i64 lo, .int .i64 hi] w fun e w' => e = .returned (.bool true) /\ w' = w := by
  refine (jh n lo hi w).mono ?_
  rintro e w' ⟨rfl, rfl⟩
  exact ⟨ze (by simp; omega), rfl⟩
theorem zdA (n lo hi : Int) (w : World) (h1 : ¬ (lo <= n /\ n <= hi)) :
    Calls Tryz.prog 20 #[.int .i64 n, .int .i64 lo, .int .i64 hi] w fun e w' => e = .returned (.bool false) /\ w' = w := by
  refine (jh n lo hi w).mono ?_
  rintro e w' ⟨rfl, rfl⟩
  exact ⟨ze (by simp; omega), rfl⟩
set_option maxHeartbeats 400000 in
theorem zfJ (c : UInt8) (w : World) :
    Calls Tryz.prog 180 #[.int .u8 c.toNat] w fun e w' => e = .returned (.bool (Gate.digit c)) /\ w' = w := by
  go_enter Tryz.func180, Tryz.ntmps180
  go_wp2
  all_goals
    go_ret
    refine ⟨ze ?_, rfl⟩
    rw [Bool.eq_iff_iff]; simp [Gate.digit]; try omega
theorem zfz (c : UInt8) (w : World) (h : 48 <= (c.toNat : Int)) (h2 : (c.toNat : Int) <= 57) :
    Calls Tryz.prog 180 #[.int .u8 c.toNat] w fun e w' => e = .returned (.bool true) /\ w' = w := by
  refine (zfJ c w).mono ?_
  rintro e w' ⟨rfl, rfl⟩
  exact ⟨ze (by simp [Gate.digit]; omega), rfl⟩
theorem zbG (c : UInt8) (w : World) (h : ¬ (48 <= (c.toNat : Int) /\ (c.toNat : Int) <= 57)) :
    Calls Tryz.prog 180 #[.int .u8 c.toNat] w fun e w' => e = .returned (.bool false) /\ w' = w := by
  refine (zfJ c w).mono ?_
  rintro e w' ⟨rfl, rfl⟩
  exact ⟨ze (by simp [Gate.digit]; omega), rfl⟩
end Go.Proofs.YtkfigdbbncjojaaGreat

namespace Go.Proofs.YtkfigdbbncjojaaGreat
open Go.RowKit
theorem jX {w w' : World} {base : Nat} {e : TypeId} {size : Nat} {v : Value} {n : Nat} {xs : List Value} (h : w.ownsRow base e size v n xs) (hb : ∀ g, v.ownBlock = some g -> w'.heap[g]? = w.heap[g]?) : w'.ownsRow base e size v n xs := by
  obtain ⟨h0, h1 | ⟨g, cap, cur, rfl, h2, h3, h4⟩⟩ := h
  · exact ⟨h0, Or.inl h1⟩
  · exact ⟨h0, Or.inr ⟨g, cap, cur, rfl, h2, (hb g rfl).trans h3, h4⟩⟩
theorem qy {w w' : World} {base : Nat} {e : TypeId} {size : Nat} {v : Value} {n : Nat} {xs : List Value} (h : w.ownsRow base e size v n xs) (hb : Below w.heap.size w w') : w'.ownsRow base e size v n xs :=
  jX h fun g hg => hb.block g (h.lt g hg).2
theorem zbK {w : World} {base base' : Nat} {e : TypeId} {size : Nat} {v : Value} {n : Nat} {xs : List Value} (h : w.ownsRow base e size v n xs) (hb : base' <= base) : w.ownsRow base' e size v n xs := by
  obtain ⟨h0, h1 | ⟨g, cap, cur, rfl, h2, h3, h4⟩⟩ := h
  · exact ⟨h0, Or.inl h1⟩
  · exact ⟨h0, Or.inr ⟨g, cap, cur, rfl, Nat.le_trans hb h2, h3, h4⟩⟩
theorem zdf (w : World) (x : Value) (t : TypeId) : ∀ j u, [x][j]? = some u -> (w.alloc (.cells #[x] t)).cell? ((⟨w.heap.size, 0, none⟩ : Addr).add j) = some u := by
  intro j u hj
  rcases j with _ | j
  · have e : (⟨w.heap.size, 0, none⟩ : Addr).add 0 = ⟨w.heap.size, 0, none⟩ := rfl
    rw [e, World.cell?_alloc_at (hn := rfl)]
    simpa using hj
  · simp at hj
theorem jR {w w1 : World} {row : Option Nat} {b : Nat} (hg : w.grownBy w1 row) (hb : b < w.heap.size) (h : ∀ g, row = some g -> b ≠ g) : w1.heap[b]? = w.heap[b]? :=
  hg.block b hb (fun e => h b e.symm rfl)
theorem zbN {B : Nat} {w0 w w1 : World} {v x : Value} {t : TypeId} (h : Below B w0 w) (hB : B <= w.heap.size) (hg : (w.alloc (.cells #[x] t)).grownBy w1 v.ownBlock) (hr : ∀ k, v.ownBlock = some k -> B <= k) : Below B w0 w1 :=
  (h.alloc hB _).grown hg (by simp; omega) hr
theorem Tryz.zjn : (Tryz.prog.info? 3).map (fun i => (i.zero, i.size, i.bytes)) = some (some (.int .i64 0), 1, 8) := by kernel_rfl
theorem yM {w : World} {lo : Nat} {e : TypeId} {v : Value} {n : Nat} {xs : List Value} (h : w.ownsRow lo e 1 v n xs) : ∃ a cap, v = .slice a n cap := by
  obtain ⟨_, ⟨rfl, h0⟩ | ⟨b, cap, cur, rfl, _⟩⟩ := h
  · exact ⟨none, 0, by rw [h0]⟩
  · exact ⟨_, cap, rfl⟩
end Go.Proofs.YtkfigdbbncjojaaGreat

namespace Go.Proofs.YtkfigdbbncjojaaGreat.Gate
structure zio (rd : Nat -> List Nat) (n : Nat) (row : List Nat) : Prop where
  nodup : row.Nodup
  mem : ∀ q, q ∈ row ↔ q < n
  ahead : ∀ r1 p r2, row = r1 ++ p :: r2 -> ∀ q ∈ rd p, q ∈ r1
theorem zaK {α : Type} [DecidableEq α] : ∀ (l m : List α), l.Nodup -> (∀ x ∈ l, x ∈ m) -> l.length <= m.length := by
  intro l
  induction l with
  | nil => intro m _ _; exact Nat.zero_le _
  | cons a l ih =>
    intro m hn hm
    rw [List.nodup_cons] at hn
    have ha := hm a (by simp)
    have h1 := ih (m.erase a) hn.2 (fun x hx => by
      have hne : x ≠ a := by rintro rfl; exact hn.1 hx
      exact (List.mem_erase_of_ne hne).2 (hm x (by simp [hx])))
    rw [List.length_erase_of_mem ha] at h1
    have : 0 < m.length := List.length_pos_of_mem ha
    simp only [List.length_cons]; omega
theorem znm {n : Nat} {l : List Nat} (hn : l.Nodup) (hm : ∀ x ∈ l, x < n) (hl : l.length = n) (q : Nat) (hq : q < n) : q ∈ l := by
  by_cases h : q ∈ l
  · exact h
  · exfalso
    have := zaK (q :: l) (List.range n) (List.nodup_cons.2 ⟨h, hn⟩) (fun x hx => by
      rcases List.mem_cons.1 hx with rfl | hx
      · exact List.mem_range.2 hq
      · exact List.mem_range.2 (hm x hx))
    simp only [List.length_cons, List.length_range] at this
    omega
theorem zgm {r1 r2 : List Nat} {p q : Nat} (hq : q ∈ r1) (hp : p ∉ r1) : (r1 ++ p :: r2).idxOf q < (r1 ++ p :: r2).idxOf p := by
  have h1 : ∀ (l : List Nat), q ∈ l -> (l ++ p :: r2).idxOf q < l.length := by
    intro l
    induction l with
    | nil => intro h; cases h
    | cons a l ih =>
      intro h
      by_cases ha : a = q
      · subst ha; simp
      · have hm : q ∈ l := by
          rcases List.mem_cons.1 h with h' | h'
          · exact absurd h'.symm ha
          · exact h'
        have := ih hm
        rw [List.cons_append, List.idxOf_cons, List.length_cons, beq_false_of_ne ha, cond_false]; omega
  have h2 : ∀ (l : List Nat), p ∉ l -> l.length <= (l ++ p :: r2).idxOf p := by
    intro l
    induction l with
    | nil => intro _; exact Nat.zero_le _
    | cons a l ih =>
      intro h
      rw [List.mem_cons] at h
      have := ih (fun hm => h (Or.inr hm))
      rw [List.cons_append, List.idxOf_cons, List.length_cons, beq_false_of_ne (fun e => h (Or.inl (Eq.symm e))), cond_false]; omega
  exact Nat.lt_of_lt_of_le (h1 r1 hq) (h2 r1 hp)
theorem zio.zi9 {rd : Nat -> List Nat} {n : Nat} {row : List Nat} (h : zio rd n row) : zhB rd n (fun p => row.idxOf p) := by
  have hlen : row.length <= n := by
    have := zaK row (List.range n) h.nodup (fun x hx => List.mem_range.2 ((h.mem x).1 hx))
    simpa using this
  refine ⟨fun p hp => Nat.lt_of_lt_of_le (List.idxOf_lt_length_of_mem ((h.mem p).2 hp)) hlen, fun p hp q hq => ?_⟩
  have hpm := (h.mem p).2 hp
  obtain ⟨r1, r2, e⟩ := List.append_of_mem hpm
  have hq1 := h.ahead r1 p r2 e q hq
  have hnd := h.nodup
  rw [e] at hnd
  have hp1 : p ∉ r1 := by
    intro hm
    rw [List.nodup_append] at hnd
    exact hnd.2.2 p hm p (by simp) rfl
  refine ⟨(h.mem q).1 (by rw [e]; simp [hq1]), ?_⟩
  simp only [e]
  exact zgm hq1 hp1
theorem zcz {rd : Nat -> List Nat} {n : Nat} (hrd : ∀ p, p < n -> ∀ q ∈ rd p, q < n) (h : (zD rd n).1 = true) : zio rd n (zD rd n).2.row := by
  have hfar : ∀ q, ((zD rd n).2.far q).isSome -> q < n := by
    have hd : ∀ f p s, p < n -> (∀ q, (s.far q).isSome -> q < n) -> ∀ q, ((down rd f p s).2.far q).isSome -> q < n := by
      intro f
      induction f with
      | zero => intro p s _ hs q hq; exact hs q hq
      | succ f ih =>
        intro p s hp hs q hq
        have hl : ∀ (l : List Nat) (t : Far), (∀ a ∈ l, a < n) -> (∀ q, (t.far q).isSome -> q < n) -> ∀ q, ((zl (down rd f) l t).2.far q).isSome -> q < n := by
          intro l
          induction l with
          | nil => intro t _ ht q hq; exact ht q hq
          | cons a l il =>
            intro t ha ht q hq
            unfold zl at hq
            have h1 := ih a t (ha a (by simp)) ht
            split at hq
            · exact il _ (fun b hb => ha b (by simp [hb])) h1 q hq
            · exact h1 q hq
        have hu : ∀ q, ((s.under p).far q).isSome -> q < n := by
          intro q hq
          by_cases hqp : q = p
          · omega
          · simp only [Far.under, if_neg hqp] at hq; exact hs q hq
        unfold down at hq
        rcases hfp : s.far p with _ | b
        · rw [hfp] at hq
          simp only at hq
          split at hq
          · by_cases hqp : q = p
            · omega
            · simp only [Far.behind, if_neg hqp] at hq
              exact hl _ _ (hrd p hp) hu q hq
          · exact hl _ _ (hrd p hp) hu q hq
        · rw [hfp] at hq; exact hs q hq
    have hl : ∀ (l : List Nat) (t : Far), (∀ a ∈ l, a < n) -> (∀ q, (t.far q).isSome -> q < n) -> ∀ q, ((zl (down rd (n + 1)) l t).2.far q).isSome -> q < n := by
      intro l
      induction l with
      | nil => intro t _ ht q hq; exact ht q hq
      | cons a l il =>
        intro t ha ht q hq
        unfold zl at hq
        have h1 := hd (n + 1) a t (ha a (by simp)) ht
        split at hq
        · exact il _ (fun b hb => ha b (by simp [hb])) h1 q hq
        · exact h1 q hq
    exact hl _ _ (fun a ha => List.mem_range.1 ha) (fun q hq => by cases hq)
  obtain ⟨r, _, hall⟩ := zhT rd (n + 1) (List.range n) qI (zkg rd) h
  refine ⟨r.nodup, fun q => ⟨fun hq => hfar q (by have h2 := (r.mem q).1 hq; unfold zD; rw [h2]; rfl), fun hq => (r.mem q).2 (hall q (List.mem_range.2 hq))⟩, fun r1 p r2 e q hq => ?_⟩
  have e' : (zl (down rd (n + 1)) (List.range n) qI).2.row = r1 ++ p :: r2 := e
  have hi : r1.length < (zl (down rd (n + 1)) (List.range n) qI).2.row.length := by rw [e']; simp
  have hx : (zl (down rd (n + 1)) (List.range n) qI).2.row[r1.length] = p := by
    have : (zl (down rd (n + 1)) (List.range n) qI).2.row[r1.length]? = some p := by rw [e']; simp
    rw [List.getElem?_eq_getElem hi] at this; exact Option.some.inj this
  obtain ⟨j, hj, hjq⟩ := r.ahead r1.length hi q (by rw [hx]; exact hq)
  have : (zl (down rd (n + 1)) (List.range n) qI).2.row[j]? = some q := by rw [List.getElem?_eq_getElem (by omega), hjq]
  rw [e', List.getElem?_append_left hj] at this
  exact List.mem_of_getElem? this
def ready (rd : Nat -> List Nat) (row : List Nat) (i : Nat) : Bool := !decide (i ∈ row) && (rd i).all fun q => decide (q ∈ row)
def pick (rd : Nat -> List Nat) (n : Nat) (row : List Nat) : Option Nat := (List.range n).find? (ready rd row)
def more (rd : Nat -> List Nat) (n : Nat) (row : List Nat) : List Nat := match pick rd n row with | none => row | some i => row ++ [i]
def greedy (rd : Nat -> List Nat) (n : Nat) : Nat -> List Nat
  | 0 => []
  | k + 1 => more rd n (greedy rd n k)
structure Part (rd : Nat -> List Nat) (n : Nat) (row : List Nat) : Prop where
  nodup : row.Nodup
  mem : ∀ q ∈ row, q < n
  ahead : ∀ r1 p r2, row = r1 ++ p :: r2 -> ∀ q ∈ rd p, q ∈ r1
theorem zeY {rd : Nat -> List Nat} {row : List Nat} {i : Nat} : ready rd row i = true ↔ i ∉ row /\ ∀ q ∈ rd i, q ∈ row := by
  unfold ready; simp
theorem zlm {r1 r2 row : List Nat} {p i : Nat} (e : row ++ [i] = r1 ++ p :: r2) : (r2 = [] /\ p = i /\ r1 = row) \/ ∃ r3, r2 = r3 ++ [i] /\ row = r1 ++ p :: r3 := by
  rcases List.eq_nil_or_concat r2 with rfl | ⟨r3, b, rfl⟩
  · left
    have h2 := List.append_inj' e rfl
    exact ⟨rfl, by simpa using h2.2.symm, h2.1.symm⟩
  · right
    rw [List.concat_eq_append] at e ⊢
    have e2 : row ++ [i] = (r1 ++ p :: r3) ++ [b] := by rw [e]; simp
    have h2 := List.append_inj' e2 rfl
    exact ⟨r3, by simpa using h2.2.symm, h2.1⟩
theorem Part.more {rd : Nat -> List Nat} {n : Nat} {row : List Nat} (h : Part rd n row) : Part rd n (more rd n row) := by
  change Part rd n (match pick rd n row with | none => row | some i => row ++ [i])
  rcases hp : pick rd n row with _ | i
  · exact h
  · unfold pick at hp
    have hi := List.find?_some hp
    have hin := List.mem_of_find?_eq_some hp
    rw [zeY] at hi
    refine ⟨?_, fun q hq => ?_, fun r1 p r2 e q hq => ?_⟩
    · rw [List.nodup_append]
      exact ⟨h.nodup, by simp, fun a ha b hb => by rw [List.mem_singleton] at hb; subst hb; exact fun e => hi.1 (e ▸ ha)⟩
    · rcases List.mem_append.1 hq with hq | hq
      · exact h.mem q hq
      · rw [List.mem_singleton] at hq; subst hq; exact List.mem_range.1 hin
    · rcases zlm e with ⟨_, rfl, rfl⟩ | ⟨r3, _, e3⟩
      · exact hi.2 q hq
      · exact h.ahead r1 p r3 e3 q hq
theorem za2 (rd : Nat -> List Nat) (n : Nat) : ∀ k, Part rd n (greedy rd n k)
  | 0 => ⟨by simp [greedy], fun q hq => by simp [greedy] at hq, fun r1 p r2 e => by simp [greedy] at e⟩
  | k + 1 => (za2 rd n k).more
theorem Part.zmF {rd : Nat -> List Nat} {n : Nat} {row : List Nat} (h : Part rd n row) (hl : row.length = n) : zio rd n row :=
  ⟨h.nodup, fun q => ⟨h.mem q, znm h.nodup h.mem hl q⟩, h.ahead⟩
theorem zml {rd : Nat -> List Nat} {n : Nat} {rk : Nat -> Nat} (hr : zhB rd n rk) (row : List Nat) : ∀ r p, p < n -> p ∉ row -> rk p <= r -> ∃ i, pick rd n row = some i := by
  intro r
  have fin : ∀ p, p < n -> p ∉ row -> (∀ q ∈ rd p, q ∈ row) -> ∃ i, pick rd n row = some i := by
    intro p hp hm ha
    have : (pick rd n row).isSome := by
      unfold pick
      rw [List.find?_isSome]
      exact ⟨p, List.mem_range.2 hp, zeY.2 ⟨hm, ha⟩⟩
    exact Option.isSome_iff_exists.1 this
  induction r with
  | zero =>
    intro p hp hm hk
    refine fin p hp hm (fun q hq => ?_)
    have := (hr.2 p hp q hq).2; omega
  | succ r ih =>
    intro p hp hm hk
    by_cases ha : ∀ q ∈ rd p, q ∈ row
    · exact fin p hp hm ha
    · have : ∃ q, q ∈ rd p /\ q ∉ row := by
        by_cases h : ∃ q, q ∈ rd p /\ q ∉ row
        · exact h
        · exact absurd (fun q hq => Classical.byContradiction fun hn => h ⟨q, hq, hn⟩) ha
      obtain ⟨q, hq, hqm⟩ := this
      have h1 := hr.2 p hp q hq
      exact ih q h1.1 hqm (by omega)
theorem zfC {rd : Nat -> List Nat} {n : Nat} {rk : Nat -> Nat} (hr : zhB rd n rk) : ∀ k, k <= n -> (greedy rd n k).length = k := by
  intro k
  induction k with
  | zero => intro _; rfl
  | succ k ih =>
    intro hk
    have hl := ih (by omega)
    have hpart := za2 rd n k
    have : ∃ p, p < n /\ p ∉ greedy rd n k := by
      by_cases h : ∃ p, p < n /\ p ∉ greedy rd n k
      · exact h
      · exfalso
        have := zaK (List.range n) (greedy rd n k) List.nodup_range (fun x hx => Classical.byContradiction fun hn => h ⟨x, List.mem_range.1 hx, hn⟩)
        simp only [List.length_range] at this; omega
    obtain ⟨p, hp, hm⟩ := this
    obtain ⟨i, hi⟩ := zml hr (greedy rd n k) (rk p) p hp hm (Nat.le_refl _)
    show (more rd n (greedy rd n k)).length = k + 1
    unfold more; rw [hi]; simp [hl]
theorem zgb {rd : Nat -> List Nat} {n : Nat} (hrd : ∀ p, p < n -> ∀ q ∈ rd p, q < n) : (zD rd n).1 = decide ((greedy rd n n).length = n) := by
  by_cases h : (zD rd n).1 = true
  · rw [h]; exact (decide_eq_true (zfC (zcz hrd h).zi9 n (Nat.le_refl _))).symm
  · have hf : (zD rd n).1 = false := by simpa using h
    rw [hf]
    symm
    rw [decide_eq_false_iff_not]
    intro hl
    exact h (zg0 ((za2 rd n n).zmF hl).zi9)
def zK {α : Type} (D : Nat -> List α -> α) (row : List Nat) (vs : List α) : List α := row.foldl (fun us p => us.set p (D p us)) vs
theorem qL {α : Type} (D : Nat -> List α -> α) : ∀ (row : List Nat) (vs : List α), (zK D row vs).length = vs.length := by
  intro row
  induction row with
  | nil => intro vs; rfl
  | cons a l ih => intro vs; show (zK D l (vs.set a (D a vs))).length = _; rw [ih]; simp
theorem zdm {α : Type} (D : Nat -> List α -> α) (p : Nat) : ∀ (row : List Nat) (vs : List α), p ∉ row -> (zK D row vs)[p]? = vs[p]? := by
  intro row
  induction row with
  | nil => intro vs _; rfl
  | cons a l ih =>
    intro vs h
    rw [List.mem_cons] at h
    show (zK D l (vs.set a (D a vs)))[p]? = _
    rw [ih _ (fun hm => h (Or.inr hm)), List.getElem?_set_ne (fun e => h (Or.inl e.symm))]
theorem zbs {α : Type} (D : Nat -> List α -> α) (r1 r2 : List Nat) (vs : List α) : zK D (r1 ++ r2) vs = zK D r2 (zK D r1 vs) := by
  unfold zK; rw [List.foldl_append]
theorem zlc {α : Type} (D : Nat -> List α -> α) (r1 r2 : List Nat) (p : Nat) (vs : List α) (hp : p < vs.length) (h2 : p ∉ r2) : (zK D (r1 ++ p :: r2) vs)[p]? = some (D p (zK D r1 vs)) := by
  rw [zbs]
  show (zK D r2 ((zK D r1 vs).set p (D p (zK D r1 vs))))[p]? = _
  rw [zdm D p r2 _ h2, List.getElem?_set_self (by rw [qL]; exact hp)]
def znX {α : Type} (rd : Nat -> List Nat) (n : Nat) (D : Nat -> List α -> α) : Prop := ∀ p, p < n -> ∀ us vs : List α, us.length = n -> vs.length = n -> (∀ q ∈ rd p, us[q]? = vs[q]?) -> us[p]? = vs[p]? -> D p us = D p vs
theorem zd6 {α : Type} {D : Nat -> List α -> α} {rd : Nat -> List Nat} {n : Nat} {row : List Nat} (h : zio rd n row) (vs : List α) (hl : vs.length = n) (p : Nat) (hp : p < n) :
    ∃ us : List α, us.length = n /\ (zK D row vs)[p]? = some (D p us) /\ us[p]? = vs[p]? /\ ∀ q ∈ rd p, us[q]? = (zK D row vs)[q]? := by
  obtain ⟨r1, r2, e⟩ := List.append_of_mem ((h.mem p).2 hp)
  have hnd := h.nodup
  rw [e, List.nodup_append] at hnd
  have hp1 : p ∉ r1 := fun hm => hnd.2.2 p hm p (by simp) rfl
  have hp2 : p ∉ r2 := (List.nodup_cons.1 hnd.2.1).1
  refine ⟨zK D r1 vs, by rw [qL, hl], by rw [e]; exact zlc D r1 r2 p vs (by omega) hp2, zdm D p r1 vs hp1, fun q hq => ?_⟩
  have hq1 := h.ahead r1 p r2 e q hq
  have hq2 : q ∉ p :: r2 := fun hm => hnd.2.2 q hq1 q hm rfl
  rw [e, zbs, zdm D q _ _ hq2]
theorem zkG {α : Type} {D : Nat -> List α -> α} {rd : Nat -> List Nat} {n : Nat} {r r' : List Nat} (h : zio rd n r) (h' : zio rd n r') (hD : znX rd n D) (vs : List α) (hl : vs.length = n) : zK D r vs = zK D r' vs := by
  have hr := h.zi9
  have key : ∀ k p, p < n -> r.idxOf p < k -> (zK D r vs)[p]? = (zK D r' vs)[p]? := by
    intro k
    induction k with
    | zero => intro p _ hk; omega
    | succ k ih =>
      intro p hp hk
      obtain ⟨us, u1, u2, u3, u4⟩ := zd6 (D := D) h vs hl p hp
      obtain ⟨us', u1', u2', u3', u4'⟩ := zd6 (D := D) h' vs hl p hp
      rw [u2, u2']
      congr 1
      refine hD p hp us us' u1 u1' (fun q hq => ?_) (u3.trans u3'.symm)
      have h1 := hr.2 p hp q hq
      have h2 : r.idxOf q < r.idxOf p := h1.2
      rw [u4 q hq, u4' q hq]
      exact ih q h1.1 (by omega)
  apply List.ext_getElem?
  intro p
  rcases Nat.lt_or_ge p n with hp | hp
  · exact key (r.idxOf p + 1) p hp (Nat.lt_succ_self _)
  · rw [List.getElem?_eq_none (by rw [qL, hl]; exact hp), List.getElem?_eq_none (by rw [qL, hl]; exact hp)]
end Go.Proofs.YtkfigdbbncjojaaGreat.Gate

namespace Go.Proofs.YtkfigdbbncjojaaGreat
open Go.RowKit
theorem zjK {w : World} {lo : Nat} {a : Option Addr} {n cap : Nat} {row : List ByteArray} (h : w.ownsRow lo 9 1 (.slice a n cap) row.length (row.map Value.string)) (hl : row.length <= maxLen) (hs : ∀ s ∈ row, s.size <= maxLen) : zB w a row := by
  refine ⟨hl, hs, fun hne => ?_⟩
  obtain ⟨_, ⟨h0, h1⟩ | ⟨g, cp, cur, h0, h1⟩⟩ := id h
  · exact absurd (List.length_eq_zero_iff.1 h1) hne
  · cases h0
    refine ⟨g, 0, rfl, (h.lt g rfl).2, fun i hi => ?_⟩
    rw [Nat.zero_add, h.cellAt i (by omega)]
    simp [hi]
end Go.Proofs.YtkfigdbbncjojaaGreat
