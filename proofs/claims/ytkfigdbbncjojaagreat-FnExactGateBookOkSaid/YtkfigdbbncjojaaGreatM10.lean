import Derived.Test.YtkfigdbbncjojaaGreatM05
import Derived.Test.YtkfigdbbncjojaaGreatM02
import Derived.Test.YtkfigdbbncjojaaGreatM01
import Derived.Test.YtkfigdbbncjojaaGreatM07
import Derived.Test.YtkfigdbbncjojaaGreatM03
namespace Go.Proofs.YtkfigdbbncjojaaGreat
structure Tm where
  nm : ByteArray
  ov : ByteArray
namespace Gate
def zal : Tm := ⟨ByteArray.empty, ByteArray.empty⟩
def z8 (ts : List Tm) (v : ByteArray) : Bool := ts.any fun t => decide (t.nm = v)
def over (ts : List Tm) (v : ByteArray) : ByteArray := ((ts.find? fun t => decide (t.nm = v)).getD zal).ov
theorem zcH (ts : List Tm) (v : ByteArray) (k : Nat) (h : k < ts.length) : z8 (ts.take (k + 1)) v = (z8 (ts.take k) v || decide (ts[k].nm = v)) := by
  unfold z8; rw [List.take_succ_eq_append_getElem h, List.any_append]; simp
theorem zlQ (ts : List Tm) (v : ByteArray) (k : Nat) (h : k < ts.length) (e : ts[k].nm = v) : z8 ts v = true := by
  unfold z8; rw [List.any_eq_true]; exact ⟨ts[k], List.getElem_mem h, by simpa using e⟩
theorem zdv (ts : List Tm) (v : ByteArray) (k : Nat) (h : ts.length <= k) : z8 (ts.take k) v = z8 ts v := by rw [List.take_of_length_le h]
theorem zjf (ts : List Tm) (v : ByteArray) (k : Nat) (h : k < ts.length) (hb : z8 (ts.take k) v = false) (e : ts[k].nm = v) : over ts v = ts[k].ov := by
  unfold over
  have hn : (ts.take k).find? (fun s => decide (s.nm = v)) = none := by
    rw [List.find?_eq_none]; intro x hx; unfold z8 at hb; rw [List.any_eq_false] at hb; exact hb x hx
  have hf : ts.find? (fun s => decide (s.nm = v)) = some ts[k] := by
    conv => lhs; rw [<- List.take_append_drop k ts]
    rw [List.find?_append, hn, List.drop_eq_getElem_cons h, List.find?_cons_of_pos (by simpa using e)]; rfl
  rw [hf]; rfl
theorem zeN (ts : List Tm) (v : ByteArray) (hb : z8 ts v = false) : over ts v = ByteArray.empty := by
  unfold over
  have hn : ts.find? (fun s => decide (s.nm = v)) = none := by
    rw [List.find?_eq_none]; intro x hx; unfold z8 at hb; rw [List.any_eq_false] at hb; exact hb x hx
  rw [hn]; rfl
def under (ts : List Tm) : Nat -> ByteArray -> ByteArray -> Bool
  | 0, a, b => decide (a = b)
  | n + 1, a, b => decide (a = b) || (decide (¬ (over ts a).size = 0) && under ts n (over ts a) b)
theorem zcB (ts : List Tm) (n : Nat) (a b : ByteArray) (h : a = b) : under ts n a b = true := by
  cases n <;> simp [under, h]
theorem zi1 (ts : List Tm) {a b : ByteArray} (h : ¬ a = b) : under ts 0 a b = false := by simp [under, h]
theorem zgU (ts : List Tm) (n : Nat) {a b : ByteArray} (h : ¬ a = b) (h0 : (over ts a).size = 0) : under ts (n + 1) a b = false := by simp [under, h, h0]
theorem zkP (ts : List Tm) (n : Nat) {a b : ByteArray} (h : ¬ a = b) (h0 : ¬ (over ts a).size = 0) : under ts (n + 1) a b = under ts n (over ts a) b := by simp [under, h, h0]
def yN (ts : List Tm) (i : Nat) : Bool :=
  zy (ts.getD i zal).nm && (decide (i = 0) || less (ts.getD (i - 1) zal).nm (ts.getD i zal).nm) && ((ts.getD i zal).ov.toList.isEmpty || z8 ts (ts.getD i zal).ov)
def zdc (ts : List Tm) : Nat -> ByteArray -> ByteArray
  | 0, a => a
  | n + 1, a => zdc ts n (over ts a)
def qR (ts : List Tm) : Nat -> ByteArray -> ByteArray
  | 0, a => a
  | n + 1, a => if a.size = 0 then a else qR ts n (over ts a)
def zcq (ts : List Tm) (t : Tm) : Bool := decide ((zdc ts 4 t.ov).size = 0)
def zdW (ts : List Tm) (i : Nat) : Bool := zcq ts (ts.getD i zal)
def zcg (ts : List Tm) (i : Nat) : Bool := decide ((qR ts 5 (ts.getD i zal).nm).size = 0)
def zaB (ts : List Tm) : Bool := decide (ts.length <= 12) && (up (yN ts) ts.length && up (zdW ts) ts.length)
def zaZ (ts : List Tm) (i : Nat) : Bool := yN ts i && zcg ts i
def jQ (ts : List Tm) : Bool := decide (ts.length <= 12) && up (zaZ ts) ts.length
theorem zbF {P : Nat -> Bool} {n : Nat} : up P n = true ↔ ∀ i, i < n -> P i = true := by
  unfold up; rw [List.all_eq_true]; simp
theorem zmP {ts : List Tm} {i : Nat} (hi : i < ts.length) (h : yN ts i = true) : zy ts[i].nm = true := by
  unfold yN at h; rw [getD_at ts i _ hi] at h; simp only [Bool.and_eq_true] at h; exact h.1.1
theorem zmV {ts : List Tm} {i : Nat} (hi : i + 1 < ts.length) (h : yN ts (i + 1) = true) : less ts[i].nm ts[i + 1].nm = true := by
  unfold yN at h; rw [getD_at ts (i + 1) _ hi, Nat.add_sub_cancel, getD_at ts i _ (by omega)] at h; simp only [Bool.and_eq_true] at h
  simpa using h.1.2
theorem zlW {ts : List Tm} (h : up (yN ts) ts.length = true) : ∀ (j : Nat) (hj : j < ts.length) (i : Nat) (hi : i < j), less (ts[i]'(by omega)).nm ts[j].nm = true := by
  intro j
  induction j with
  | zero => intro _ i hi; omega
  | succ j ih =>
    intro hj i hi
    have h2 := zmV hj (zfN hj h)
    rcases Nat.lt_or_ge i j with hlt | hge
    · exact zai _ _ _ (ih (by omega) i hlt) h2
    · have e : i = j := by omega
      subst e; exact h2
theorem over_self {ts : List Tm} (h : up (yN ts) ts.length = true) (i : Nat) (hi : i < ts.length) : over ts ts[i].nm = ts[i].ov := by
  refine zjf ts _ i hi ?_ rfl
  unfold z8
  rw [List.any_eq_false]
  intro x hx
  obtain ⟨k, hk, rfl⟩ := List.mem_iff_getElem.1 hx
  have hk' : k < i := by simp at hk; omega
  have h1 := zlW h i hi k hk'
  simp only [List.getElem_take, decide_eq_true_eq]
  intro e
  unfold less at h1
  rw [e, zaU] at h1
  cases h1
theorem zlt {ts : List Tm} (h : up (yN ts) ts.length = true) : over ts ByteArray.empty = ByteArray.empty := by
  apply zeN
  unfold z8
  rw [List.any_eq_false]
  intro x hx
  obtain ⟨k, hk, rfl⟩ := List.mem_iff_getElem.1 hx
  have h1 := zmP hk (zfN hk h)
  simp only [decide_eq_true_eq]
  intro e
  rw [e, zep _ rfl] at h1
  cases h1
theorem zfy {ts : List Tm} (h : over ts ByteArray.empty = ByteArray.empty) : ∀ n, zdc ts n ByteArray.empty = ByteArray.empty
  | 0 => rfl
  | n + 1 => by unfold zdc; rw [h]; exact zfy h n
theorem zhw {ts : List Tm} (h : over ts ByteArray.empty = ByteArray.empty) : ∀ n a, qR ts n a = zdc ts n a
  | 0, _ => rfl
  | n + 1, a => by
    unfold qR
    by_cases h0 : a.size = 0
    · rw [if_pos h0, zbZ a h0, zfy h]
    · rw [if_neg h0, zhw h n]; rfl
theorem ziV {ts : List Tm} (h : up (yN ts) ts.length = true) (i : Nat) (hi : i < ts.length) : zcg ts i = zdW ts i := by
  unfold zcg zdW zcq
  rw [getD_at ts i _ hi, zhw (zlt h), show zdc ts 5 ts[i].nm = zdc ts 4 (over ts ts[i].nm) from rfl, over_self h i hi]
theorem zjF (ts : List Tm) : zaB ts = jQ ts := by
  unfold zaB jQ
  congr 1
  rw [Bool.eq_iff_iff, Bool.and_eq_true]
  constructor
  · rintro ⟨h1, h2⟩
    rw [zbF]
    intro i hi
    unfold zaZ
    rw [zfN hi h1, ziV h1 i hi, zfN hi h2]; rfl
  · intro h
    rw [zbF] at h
    have h1 : up (yN ts) ts.length = true := by
      rw [zbF]; intro i hi; have := h i hi; unfold zaZ at this; rw [Bool.and_eq_true] at this; exact this.1
    refine ⟨h1, ?_⟩
    rw [zbF]; intro i hi; have := h i hi; unfold zaZ at this; rw [Bool.and_eq_true, ziV h1 i hi] at this; exact this.2
end Gate
end Go.Proofs.YtkfigdbbncjojaaGreat

namespace Go.Proofs.YtkfigdbbncjojaaGreat
open Go.RowKit
theorem ziy {w : World} {b : Nat} {X : Array Value} {t : TypeId} (h : w.heap[b]? = some (.cells X t)) : ∀ j, w.cell? ⟨b, j, none⟩ = X[j]? := fun _ => cell_of_block h
theorem zl1 {w : World} {b : Nat} {X : Array Value} {t : TypeId} (h : w.heap[b]? = some (.cells X t)) : ∀ j, w.frozen? ⟨b, j, none⟩ = false := fun _ => zi h
end Go.Proofs.YtkfigdbbncjojaaGreat

namespace Go.Proofs.YtkfigdbbncjojaaGreat
open Go.ChangeShapes Go.WideShapes Go.ChangeAt Go.RowKit
theorem Tryz.zg3 : Tryz.prog.cellsOf 79 = 2 := by kernel_rfl
theorem Tryz.zke : Tryz.prog.cellsOf 77 = 1 := by kernel_rfl
section
variable {H : Type} {enc : TypeId × Value -> H} {w : World} {base : Nat} {spare : Nat -> Bool} {held : Bool}
theorem zka {fuel : Nat} {cs : List Value} {x : DataW H × List MemPlace} (h : DataW.trod enc Tryz.prog w base spare held fuel 77 cs = some x) :
    ∃ a cap fs, cs = [.slice a (List.length fs) cap] /\ zW w a fs := by
  obtain ⟨a, len, cap, rfl, hm, hr⟩ := jY Tryz.underlying77 Tryz.zhe (by omega) h
  rcases Nat.eq_zero_or_pos len with h0 | hp
  · subst h0
    exact ⟨a, cap, [], rfl, ⟨by simp [maxLen], fun h => absurd rfl h⟩⟩
  · obtain ⟨b, off, rfl, hb, hrow⟩ := hr hp
    have hf : ∀ i, i < len -> ∃ f : Fld, ∃ wa wcap, zdK w b (off + i * 11) f wa wcap := by
      intro i hi
      obtain ⟨es, n, y, hel, hcell, hy⟩ := hrow i hi
      obtain ⟨nm, kd, ls, ms, wa, wcap, ws, to, rl, mu, fx, df, wg, rfl, hS, s0, s5, s9, s10⟩ := zld hy
      refine ⟨⟨nm, kd, ls, ms, ws, to, rl, mu, fx, df, wg⟩, wa, wcap, ⟨s0, s5, s9, s10⟩, hS, fun j hj => ?_⟩
      rw [hcell j hj]
      simp [Fld.cells]
    obtain ⟨fs, hl, hfs⟩ := zaW len hf
    refine ⟨_, cap, fs, by rw [hl], ⟨by omega, fun _ => ⟨b, off, rfl, hb, fun i hi => hfs i hi⟩⟩⟩
theorem zlV {fuel : Nat} {cs : List Value} {x : DataW H × List MemPlace} (h : DataW.trod enc Tryz.prog w base spare held fuel 79 cs = some x) :
    ∃ kd a cap fs, cs = [.string kd, .slice a (List.length fs) cap] /\ kd.size <= maxLen /\ zW w a fs := by
  have hlen : cs.length = 2 := by
    obtain ⟨_, _, _, _, hl, _, _⟩ := DataW.trod_struct Tryz.underlying79 h
    rw [hl]; exact Tryz.zg3
  match cs, hlen with
  | [c0, c1], _ =>
    have hf := jk Tryz.underlying79 h
    obtain ⟨_, _, f0⟩ := hf 0 9 0 c0 rfl Tryz.zJ rfl
    obtain ⟨_, _, f1⟩ := hf 1 77 1 c1 rfl Tryz.zke rfl
    obtain ⟨kd, e0, _, s0⟩ := DataW.trod_string Tryz.underlying9 f0
    obtain ⟨a, cap, fs, e1, hF⟩ := zka f1
    simp only [List.cons.injEq, and_true] at e0 e1
    subst e0 e1
    exact ⟨kd, a, cap, fs, rfl, s0, hF⟩
theorem zj7 {fuel : Nat} {cs : List Value} {x : DataW H × List MemPlace} (h : DataW.trod enc Tryz.prog w base spare held fuel 22 cs = some x) :
    ∃ a cap ss, cs = [.slice a (List.length ss) cap] /\ yB w a ss := by
  obtain ⟨a, len, cap, rfl, hm, hr⟩ := jY Tryz.underlying22 Tryz.zg3 (by omega) h
  rcases Nat.eq_zero_or_pos len with h0 | hp
  · subst h0
    exact ⟨a, cap, [], rfl, ⟨by simp [maxLen], fun h => absurd rfl h⟩⟩
  · obtain ⟨b, off, rfl, hb, hrow⟩ := hr hp
    have hf : ∀ i, i < len -> ∃ s : Shp, ∃ fa fcap, ziz w b (off + i * 2) s fa fcap := by
      intro i hi
      obtain ⟨es, n, y, hel, hcell, hy⟩ := hrow i hi
      obtain ⟨kd, fa, fcap, fs, rfl, s0, hF⟩ := zlV hy
      exact ⟨⟨kd, fs⟩, fa, fcap, s0, hF, hcell 0 (by omega), hcell 1 (by omega)⟩
    obtain ⟨ss, hl, hss⟩ := zaW len hf
    exact ⟨_, cap, ss, by rw [hl], ⟨by omega, fun _ => ⟨b, off, rfl, hb, fun i hi => hss i hi⟩⟩⟩
end
end Go.Proofs.YtkfigdbbncjojaaGreat
