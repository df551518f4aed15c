import Derived.Test.YtmmopakjaeokaaaDoorM10
import Derived.Test.YtmmopakjaeokaaaDoorProg
import Derived.WalkKit
import Derived.LaidEql
import Derived.Stop.Asserts
import Derived.RowKitTokens
import Derived.Test.YtmmopakjaeokaaaDoorM05
namespace Go.Proofs.YtmmopakjaeokaaaDoor
open Go.RowKit

theorem as_ret {P : Program} {f : FuncId} {args : Array Value} {w : World} {v v' : Value} {R : World → Prop} (hb : v = v') (h : Calls P f args w fun e w' => e = .returned v ∧ R w') : Calls P f args w fun e w' => e = .returned v' ∧ R w' := by
  subst hb; exact h

/-- The first k looks found nothing. -/
def stage (ss : List Shp) (o : Ob) : Nat → Bool
  | 0 => true
  | 1 => Gate.wholeNames o
  | 2 => Gate.wholeNames o && Gate.wholeHolds o
  | 3 => Gate.wholeNames o && Gate.wholeHolds o && Gate.wholeVersion o
  | 4 => Gate.whole ss o
  | _ => Gate.whole ss o && decide ((Gate.valRes (Gate.shapeOf ss o.kd).fs o.vs).1 = 0)

def errO (ss : List Shp) (o : Ob) : Value := errV (Gate.checkRes ss o).1 (Gate.checkRes ss o).2

theorem errO_not {ss : List Shp} {o : Ob} (h : Gate.whole ss o = false) : errO ss o = .iface 70 (.agg #[.int .i64 1, .int .i64 0]) := by
  unfold errO Gate.checkRes; rw [h]; rfl
theorem errO_whole {ss : List Shp} {o : Ob} (h : Gate.whole ss o = true) : errO ss o = errV (Gate.valRes (Gate.shapeOf ss o.kd).fs o.vs).1 (Gate.valRes (Gate.shapeOf ss o.kd).fs o.vs).2 := by
  unfold errO Gate.checkRes; rw [if_pos h]
theorem count_of_whole {ss : List Shp} {o : Ob} (h : Gate.whole ss o = true) : o.vs.length = (Gate.shapeOf ss o.kd).fs.length := by
  unfold Gate.whole Gate.wholeCount at h
  simp only [Bool.and_eq_true, decide_eq_true_eq] at h
  exact h.2.2

set_option maxHeartbeats 4000000 in
theorem objectError_any (a0 : Option Addr) (cap0 : Nat) (ss : List Shp) (o : Ob) (a a' : Option Addr) (cap cap' : Nat) (w : World) (hw : ShpsAt w a0 ss) (ho : ObAt w o a a') :
    Calls Tryd.prog 20 #[.slice a0 ss.length cap0, .agg #[.string o.kd, .string o.nm, .string o.tm, .slice a o.vs.length cap, .bool o.en, .slice a' o.hs.length cap', .int .i64 o.vr]] w
      fun e w' => e = .returned (errO ss o) ∧ Below w.heap.size w w' := by
  go_enter Tryd.func20, Tryd.ntmps20
  go_wp2_with fail
  go_loopw [10] (fun i wr => ∃ k : Nat, k ≤ 5 ∧ i = .int .i64 k ∧ stage ss o k = true ∧ Below (w.heap.size + 1 + 1) ((w.alloc (.cells #[.string o.kd, .string o.nm, .string o.tm, .slice a o.vs.length cap, .bool o.en, .slice a' o.hs.length cap', .int .i64 o.vr] 32)).alloc (.cells #[.func (.func 35) #[] #[], .func (.func 36) #[] #[], .func (.func 37) #[] #[], .func (.func 38) #[] #[], .func (.func 39) #[] #[]] 74)) wr) (fun i _ => 5 - (intOf i).toNat)
  case atStart => exact ⟨0, Nat.zero_le _, rfl, rfl, Below.refl _ _⟩
  case round =>
    obtain ⟨k, hk, rfl, hstg, hBr⟩ := hrel
    have HStg : Hid (stage ss o k = true) := hstg
    clear hstg
    have hszr : w.heap.size + 1 < wr.heap.size := by have := hBr.size; simp at this; omega
    have hB : Below w.heap.size w wr := (below2' _ _ _).trans (hBr.mono (by omega))
    have hX : ∀ j, wr.cell? ⟨w.heap.size, j, none⟩ = (#[.string o.kd, .string o.nm, .string o.tm, .slice a o.vs.length cap, .bool o.en, .slice a' o.hs.length cap', .int .i64 o.vr] : Array Value)[j]? := fun j => (hBr.cell (p := ⟨w.heap.size, j, none⟩) (by simp; omega)).trans (by rw [World.cell?_alloc_lt _ _ ⟨w.heap.size, j, none⟩ (by simp)]; exact box_new w _ _ j)
    have hF : ∀ j, wr.cell? ⟨w.heap.size + 1, j, none⟩ = (#[.func (.func 35) #[] #[], .func (.func 36) #[] #[], .func (.func 37) #[] #[], .func (.func 38) #[] #[], .func (.func 39) #[] #[]] : Array Value)[j]? := fun j => (hBr.cell (p := ⟨w.heap.size + 1, j, none⟩) (by simp)).trans (by rw [World.cell?_alloc_at _ _ _ _ (by simp)])
    have hor := ho.mono hB
    have hwr := hw.mono hB
    have hcases : k = 0 ∨ k = 1 ∨ k = 2 ∨ k = 3 ∨ k = 4 ∨ k = 5 := by omega
    rcases hcases with rfl | rfl | rfl | rfl | rfl | rfl
    · by_cases hc : Gate.wholeNames o = true
      · have HV : Hid (wholeErr (Gate.wholeNames o) = .nilIface) := by unfold Hid; rw [hc]; rfl
        have HS : Hid (stage ss o (0 + 1) = true) := by
          have h0 := HStg.out
          simp only [stage] at h0 ⊢
          simp [hc, Hid]
        clear hc
        go_wp2_with fail
        refine (as_ret HV.out (checkNames_any _ _ _ _ _ _ _ _ _ hor)).mono ?_
        rintro e w1 ⟨rfl, hb1⟩
        go_wp2_with fail
        exact ⟨⟨0 + 1, by omega, by rfl, HS.out, hBr.trans (hb1.mono (by omega))⟩, by simp [intOf]⟩
      · have hc' : (Gate.wholeNames o) = false := by simpa using hc
        have HV : Hid (wholeErr (Gate.wholeNames o) = .iface 70 (.agg #[.int .i64 1, .int .i64 0])) := by unfold Hid; rw [hc']; rfl
        have HW : Hid (errO ss o = .iface 70 (.agg #[.int .i64 1, .int .i64 0])) := errO_not (by unfold Gate.whole; rw [hc']; simp)
        clear hc hc'
        go_wp2_with fail
        refine (as_ret HV.out (checkNames_any _ _ _ _ _ _ _ _ _ hor)).mono ?_
        rintro e w1 ⟨rfl, hb1⟩
        go_wp2_with fail
        go_ret
        exact ⟨by rw [HW.out]; rfl, hB.trans (hb1.mono (by omega))⟩
    · by_cases hc : Gate.wholeHolds o = true
      · have HV : Hid (wholeErr (Gate.wholeHolds o) = .nilIface) := by unfold Hid; rw [hc]; rfl
        have HS : Hid (stage ss o (1 + 1) = true) := by
          have h0 := HStg.out
          simp only [stage] at h0 ⊢
          simp [h0, hc, Hid]
        clear hc
        go_wp2_with fail
        refine (as_ret HV.out (checkHolds_any _ _ _ _ _ _ _ _ _ hor)).mono ?_
        rintro e w1 ⟨rfl, hb1⟩
        go_wp2_with fail
        exact ⟨⟨1 + 1, by omega, by rfl, HS.out, hBr.trans (hb1.mono (by omega))⟩, by simp [intOf]⟩
      · have hc' : (Gate.wholeHolds o) = false := by simpa using hc
        have HV : Hid (wholeErr (Gate.wholeHolds o) = .iface 70 (.agg #[.int .i64 1, .int .i64 0])) := by unfold Hid; rw [hc']; rfl
        have HW : Hid (errO ss o = .iface 70 (.agg #[.int .i64 1, .int .i64 0])) := errO_not (by unfold Gate.whole; rw [hc']; simp)
        clear hc hc'
        go_wp2_with fail
        refine (as_ret HV.out (checkHolds_any _ _ _ _ _ _ _ _ _ hor)).mono ?_
        rintro e w1 ⟨rfl, hb1⟩
        go_wp2_with fail
        go_ret
        exact ⟨by rw [HW.out]; rfl, hB.trans (hb1.mono (by omega))⟩
    · by_cases hc : Gate.wholeVersion o = true
      · have HV : Hid (wholeErr (Gate.wholeVersion o) = .nilIface) := by unfold Hid; rw [hc]; rfl
        have HS : Hid (stage ss o (2 + 1) = true) := by
          have h0 := HStg.out
          simp only [stage] at h0 ⊢
          simp [h0, hc, Hid]
        clear hc
        go_wp2_with fail
        refine (as_ret HV.out (checkVersion_any _ _ _ _ _ _ _ _ _)).mono ?_
        rintro e w1 ⟨rfl, hb1⟩
        go_wp2_with fail
        exact ⟨⟨2 + 1, by omega, by rfl, HS.out, hBr.trans (hb1.mono (by omega))⟩, by simp [intOf]⟩
      · have hc' : (Gate.wholeVersion o) = false := by simpa using hc
        have HV : Hid (wholeErr (Gate.wholeVersion o) = .iface 70 (.agg #[.int .i64 1, .int .i64 0])) := by unfold Hid; rw [hc']; rfl
        have HW : Hid (errO ss o = .iface 70 (.agg #[.int .i64 1, .int .i64 0])) := errO_not (by unfold Gate.whole; rw [hc']; simp)
        clear hc hc'
        go_wp2_with fail
        refine (as_ret HV.out (checkVersion_any _ _ _ _ _ _ _ _ _)).mono ?_
        rintro e w1 ⟨rfl, hb1⟩
        go_wp2_with fail
        go_ret
        exact ⟨by rw [HW.out]; rfl, hB.trans (hb1.mono (by omega))⟩
    · by_cases hc : Gate.wholeCount ss o = true
      · have HV : Hid (wholeErr (Gate.wholeCount ss o) = .nilIface) := by unfold Hid; rw [hc]; rfl
        have HS : Hid (stage ss o (3 + 1) = true) := by
          have h0 := HStg.out
          simp only [stage, Gate.whole] at h0 ⊢
          simp [h0, hc, Hid]
        clear hc
        go_wp2_with fail
        refine (as_ret HV.out (checkCount_any _ _ _ _ _ _ _ _ _ hwr hor)).mono ?_
        rintro e w1 ⟨rfl, hb1⟩
        go_wp2_with fail
        exact ⟨⟨3 + 1, by omega, by rfl, HS.out, hBr.trans (hb1.mono (by omega))⟩, by simp [intOf]⟩
      · have hc' : (Gate.wholeCount ss o) = false := by simpa using hc
        have HV : Hid (wholeErr (Gate.wholeCount ss o) = .iface 70 (.agg #[.int .i64 1, .int .i64 0])) := by unfold Hid; rw [hc']; rfl
        have HW : Hid (errO ss o = .iface 70 (.agg #[.int .i64 1, .int .i64 0])) := errO_not (by unfold Gate.whole; rw [hc']; simp)
        clear hc hc'
        go_wp2_with fail
        refine (as_ret HV.out (checkCount_any _ _ _ _ _ _ _ _ _ hwr hor)).mono ?_
        rintro e w1 ⟨rfl, hb1⟩
        go_wp2_with fail
        go_ret
        exact ⟨by rw [HW.out]; rfl, hB.trans (hb1.mono (by omega))⟩
    · have hwh : Gate.whole ss o = true := HStg.out
      have HW : Hid (errO ss o = errV (Gate.valRes (Gate.shapeOf ss o.kd).fs o.vs).1 (Gate.valRes (Gate.shapeOf ss o.kd).fs o.vs).2) := errO_whole hwh
      by_cases hc : (Gate.valRes (Gate.shapeOf ss o.kd).fs o.vs).1 = 0
      · have HV : Hid (errV (Gate.valRes (Gate.shapeOf ss o.kd).fs o.vs).1 (Gate.valRes (Gate.shapeOf ss o.kd).fs o.vs).2 = .nilIface) := by unfold Hid; rw [hc]; rfl
        have HS : Hid (stage ss o (4 + 1) = true) := by
          simp [stage, hwh, hc, Hid]
        have HCt : Hid (o.vs.length = (Gate.shapeOf ss o.kd).fs.length) := count_of_whole hwh
        clear hc hwh
        go_wp2_with fail
        refine (as_ret HV.out (checkValues_any _ _ _ _ _ _ _ _ _ hwr hor HCt.out)).mono ?_
        rintro e w1 ⟨rfl, hb1⟩
        go_wp2_with fail
        exact ⟨⟨4 + 1, by omega, by rfl, HS.out, hBr.trans (hb1.mono (by omega))⟩, by simp [intOf]⟩
      · have HV : Hid (errV (Gate.valRes (Gate.shapeOf ss o.kd).fs o.vs).1 (Gate.valRes (Gate.shapeOf ss o.kd).fs o.vs).2 = .iface 70 (.agg #[.int .i64 (Gate.valRes (Gate.shapeOf ss o.kd).fs o.vs).1, .int .i64 (Gate.valRes (Gate.shapeOf ss o.kd).fs o.vs).2])) := errV_of hc
        have HCt : Hid (o.vs.length = (Gate.shapeOf ss o.kd).fs.length) := count_of_whole hwh
        clear hc hwh
        go_wp2_with fail
        refine (as_ret HV.out (checkValues_any _ _ _ _ _ _ _ _ _ hwr hor HCt.out)).mono ?_
        rintro e w1 ⟨rfl, hb1⟩
        go_wp2_with fail
        go_ret
        exact ⟨by rw [HW.out, HV.out]; rfl, hB.trans (hb1.mono (by omega))⟩
    · have HW : Hid (errO ss o = .nilIface) := by
        have h0 := HStg.out
        simp only [stage, Bool.and_eq_true, decide_eq_true_eq] at h0
        unfold Hid; rw [errO_whole h0.1, h0.2]; rfl
      go_wp2_with fail
      go_ret
      exact ⟨by rw [HW.out]; rfl, hB⟩

end Go.Proofs.YtmmopakjaeokaaaDoor

namespace Go.Proofs.YtmmopakjaeokaaaDoor.Told
open Go.RowKit Go.Extern.Stop Go.Stop Go.Extern

theorem as_nil (t : Value) (w : World) :
    Calls Tryd.prog 34 #[.nilIface, t] w fun e w' => e = .returned (.bool false) ∧ w' = w := by
  go_enter Tryd.func34, Tryd.ntmps34
  go_wp2
  go_ret
  exact ⟨rfl, rfl⟩

/-- The Value of a pointer to a fault, and of a fault. -/
def vPtr (a : Addr) : Value := .agg #[.pointer (some ⟨1, 72, none⟩), .pointer (some a), .int .u64 150]
def vFault (a : Addr) : Value := .agg #[.pointer (some ⟨1, 70, none⟩), .pointer (some a), .int .u64 153]
def vVar (a : Addr) : Value := .agg #[.pointer (some ⟨1, 70, none⟩), .pointer (some a), .int .u64 409]

theorem valueOfP (t : Addr) (w : World) : (ReflectliteValue.unpack (.iface 72 (.pointer (some t)))).run Tryd.prog w
    = .ok (.agg #[.pointer (some ⟨1, 72, none⟩), .pointer (some ⟨w.heap.size, 0, none⟩), .int .u64 150]) (w.alloc (.cells #[.pointer (some t)] 72)) := by kernel_rfl
theorem typeP (a : Addr) (w : World) : (ReflectliteValue.methodAny (ReflectliteValue.valueError "reflectlite.Value.Type" 0) (fun t _ _ _ => ReflectliteType.toType t) #[.agg #[.pointer (some ⟨1, 72, none⟩), .pointer (some a), .int .u64 150]]).run Tryd.prog w
    = .ok (.iface 112 (.agg #[.pointer (some ⟨1, 72, none⟩)])) w := by kernel_rfl
theorem methodKind (h : Value) (w : World) : (Go.method 262 112 (.agg #[h]) "Kind").run Tryd.prog w = .ok (84, h) w := by kernel_rfl
theorem kindP (w : World) : ((ReflectliteType.abiMethod fun t => (fun a : Nat => Value.int IntKind.u8 (a : Int)) <$> Rtype.kind t) #[.pointer (some ⟨1, 72, none⟩)]).run Tryd.prog w = .ok (.int .u8 22) w := by kernel_rfl
theorem kindE (w : World) : ((ReflectliteType.abiMethod fun t => (fun a : Nat => Value.int IntKind.u8 (a : Int)) <$> Rtype.kind t) #[.pointer (some ⟨1, 70, none⟩)]).run Tryd.prog w = .ok (.int .u8 25) w := by kernel_rfl

theorem partsP (a : Addr) (w : World) : (ReflectliteValue.parts (.agg #[.pointer (some ⟨1, 72, none⟩), .pointer (some a), .int .u64 150])).run Tryd.prog w = .ok (some (72, a, 150)) w := by kernel_rfl
theorem isNilP (a p : Addr) (W : World) (ha : W.cell? a = some (.pointer (some p))) :
    (ReflectliteValue.method (ReflectliteValue.valueError "reflectlite.Value.IsNil" 0) ReflectliteValue.isNil #[.agg #[.pointer (some ⟨1, 72, none⟩), .pointer (some a), .int .u64 150]]).run Tryd.prog W = .ok (.bool false) W := by
  show (bind (ReflectliteValue.parts (.agg #[.pointer (some ⟨1, 72, none⟩), .pointer (some a), .int .u64 150])) _).run _ _ = _
  rw [Sem.run_bind, partsP]
  simp only [Result.andThen]
  simp [ReflectliteValue.isNil, loadVar, isAgg, underlying, Tryd.underlying72, ha, Result.andThen]

theorem methodElem (h : Value) (w : World) : (Go.method 262 112 (.agg #[h]) "Elem").run Tryd.prog w = .ok (111, .agg #[h]) w := by kernel_rfl
theorem methodImplements (h : Value) (w : World) : (Go.method 262 112 (.agg #[h]) "Implements").run Tryd.prog w = .ok (112, .agg #[h]) w := by kernel_rfl
theorem methodAssignableTo (h : Value) (w : World) : (Go.method 262 112 (.agg #[h]) "AssignableTo").run Tryd.prog w = .ok (109, .agg #[h]) w := by kernel_rfl
theorem elemP (w : World) : (ReflectliteType.method ReflectliteType.elem #[.agg #[.pointer (some ⟨1, 72, none⟩)]]).run Tryd.prog w = .ok (.iface 112 (.agg #[.pointer (some ⟨1, 70, none⟩)])) w := by kernel_rfl
theorem implementsE (w : World) : (ReflectliteType.relation "Implements" ReflectliteType.implements_ #[.agg #[.pointer (some ⟨1, 70, none⟩)], .iface 112 (.agg #[.pointer (some ⟨1, 50, none⟩)])]).run Tryd.prog w = .ok (.bool true) w := by kernel_rfl
theorem typeOfE (v : Value) (w : World) : (ReflectliteType.typeOf #[.iface 70 v]).run Tryd.prog w = .ok (.iface 112 (.agg #[.pointer (some ⟨1, 70, none⟩)])) w := by kernel_rfl
theorem assignableE (w : World) : (ReflectliteType.relation "AssignableTo" ReflectliteType.assignableTo #[.agg #[.pointer (some ⟨1, 70, none⟩)], .iface 112 (.agg #[.pointer (some ⟨1, 70, none⟩)])]).run Tryd.prog w = .ok (.bool true) w := by kernel_rfl
theorem valueOfE (c p : Value) (w : World) : (ReflectliteValue.unpack (.iface 70 (.agg #[c, p]))).run Tryd.prog w
    = .ok (.agg #[.pointer (some ⟨1, 70, none⟩), .pointer (some ⟨w.heap.size, 0, none⟩), .int .u64 153]) (w.alloc (.cells #[c, p] 70)) := by kernel_rfl

theorem elemOfP (w : World) : (Rtype.elem? 72).run Tryd.prog w = .ok (some 70) w := by kernel_rfl
theorem mkE (p : Addr) (w : World) : (ReflectliteValue.mk 70 p ReflectliteValue.flagAddr).run Tryd.prog w = .ok (.agg #[.pointer (some ⟨1, 70, none⟩), .pointer (some p), .int .u64 409]) w := by kernel_rfl
theorem elemVP (a p : Addr) (W : World) (ha : W.cell? a = some (.pointer (some p))) :
    (ReflectliteValue.method (ReflectliteValue.valueError "reflectlite.Value.Elem" 0) ReflectliteValue.elem #[.agg #[.pointer (some ⟨1, 72, none⟩), .pointer (some a), .int .u64 150]]).run Tryd.prog W
      = .ok (.agg #[.pointer (some ⟨1, 70, none⟩), .pointer (some p), .int .u64 409]) W := by
  show (bind (ReflectliteValue.parts (.agg #[.pointer (some ⟨1, 72, none⟩), .pointer (some a), .int .u64 150])) _).run _ _ = _
  rw [Sem.run_bind, partsP]
  simp only [Result.andThen]
  simp [ReflectliteValue.elem, loadVar, isAgg, underlying, Tryd.underlying72, ha, Result.andThen, elemOfP, mkE]
theorem partsVar (a : Addr) (w : World) : (ReflectliteValue.parts (.agg #[.pointer (some ⟨1, 70, none⟩), .pointer (some a), .int .u64 409])).run Tryd.prog w = .ok (some (70, a, 409)) w := by kernel_rfl
theorem partsE (a : Addr) (w : World) : (ReflectliteValue.parts (.agg #[.pointer (some ⟨1, 70, none⟩), .pointer (some a), .int .u64 153])).run Tryd.prog w = .ok (some (70, a, 153)) w := by kernel_rfl
theorem directE (w : World) : (Rtype.directlyAssignable 70 70).run Tryd.prog w = .ok true w := by kernel_rfl
theorem sizeE (w : World) : (sizeOf 70).run Tryd.prog w = .ok 2 w := by kernel_rfl

theorem setE (bt bs : Nat) (c p : Int) (x y : Value) (W : World) (hb0 : W.cell? ⟨bs, 0, none⟩ = some (.int .i64 c)) (hb1 : W.cell? ⟨bs, 1, none⟩ = some (.int .i64 p)) (ht0 : W.cell? ⟨bt, 0, none⟩ = some x) (ht1 : W.cell? ⟨bt, 1, none⟩ = some y) (hf0 : W.frozen? ⟨bt, 0, none⟩ = false) (hf1 : W.frozen? ⟨bt, 1, none⟩ = false) :
    (ReflectliteValue.set #[.agg #[.pointer (some ⟨1, 70, none⟩), .pointer (some ⟨bt, 0, none⟩), .int .u64 409], .agg #[.pointer (some ⟨1, 70, none⟩), .pointer (some ⟨bs, 0, none⟩), .int .u64 153]]).run Tryd.prog W
      = .ok (.tuple #[]) ((W.setCell ⟨bt, 0, none⟩ (.int .i64 c)).setCell ⟨bt, 1, none⟩ (.int .i64 p)) := by
  show (bind (ReflectliteValue.parts (.agg #[.pointer (some ⟨1, 70, none⟩), .pointer (some ⟨bt, 0, none⟩), .int .u64 409])) _).run _ _ = _
  rw [Sem.run_bind, partsVar]
  simp only [Result.andThen]
  show (bind (ReflectliteValue.parts (.agg #[.pointer (some ⟨1, 70, none⟩), .pointer (some ⟨bs, 0, none⟩), .int .u64 153])) _).run _ _ = _
  rw [Sem.run_bind, partsE]
  simp only [Result.andThen]
  simp [ReflectliteValue.flagAddr, Result.andThen, directE]
  have hl : (loadVar 70 ⟨bs, 0, none⟩).run Tryd.prog W = .ok (.agg #[.int .i64 c, .int .i64 p]) W := by
    simp [loadVar, isAgg, underlying, Tryd.underlying70, hb0, hb1, Addr.add, Result.andThen, go_sem]
  have hs : (storeVar 70 ⟨bt, 0, none⟩ (.agg #[.int .i64 c, .int .i64 p])).run Tryd.prog W = .ok () ((W.setCell ⟨bt, 0, none⟩ (.int .i64 c)).setCell ⟨bt, 1, none⟩ (.int .i64 p)) := by
    have s0 : (store ⟨bt, 0, none⟩ (.int .i64 c)).run Tryd.prog W = .ok () (W.setCell ⟨bt, 0, none⟩ (.int .i64 c)) := by
      rw [run_store Tryd.prog W ⟨bt, 0, none⟩ _ _ (by rfl)]; simp [ht0, hf0]
    have ht1' : (W.setCell ⟨bt, 0, none⟩ (.int .i64 c)).cell? ⟨bt, 1, none⟩ = some y := (World.cell?_setCell_other _ _ _ _ (by simp)).trans ht1
    have s1 : (store ⟨bt, 1, none⟩ (.int .i64 p)).run Tryd.prog (W.setCell ⟨bt, 0, none⟩ (.int .i64 c)) = .ok () ((W.setCell ⟨bt, 0, none⟩ (.int .i64 c)).setCell ⟨bt, 1, none⟩ (.int .i64 p)) := by
      rw [run_store Tryd.prog _ ⟨bt, 1, none⟩ _ _ (by rfl), ht1']; simp [hf1]
    simp [storeVar, Value.cells, storeCells, Addr.add]
    rw [s0]
    simp only [Result.andThen]
    rw [s1]
  rw [hl]
  simp only []
  rw [hs]

set_option maxHeartbeats 4000000 in
theorem as_hit (c p : Int) (bt : Nat) (x y : Value) (w : World) (hg : w.cell? ⟨0, 0, none⟩ = some (.iface 112 (.agg #[.pointer (some ⟨1, 50, none⟩)]))) (hbt : bt < w.heap.size)
    (ht0 : w.cell? ⟨bt, 0, none⟩ = some x) (ht1 : w.cell? ⟨bt, 1, none⟩ = some y) (hf0 : w.frozen? ⟨bt, 0, none⟩ = false) (hf1 : w.frozen? ⟨bt, 1, none⟩ = false) :
    Calls Tryd.prog 34 #[.iface 70 (.agg #[.int .i64 c, .int .i64 p]), .iface 72 (.pointer (some ⟨bt, 0, none⟩))] w fun e w' => e = .returned (.bool true) ∧ w' = ((((((w.alloc (.cells #[.pointer (some ⟨bt, 0, none⟩)] 72)).alloc (.cells #[.pointer (some ⟨1, 72, none⟩), .pointer (some ⟨w.heap.size, 0, none⟩), .int .u64 150] 95)).alloc (.cells #[.pointer (some ⟨1, 72, none⟩), .pointer (some ⟨w.heap.size, 0, none⟩), .int .u64 150] 95)).alloc (.cells #[.int .i64 c, .int .i64 p] 70)).setCell ⟨bt, 0, none⟩ (.int .i64 c)).setCell ⟨bt, 1, none⟩ (.int .i64 p)) := by
  have xValueOf := @run_callFunc_extern Tryd.prog 55 _ (fun args => ReflectliteValue.unpack (args.getD 0 (.tuple #[]))) Tryd.func55 (by kernel_rfl) (by kernel_rfl) (by kernel_rfl) (by kernel_rfl)
  have xType := @run_callFunc_extern Tryd.prog 56 _ (ReflectliteValue.methodAny (ReflectliteValue.valueError "reflectlite.Value.Type" 0) (fun t _ _ _ => ReflectliteType.toType t)) Tryd.func56 (by kernel_rfl) (by kernel_rfl) (by kernel_rfl) (by kernel_rfl)
  have xIsNil := @run_callFunc_extern Tryd.prog 57 _ (ReflectliteValue.method (ReflectliteValue.valueError "reflectlite.Value.IsNil" 0) ReflectliteValue.isNil) Tryd.func57 (by kernel_rfl) (by kernel_rfl) (by kernel_rfl) (by kernel_rfl)
  have xKind := @run_callFunc_extern Tryd.prog 84 _ (ReflectliteType.abiMethod fun t => do pure (.int .u8 (← Rtype.kind t))) Tryd.func84 (by kernel_rfl) (by kernel_rfl) (by kernel_rfl) (by kernel_rfl)
  have xREl := @run_callFunc_extern Tryd.prog 111 _ (ReflectliteType.method ReflectliteType.elem) Tryd.func111 (by kernel_rfl) (by kernel_rfl) (by kernel_rfl) (by kernel_rfl)
  have xImpl := @run_callFunc_extern Tryd.prog 112 _ (ReflectliteType.relation "Implements" ReflectliteType.implements_) Tryd.func112 (by kernel_rfl) (by kernel_rfl) (by kernel_rfl) (by kernel_rfl)
  have xTypeOf := @run_callFunc_extern Tryd.prog 67 _ (ReflectliteType.typeOf) Tryd.func67 (by kernel_rfl) (by kernel_rfl) (by kernel_rfl) (by kernel_rfl)
  have xAsg := @run_callFunc_extern Tryd.prog 109 _ (ReflectliteType.relation "AssignableTo" ReflectliteType.assignableTo) Tryd.func109 (by kernel_rfl) (by kernel_rfl) (by kernel_rfl) (by kernel_rfl)
  have xVEl := @run_callFunc_extern Tryd.prog 68 _ (ReflectliteValue.method (ReflectliteValue.valueError "reflectlite.Value.Elem" 0) ReflectliteValue.elem) Tryd.func68 (by kernel_rfl) (by kernel_rfl) (by kernel_rfl) (by kernel_rfl)
  have xSet := @run_callFunc_extern Tryd.prog 69 _ (ReflectliteValue.set) Tryd.func69 (by kernel_rfl) (by kernel_rfl) (by kernel_rfl) (by kernel_rfl)
  have ytypeOfE := typeOfE
  have ymethodAssignableTo := methodAssignableTo
  have yassignableE := assignableE
  have yvalueOfE := valueOfE
  have yvalueOfP := valueOfP
  have ytypeP := typeP
  have ymethodKind := methodKind
  have ymethodElem := methodElem
  have ymethodImplements := methodImplements
  have ykindP := kindP
  have ykindE := kindE
  have yelemP := elemP
  have yimplementsE := implementsE
  have hlt : 0 < w.heap.size := by omega
  have n8 := isNilP ⟨w.heap.size, 0, none⟩ ⟨bt, 0, none⟩ ((w.alloc (.cells #[.pointer (some ⟨bt, 0, none⟩)] 72)).alloc (.cells #[.pointer (some ⟨1, 72, none⟩), .pointer (some ⟨w.heap.size, 0, none⟩), .int .u64 150] 95)) (by simp)
  have hg2 : ((w.alloc (.cells #[.pointer (some ⟨bt, 0, none⟩)] 72)).alloc (.cells #[.pointer (some ⟨1, 72, none⟩), .pointer (some ⟨w.heap.size, 0, none⟩), .int .u64 150] 95)).cell? ⟨0, 0, none⟩ = some (.iface 112 (.agg #[.pointer (some ⟨1, 50, none⟩)])) := by
    rw [World.cell?_alloc_lt _ _ ⟨0, 0, none⟩ (by simp), World.cell?_alloc_lt _ _ ⟨0, 0, none⟩ hlt]; exact hg
  have el := elemVP ⟨w.heap.size, 0, none⟩ ⟨bt, 0, none⟩ (((w.alloc (.cells #[.pointer (some ⟨bt, 0, none⟩)] 72)).alloc (.cells #[.pointer (some ⟨1, 72, none⟩), .pointer (some ⟨w.heap.size, 0, none⟩), .int .u64 150] 95)).alloc (.cells #[.pointer (some ⟨1, 72, none⟩), .pointer (some ⟨w.heap.size, 0, none⟩), .int .u64 150] 95)) (by rw [World.cell?_alloc_lt _ _ ⟨w.heap.size, 0, none⟩ (by simp; omega)]; simp)
  have old : ∀ j, ((((w.alloc (.cells #[.pointer (some ⟨bt, 0, none⟩)] 72)).alloc (.cells #[.pointer (some ⟨1, 72, none⟩), .pointer (some ⟨w.heap.size, 0, none⟩), .int .u64 150] 95)).alloc (.cells #[.pointer (some ⟨1, 72, none⟩), .pointer (some ⟨w.heap.size, 0, none⟩), .int .u64 150] 95)).alloc (.cells #[.int .i64 c, .int .i64 p] 70)).cell? ⟨bt, j, none⟩ = w.cell? ⟨bt, j, none⟩ := fun j => by
    rw [World.cell?_alloc_lt _ _ ⟨bt, j, none⟩ (by simp; omega), World.cell?_alloc_lt _ _ ⟨bt, j, none⟩ (by simp; omega), World.cell?_alloc_lt _ _ ⟨bt, j, none⟩ (by simp; omega), World.cell?_alloc_lt _ _ ⟨bt, j, none⟩ hbt]
  have oldf : ∀ j, ((((w.alloc (.cells #[.pointer (some ⟨bt, 0, none⟩)] 72)).alloc (.cells #[.pointer (some ⟨1, 72, none⟩), .pointer (some ⟨w.heap.size, 0, none⟩), .int .u64 150] 95)).alloc (.cells #[.pointer (some ⟨1, 72, none⟩), .pointer (some ⟨w.heap.size, 0, none⟩), .int .u64 150] 95)).alloc (.cells #[.int .i64 c, .int .i64 p] 70)).frozen? ⟨bt, j, none⟩ = w.frozen? ⟨bt, j, none⟩ := fun j => by
    rw [World.frozen?_alloc_old _ _ ⟨bt, j, none⟩ (by simp; omega), World.frozen?_alloc_old _ _ ⟨bt, j, none⟩ (by simp; omega), World.frozen?_alloc_old _ _ ⟨bt, j, none⟩ (by simp; omega), World.frozen?_alloc_old _ _ ⟨bt, j, none⟩ (by simp; omega)]
  have st := setE bt (w.heap.size + 1 + 1 + 1) c p x y ((((w.alloc (.cells #[.pointer (some ⟨bt, 0, none⟩)] 72)).alloc (.cells #[.pointer (some ⟨1, 72, none⟩), .pointer (some ⟨w.heap.size, 0, none⟩), .int .u64 150] 95)).alloc (.cells #[.pointer (some ⟨1, 72, none⟩), .pointer (some ⟨w.heap.size, 0, none⟩), .int .u64 150] 95)).alloc (.cells #[.int .i64 c, .int .i64 p] 70)) (by rw [World.cell?_alloc_at _ _ _ _ (by simp)]; rfl) (by rw [World.cell?_alloc_at _ _ _ _ (by simp)]; rfl) ((old 0).trans ht0) ((old 1).trans ht1) ((oldf 0).trans hf0) ((oldf 1).trans hf1)
  clear old oldf
  go_enter Tryd.func34, Tryd.ntmps34
  go_wp2
  refine wp_loop_rounds 1 ?_
  rw [rounds_succ]
  go_wp2
  go_ret
  exact ⟨rfl, rfl⟩

end Go.Proofs.YtmmopakjaeokaaaDoor.Told

namespace Go.Proofs.YtmmopakjaeokaaaDoor
open Go.RowKit

/-- The library's variable that the asking needs holds what start-up lays. -/
def Laid (w : World) : Prop := w.cell? ⟨0, 0, none⟩ = some (.iface 112 (.agg #[.pointer (some ⟨1, 50, none⟩)]))

theorem Laid.pos {w : World} (h : Laid w) : 0 < w.heap.size := by
  rcases Nat.eq_zero_or_pos w.heap.size with h0 | h1
  · unfold Laid at h; simp [World.cell?, h0] at h
  · exact h1
theorem Laid.mono {w w' : World} (h : Laid w) (hb : Below w.heap.size w w') : Laid w' := (hb.cell (p := ⟨0, 0, none⟩) h.pos).trans h

set_option maxHeartbeats 1000000 in
theorem toldBy_nil (w : World) : Calls Tryd.prog 19 #[.nilIface] w fun e w' => e = .returned (.tuple #[.int .i64 0, .int .i64 0]) ∧ Below w.heap.size w w' := by
  go_enter Tryd.func19, Tryd.ntmps19
  go_wp2_with fail
  refine (Told.as_nil _ _).mono ?_
  rintro e w1 ⟨rfl, rfl⟩
  go_wp2_with fail
  go_ret2
  exact ⟨rfl, (Below.refl _ _).alloc (Nat.le_refl _) _⟩

set_option maxHeartbeats 1000000 in
theorem toldBy_hit (c p : Int) (w : World) (hL : Laid w) : Calls Tryd.prog 19 #[.iface 70 (.agg #[.int .i64 c, .int .i64 p])] w fun e w' => e = .returned (.tuple #[.int .i64 c, .int .i64 p]) ∧ Below w.heap.size w w' := by
  have HL : Hid (Laid (w.alloc (.cells #[.int .i64 0, .int .i64 0] 70))) := hL.mono ((Below.refl _ _).alloc (Nat.le_refl _) _)
  clear hL
  go_enter Tryd.func19, Tryd.ntmps19
  go_wp2_with fail
  refine (Told.as_hit c p _ (.int .i64 0) (.int .i64 0) _ HL.out (by simp) (by rw [World.cell?_alloc_at _ _ _ _ rfl]; rfl) (by rw [World.cell?_alloc_at _ _ _ _ rfl]; rfl) (by rw [World.frozen?_alloc_at _ _ _ _ rfl]) (by rw [World.frozen?_alloc_at _ _ _ _ rfl])).mono ?_
  rintro e w1 ⟨rfl, hw1⟩
  have hB : Below w.heap.size w w1 := by
    rw [hw1]
    exact ((((((((Below.refl _ _).alloc (Nat.le_refl _) _).alloc (by simp) _).alloc (by simp; omega) _).alloc (by simp; omega) _).alloc (by simp; omega) _)).setCell (Nat.le_refl _) _).setCell (Nat.le_refl _) _
  have hblk : w1.heap[w.heap.size]? = some (.cells ((#[.int .i64 0, .int .i64 0] : Array Value).setIfInBounds 0 (.int .i64 c) |>.setIfInBounds 1 (.int .i64 p)) 70) := by
    rw [hw1]
    refine heap_setCell_at (heap_setCell_at ?_ _) _
    exact ((((Below.refl (w.heap.size + 1) _).alloc (by simp) _).alloc (by simp) _).alloc (by simp) _ |>.alloc (by simp) _).block w.heap.size (by omega) |>.trans (alloc_at _ _)
  have hc0 : w1.cell? ⟨w.heap.size, 0, none⟩ = some (.int .i64 c) := by rw [cell_of_block hblk]; rfl
  have hc1 : w1.cell? ⟨w.heap.size, 1, none⟩ = some (.int .i64 p) := by rw [cell_of_block hblk]; rfl
  clear hblk
  clear hw1
  go_wp2_with fail
  go_quiet (fail)
  go_wp2_with fail
  go_ret2
  exact ⟨rfl, below_drewN hB _⟩

theorem valRes_zero {fs : List Fld} {vs : List ByteArray} (h : (Gate.valRes fs vs).1 = 0) : (Gate.valRes fs vs).2 = 0 := by
  unfold Gate.valRes at h ⊢
  cases hf : (List.range fs.length).find? (fun i => !Gate.valOkAt fs vs i) with
  | none => rfl
  | some i =>
    rw [hf] at h
    have hi := List.find?_some hf
    simp only [Gate.valOkAt, Bool.not_eq_true', decide_eq_false_iff_not] at hi
    exact absurd h hi
theorem checkRes_zero {ss : List Shp} {o : Ob} (h : (Gate.checkRes ss o).1 = 0) : (Gate.checkRes ss o).2 = 0 := by
  unfold Gate.checkRes at h ⊢
  split at h
  · rename_i hh; rw [if_pos hh]; exact valRes_zero h
  · cases h

theorem toldBy_any (ss : List Shp) (o : Ob) (w : World) (hL : Laid w) : Calls Tryd.prog 19 #[errO ss o] w fun e w' => e = .returned (.tuple #[.int .i64 (Gate.checkRes ss o).1, .int .i64 (Gate.checkRes ss o).2]) ∧ Below w.heap.size w w' := by
  by_cases h : (Gate.checkRes ss o).1 = 0
  · have h2 := checkRes_zero h
    unfold errO; rw [h, h2, errV_zero]; exact toldBy_nil w
  · unfold errO; rw [errV_of h]; exact toldBy_hit _ _ w hL

end Go.Proofs.YtmmopakjaeokaaaDoor
