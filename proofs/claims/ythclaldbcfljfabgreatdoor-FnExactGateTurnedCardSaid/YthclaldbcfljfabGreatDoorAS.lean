import Derived.Test.YthclaldbcfljfabGreatDoorProg
import Derived.WalkKit
import Derived.LaidEql
import Derived.Stop.Asserts
import Derived.RowKitTokens
namespace Go.Proofs.YthclaldbcfljfabGreatDoor.Told
open Go.RowKit Go.Extern.Stop Go.Stop Go.Extern

theorem as_nil (t : Value) (w : World) :
    Calls Tryz.prog 31 #[.nilIface, t] w fun e w' => e = .returned (.bool false) ∧ w' = w := by
  go_enter Tryz.func31, Tryz.ntmps31
  go_wp2
  go_ret
  exact ⟨rfl, rfl⟩

/-- The Value of a pointer to a fault, and of a fault. -/
def vPtr (a : Addr) : Value := .agg #[.pointer (some ⟨1, 70, none⟩), .pointer (some a), .int .u64 150]
def vFault (a : Addr) : Value := .agg #[.pointer (some ⟨1, 68, none⟩), .pointer (some a), .int .u64 153]
def vVar (a : Addr) : Value := .agg #[.pointer (some ⟨1, 68, none⟩), .pointer (some a), .int .u64 409]

theorem valueOfP (t : Addr) (w : World) : (ReflectliteValue.unpack (.iface 70 (.pointer (some t)))).run Tryz.prog w
    = .ok (.agg #[.pointer (some ⟨1, 70, none⟩), .pointer (some ⟨w.heap.size, 0, none⟩), .int .u64 150]) (w.alloc (.cells #[.pointer (some t)] 70)) := by kernel_rfl
theorem typeP (a : Addr) (w : World) : (ReflectliteValue.methodAny (ReflectliteValue.valueError "reflectlite.Value.Type" 0) (fun t _ _ _ => ReflectliteType.toType t) #[.agg #[.pointer (some ⟨1, 70, none⟩), .pointer (some a), .int .u64 150]]).run Tryz.prog w
    = .ok (.iface 117 (.agg #[.pointer (some ⟨1, 70, none⟩)])) w := by kernel_rfl
theorem methodKind (h : Value) (w : World) : (Go.method 264 117 (.agg #[h]) "Kind").run Tryz.prog w = .ok (88, h) w := by kernel_rfl
theorem kindP (w : World) : ((ReflectliteType.abiMethod fun t => (fun a : Nat => Value.int IntKind.u8 (a : Int)) <$> Rtype.kind t) #[.pointer (some ⟨1, 70, none⟩)]).run Tryz.prog w = .ok (.int .u8 22) w := by kernel_rfl
theorem kindE (w : World) : ((ReflectliteType.abiMethod fun t => (fun a : Nat => Value.int IntKind.u8 (a : Int)) <$> Rtype.kind t) #[.pointer (some ⟨1, 68, none⟩)]).run Tryz.prog w = .ok (.int .u8 25) w := by kernel_rfl

theorem partsP (a : Addr) (w : World) : (ReflectliteValue.parts (.agg #[.pointer (some ⟨1, 70, none⟩), .pointer (some a), .int .u64 150])).run Tryz.prog w = .ok (some (70, a, 150)) w := by kernel_rfl
theorem isNilP (a p : Addr) (W : World) (ha : W.cell? a = some (.pointer (some p))) :
    (ReflectliteValue.method (ReflectliteValue.valueError "reflectlite.Value.IsNil" 0) ReflectliteValue.isNil #[.agg #[.pointer (some ⟨1, 70, none⟩), .pointer (some a), .int .u64 150]]).run Tryz.prog W = .ok (.bool false) W := by
  show (bind (ReflectliteValue.parts (.agg #[.pointer (some ⟨1, 70, none⟩), .pointer (some a), .int .u64 150])) _).run _ _ = _
  rw [Sem.run_bind, partsP]
  simp only [Result.andThen]
  simp [ReflectliteValue.isNil, loadVar, isAgg, underlying, Tryz.underlying70, ha, Result.andThen]

theorem methodElem (h : Value) (w : World) : (Go.method 264 117 (.agg #[h]) "Elem").run Tryz.prog w = .ok (114, .agg #[h]) w := by kernel_rfl
theorem methodImplements (h : Value) (w : World) : (Go.method 264 117 (.agg #[h]) "Implements").run Tryz.prog w = .ok (115, .agg #[h]) w := by kernel_rfl
theorem methodAssignableTo (h : Value) (w : World) : (Go.method 264 117 (.agg #[h]) "AssignableTo").run Tryz.prog w = .ok (112, .agg #[h]) w := by kernel_rfl
theorem elemP (w : World) : (ReflectliteType.method ReflectliteType.elem #[.agg #[.pointer (some ⟨1, 70, none⟩)]]).run Tryz.prog w = .ok (.iface 117 (.agg #[.pointer (some ⟨1, 68, none⟩)])) w := by kernel_rfl
theorem implementsE (w : World) : (ReflectliteType.relation "Implements" ReflectliteType.implements_ #[.agg #[.pointer (some ⟨1, 68, none⟩)], .iface 117 (.agg #[.pointer (some ⟨1, 55, none⟩)])]).run Tryz.prog w = .ok (.bool true) w := by kernel_rfl
theorem typeOfE (v : Value) (w : World) : (ReflectliteType.typeOf #[.iface 68 v]).run Tryz.prog w = .ok (.iface 117 (.agg #[.pointer (some ⟨1, 68, none⟩)])) w := by kernel_rfl
theorem assignableE (w : World) : (ReflectliteType.relation "AssignableTo" ReflectliteType.assignableTo #[.agg #[.pointer (some ⟨1, 68, none⟩)], .iface 117 (.agg #[.pointer (some ⟨1, 68, none⟩)])]).run Tryz.prog w = .ok (.bool true) w := by kernel_rfl
theorem valueOfE (c p : Value) (w : World) : (ReflectliteValue.unpack (.iface 68 (.agg #[c, p]))).run Tryz.prog w
    = .ok (.agg #[.pointer (some ⟨1, 68, none⟩), .pointer (some ⟨w.heap.size, 0, none⟩), .int .u64 153]) (w.alloc (.cells #[c, p] 68)) := by kernel_rfl

theorem elemOfP (w : World) : (Rtype.elem? 70).run Tryz.prog w = .ok (some 68) w := by kernel_rfl
theorem mkE (p : Addr) (w : World) : (ReflectliteValue.mk 68 p ReflectliteValue.flagAddr).run Tryz.prog w = .ok (.agg #[.pointer (some ⟨1, 68, none⟩), .pointer (some p), .int .u64 409]) w := by kernel_rfl
theorem elemVP (a p : Addr) (W : World) (ha : W.cell? a = some (.pointer (some p))) :
    (ReflectliteValue.method (ReflectliteValue.valueError "reflectlite.Value.Elem" 0) ReflectliteValue.elem #[.agg #[.pointer (some ⟨1, 70, none⟩), .pointer (some a), .int .u64 150]]).run Tryz.prog W
      = .ok (.agg #[.pointer (some ⟨1, 68, none⟩), .pointer (some p), .int .u64 409]) W := by
  show (bind (ReflectliteValue.parts (.agg #[.pointer (some ⟨1, 70, none⟩), .pointer (some a), .int .u64 150])) _).run _ _ = _
  rw [Sem.run_bind, partsP]
  simp only [Result.andThen]
  simp [ReflectliteValue.elem, loadVar, isAgg, underlying, Tryz.underlying70, ha, Result.andThen, elemOfP, mkE]
theorem partsVar (a : Addr) (w : World) : (ReflectliteValue.parts (.agg #[.pointer (some ⟨1, 68, none⟩), .pointer (some a), .int .u64 409])).run Tryz.prog w = .ok (some (68, a, 409)) w := by kernel_rfl
theorem partsE (a : Addr) (w : World) : (ReflectliteValue.parts (.agg #[.pointer (some ⟨1, 68, none⟩), .pointer (some a), .int .u64 153])).run Tryz.prog w = .ok (some (68, a, 153)) w := by kernel_rfl
theorem directE (w : World) : (Rtype.directlyAssignable 68 68).run Tryz.prog w = .ok true w := by kernel_rfl
theorem sizeE (w : World) : (sizeOf 68).run Tryz.prog w = .ok 2 w := by kernel_rfl

theorem setE (bt bs : Nat) (c p : Int) (x y : Value) (W : World) (hb0 : W.cell? ⟨bs, 0, none⟩ = some (.int .i64 c)) (hb1 : W.cell? ⟨bs, 1, none⟩ = some (.int .i64 p)) (ht0 : W.cell? ⟨bt, 0, none⟩ = some x) (ht1 : W.cell? ⟨bt, 1, none⟩ = some y) (hf0 : W.frozen? ⟨bt, 0, none⟩ = false) (hf1 : W.frozen? ⟨bt, 1, none⟩ = false) :
    (ReflectliteValue.set #[.agg #[.pointer (some ⟨1, 68, none⟩), .pointer (some ⟨bt, 0, none⟩), .int .u64 409], .agg #[.pointer (some ⟨1, 68, none⟩), .pointer (some ⟨bs, 0, none⟩), .int .u64 153]]).run Tryz.prog W
      = .ok (.tuple #[]) ((W.setCell ⟨bt, 0, none⟩ (.int .i64 c)).setCell ⟨bt, 1, none⟩ (.int .i64 p)) := by
  show (bind (ReflectliteValue.parts (.agg #[.pointer (some ⟨1, 68, none⟩), .pointer (some ⟨bt, 0, none⟩), .int .u64 409])) _).run _ _ = _
  rw [Sem.run_bind, partsVar]
  simp only [Result.andThen]
  show (bind (ReflectliteValue.parts (.agg #[.pointer (some ⟨1, 68, none⟩), .pointer (some ⟨bs, 0, none⟩), .int .u64 153])) _).run _ _ = _
  rw [Sem.run_bind, partsE]
  simp only [Result.andThen]
  simp [ReflectliteValue.flagAddr, Result.andThen, directE]
  have hl : (loadVar 68 ⟨bs, 0, none⟩).run Tryz.prog W = .ok (.agg #[.int .i64 c, .int .i64 p]) W := by
    simp [loadVar, isAgg, underlying, Tryz.underlying68, hb0, hb1, Addr.add, Result.andThen, go_sem]
  have hs : (storeVar 68 ⟨bt, 0, none⟩ (.agg #[.int .i64 c, .int .i64 p])).run Tryz.prog W = .ok () ((W.setCell ⟨bt, 0, none⟩ (.int .i64 c)).setCell ⟨bt, 1, none⟩ (.int .i64 p)) := by
    have s0 : (store ⟨bt, 0, none⟩ (.int .i64 c)).run Tryz.prog W = .ok () (W.setCell ⟨bt, 0, none⟩ (.int .i64 c)) := by
      rw [run_store Tryz.prog W ⟨bt, 0, none⟩ _ _ (by rfl)]; simp [ht0, hf0]
    have ht1' : (W.setCell ⟨bt, 0, none⟩ (.int .i64 c)).cell? ⟨bt, 1, none⟩ = some y := (World.cell?_setCell_other _ _ _ _ (by simp)).trans ht1
    have s1 : (store ⟨bt, 1, none⟩ (.int .i64 p)).run Tryz.prog (W.setCell ⟨bt, 0, none⟩ (.int .i64 c)) = .ok () ((W.setCell ⟨bt, 0, none⟩ (.int .i64 c)).setCell ⟨bt, 1, none⟩ (.int .i64 p)) := by
      rw [run_store Tryz.prog _ ⟨bt, 1, none⟩ _ _ (by rfl), ht1']; simp [hf1]
    simp [storeVar, Value.cells, storeCells, Addr.add]
    rw [s0]
    simp only [Result.andThen]
    rw [s1]
  rw [hl]
  simp only []
  rw [hs]

set_option maxHeartbeats 4000000 in
theorem as_hit (c p : Int) (bt : Nat) (x y : Value) (w : World) (hg : w.cell? ⟨0, 0, none⟩ = some (.iface 117 (.agg #[.pointer (some ⟨1, 55, none⟩)]))) (hbt : bt < w.heap.size)
    (ht0 : w.cell? ⟨bt, 0, none⟩ = some x) (ht1 : w.cell? ⟨bt, 1, none⟩ = some y) (hf0 : w.frozen? ⟨bt, 0, none⟩ = false) (hf1 : w.frozen? ⟨bt, 1, none⟩ = false) :
    Calls Tryz.prog 31 #[.iface 68 (.agg #[.int .i64 c, .int .i64 p]), .iface 70 (.pointer (some ⟨bt, 0, none⟩))] w fun e w' => e = .returned (.bool true) ∧ w' = ((((((w.alloc (.cells #[.pointer (some ⟨bt, 0, none⟩)] 70)).alloc (.cells #[.pointer (some ⟨1, 70, none⟩), .pointer (some ⟨w.heap.size, 0, none⟩), .int .u64 150] 96)).alloc (.cells #[.pointer (some ⟨1, 70, none⟩), .pointer (some ⟨w.heap.size, 0, none⟩), .int .u64 150] 96)).alloc (.cells #[.int .i64 c, .int .i64 p] 68)).setCell ⟨bt, 0, none⟩ (.int .i64 c)).setCell ⟨bt, 1, none⟩ (.int .i64 p)) := by
  have xValueOf := @run_callFunc_extern Tryz.prog 51 _ (fun args => ReflectliteValue.unpack (args.getD 0 (.tuple #[]))) Tryz.func51 (by kernel_rfl) (by kernel_rfl) (by kernel_rfl) (by kernel_rfl)
  have xType := @run_callFunc_extern Tryz.prog 52 _ (ReflectliteValue.methodAny (ReflectliteValue.valueError "reflectlite.Value.Type" 0) (fun t _ _ _ => ReflectliteType.toType t)) Tryz.func52 (by kernel_rfl) (by kernel_rfl) (by kernel_rfl) (by kernel_rfl)
  have xIsNil := @run_callFunc_extern Tryz.prog 53 _ (ReflectliteValue.method (ReflectliteValue.valueError "reflectlite.Value.IsNil" 0) ReflectliteValue.isNil) Tryz.func53 (by kernel_rfl) (by kernel_rfl) (by kernel_rfl) (by kernel_rfl)
  have xKind := @run_callFunc_extern Tryz.prog 88 _ (ReflectliteType.abiMethod fun t => do pure (.int .u8 (← Rtype.kind t))) Tryz.func88 (by kernel_rfl) (by kernel_rfl) (by kernel_rfl) (by kernel_rfl)
  have xREl := @run_callFunc_extern Tryz.prog 114 _ (ReflectliteType.method ReflectliteType.elem) Tryz.func114 (by kernel_rfl) (by kernel_rfl) (by kernel_rfl) (by kernel_rfl)
  have xImpl := @run_callFunc_extern Tryz.prog 115 _ (ReflectliteType.relation "Implements" ReflectliteType.implements_) Tryz.func115 (by kernel_rfl) (by kernel_rfl) (by kernel_rfl) (by kernel_rfl)
  have xTypeOf := @run_callFunc_extern Tryz.prog 69 _ (ReflectliteType.typeOf) Tryz.func69 (by kernel_rfl) (by kernel_rfl) (by kernel_rfl) (by kernel_rfl)
  have xAsg := @run_callFunc_extern Tryz.prog 112 _ (ReflectliteType.relation "AssignableTo" ReflectliteType.assignableTo) Tryz.func112 (by kernel_rfl) (by kernel_rfl) (by kernel_rfl) (by kernel_rfl)
  have xVEl := @run_callFunc_extern Tryz.prog 70 _ (ReflectliteValue.method (ReflectliteValue.valueError "reflectlite.Value.Elem" 0) ReflectliteValue.elem) Tryz.func70 (by kernel_rfl) (by kernel_rfl) (by kernel_rfl) (by kernel_rfl)
  have xSet := @run_callFunc_extern Tryz.prog 71 _ (ReflectliteValue.set) Tryz.func71 (by kernel_rfl) (by kernel_rfl) (by kernel_rfl) (by kernel_rfl)
  have ytypeOfE := typeOfE
  have ymethodAssignableTo := methodAssignableTo
  have yassignableE := assignableE
  have yvalueOfE := valueOfE
  have yvalueOfP := valueOfP
  have ytypeP := typeP
  have ymethodKind := methodKind
  have ymethodElem := methodElem
  have ymethodImplements := methodImplements
  have ykindP := kindP
  have ykindE := kindE
  have yelemP := elemP
  have yimplementsE := implementsE
  have hlt : 0 < w.heap.size := by omega
  have n8 := isNilP ⟨w.heap.size, 0, none⟩ ⟨bt, 0, none⟩ ((w.alloc (.cells #[.pointer (some ⟨bt, 0, none⟩)] 70)).alloc (.cells #[.pointer (some ⟨1, 70, none⟩), .pointer (some ⟨w.heap.size, 0, none⟩), .int .u64 150] 96)) (by simp)
  have hg2 : ((w.alloc (.cells #[.pointer (some ⟨bt, 0, none⟩)] 70)).alloc (.cells #[.pointer (some ⟨1, 70, none⟩), .pointer (some ⟨w.heap.size, 0, none⟩), .int .u64 150] 96)).cell? ⟨0, 0, none⟩ = some (.iface 117 (.agg #[.pointer (some ⟨1, 55, none⟩)])) := by
    rw [World.cell?_alloc_lt _ _ ⟨0, 0, none⟩ (by simp), World.cell?_alloc_lt _ _ ⟨0, 0, none⟩ hlt]; exact hg
  have el := elemVP ⟨w.heap.size, 0, none⟩ ⟨bt, 0, none⟩ (((w.alloc (.cells #[.pointer (some ⟨bt, 0, none⟩)] 70)).alloc (.cells #[.pointer (some ⟨1, 70, none⟩), .pointer (some ⟨w.heap.size, 0, none⟩), .int .u64 150] 96)).alloc (.cells #[.pointer (some ⟨1, 70, none⟩), .pointer (some ⟨w.heap.size, 0, none⟩), .int .u64 150] 96)) (by rw [World.cell?_alloc_lt _ _ ⟨w.heap.size, 0, none⟩ (by simp; omega)]; simp)
  have old : ∀ j, ((((w.alloc (.cells #[.pointer (some ⟨bt, 0, none⟩)] 70)).alloc (.cells #[.pointer (some ⟨1, 70, none⟩), .pointer (some ⟨w.heap.size, 0, none⟩), .int .u64 150] 96)).alloc (.cells #[.pointer (some ⟨1, 70, none⟩), .pointer (some ⟨w.heap.size, 0, none⟩), .int .u64 150] 96)).alloc (.cells #[.int .i64 c, .int .i64 p] 68)).cell? ⟨bt, j, none⟩ = w.cell? ⟨bt, j, none⟩ := fun j => by
    rw [World.cell?_alloc_lt _ _ ⟨bt, j, none⟩ (by simp; omega), World.cell?_alloc_lt _ _ ⟨bt, j, none⟩ (by simp; omega), World.cell?_alloc_lt _ _ ⟨bt, j, none⟩ (by simp; omega), World.cell?_alloc_lt _ _ ⟨bt, j, none⟩ hbt]
  have oldf : ∀ j, ((((w.alloc (.cells #[.pointer (some ⟨bt, 0, none⟩)] 70)).alloc (.cells #[.pointer (some ⟨1, 70, none⟩), .pointer (some ⟨w.heap.size, 0, none⟩), .int .u64 150] 96)).alloc (.cells #[.pointer (some ⟨1, 70, none⟩), .pointer (some ⟨w.heap.size, 0, none⟩), .int .u64 150] 96)).alloc (.cells #[.int .i64 c, .int .i64 p] 68)).frozen? ⟨bt, j, none⟩ = w.frozen? ⟨bt, j, none⟩ := fun j => by
    rw [World.frozen?_alloc_old _ _ ⟨bt, j, none⟩ (by simp; omega), World.frozen?_alloc_old _ _ ⟨bt, j, none⟩ (by simp; omega), World.frozen?_alloc_old _ _ ⟨bt, j, none⟩ (by simp; omega), World.frozen?_alloc_old _ _ ⟨bt, j, none⟩ (by simp; omega)]
  have st := setE bt (w.heap.size + 1 + 1 + 1) c p x y ((((w.alloc (.cells #[.pointer (some ⟨bt, 0, none⟩)] 70)).alloc (.cells #[.pointer (some ⟨1, 70, none⟩), .pointer (some ⟨w.heap.size, 0, none⟩), .int .u64 150] 96)).alloc (.cells #[.pointer (some ⟨1, 70, none⟩), .pointer (some ⟨w.heap.size, 0, none⟩), .int .u64 150] 96)).alloc (.cells #[.int .i64 c, .int .i64 p] 68)) (by rw [World.cell?_alloc_at _ _ _ _ (by simp)]; rfl) (by rw [World.cell?_alloc_at _ _ _ _ (by simp)]; rfl) ((old 0).trans ht0) ((old 1).trans ht1) ((oldf 0).trans hf0) ((oldf 1).trans hf1)
  clear old oldf
  go_enter Tryz.func31, Tryz.ntmps31
  go_wp2
  refine wp_loop_rounds 1 ?_
  rw [rounds_succ]
  go_wp2
  go_ret
  exact ⟨rfl, rfl⟩

end Go.Proofs.YthclaldbcfljfabGreatDoor.Told
