import Derived.Test.YthdfpinbnncghaaGreatM17
set_option maxHeartbeats 1000000
namespace Go.Proofs.YthdfpinbnncghaaGreat
open Go.RowKit
theorem zbC (w:World)(X Y Z:AV)(r s t:TypeId):∃W0,W0=((w.alloc (.cells X r)).alloc (.cells Y s)).alloc (.cells Z t)/\(∀j,W0.cell? (aD (w.heap.size+1) j)=Y[j]?)/\(∀j,W0.cell? (aD (w.heap.size+1+1) j)=Z[j]?)/\w.heap.size+1+1<W0.heap.size/\Bw w W0:=by
 obtain⟨_,hB,hC⟩:=zkK w (.cells X r) (.cells Y s) (.cells Z t);exact⟨_,rfl,fun _=>cell_of_block hB,fun _=>cell_of_block hC,by simp,below3' _ _ _ _⟩
theorem zR (w:World)(X Y:AV)(s t:TypeId):∃W0,W0=(w.alloc (.cells X s)).alloc (.cells Y t)/\(∀j,W0.cell? (aD w.heap.size j)=X[j]?)/\(∀j,W0.cell? (aD (w.heap.size+1) j)=Y[j]?)/\w.heap.size+1<W0.heap.size/\Bw w W0:=by
 obtain⟨hX,hY⟩:=zci w X Y s t;exact⟨_,rfl,hX,hY,by simp,zx _ _ _⟩
theorem zmc (x:Ak)(a0 a1 a2:OA)(c0 c1 c2:Nat)(w:World) :
 Calls Tryz.prog 301 #[.agg #[],.agg (x.cells a0 a1 a2 c0 c1 c2)] w fun e w'=>e=.returned (.agg (({ x with kd:=ByteArray.empty,nm:=ByteArray.empty,tm:=ByteArray.empty,vs:=[],hs:=[] }:Ak).cells none none a2 0 0 c2))/\Bw w w':=by
 have HB:Hid (∀o1 o2 o3,Bw w (((w.alloc o1).alloc o2).alloc o3)):=fun o1 o2 o3=>below3' w o1 o2 o3
 unfold Ak.cells;go_enter Tryz.func301,Tryz.ntmps301;go_wp2_with fail
 refine bodyPost_ret (v:=.agg (({ x with kd:=ByteArray.empty,nm:=ByteArray.empty,tm:=ByteArray.empty,vs:=[],hs:=[] }:Ak).cells none none a2 0 0 c2)) (by simp[results,Tryz.results301,go_sem];rfl) rfl ⟨rfl,?_⟩;exact HB.o _ _ _
theorem zkU (x:Ak)(a0 a1 a2:OA)(c0 c1 c2:Nat)(w:World) :
 Calls Tryz.prog 306 #[.agg #[],.agg (x.cells a0 a1 a2 c0 c1 c2)] w fun e w'=>e=.returned (.agg (({ x with kd:=ByteArray.empty,nm:=ByteArray.empty,vs:=[],sn:=0 }:Ak).cells none a1 a2 0 c1 c2))/\Bw w w':=by
 have HB:Hid (∀o1 o2 o3,Bw w (((w.alloc o1).alloc o2).alloc o3)):=fun o1 o2 o3=>below3' w o1 o2 o3
 unfold Ak.cells;go_enter Tryz.func306,Tryz.ntmps306;go_wp2_with fail
 refine bodyPost_ret (v:=.agg (({ x with kd:=ByteArray.empty,nm:=ByteArray.empty,vs:=[],sn:=0 }:Ak).cells none a1 a2 0 c1 c2)) (by simp[results,Tryz.results306,go_sem];rfl) rfl ⟨rfl,?_⟩;exact HB.o _ _ _
theorem zoe (x:Ak)(a0 a1 a2:OA)(c0 c1 c2:Nat)(w:World) :
 Calls Tryz.prog 310 #[.agg #[],.agg (x.cells a0 a1 a2 c0 c1 c2)] w fun e w'=>e=.returned (.agg (({ x with kd:=ByteArray.empty,nm:=ByteArray.empty,sn:=0 }:Ak).cells a0 a1 a2 c0 c1 c2))/\Bw w w':=by
 have HB:Hid (∀o1 o2 o3,Bw w (((w.alloc o1).alloc o2).alloc o3)):=fun o1 o2 o3=>below3' w o1 o2 o3
 unfold Ak.cells;go_enter Tryz.func310,Tryz.ntmps310;go_wp2_with fail
 refine bodyPost_ret (v:=.agg (({ x with kd:=ByteArray.empty,nm:=ByteArray.empty,sn:=0 }:Ak).cells a0 a1 a2 c0 c1 c2)) (by simp[results,Tryz.results310,go_sem];rfl) rfl ⟨rfl,?_⟩;exact HB.o _ _ _
theorem zkY (x:Ak)(a0 a1 a2:OA)(c0 c1 c2:Nat)(w:World) :
 Calls Tryz.prog 314 #[.agg #[],.agg (x.cells a0 a1 a2 c0 c1 c2)] w fun e w'=>e=.returned (.agg (({ x with kd:=ByteArray.empty,nm:=ByteArray.empty,hd:=ByteArray.empty }:Ak).cells a0 a1 a2 c0 c1 c2))/\Bw w w':=by
 have HB:Hid (∀o1 o2 o3,Bw w (((w.alloc o1).alloc o2).alloc o3)):=fun o1 o2 o3=>below3' w o1 o2 o3
 unfold Ak.cells;go_enter Tryz.func314,Tryz.ntmps314;go_wp2_with fail
 refine bodyPost_ret (v:=.agg (({ x with kd:=ByteArray.empty,nm:=ByteArray.empty,hd:=ByteArray.empty }:Ak).cells a0 a1 a2 c0 c1 c2)) (by simp[results,Tryz.results314,go_sem];rfl) rfl ⟨rfl,?_⟩;exact HB.o _ _ _
theorem zmu (x:Ak)(a0 a1 a2:OA)(c0 c1 c2:Nat)(w:World) :
 Calls Tryz.prog 318 #[.agg #[],.agg (x.cells a0 a1 a2 c0 c1 c2)] w fun e w'=>e=.returned (.agg (({ x with to:=ByteArray.empty,r:=zgg }:Ak).cells a0 a1 none c0 c1 0))/\Bw w w':=by
 have HB:Hid (∀o1 o2 o3,Bw w (((w.alloc o1).alloc o2).alloc o3)):=fun o1 o2 o3=>below3' w o1 o2 o3
 unfold Ak.cells;go_enter Tryz.func318,Tryz.ntmps318;go_wp2_with fail
 refine bodyPost_ret (v:=.agg (({ x with to:=ByteArray.empty,r:=zgg }:Ak).cells a0 a1 none c0 c1 0)) (by simp[results,Tryz.results318,go_sem];rfl) rfl ⟨rfl,?_⟩;exact HB.o _ _ _
theorem zme (x:Ak)(a0 a1 a2:OA)(c0 c1 c2:Nat)(w:World) :
 Calls Tryz.prog 322 #[.agg #[],.agg (x.cells a0 a1 a2 c0 c1 c2)] w fun e w'=>e=.returned (.agg (({ x with no:=0 }:Ak).cells a0 a1 a2 c0 c1 c2))/\Bw w w':=by
 have HB:Hid (∀o1 o2 o3,Bw w (((w.alloc o1).alloc o2).alloc o3)):=fun o1 o2 o3=>below3' w o1 o2 o3
 unfold Ak.cells;go_enter Tryz.func322,Tryz.ntmps322;go_wp2_with fail
 refine bodyPost_ret (v:=.agg (({ x with no:=0 }:Ak).cells a0 a1 a2 c0 c1 c2)) (by simp[results,Tryz.results322,go_sem];rfl) rfl ⟨rfl,?_⟩;exact HB.o _ _ _
end Go.Proofs.YthdfpinbnncghaaGreat
