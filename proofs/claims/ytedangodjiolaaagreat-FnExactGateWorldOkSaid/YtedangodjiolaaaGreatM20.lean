import Derived.Test.YtedangodjiolaaaGreatM17
set_option maxHeartbeats 1000000
namespace Go.Proofs.YtedangodjiolaaaGreat
open Go.RowKit
theorem yN (w:World)(X Y Z:AV)(r s t:TypeId):∃W0,W0=((w.alloc (.cells X r)).alloc (.cells Y s)).alloc (.cells Z t)/\(∀j,W0.cell? (aD (w.heap.size+1) j)=Y[j]?)/\(∀j,W0.cell? (aD (w.heap.size+1+1) j)=Z[j]?)/\w.heap.size+1+1<W0.heap.size/\Bw w W0:=by
 obtain⟨_,hB,hC⟩:=zkf w (.cells X r) (.cells Y s) (.cells Z t);exact⟨_,rfl,fun _=>cell_of_block hB,fun _=>cell_of_block hC,by simp,below3' _ _ _ _⟩
theorem zI (w:World)(X Y:AV)(s t:TypeId):∃W0,W0=(w.alloc (.cells X s)).alloc (.cells Y t)/\(∀j,W0.cell? (aD w.heap.size j)=X[j]?)/\(∀j,W0.cell? (aD (w.heap.size+1) j)=Y[j]?)/\w.heap.size+1<W0.heap.size/\Bw w W0:=by
 obtain⟨hX,hY⟩:=zcP w X Y s t;exact⟨_,rfl,hX,hY,by simp,zx _ _ _⟩
theorem zl7 (x:Ak)(a0 a1 a2:OA)(c0 c1 c2:Nat)(w:World) :
 Calls Tryz.prog 284 #[.agg #[],.agg (x.cells a0 a1 a2 c0 c1 c2)] w fun e w'=>e=.returned (.agg (({ x with kd:=ByteArray.empty,nm:=ByteArray.empty,tm:=ByteArray.empty,vs:=[],hs:=[] }:Ak).cells none none a2 0 0 c2))/\Bw w w':=by
 have HB:Hid (∀o1 o2 o3,Bw w (((w.alloc o1).alloc o2).alloc o3)):=fun o1 o2 o3=>below3' w o1 o2 o3
 unfold Ak.cells;go_enter Tryz.func284,Tryz.ntmps284;go_wp2_with fail
 refine bodyPost_ret (v:=.agg (({ x with kd:=ByteArray.empty,nm:=ByteArray.empty,tm:=ByteArray.empty,vs:=[],hs:=[] }:Ak).cells none none a2 0 0 c2)) (by simp[results,Tryz.results284,go_sem];rfl) rfl ⟨rfl,?_⟩;exact HB.o _ _ _
theorem zki (x:Ak)(a0 a1 a2:OA)(c0 c1 c2:Nat)(w:World) :
 Calls Tryz.prog 289 #[.agg #[],.agg (x.cells a0 a1 a2 c0 c1 c2)] w fun e w'=>e=.returned (.agg (({ x with kd:=ByteArray.empty,nm:=ByteArray.empty,vs:=[],sn:=0 }:Ak).cells none a1 a2 0 c1 c2))/\Bw w w':=by
 have HB:Hid (∀o1 o2 o3,Bw w (((w.alloc o1).alloc o2).alloc o3)):=fun o1 o2 o3=>below3' w o1 o2 o3
 unfold Ak.cells;go_enter Tryz.func289,Tryz.ntmps289;go_wp2_with fail
 refine bodyPost_ret (v:=.agg (({ x with kd:=ByteArray.empty,nm:=ByteArray.empty,vs:=[],sn:=0 }:Ak).cells none a1 a2 0 c1 c2)) (by simp[results,Tryz.results289,go_sem];rfl) rfl ⟨rfl,?_⟩;exact HB.o _ _ _
theorem zng (x:Ak)(a0 a1 a2:OA)(c0 c1 c2:Nat)(w:World) :
 Calls Tryz.prog 293 #[.agg #[],.agg (x.cells a0 a1 a2 c0 c1 c2)] w fun e w'=>e=.returned (.agg (({ x with kd:=ByteArray.empty,nm:=ByteArray.empty,sn:=0 }:Ak).cells a0 a1 a2 c0 c1 c2))/\Bw w w':=by
 have HB:Hid (∀o1 o2 o3,Bw w (((w.alloc o1).alloc o2).alloc o3)):=fun o1 o2 o3=>below3' w o1 o2 o3
 unfold Ak.cells;go_enter Tryz.func293,Tryz.ntmps293;go_wp2_with fail
 refine bodyPost_ret (v:=.agg (({ x with kd:=ByteArray.empty,nm:=ByteArray.empty,sn:=0 }:Ak).cells a0 a1 a2 c0 c1 c2)) (by simp[results,Tryz.results293,go_sem];rfl) rfl ⟨rfl,?_⟩;exact HB.o _ _ _
theorem zky (x:Ak)(a0 a1 a2:OA)(c0 c1 c2:Nat)(w:World) :
 Calls Tryz.prog 297 #[.agg #[],.agg (x.cells a0 a1 a2 c0 c1 c2)] w fun e w'=>e=.returned (.agg (({ x with kd:=ByteArray.empty,nm:=ByteArray.empty,hd:=ByteArray.empty }:Ak).cells a0 a1 a2 c0 c1 c2))/\Bw w w':=by
 have HB:Hid (∀o1 o2 o3,Bw w (((w.alloc o1).alloc o2).alloc o3)):=fun o1 o2 o3=>below3' w o1 o2 o3
 unfold Ak.cells;go_enter Tryz.func297,Tryz.ntmps297;go_wp2_with fail
 refine bodyPost_ret (v:=.agg (({ x with kd:=ByteArray.empty,nm:=ByteArray.empty,hd:=ByteArray.empty }:Ak).cells a0 a1 a2 c0 c1 c2)) (by simp[results,Tryz.results297,go_sem];rfl) rfl ⟨rfl,?_⟩;exact HB.o _ _ _
theorem zma (x:Ak)(a0 a1 a2:OA)(c0 c1 c2:Nat)(w:World) :
 Calls Tryz.prog 301 #[.agg #[],.agg (x.cells a0 a1 a2 c0 c1 c2)] w fun e w'=>e=.returned (.agg (({ x with to:=ByteArray.empty,r:=zfK }:Ak).cells a0 a1 none c0 c1 0))/\Bw w w':=by
 have HB:Hid (∀o1 o2 o3,Bw w (((w.alloc o1).alloc o2).alloc o3)):=fun o1 o2 o3=>below3' w o1 o2 o3
 unfold Ak.cells;go_enter Tryz.func301,Tryz.ntmps301;go_wp2_with fail
 refine bodyPost_ret (v:=.agg (({ x with to:=ByteArray.empty,r:=zfK }:Ak).cells a0 a1 none c0 c1 0)) (by simp[results,Tryz.results301,go_sem];rfl) rfl ⟨rfl,?_⟩;exact HB.o _ _ _
theorem zlQ (x:Ak)(a0 a1 a2:OA)(c0 c1 c2:Nat)(w:World) :
 Calls Tryz.prog 305 #[.agg #[],.agg (x.cells a0 a1 a2 c0 c1 c2)] w fun e w'=>e=.returned (.agg (({ x with no:=0 }:Ak).cells a0 a1 a2 c0 c1 c2))/\Bw w w':=by
 have HB:Hid (∀o1 o2 o3,Bw w (((w.alloc o1).alloc o2).alloc o3)):=fun o1 o2 o3=>below3' w o1 o2 o3
 unfold Ak.cells;go_enter Tryz.func305,Tryz.ntmps305;go_wp2_with fail
 refine bodyPost_ret (v:=.agg (({ x with no:=0 }:Ak).cells a0 a1 a2 c0 c1 c2)) (by simp[results,Tryz.results305,go_sem];rfl) rfl ⟨rfl,?_⟩;exact HB.o _ _ _
end Go.Proofs.YtedangodjiolaaaGreat
