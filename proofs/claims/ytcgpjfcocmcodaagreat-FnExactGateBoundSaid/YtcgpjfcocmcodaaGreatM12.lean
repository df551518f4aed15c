import Derived.Test.YtcgpjfcocmcodaaGreatM10
set_option maxHeartbeats 2000000
namespace Go.Proofs.YtcgpjfcocmcodaaGreat
open Go.RowKit
theorem zdu (nm:BA)(ls ms:Int)(a:OA)(cap:Nat)(ws:List BA)(to:BA)(rl:Int)(mu fx:Bool)(df wg:BA)(a0:OA)(cap0:Nat)(ss:List Shp)(w:World)(hw:yT w a0 ss) :
 Calls Tryz.prog 268 #[.agg #[.s nm,.i 4,.i ls,.i ms,.l a ws.length cap,.s to,.i rl,.bool mu,.bool fx,.s df,.s wg],.l a0 ss.length cap0] w fun e w'=>e=.returned (.bool (zW ss ⟨nm,4,ls,ms,ws,to,rl,mu,fx,df,wg⟩))/\Bw w w':=by
 have HF:Hid (zW ss ⟨nm,4,ls,ms,ws,to,rl,mu,fx,df,wg⟩=(zJ ss to&&(decide (1<=rl)&&decide (rl<=3))&&df.toList.isEmpty&&(decide (rl≠2)||!mu))):=by simp[zW,Hid]
 by_cases hk:zJ ss to=true
 rotate_left
 ·have hk':zJ ss to=false:=by simpa using hk
  have HK:Hid (zJ ss to=false):=hk';clear hk hk';go_enter Tryz.func268,Tryz.ntmps268;go_wp2_with fail
  refine(qJ _ _ _ _ _ (hw.mono (bAl _ _))).mono ?_;rintro e w1⟨fa,fcap,rfl,_,hb1⟩;rw[HK.o];have hX1:=za (zl w _ _) (by simp) hb1;have hz1:w.heap.size<w1.heap.size:=by have:=hb1.size;simp at this;omega
  have hB1:Bw w w1:=(bAl _ _).trans (hb1.mono (by simp));clear hb1 hw;go_wp2_with fail
  go_ret;exact⟨ze (by rw[HF.o,HK.o];rfl),hB1.alloc (by omega) _⟩
 have HK:Hid (zJ ss to=true):=hk;clear hk
 by_cases hd:df.toList.isEmpty=true
 rotate_left
 ·have hd':df.toList.isEmpty=false:=by simpa using hd
  clear hd;go_enter Tryz.func268,Tryz.ntmps268;go_wp2_with fail
  refine(qJ _ _ _ _ _ (hw.mono (bAl _ _))).mono ?_;rintro e w1⟨fa,fcap,rfl,_,hb1⟩;rw[HK.o];have hX1:=za (zl w _ _) (by simp) hb1;have hz1:w.heap.size<w1.heap.size:=by have:=hb1.size;simp at this;omega
  have hB1:Bw w w1:=(bAl _ _).trans (hb1.mono (by simp));clear hb1 hw;go_wp2_with fail
  go_ret;exact⟨ze (by rw[HF.o,HK.o,hd'];simp),hB1.alloc (by omega) _⟩
 by_cases h1:rl=1
 ·subst h1
  go_enter Tryz.func268,Tryz.ntmps268;go_wp2_with fail
  refine(qJ _ _ _ _ _ (hw.mono (bAl _ _))).mono ?_;rintro e w1⟨fa,fcap,rfl,_,hb1⟩;rw[HK.o];have hX1:=za (zl w _ _) (by simp) hb1;have hz1:w.heap.size<w1.heap.size:=by have:=hb1.size;simp at this;omega
  have hB1:Bw w w1:=(bAl _ _).trans (hb1.mono (by simp));clear hb1 hw;go_wp2_with fail
  go_ret;exact⟨ze (by rw[HF.o,HK.o,hd];rfl),hB1.alloc (by omega) _⟩
 by_cases h3:rl=3
 ·subst h3
  go_enter Tryz.func268,Tryz.ntmps268;go_wp2_with fail
  refine(qJ _ _ _ _ _ (hw.mono (bAl _ _))).mono ?_;rintro e w1⟨fa,fcap,rfl,_,hb1⟩;rw[HK.o];have hX1:=za (zl w _ _) (by simp) hb1;have hz1:w.heap.size<w1.heap.size:=by have:=hb1.size;simp at this;omega
  have hB1:Bw w w1:=(bAl _ _).trans (hb1.mono (by simp));clear hb1 hw;go_wp2_with fail
  go_ret;exact⟨ze (by rw[HF.o,HK.o,hd];rfl),hB1.alloc (by omega) _⟩
 by_cases h2:rl=2
 ·subst h2
  clear h1 h3;go_enter Tryz.func268,Tryz.ntmps268;go_wp2_with fail
  refine(qJ _ _ _ _ _ (hw.mono (bAl _ _))).mono ?_;rintro e w1⟨fa,fcap,rfl,_,hb1⟩;rw[HK.o];have hX1:=za (zl w _ _) (by simp) hb1;have hz1:w.heap.size<w1.heap.size:=by have:=hb1.size;simp at this;omega
  have hB1:Bw w w1:=(bAl _ _).trans (hb1.mono (by simp));clear hb1 hw;go_wp2_with fail
  go_ret;exact⟨ze (by rw[HF.o,HK.o,hd];rfl),hB1.alloc (by omega) _⟩
 ·have HR:Hid ((decide (1<=rl)&&decide (rl<=3))=false):=by unfold Hid;rw[Bool.eq_false_iff];simp;omega
  have e1:(rl == 1)=false:=by simpa using h1
  have e2:(rl == 2)=false:=by simpa using h2
  have e3:(rl == 3)=false:=by simpa using h3
  clear h1 h2 h3;go_enter Tryz.func268,Tryz.ntmps268;go_wp2_with fail
  refine(qJ _ _ _ _ _ (hw.mono (bAl _ _))).mono ?_;rintro e w1⟨fa,fcap,rfl,_,hb1⟩;rw[HK.o];have hX1:=za (zl w _ _) (by simp) hb1;have hz1:w.heap.size<w1.heap.size:=by have:=hb1.size;simp at this;omega
  have hB1:Bw w w1:=(bAl _ _).trans (hb1.mono (by simp));clear hb1 hw;go_wp2_with fail
  go_ret;exact⟨ze (by rw[HF.o,HK.o,HR.o];simp),hB1.alloc (by omega) _⟩
def yO:Array MapEntry:=#[⟨.i 1,.func (.func 197) #[] #[],0⟩,⟨.i 2,.func (.func 198) #[] #[],1⟩,⟨.i 3,.func (.func 199) #[] #[],2⟩,⟨.i 4,.func (.func 200) #[] #[],3⟩]
theorem zcS (w:World) :
 Calls Tryz.prog 166 #[] w fun e w'=>e=.returned (.map (some w.heap.size))/\w'=w.alloc (.map yO 4):=by
 have hmm:=@run_makeMap Tryz.prog;have i1:=zba (P:=Tryz.prog) Tryz.underlying208 Tryz.underlying3 (.i 1) (.func (.func 197) #[] #[]) rfl #[] 0 rfl;have i2:=zba (P:=Tryz.prog) Tryz.underlying208 Tryz.underlying3 (.i 2) (.func (.func 198) #[] #[]) rfl #[⟨.i 1,.func (.func 197) #[] #[],0⟩] 1 rfl;have i3:=zba (P:=Tryz.prog) Tryz.underlying208 Tryz.underlying3 (.i 3) (.func (.func 199) #[] #[]) rfl #[⟨.i 1,.func (.func 197) #[] #[],0⟩,⟨.i 2,.func (.func 198) #[] #[],1⟩] 2 rfl;have i4:=zba (P:=Tryz.prog) Tryz.underlying208 Tryz.underlying3 (.i 4) (.func (.func 200) #[] #[]) rfl #[⟨.i 1,.func (.func 197) #[] #[],0⟩,⟨.i 2,.func (.func 198) #[] #[],1⟩,⟨.i 3,.func (.func 199) #[] #[],2⟩] 3 rfl;simp only[List.push_toArray,List.cons_append,List.nil_append,Nat.zero_add,Nat.reduceAdd]at i1 i2 i3 i4;go_enter Tryz.func166,Tryz.ntmps166
 go_wp2
 go_ret;exact⟨rfl,rfl⟩
theorem zdN (nm:BA)(kd ls ms:Int)(a:OA)(n cap:Nat)(to:BA)(rl:Int)(mu fx:Bool)(df wg:BA)(w:World) :
 Calls Tryz.prog 197 #[.agg #[.s nm,.i kd,.i ls,.i ms,.l a n cap,.s to,.i rl,.bool mu,.bool fx,.s df,.s wg]] w
  fun e w'=>e=.returned (.iface 240 (.agg #[.s nm,.i kd,.i ls,.i ms,.l a n cap,.s to,.i rl,.bool mu,.bool fx,.s df,.s wg]))/\Bw w w':=by
 go_enter Tryz.func197,Tryz.ntmps197
 go_wp2
 go_ret;exact⟨rfl,bAl _ _⟩
theorem zdT (nm:BA)(kd ls ms:Int)(a:OA)(n cap:Nat)(to:BA)(rl:Int)(mu fx:Bool)(df wg:BA)(w:World) :
 Calls Tryz.prog 198 #[.agg #[.s nm,.i kd,.i ls,.i ms,.l a n cap,.s to,.i rl,.bool mu,.bool fx,.s df,.s wg]] w
  fun e w'=>e=.returned (.iface 242 (.agg #[.s nm,.i kd,.i ls,.i ms,.l a n cap,.s to,.i rl,.bool mu,.bool fx,.s df,.s wg]))/\Bw w w':=by
 go_enter Tryz.func198,Tryz.ntmps198
 go_wp2
 go_ret;exact⟨rfl,bAl _ _⟩
theorem zdC (nm:BA)(kd ls ms:Int)(a:OA)(n cap:Nat)(to:BA)(rl:Int)(mu fx:Bool)(df wg:BA)(w:World) :
 Calls Tryz.prog 199 #[.agg #[.s nm,.i kd,.i ls,.i ms,.l a n cap,.s to,.i rl,.bool mu,.bool fx,.s df,.s wg]] w
  fun e w'=>e=.returned (.iface 243 (.agg #[.s nm,.i kd,.i ls,.i ms,.l a n cap,.s to,.i rl,.bool mu,.bool fx,.s df,.s wg]))/\Bw w w':=by
 go_enter Tryz.func199,Tryz.ntmps199
 go_wp2
 go_ret;exact⟨rfl,bAl _ _⟩
theorem zdK (nm:BA)(kd ls ms:Int)(a:OA)(n cap:Nat)(to:BA)(rl:Int)(mu fx:Bool)(df wg:BA)(w:World) :
 Calls Tryz.prog 200 #[.agg #[.s nm,.i kd,.i ls,.i ms,.l a n cap,.s to,.i rl,.bool mu,.bool fx,.s df,.s wg]] w
  fun e w'=>e=.returned (.iface 244 (.agg #[.s nm,.i kd,.i ls,.i ms,.l a n cap,.s to,.i rl,.bool mu,.bool fx,.s df,.s wg]))/\Bw w w':=by
 go_enter Tryz.func200,Tryz.ntmps200
 go_wp2
 go_ret;exact⟨rfl,bAl _ _⟩
theorem zgY (x:Value)(w:World):(method 415 240 x "loop.example/wharfgate/impl.fits").run Tryz.prog w=.ok (256,x) w:=by kernel_rfl
theorem zgU (x:Value)(w:World):(method 415 242 x "loop.example/wharfgate/impl.fits").run Tryz.prog w=.ok (259,x) w:=by kernel_rfl
theorem zg2 (x:Value)(w:World):(method 415 243 x "loop.example/wharfgate/impl.fits").run Tryz.prog w=.ok (264,x) w:=by kernel_rfl
theorem zgt (x:Value)(w:World):(method 415 244 x "loop.example/wharfgate/impl.fits").run Tryz.prog w=.ok (267,x) w:=by kernel_rfl
theorem zns (r:Nat)(nm:BA)(ls ms:Int)(a:OA)(cap:Nat)(ws:List BA)(to:BA)(rl:Int)(mu fx:Bool)(df wg:BA)(v:BA)(w:World)(hr:w.heap[r]?=some (.map yO 4))(hv:v.size<=maxLen)(hz:¬v.size=0) :
 Calls Tryz.prog 203 #[.map (some r),.agg #[.s nm,.i 1,.i ls,.i ms,.l a ws.length cap,.s to,.i rl,.bool mu,.bool fx,.s df,.s wg],.s v] w
  fun e w'=>e=.returned (.bool (fits 1 ls ms ws v))/\Bw w w':=by
 rw[zoD ls ms ws v hz];have hne:v.toList.isEmpty=false:=by rw[zy];simp[hz]
 have hlt:r<w.heap.size:=(gES hr).1
 have hlk:∀o,(Instr.lookup 208 (.map (some r)) (.i 1) true).run Tryz.prog (w.alloc o)=.ok (.tuple #[.func (.func 197) #[] #[],.bool true]) (w.alloc o):=
  fun o=>yQ Tryz.underlying208 Tryz.underlying3 (.i 1) _ rfl yO 4 0 rfl (w.alloc o) r ((Below.heap_alloc w o r hlt).trans hr)
 clear hr;have hmt:=zgY;go_enter Tryz.func203,Tryz.ntmps203
 go_wp2_with (first
  | (go_at_call 197;refine(zdN _ _ _ _ _ _ _ _ _ _ _ _ _ _).mono ?_;rintro e w1⟨rfl,hb1⟩)
  | (go_at_call 256;refine(ze4 _ _ _ _ _ _ _ _ _ _ _ _ _ hv).mono ?_;rintro e w2⟨rfl,hb2⟩))
 go_ret;exact⟨rfl,((bAl _ _).trans (hb1.mono (by simp))).trans (hb2.mono (by have:=hb1.size;simp at this;omega))⟩
theorem znX (r:Nat)(nm:BA)(ls ms:Int)(a:OA)(cap:Nat)(ws:List BA)(to:BA)(rl:Int)(mu fx:Bool)(df wg:BA)(v:BA)(w:World)(hr:w.heap[r]?=some (.map yO 4))(hws:zG w a ws)(hz:¬v.size=0) :
 Calls Tryz.prog 203 #[.map (some r),.agg #[.s nm,.i 2,.i ls,.i ms,.l a ws.length cap,.s to,.i rl,.bool mu,.bool fx,.s df,.s wg],.s v] w
  fun e w'=>e=.returned (.bool (fits 2 ls ms ws v))/\Bw w w':=by
 rw[zph ls ms ws v hz];have hne:v.toList.isEmpty=false:=by rw[zy];simp[hz]
 have hlt:r<w.heap.size:=(gES hr).1
 have hlk:∀o,(Instr.lookup 208 (.map (some r)) (.i 2) true).run Tryz.prog (w.alloc o)=.ok (.tuple #[.func (.func 198) #[] #[],.bool true]) (w.alloc o):=
  fun o=>yQ Tryz.underlying208 Tryz.underlying3 (.i 2) _ rfl yO 4 1 rfl (w.alloc o) r ((Below.heap_alloc w o r hlt).trans hr)
 clear hr;have hmt:=zgU;go_enter Tryz.func203,Tryz.ntmps203
 go_wp2_with (first
  | (go_at_call 198;refine(zdT _ _ _ _ _ _ _ _ _ _ _ _ _ _).mono ?_;rintro e w1⟨rfl,hb1⟩;have hws1:=(hws.mono (bAl _ _)).mono hb1)
  | (go_at_call 259;refine(zgN _ _ _ _ _ _ _ _ _ _ _ _ _ _ _ (by exact hws1)).mono ?_;rintro e w2⟨rfl,hb2⟩))
 go_ret;exact⟨rfl,((bAl _ _).trans (hb1.mono (by simp))).trans (hb2.mono (by have:=hb1.size;simp at this;omega))⟩
theorem zny (r:Nat)(nm:BA)(ls ms:Int)(a:OA)(cap:Nat)(ws:List BA)(to:BA)(rl:Int)(mu fx:Bool)(df wg:BA)(v:BA)(w:World)(hr:w.heap[r]?=some (.map yO 4))(hv:v.size<=maxLen)(hz:¬v.size=0) :
 Calls Tryz.prog 203 #[.map (some r),.agg #[.s nm,.i 3,.i ls,.i ms,.l a ws.length cap,.s to,.i rl,.bool mu,.bool fx,.s df,.s wg],.s v] w
  fun e w'=>e=.returned (.bool (fits 3 ls ms ws v))/\Bw w w':=by
 rw[zl2 ls ms ws v hz];have hne:v.toList.isEmpty=false:=by rw[zy];simp[hz]
 have hlt:r<w.heap.size:=(gES hr).1
 have hlk:∀o,(Instr.lookup 208 (.map (some r)) (.i 3) true).run Tryz.prog (w.alloc o)=.ok (.tuple #[.func (.func 199) #[] #[],.bool true]) (w.alloc o):=
  fun o=>yQ Tryz.underlying208 Tryz.underlying3 (.i 3) _ rfl yO 4 2 rfl (w.alloc o) r ((Below.heap_alloc w o r hlt).trans hr)
 clear hr;have hmt:=zg2;go_enter Tryz.func203,Tryz.ntmps203
 go_wp2_with (first
  | (go_at_call 199;refine(zdC _ _ _ _ _ _ _ _ _ _ _ _ _ _).mono ?_;rintro e w1⟨rfl,hb1⟩)
  | (go_at_call 264;refine(zg5 _ _ _ _ _ _ _ _ _ _ _ _ _ hv).mono ?_;rintro e w2⟨rfl,hb2⟩))
 go_ret;exact⟨rfl,((bAl _ _).trans (hb1.mono (by simp))).trans (hb2.mono (by have:=hb1.size;simp at this;omega))⟩
theorem znJ (r:Nat)(nm:BA)(ls ms:Int)(a:OA)(cap:Nat)(ws:List BA)(to:BA)(rl:Int)(mu fx:Bool)(df wg:BA)(v:BA)(w:World)(hr:w.heap[r]?=some (.map yO 4))(hv:v.size<=maxLen)(hz:¬v.size=0) :
 Calls Tryz.prog 203 #[.map (some r),.agg #[.s nm,.i 4,.i ls,.i ms,.l a ws.length cap,.s to,.i rl,.bool mu,.bool fx,.s df,.s wg],.s v] w
  fun e w'=>e=.returned (.bool (fits 4 ls ms ws v))/\Bw w w':=by
 rw[zo5 ls ms ws v hz];have hne:v.toList.isEmpty=false:=by rw[zy];simp[hz]
 have hlt:r<w.heap.size:=(gES hr).1
 have hlk:∀o,(Instr.lookup 208 (.map (some r)) (.i 4) true).run Tryz.prog (w.alloc o)=.ok (.tuple #[.func (.func 200) #[] #[],.bool true]) (w.alloc o):=
  fun o=>yQ Tryz.underlying208 Tryz.underlying3 (.i 4) _ rfl yO 4 3 rfl (w.alloc o) r ((Below.heap_alloc w o r hlt).trans hr)
 clear hr;have hmt:=zgt;go_enter Tryz.func203,Tryz.ntmps203
 go_wp2_with (first
  | (go_at_call 200;refine(zdK _ _ _ _ _ _ _ _ _ _ _ _ _ _).mono ?_;rintro e w1⟨rfl,hb1⟩)
  | (go_at_call 267;refine(zgu _ _ _ _ _ _ _ _ _ _ _ _ _ hv).mono ?_;rintro e w2⟨rfl,hb2⟩))
 go_ret;exact⟨rfl,((bAl _ _).trans (hb1.mono (by simp))).trans (hb2.mono (by have:=hb1.size;simp at this;omega))⟩
theorem zlD (w:World):(zeroValue 241).run Tryz.prog w=.ok .nilFunc w:=by kernel_rfl
theorem zlF (kd:Int)(h1:kd≠1)(h2:kd≠2)(h3:kd≠3)(h4:kd≠4):Instr.findNow (.int .i64) (.i kd) yO.toList 0=some none:=by
 have e1:(kd == 1)=false:=by simpa using h1
 have e2:(kd == 2)=false:=by simpa using h2
 have e3:(kd == 3)=false:=by simpa using h3
 have e4:(kd == 4)=false:=by simpa using h4
 simp[Instr.findNow,Instr.sameNow,yO,e1,e2,e3,e4]
theorem ziV (r:Nat)(nm:BA)(kd ls ms:Int)(a:OA)(cap:Nat)(ws:List BA)(to:BA)(rl:Int)(mu fx:Bool)(df wg:BA)(v:BA)(w:World)(hr:w.heap[r]?=some (.map yO 4))(h1:kd≠1)(h2:kd≠2)(h3:kd≠3)(h4:kd≠4) :
 Calls Tryz.prog 203 #[.map (some r),.agg #[.s nm,.i kd,.i ls,.i ms,.l a ws.length cap,.s to,.i rl,.bool mu,.bool fx,.s df,.s wg],.s v] w
  fun e w'=>e=.returned (.bool (fits kd ls ms ws v))/\Bw w w':=by
 rw[zga kd ls ms ws v h1 h2 h3 h4];have hlt:r<w.heap.size:=(gES hr).1
 have hlk:∀o,(Instr.lookup 208 (.map (some r)) (.i kd) true).run Tryz.prog (w.alloc o)=.ok (.tuple #[.nilFunc,.bool false]) (w.alloc o):=
  fun o=>zcs Tryz.underlying208 Tryz.underlying3 (.i kd) _ rfl yO 4 (zlF kd h1 h2 h3 h4) (w.alloc o) (zlD _) r ((Below.heap_alloc w o r hlt).trans hr)
 clear hr h1 h2 h3 h4;go_enter Tryz.func203,Tryz.ntmps203;go_wp2_with fail
 go_ret;exact⟨rfl,bAl _ _⟩
theorem zgO (r:Nat)(nm:BA)(ls ms:Int)(a:OA)(cap:Nat)(ws:List BA)(to:BA)(rl:Int)(mu fx:Bool)(df wg:BA)(v:BA)(w:World)(hr:w.heap[r]?=some (.map yO 4))(hz:v.size=0) :
 Calls Tryz.prog 203 #[.map (some r),.agg #[.s nm,.i 1,.i ls,.i ms,.l a ws.length cap,.s to,.i rl,.bool mu,.bool fx,.s df,.s wg],.s v] w
  fun e w'=>e=.returned (.bool (fits 1 ls ms ws v))/\Bw w w':=by
 rw[zal 1 ls ms ws v hz];have hne:v.toList.isEmpty=true:=by rw[zy];simp[hz]
 clear hz;have hlt:r<w.heap.size:=(gES hr).1
 have hlk:∀o,(Instr.lookup 208 (.map (some r)) (.i 1) true).run Tryz.prog (w.alloc o)=.ok (.tuple #[.func (.func 197) #[] #[],.bool true]) (w.alloc o):=
  fun o=>yQ Tryz.underlying208 Tryz.underlying3 (.i 1) _ rfl yO 4 0 rfl (w.alloc o) r ((Below.heap_alloc w o r hlt).trans hr)
 clear hr;go_enter Tryz.func203,Tryz.ntmps203;go_wp2_with fail
 go_ret;exact⟨rfl,bAl _ _⟩
theorem zgJ (r:Nat)(nm:BA)(ls ms:Int)(a:OA)(cap:Nat)(ws:List BA)(to:BA)(rl:Int)(mu fx:Bool)(df wg:BA)(v:BA)(w:World)(hr:w.heap[r]?=some (.map yO 4))(hz:v.size=0) :
 Calls Tryz.prog 203 #[.map (some r),.agg #[.s nm,.i 2,.i ls,.i ms,.l a ws.length cap,.s to,.i rl,.bool mu,.bool fx,.s df,.s wg],.s v] w
  fun e w'=>e=.returned (.bool (fits 2 ls ms ws v))/\Bw w w':=by
 rw[zal 2 ls ms ws v hz];have hne:v.toList.isEmpty=true:=by rw[zy];simp[hz]
 clear hz;have hlt:r<w.heap.size:=(gES hr).1
 have hlk:∀o,(Instr.lookup 208 (.map (some r)) (.i 2) true).run Tryz.prog (w.alloc o)=.ok (.tuple #[.func (.func 198) #[] #[],.bool true]) (w.alloc o):=
  fun o=>yQ Tryz.underlying208 Tryz.underlying3 (.i 2) _ rfl yO 4 1 rfl (w.alloc o) r ((Below.heap_alloc w o r hlt).trans hr)
 clear hr;go_enter Tryz.func203,Tryz.ntmps203;go_wp2_with fail
 go_ret;exact⟨rfl,bAl _ _⟩
theorem zgA (r:Nat)(nm:BA)(ls ms:Int)(a:OA)(cap:Nat)(ws:List BA)(to:BA)(rl:Int)(mu fx:Bool)(df wg:BA)(v:BA)(w:World)(hr:w.heap[r]?=some (.map yO 4))(hz:v.size=0) :
 Calls Tryz.prog 203 #[.map (some r),.agg #[.s nm,.i 3,.i ls,.i ms,.l a ws.length cap,.s to,.i rl,.bool mu,.bool fx,.s df,.s wg],.s v] w
  fun e w'=>e=.returned (.bool (fits 3 ls ms ws v))/\Bw w w':=by
 rw[zal 3 ls ms ws v hz];have hne:v.toList.isEmpty=true:=by rw[zy];simp[hz]
 clear hz;have hlt:r<w.heap.size:=(gES hr).1
 have hlk:∀o,(Instr.lookup 208 (.map (some r)) (.i 3) true).run Tryz.prog (w.alloc o)=.ok (.tuple #[.func (.func 199) #[] #[],.bool true]) (w.alloc o):=
  fun o=>yQ Tryz.underlying208 Tryz.underlying3 (.i 3) _ rfl yO 4 2 rfl (w.alloc o) r ((Below.heap_alloc w o r hlt).trans hr)
 clear hr;go_enter Tryz.func203,Tryz.ntmps203;go_wp2_with fail
 go_ret;exact⟨rfl,bAl _ _⟩
theorem zgz (r:Nat)(nm:BA)(ls ms:Int)(a:OA)(cap:Nat)(ws:List BA)(to:BA)(rl:Int)(mu fx:Bool)(df wg:BA)(v:BA)(w:World)(hr:w.heap[r]?=some (.map yO 4))(hz:v.size=0) :
 Calls Tryz.prog 203 #[.map (some r),.agg #[.s nm,.i 4,.i ls,.i ms,.l a ws.length cap,.s to,.i rl,.bool mu,.bool fx,.s df,.s wg],.s v] w
  fun e w'=>e=.returned (.bool (fits 4 ls ms ws v))/\Bw w w':=by
 rw[zal 4 ls ms ws v hz];have hne:v.toList.isEmpty=true:=by rw[zy];simp[hz]
 clear hz;have hlt:r<w.heap.size:=(gES hr).1
 have hlk:∀o,(Instr.lookup 208 (.map (some r)) (.i 4) true).run Tryz.prog (w.alloc o)=.ok (.tuple #[.func (.func 200) #[] #[],.bool true]) (w.alloc o):=
  fun o=>yQ Tryz.underlying208 Tryz.underlying3 (.i 4) _ rfl yO 4 3 rfl (w.alloc o) r ((Below.heap_alloc w o r hlt).trans hr)
 clear hr;go_enter Tryz.func203,Tryz.ntmps203;go_wp2_with fail
 go_ret;exact⟨rfl,bAl _ _⟩
theorem zfI (r:Nat)(nm:BA)(kd ls ms:Int)(a:OA)(cap:Nat)(ws:List BA)(to:BA)(rl:Int)(mu fx:Bool)(df wg:BA)(v:BA)(w:World)(hr:w.heap[r]?=some (.map yO 4))(hv:v.size<=maxLen)(hws:zG w a ws) :
 Calls Tryz.prog 203 #[.map (some r),.agg #[.s nm,.i kd,.i ls,.i ms,.l a ws.length cap,.s to,.i rl,.bool mu,.bool fx,.s df,.s wg],.s v] w
  fun e w'=>e=.returned (.bool (fits kd ls ms ws v))/\Bw w w':=by
 by_cases h1:kd=1
 ·subst h1;by_cases hz:v.size=0
  ·exact zgO r nm ls ms a cap ws to rl mu fx df wg v w hr hz
  ·exact zns r nm ls ms a cap ws to rl mu fx df wg v w hr hv hz
 by_cases h2:kd=2
 ·subst h2;by_cases hz:v.size=0
  ·exact zgJ r nm ls ms a cap ws to rl mu fx df wg v w hr hz
  ·exact znX r nm ls ms a cap ws to rl mu fx df wg v w hr hws hz
 by_cases h3:kd=3
 ·subst h3;by_cases hz:v.size=0
  ·exact zgA r nm ls ms a cap ws to rl mu fx df wg v w hr hz
  ·exact zny r nm ls ms a cap ws to rl mu fx df wg v w hr hv hz
 by_cases h4:kd=4
 ·subst h4;by_cases hz:v.size=0
  ·exact zgz r nm ls ms a cap ws to rl mu fx df wg v w hr hz
  ·exact znJ r nm ls ms a cap ws to rl mu fx df wg v w hr hv hz
 exact ziV r nm kd ls ms a cap ws to rl mu fx df wg v w hr h1 h2 h3 h4
theorem zoj (nm:BA)(ls ms:Int)(a:OA)(cap:Nat)(ws:List BA)(to:BA)(rl:Int)(mu fx:Bool)(df wg:BA)(v:BA)(w:World)(hv:v.size<=maxLen) :
 Calls Tryz.prog 159 #[.agg #[.s nm,.i 1,.i ls,.i ms,.l a ws.length cap,.s to,.i rl,.bool mu,.bool fx,.s df,.s wg],.s v] w
  fun e w'=>e=.returned (.bool (fits 1 ls ms ws v))/\Bw w w':=by
 rw[zqJ]
 by_cases hd:zak v=true
 ·have HE:Hid (qU v=zgF v):=by unfold qU Hid;rw[hd];rfl
  have HF:Hid (zaF ls ms v=(decide (ls<=qU v)&&decide (qU v<=ms))):=by rw[HE.o];exact znU _ _ _ hd
  have h0:0<=qU v:=by rw[HE.o];exact zdm v hd
  go_enter Tryz.func159,Tryz.ntmps159
  go_wp2_with (first
   | (go_at_call 127;refine(zep _ _ hv).mono ?_;rintro e w'⟨rfl,rfl⟩)
   | (go_at_call 26;refine(yt _ _ _ _).mono ?_;rintro e w'⟨rfl,rfl⟩))
  go_ret;exact⟨ze HF.o.symm,bAl _ _⟩
 ·have hd':zak v=false:=by simpa using hd
  have HF:Hid (zaF ls ms v=false):=zkr _ _ _ hd';have h0:qU v<0:=by unfold qU;rw[hd'];simp
  go_enter Tryz.func159,Tryz.ntmps159
  go_wp2_with (first
   | (go_at_call 127;refine(zep _ _ hv).mono ?_;rintro e w'⟨rfl,rfl⟩)
   | (go_at_call 26;refine(yt _ _ _ _).mono ?_;rintro e w'⟨rfl,rfl⟩))
  go_ret;exact⟨ze HF.o.symm,bAl _ _⟩
theorem zop (nm:BA)(ls ms:Int)(a:OA)(cap:Nat)(ws:List BA)(to:BA)(rl:Int)(mu fx:Bool)(df wg:BA)(v:BA)(w:World)(hws:zG w a ws) :
 Calls Tryz.prog 159 #[.agg #[.s nm,.i 2,.i ls,.i ms,.l a ws.length cap,.s to,.i rl,.bool mu,.bool fx,.s df,.s wg],.s v] w
  fun e w'=>e=.returned (.bool (fits 2 ls ms ws v))/\Bw w w':=by
 by_cases hz:v.size=0
 ·rw[zal _ _ _ _ _ hz]
  have hne:v.toList.isEmpty=true:=by rw[zy];simp[hz]
  clear hz hws;go_enter Tryz.func159,Tryz.ntmps159;go_wp2_with fail
  go_ret;exact⟨rfl,bAl _ _⟩
 ·rw[zph _ _ _ _ hz]
  have hne:v.toList.isEmpty=false:=by rw[zy];simp[hz]
  go_enter Tryz.func159,Tryz.ntmps159
  go_wp2_with (go_at_call 193;refine(zcJ _ _ _ _ _ (by exact hws.mono (bAl _ _))).mono ?_;rintro e w'⟨rfl,rfl⟩)
  go_ret;exact⟨rfl,bAl _ _⟩
theorem zoF (nm:BA)(ls ms:Int)(a:OA)(cap:Nat)(ws:List BA)(to:BA)(rl:Int)(mu fx:Bool)(df wg:BA)(v:BA)(w:World)(hv:v.size<=maxLen) :
 Calls Tryz.prog 159 #[.agg #[.s nm,.i 4,.i ls,.i ms,.l a ws.length cap,.s to,.i rl,.bool mu,.bool fx,.s df,.s wg],.s v] w
  fun e w'=>e=.returned (.bool (fits 4 ls ms ws v))/\Bw w w':=by
 rw[zqa];go_enter Tryz.func159,Tryz.ntmps159
 go_wp2_with (go_at_call 25;refine(zk _ _ hv).mono ?_;rintro e w'⟨rfl,rfl⟩)
 go_ret;exact⟨rfl,bAl _ _⟩
theorem zj1 (nm:BA)(kd ls ms:Int)(a:OA)(cap:Nat)(ws:List BA)(to:BA)(rl:Int)(mu fx:Bool)(df wg:BA)(v:BA)(w:World)(h1:kd≠1)(h2:kd≠2)(h3:kd≠3)(h4:kd≠4) :
 Calls Tryz.prog 159 #[.agg #[.s nm,.i kd,.i ls,.i ms,.l a ws.length cap,.s to,.i rl,.bool mu,.bool fx,.s df,.s wg],.s v] w
  fun e w'=>e=.returned (.bool (fits kd ls ms ws v))/\Bw w w':=by
 rw[zga kd ls ms ws v h1 h2 h3 h4];have e1:(kd == 1)=false:=by simpa using h1
 have e2:(kd == 2)=false:=by simpa using h2
 have e3:(kd == 3)=false:=by simpa using h3
 have e4:(kd == 4)=false:=by simpa using h4
 clear h1 h2 h3 h4;go_enter Tryz.func159,Tryz.ntmps159;go_wp2_with fail
 go_ret;exact⟨rfl,bAl _ _⟩
theorem zn9 (nm:BA)(ls ms:Int)(a:OA)(cap:Nat)(ws:List BA)(to:BA)(rl:Int)(mu fx:Bool)(df wg:BA)(v:BA)(w:World)(hv:v.size<=maxLen) :
 Calls Tryz.prog 159 #[.agg #[.s nm,.i 3,.i ls,.i ms,.l a ws.length cap,.s to,.i rl,.bool mu,.bool fx,.s df,.s wg],.s v] w
  fun e w'=>e=.returned (.bool (fits 3 ls ms ws v))/\Bw w w':=by
 unfold maxLen at hv;go_enter Tryz.func159,Tryz.ntmps159;go_wp2_with fail
 go_loop [6] (fun i=>∃k:Nat,k<=v.size/\i=.i k/\(v.data.toList.take k).all qj=true) (fun i=>v.size-(intOf i).toNat)
 case atStart=>exact⟨0,Nat.zero_le _,rfl,rfl⟩
 case round=>
  obtain⟨k,hk,rfl,hall⟩:=hrel
  by_cases hlt:k<v.size
  ·have HS:Hid ((v.data.toList.take (k+1)).all qj=(true&&qj v[k])):=by rw[zaU _ v k hlt,hall];rfl
   have HN:Hid (qj v[k]=false->fits 3 ls ms ws v=false):=fun h=>zkP ls ms ws v (zb4 qj v k hlt h)
   clear hall
   by_cases h33:33<=(v[k].toNat:Int)/\(v[k].toNat:Int)<=126
   ·have HC:Hid (qj v[k]=true):=by simp[qj,Hid];omega
    obtain⟨ha,hb⟩:=h33
    go_wp2_with (go_at_call 26;refine(zbH _ _ _ _ (by omega) (by omega)).mono ?_;rintro e w'⟨rfl,rfl⟩)
    go_round
    case rel=>exact⟨k+1,by omega,by go_num,by rw[HS.o,HC.o];rfl⟩
    case measure=>simp[intOf];omega
   ·have HC:Hid (qj v[k]=false):=by simp[qj,Hid];omega
    have HD:Hid (¬(33<=(v[k].toNat:Int)/\(v[k].toNat:Int)<=126)):=h33;clear h33;have hby:(v[k].toNat:Int)<256:=by have:=v[k].toNat_lt;omega
    go_wp2_with (go_at_call 26;refine(zdl _ _ _ _ (by have:=HD.o;omega)).mono ?_;rintro e w'⟨rfl,rfl⟩)
    go_ret;exact⟨ze (HN.o HC.o).symm,bAl _ _⟩
  ·have HA:Hid (zbP v=true):=by unfold zbP Hid;rw[<- zat v k (by omega)];exact hall
   clear hall
   by_cases hz:v.size=0
   ·have HF:Hid (fits 3 ls ms ws v=false):=zal _ _ _ _ _ hz
    have hne:v.toList.isEmpty=true:=by rw[zy];simp[hz]
    clear hz;go_wp2_with fail
    go_ret;exact⟨ze HF.o.symm,bAl _ _⟩
   ·have HF:Hid (fits 3 ls ms ws v=(decide (ls<=v.size)&&decide ((v.size:Int)<=ms))):=zlh ls ms ws v HA.o hz
    have hne:v.toList.isEmpty=false:=by rw[zy];simp[hz]
    go_wp2_with (go_at_call 26;refine(yt _ _ _ _).mono ?_;rintro e w'⟨rfl,rfl⟩)
    go_ret;exact⟨ze HF.o.symm,bAl _ _⟩
theorem yX (nm:BA)(kd ls ms:Int)(a:OA)(cap:Nat)(ws:List BA)(to:BA)(rl:Int)(mu fx:Bool)(df wg:BA)(v:BA)(w:World)(hv:v.size<=maxLen)(hws:zG w a ws) :
 Calls Tryz.prog 159 #[.agg #[.s nm,.i kd,.i ls,.i ms,.l a ws.length cap,.s to,.i rl,.bool mu,.bool fx,.s df,.s wg],.s v] w
  fun e w'=>e=.returned (.bool (fits kd ls ms ws v))/\Bw w w':=by
 by_cases h1:kd=1
 ·subst h1;exact zoj nm ls ms a cap ws to rl mu fx df wg v w hv
 by_cases h2:kd=2
 ·subst h2;exact zop nm ls ms a cap ws to rl mu fx df wg v w hws
 by_cases h3:kd=3
 ·subst h3;exact zn9 nm ls ms a cap ws to rl mu fx df wg v w hv
 by_cases h4:kd=4
 ·subst h4;exact zoF nm ls ms a cap ws to rl mu fx df wg v w hv
 exact zj1 nm kd ls ms a cap ws to rl mu fx df wg v w h1 h2 h3 h4
theorem zn.setCell {lo:Nat}{w:World}{a:OA}{ws:List BA}(h:zn lo w a ws)(p:Addr)(hp:p.block<lo)(v:Value):zn lo (w.setCell p v) a ws:=by
 rcases h with⟨rfl,rfl⟩|⟨g,C,rfl,hg,hh,hc⟩
 ·exact Or.inl ⟨rfl,rfl⟩
 ·exact Or.inr ⟨g,C,rfl,hg,(Below.heap_setCell _ _ _ _ (by omega)).trans hh,hc⟩
theorem zn.low {lo lo':Nat}{w:World}{a:OA}{ws:List BA}(h:zn lo w a ws)(hl:lo'<=lo):zn lo' w a ws:=by
 rcases h with⟨rfl,rfl⟩|⟨g,C,rfl,hg,hh,hc⟩
 ·exact Or.inl ⟨rfl,rfl⟩
 ·exact Or.inr ⟨g,C,rfl,by omega,hh,hc⟩
structure Lw where
 ss:List Shp
 ms:List Mnd
 ts:List Tm
def Lw.cells (l:Lw)(a b c:OA)(ca cb cc:Nat):AV:=#[.l a l.ss.length ca,.l b l.ms.length cb,.l c l.ts.length cc]
structure jA (w:World)(l:Lw)(a b c:OA):Prop where
 ss:yT w a l.ss
 ms:qL w b l.ms
 ts:jR w c l.ts
theorem jA.mono {w w':World}{l:Lw}{a b c:OA}(h:jA w l a b c)(hb:Bw w w'):jA w' l a b c:=⟨h.ss.mono hb,h.ms.mono hb,h.ts.mono hb⟩
def Lw.sz (l:Lw):Nat:=zaS l.ss+zbm l.ms+zdn l.ts
structure Lw.Few (l:Lw):Prop where
 ss:l.ss.length<=1048576/\∀i (h:i<l.ss.length),l.ss[i].fs.length<=1048576/\∀j (h':j<l.ss[i].fs.length),l.ss[i].fs[j].ws.length<=1048576
 ms:l.ms.length<=1048576
 ts:l.ts.length<=1048576
theorem Lw.few {l:Lw}(h:(l.sz:Int)<=1048576):l.Few:=by
 unfold Lw.sz at h;refine⟨zqP (by omega),?_,?_⟩
 ·unfold zbm at h;omega
 ·unfold zdn at h;omega
theorem zk9 (l:Lw)(a b c:OA)(ca cb cc:Nat)(left:Int)(w:World)(hl:jA w l a b c)(h0:0<=left)(h1:left<=1048576) :
 Calls Tryz.prog 4 #[.agg (l.cells a b c ca cb cc),.i left] w fun e w'=>e=.returned (.i (zL l.sz left))/\Bw w w':=by
 have HL:Hid (jA w l a b c):=hl;clear hl;unfold Lw.cells;go_enter Tryz.func4,Tryz.ntmps4;go_wp2_with fail
 refine(zhM _ _ l.ss _ _ (HL.o.ss.mono (bAl _ _)) h0 h1).mono ?_;rintro e w1⟨rfl,hb⟩;have hX1:=za (zl w #[.l a l.ss.length ca,.l b l.ms.length cb,.l c l.ts.length cc] 26) (by simp) hb;have hz1:w.heap.size<w1.heap.size:=by have:=hb.size;simp at this;omega
 have hB1:Bw w w1:=(bAl _ _).trans (hb.mono (by simp));clear hb
 by_cases c1:(zaS l.ss:Int)<=left
 rotate_left
 ·have HF:Hid (zL l.sz left=-1):=zC (by unfold Lw.sz;omega)
  rw[zC c1];go_wp2_with fail
  go_ret;exact⟨zo HF.o.symm,hB1⟩
 rw[zM c1];go_wp2_with fail
 refine(ziX _ _ l.ms _ _ (HL.o.ms.mono hB1) (by omega) (by omega)).mono ?_;rintro e w2⟨rfl,hb⟩;have hX2:=za hX1 hz1 hb;have hz2:=nLt hz1 hb.size;have hB2:=hB1.trans (hb.mono hB1.size);clear hb hX1 hz1 hB1
 by_cases c2:(zbm l.ms:Int)<=left-zaS l.ss
 rotate_left
 ·have HF:Hid (zL l.sz left=-1):=zC (by unfold Lw.sz;omega)
  rw[zC c2];go_wp2_with fail
  go_ret;exact⟨zo HF.o.symm,hB2⟩
 rw[zM c2];go_wp2_with fail
 refine(ziU _ _ l.ts _ _ (HL.o.ts.mono hB2) (by omega) (by omega)).mono ?_;rintro e w3⟨rfl,hb⟩;have hB3:=hB2.trans (hb.mono hB2.size);clear hb hX2 hz2 hB2
 by_cases c3:(zdn l.ts:Int)<=left-zaS l.ss-zbm l.ms
 rotate_left
 ·have HF:Hid (zL l.sz left=-1):=zC (by unfold Lw.sz;omega)
  rw[zC c3];go_wp2_with fail
  go_ret;exact⟨zo HF.o.symm,hB3⟩
 have HF:Hid (zL l.sz left=left-zaS l.ss-zbm l.ms-zdn l.ts):=by
  unfold Hid;rw[zM (by unfold Lw.sz;omega)];unfold Lw.sz;omega
 rw[zM c3];go_wp2_with fail
 go_ret;exact⟨zo HF.o.symm,hB3⟩
theorem zlj (l:Lw)(a b c a' b' c':OA)(ca cb cc ca' cb' cc':Nat)(w:World)(hl:jA w l a b c)(hl':jA w l a' b' c') :
 Calls Tryz.prog 11 #[.agg (l.cells a b c ca cb cc),.agg (l.cells a' b' c' ca' cb' cc')] w fun e w'=>e=.returned (.bool true)/\Bw w w':=by
 unfold Lw.cells;go_enter Tryz.func11,Tryz.ntmps11;go_wp2_with fail
 refine(zhv _ _ _ _ l.ss _ (hl.ss.mono (zw _ _ _)) (hl'.ss.mono (zw _ _ _))).mono ?_;rintro e w1⟨rfl,hb⟩;have hX1:=za (za (zl w _ _) (by simp) (bAl _ _)) (by simp;omega) hb;have hY1:=za (zl (w.alloc (.cells #[.l a l.ss.length ca,.l b l.ms.length cb,.l c l.ts.length cc] 47)) #[.l a' l.ss.length ca',.l b' l.ms.length cb',.l c' l.ts.length cc'] 47) (by simp) hb;have hz1:w.heap.size+1<w1.heap.size:=by have:=hb.size;simp at this;omega
 have hB1:=(zw w _ _).trans (hb.mono (by simp;omega));rw[World.size_alloc]at hY1;clear hb;go_wp2_with fail
 refine(zi2 _ _ _ _ l.ms _ (hl.ms.mono hB1) (hl'.ms.mono hB1)).mono ?_;rintro e w2⟨rfl,hb⟩;have hX2:=za hX1 (nSl hz1) hb;have hY2:=za hY1 hz1 hb;have hz2:=nLt hz1 hb.size;have hB2:=hB1.trans (hb.mono hB1.size);clear hb hX1 hY1 hz1 hB1;go_wp2_with fail
 refine(ziJ _ _ _ _ l.ts _ (hl.ts.mono hB2) (hl'.ts.mono hB2)).mono ?_;rintro e w3⟨rfl,hb⟩;have hB3:=hB2.trans (hb.mono hB2.size);clear hb hX2 hY2 hz2 hB2;go_wp2_with fail
 go_ret;exact⟨rfl,hB3⟩
theorem below3' (w:World)(o o' o'':Obj):Bw w (((w.alloc o).alloc o').alloc o''):=((bAl _ _).alloc (by simp) _).alloc (by simp;omega) _
theorem zob (w:World)(o1 o2 o3:Obj):(((w.alloc o1).alloc o2).alloc o3).heap[w.heap.size]?=some o1/\(((w.alloc o1).alloc o2).alloc o3).heap[w.heap.size+1]?=some o2/\(((w.alloc o1).alloc o2).alloc o3).heap[w.heap.size+1+1]?=some o3:=by
 have h1:=(MapKept.heap_alloc w o1).1;have h2:=(MapKept.heap_alloc (w.alloc o1) o2).1;have h3:=(MapKept.heap_alloc ((w.alloc o1).alloc o2) o3).1;simp only[World.size_alloc]at h2 h3;exact⟨(Below.heap_alloc _ _ _ (by simp;omega)).trans ((Below.heap_alloc _ _ _ (by simp)).trans h1),(Below.heap_alloc _ _ _ (by simp)).trans h2,h3⟩
structure yN (lo:Nat)(w w':World):Prop where
 size:w.heap.size<=w'.heap.size
 same:∀b,lo<=b->b<w.heap.size->w'.heap[b]?=w.heap[b]?
theorem yN.trans {lo:Nat}{w w1 w2:World}(h:yN lo w w1)(h':yN lo w1 w2):yN lo w w2:=
 ⟨Nat.le_trans h.size h'.size,fun b h1 h2=>(h'.same b h1 (nLt h2 h.size)).trans (h.same b h1 h2)⟩
theorem yN.mono {lo lo':Nat}{w w':World}(h:yN lo w w')(hl:lo<=lo'):yN lo' w w':=⟨h.size,fun b h1 h2=>h.same b (Nat.le_trans hl h1) h2⟩
theorem yN.below {lo:Nat}{w w':World}(h:Bw w w'):yN lo w w':=⟨h.size,fun b _ h2=>h.block b h2⟩
theorem yN.setCell {lo:Nat}{w:World}{p:Addr}(hp:p.block<lo)(v:Value):yN lo w (w.setCell p v):=
 ⟨by rw[World.size_setCell];exact Nat.le_refl _,fun b h1 _=>Below.heap_setCell _ _ _ _ (by omega)⟩
theorem qF.above {lo:Nat}{w w':World}{bf:Nat}{fs:List Fld}{k:Nat}(h:qF lo w bf fs k)(ha:yN lo w w'):qF lo w' bf fs k:=by
 obtain⟨C,hC,hsz,hr⟩:=h.rows;refine⟨h.low,C,(ha.same _ h.low (gES hC).1).trans hC,hsz,fun i hi hk=>?_⟩;obtain⟨bk,h1,h2,h3,h4⟩:=hr i hi hk;exact⟨bk,h1,h2,(ha.same _ h1 (gES h3).1).trans h3,h4⟩
theorem jQ.above {lo:Nat}{w w':World}{bo:Nat}{ss:List Shp}{k:Nat}(h:jQ lo w bo ss k)(ha:yN lo w w'):jQ lo w' bo ss k:=by
 obtain⟨C,hC,hsz,hr⟩:=h.rows;refine⟨h.low,C,(ha.same _ h.low (gES hC).1).trans hC,hsz,fun i hi hk=>?_⟩;obtain⟨bf,h1,h2,h3,h4⟩:=hr i hi hk;exact⟨bf,h1,h2,h3.above (ha.mono (Nat.le_succ_of_le h.low)),h4⟩
theorem jd.above {lo:Nat}{w w':World}{bo:Nat}{ms:List Mnd}{k:Nat}(h:jd lo w bo ms k)(ha:yN lo w w'):jd lo w' bo ms k:=by
 obtain⟨C,hC,hr⟩:=h.rows;exact⟨h.low,C,(ha.same _ h.low (gES hC).1).trans hC,hr⟩
theorem zae.above {ty:TypeId}{lo:Nat}{w w':World}{bo:Nat}{ts:List Tm}{k:Nat}(h:zae ty lo w bo ts k)(ha:yN lo w w'):zae ty lo w' bo ts k:=by
 obtain⟨C,hC,hr⟩:=h.rows;exact⟨h.low,C,(ha.same _ h.low (gES hC).1).trans hC,hr⟩
structure znf (lo:Nat)(w:World)(l:Lw)(a b c:Nat):Prop where
 ss:jQ lo w a l.ss l.ss.length
 ms:jd lo w b l.ms l.ms.length
 ts:zae 127 lo w c l.ts l.ts.length
structure Lw.Small (l:Lw):Prop where
 ss:zdX l.ss
 ls:l.ss.length<=maxLen
 ms:∀i (h:i<l.ms.length),l.ms[i].Small
 lm:l.ms.length<=maxLen
 ts:∀i (h:i<l.ts.length),l.ts[i].Small
 lt:l.ts.length<=maxLen
theorem jA.small {w:World}{l:Lw}{a b c:OA}(h:jA w l a b c):l.Small:=⟨h.ss.smalls,h.ss.len,h.ms.small,h.ms.len,h.ts.small,h.ts.len⟩
theorem znf.at {lo:Nat}{w:World}{l:Lw}{a b c:Nat}(h:znf lo w l a b c)(hs:l.Small):jA w l (some (aD a 0)) (some (aD b 0)) (some (aD c 0)):=⟨h.ss.at hs.ss hs.ls,h.ms.at hs.ms hs.lm,h.ts.at hs.ts hs.lt⟩
end Go.Proofs.YtcgpjfcocmcodaaGreat
