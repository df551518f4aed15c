import Derived.Test.YtnapmdofidgliaaGreatM12
set_option maxHeartbeats 2000000
namespace Go.Proofs.YtnapmdofidgliaaGreat
open Go.RowKit
theorem zdm (nm:ByteArray)(ls ms:Int)(a:Option Addr)(cap:Nat)(ws:List ByteArray)(to:ByteArray)(rl:Int)(mu fx:Bool)(df wg:ByteArray)(a0:Option Addr)(cap0:Nat)(ss:List Shp)(w:World)(hw:yU w a0 ss) :
 Calls Tryz.prog 259 #[.agg #[.string nm,.int .i64 4,.int .i64 ls,.int .i64 ms,.slice a ws.length cap,.string to,.int .i64 rl,.bool mu,.bool fx,.string df,.string wg],.slice a0 ss.length cap0] w fun e w'=>e=.returned (.bool (zZ ss ⟨nm,4,ls,ms,ws,to,rl,mu,fx,df,wg⟩))/\Below w.heap.size w w':=by
 have HF:Hid (zZ ss ⟨nm,4,ls,ms,ws,to,rl,mu,fx,df,wg⟩=(zG ss to&&(decide (1<=rl)&&decide (rl<=3))&&df.toList.isEmpty&&(decide (rl≠2)||!mu))):=by simp[zZ,Hid]
 by_cases hk:zG ss to=true
 rotate_left
 ·have hk':zG ss to=false:=by simpa using hk
  have HK:Hid (zG ss to=false):=hk';clear hk hk';go_enter Tryz.func259,Tryz.ntmps259;go_wp2_with fail
  refine(qJ _ _ _ _ _ (hw.mono (bAl _ _))).mono ?_;rintro e w1⟨fa,fcap,rfl,_,hb1⟩;rw[HK.out];have hX1:=za (zl w _ _) (by simp) hb1;have hz1:w.heap.size<w1.heap.size:=by have:=hb1.size;simp at this;omega
  have hB1:Below w.heap.size w w1:=(bAl _ _).trans (hb1.mono (by simp));clear hb1 hw;go_wp2_with fail
  go_ret;exact⟨ze (by rw[HF.out,HK.out];rfl),hB1.alloc (by omega) _⟩
 have HK:Hid (zG ss to=true):=hk;clear hk
 by_cases hd:df.toList.isEmpty=true
 rotate_left
 ·have hd':df.toList.isEmpty=false:=by simpa using hd
  clear hd;go_enter Tryz.func259,Tryz.ntmps259;go_wp2_with fail
  refine(qJ _ _ _ _ _ (hw.mono (bAl _ _))).mono ?_;rintro e w1⟨fa,fcap,rfl,_,hb1⟩;rw[HK.out];have hX1:=za (zl w _ _) (by simp) hb1;have hz1:w.heap.size<w1.heap.size:=by have:=hb1.size;simp at this;omega
  have hB1:Below w.heap.size w w1:=(bAl _ _).trans (hb1.mono (by simp));clear hb1 hw;go_wp2_with fail
  go_ret;exact⟨ze (by rw[HF.out,HK.out,hd'];simp),hB1.alloc (by omega) _⟩
 by_cases h1:rl=1
 ·subst h1
  go_enter Tryz.func259,Tryz.ntmps259;go_wp2_with fail
  refine(qJ _ _ _ _ _ (hw.mono (bAl _ _))).mono ?_;rintro e w1⟨fa,fcap,rfl,_,hb1⟩;rw[HK.out];have hX1:=za (zl w _ _) (by simp) hb1;have hz1:w.heap.size<w1.heap.size:=by have:=hb1.size;simp at this;omega
  have hB1:Below w.heap.size w w1:=(bAl _ _).trans (hb1.mono (by simp));clear hb1 hw;go_wp2_with fail
  go_ret;exact⟨ze (by rw[HF.out,HK.out,hd];rfl),hB1.alloc (by omega) _⟩
 by_cases h3:rl=3
 ·subst h3
  go_enter Tryz.func259,Tryz.ntmps259;go_wp2_with fail
  refine(qJ _ _ _ _ _ (hw.mono (bAl _ _))).mono ?_;rintro e w1⟨fa,fcap,rfl,_,hb1⟩;rw[HK.out];have hX1:=za (zl w _ _) (by simp) hb1;have hz1:w.heap.size<w1.heap.size:=by have:=hb1.size;simp at this;omega
  have hB1:Below w.heap.size w w1:=(bAl _ _).trans (hb1.mono (by simp));clear hb1 hw;go_wp2_with fail
  go_ret;exact⟨ze (by rw[HF.out,HK.out,hd];rfl),hB1.alloc (by omega) _⟩
 by_cases h2:rl=2
 ·subst h2
  clear h1 h3;go_enter Tryz.func259,Tryz.ntmps259;go_wp2_with fail
  refine(qJ _ _ _ _ _ (hw.mono (bAl _ _))).mono ?_;rintro e w1⟨fa,fcap,rfl,_,hb1⟩;rw[HK.out];have hX1:=za (zl w _ _) (by simp) hb1;have hz1:w.heap.size<w1.heap.size:=by have:=hb1.size;simp at this;omega
  have hB1:Below w.heap.size w w1:=(bAl _ _).trans (hb1.mono (by simp));clear hb1 hw;go_wp2_with fail
  go_ret;exact⟨ze (by rw[HF.out,HK.out,hd];rfl),hB1.alloc (by omega) _⟩
 ·have HR:Hid ((decide (1<=rl)&&decide (rl<=3))=false):=by unfold Hid;rw[Bool.eq_false_iff];simp;omega
  have e1:(rl == 1)=false:=by simpa using h1
  have e2:(rl == 2)=false:=by simpa using h2
  have e3:(rl == 3)=false:=by simpa using h3
  clear h1 h2 h3;go_enter Tryz.func259,Tryz.ntmps259;go_wp2_with fail
  refine(qJ _ _ _ _ _ (hw.mono (bAl _ _))).mono ?_;rintro e w1⟨fa,fcap,rfl,_,hb1⟩;rw[HK.out];have hX1:=za (zl w _ _) (by simp) hb1;have hz1:w.heap.size<w1.heap.size:=by have:=hb1.size;simp at this;omega
  have hB1:Below w.heap.size w w1:=(bAl _ _).trans (hb1.mono (by simp));clear hb1 hw;go_wp2_with fail
  go_ret;exact⟨ze (by rw[HF.out,HK.out,HR.out];simp),hB1.alloc (by omega) _⟩
def yQ:Array MapEntry:=#[⟨.int .i64 1,.func (.func 179) #[] #[],0⟩,⟨.int .i64 2,.func (.func 180) #[] #[],1⟩,⟨.int .i64 3,.func (.func 181) #[] #[],2⟩,⟨.int .i64 4,.func (.func 182) #[] #[],3⟩]
theorem zcS (w:World) :
 Calls Tryz.prog 144 #[] w fun e w'=>e=.returned (.map (some w.heap.size))/\w'=w.alloc (.map yQ 4):=by
 have hmm:=@run_makeMap Tryz.prog;have i1:=zbm (P:=Tryz.prog) Tryz.underlying212 Tryz.underlying3 (.int .i64 1) (.func (.func 179) #[] #[]) rfl #[] 0 rfl;have i2:=zbm (P:=Tryz.prog) Tryz.underlying212 Tryz.underlying3 (.int .i64 2) (.func (.func 180) #[] #[]) rfl #[⟨.int .i64 1,.func (.func 179) #[] #[],0⟩] 1 rfl;have i3:=zbm (P:=Tryz.prog) Tryz.underlying212 Tryz.underlying3 (.int .i64 3) (.func (.func 181) #[] #[]) rfl #[⟨.int .i64 1,.func (.func 179) #[] #[],0⟩,⟨.int .i64 2,.func (.func 180) #[] #[],1⟩] 2 rfl;have i4:=zbm (P:=Tryz.prog) Tryz.underlying212 Tryz.underlying3 (.int .i64 4) (.func (.func 182) #[] #[]) rfl #[⟨.int .i64 1,.func (.func 179) #[] #[],0⟩,⟨.int .i64 2,.func (.func 180) #[] #[],1⟩,⟨.int .i64 3,.func (.func 181) #[] #[],2⟩] 3 rfl;simp only[List.push_toArray,List.cons_append,List.nil_append,Nat.zero_add,Nat.reduceAdd]at i1 i2 i3 i4;go_enter Tryz.func144,Tryz.ntmps144
 go_wp2
 go_ret;exact⟨rfl,rfl⟩
theorem zdR (nm:ByteArray)(kd ls ms:Int)(a:Option Addr)(n cap:Nat)(to:ByteArray)(rl:Int)(mu fx:Bool)(df wg:ByteArray)(w:World) :
 Calls Tryz.prog 179 #[.agg #[.string nm,.int .i64 kd,.int .i64 ls,.int .i64 ms,.slice a n cap,.string to,.int .i64 rl,.bool mu,.bool fx,.string df,.string wg]] w
  fun e w'=>e=.returned (.iface 248 (.agg #[.string nm,.int .i64 kd,.int .i64 ls,.int .i64 ms,.slice a n cap,.string to,.int .i64 rl,.bool mu,.bool fx,.string df,.string wg]))/\Below w.heap.size w w':=by
 go_enter Tryz.func179,Tryz.ntmps179
 go_wp2
 go_ret;exact⟨rfl,bAl _ _⟩
theorem zdK (nm:ByteArray)(kd ls ms:Int)(a:Option Addr)(n cap:Nat)(to:ByteArray)(rl:Int)(mu fx:Bool)(df wg:ByteArray)(w:World) :
 Calls Tryz.prog 180 #[.agg #[.string nm,.int .i64 kd,.int .i64 ls,.int .i64 ms,.slice a n cap,.string to,.int .i64 rl,.bool mu,.bool fx,.string df,.string wg]] w
  fun e w'=>e=.returned (.iface 250 (.agg #[.string nm,.int .i64 kd,.int .i64 ls,.int .i64 ms,.slice a n cap,.string to,.int .i64 rl,.bool mu,.bool fx,.string df,.string wg]))/\Below w.heap.size w w':=by
 go_enter Tryz.func180,Tryz.ntmps180
 go_wp2
 go_ret;exact⟨rfl,bAl _ _⟩
theorem zdB (nm:ByteArray)(kd ls ms:Int)(a:Option Addr)(n cap:Nat)(to:ByteArray)(rl:Int)(mu fx:Bool)(df wg:ByteArray)(w:World) :
 Calls Tryz.prog 181 #[.agg #[.string nm,.int .i64 kd,.int .i64 ls,.int .i64 ms,.slice a n cap,.string to,.int .i64 rl,.bool mu,.bool fx,.string df,.string wg]] w
  fun e w'=>e=.returned (.iface 251 (.agg #[.string nm,.int .i64 kd,.int .i64 ls,.int .i64 ms,.slice a n cap,.string to,.int .i64 rl,.bool mu,.bool fx,.string df,.string wg]))/\Below w.heap.size w w':=by
 go_enter Tryz.func181,Tryz.ntmps181
 go_wp2
 go_ret;exact⟨rfl,bAl _ _⟩
theorem zdD (nm:ByteArray)(kd ls ms:Int)(a:Option Addr)(n cap:Nat)(to:ByteArray)(rl:Int)(mu fx:Bool)(df wg:ByteArray)(w:World) :
 Calls Tryz.prog 182 #[.agg #[.string nm,.int .i64 kd,.int .i64 ls,.int .i64 ms,.slice a n cap,.string to,.int .i64 rl,.bool mu,.bool fx,.string df,.string wg]] w
  fun e w'=>e=.returned (.iface 252 (.agg #[.string nm,.int .i64 kd,.int .i64 ls,.int .i64 ms,.slice a n cap,.string to,.int .i64 rl,.bool mu,.bool fx,.string df,.string wg]))/\Below w.heap.size w w':=by
 go_enter Tryz.func182,Tryz.ntmps182
 go_wp2
 go_ret;exact⟨rfl,bAl _ _⟩
theorem zgg (x:Value)(w:World):(method 418 248 x "loop.example/wharfgate/impl.fits").run Tryz.prog w=.ok (247,x) w:=by kernel_rfl
theorem zgI (x:Value)(w:World):(method 418 250 x "loop.example/wharfgate/impl.fits").run Tryz.prog w=.ok (250,x) w:=by kernel_rfl
theorem zgX (x:Value)(w:World):(method 418 251 x "loop.example/wharfgate/impl.fits").run Tryz.prog w=.ok (255,x) w:=by kernel_rfl
theorem zgL (x:Value)(w:World):(method 418 252 x "loop.example/wharfgate/impl.fits").run Tryz.prog w=.ok (258,x) w:=by kernel_rfl
theorem zn4 (r:Nat)(nm:ByteArray)(ls ms:Int)(a:Option Addr)(cap:Nat)(ws:List ByteArray)(to:ByteArray)(rl:Int)(mu fx:Bool)(df wg:ByteArray)(v:ByteArray)(w:World)(hr:w.heap[r]?=some (.map yQ 4))(hv:v.size<=maxLen)(hz:¬v.size=0) :
 Calls Tryz.prog 185 #[.map (some r),.agg #[.string nm,.int .i64 1,.int .i64 ls,.int .i64 ms,.slice a ws.length cap,.string to,.int .i64 rl,.bool mu,.bool fx,.string df,.string wg],.string v] w
  fun e w'=>e=.returned (.bool (fits 1 ls ms ws v))/\Below w.heap.size w w':=by
 rw[zon ls ms ws v hz];have hne:v.toList.isEmpty=false:=by rw[zq];simp[hz]
 have hlt:r<w.heap.size:=(gES hr).1
 have hlk:∀o,(Instr.lookup 212 (.map (some r)) (.int .i64 1) true).run Tryz.prog (w.alloc o)=.ok (.tuple #[.func (.func 179) #[] #[],.bool true]) (w.alloc o):=
  fun o=>yT Tryz.underlying212 Tryz.underlying3 (.int .i64 1) _ rfl yQ 4 0 rfl (w.alloc o) r ((Below.heap_alloc w o r hlt).trans hr)
 clear hr;have hmt:=zgg;go_enter Tryz.func185,Tryz.ntmps185
 go_wp2_with (first
  | (go_at_call 179;refine(zdR _ _ _ _ _ _ _ _ _ _ _ _ _ _).mono ?_;rintro e w1⟨rfl,hb1⟩)
  | (go_at_call 247;refine(ze7 _ _ _ _ _ _ _ _ _ _ _ _ _ hv).mono ?_;rintro e w2⟨rfl,hb2⟩))
 go_ret;exact⟨rfl,((bAl _ _).trans (hb1.mono (by simp))).trans (hb2.mono (by have:=hb1.size;simp at this;omega))⟩
theorem znd (r:Nat)(nm:ByteArray)(ls ms:Int)(a:Option Addr)(cap:Nat)(ws:List ByteArray)(to:ByteArray)(rl:Int)(mu fx:Bool)(df wg:ByteArray)(v:ByteArray)(w:World)(hr:w.heap[r]?=some (.map yQ 4))(hws:zD w a ws)(hz:¬v.size=0) :
 Calls Tryz.prog 185 #[.map (some r),.agg #[.string nm,.int .i64 2,.int .i64 ls,.int .i64 ms,.slice a ws.length cap,.string to,.int .i64 rl,.bool mu,.bool fx,.string df,.string wg],.string v] w
  fun e w'=>e=.returned (.bool (fits 2 ls ms ws v))/\Below w.heap.size w w':=by
 rw[zoZ ls ms ws v hz];have hne:v.toList.isEmpty=false:=by rw[zq];simp[hz]
 have hlt:r<w.heap.size:=(gES hr).1
 have hlk:∀o,(Instr.lookup 212 (.map (some r)) (.int .i64 2) true).run Tryz.prog (w.alloc o)=.ok (.tuple #[.func (.func 180) #[] #[],.bool true]) (w.alloc o):=
  fun o=>yT Tryz.underlying212 Tryz.underlying3 (.int .i64 2) _ rfl yQ 4 1 rfl (w.alloc o) r ((Below.heap_alloc w o r hlt).trans hr)
 clear hr;have hmt:=zgI;go_enter Tryz.func185,Tryz.ntmps185
 go_wp2_with (first
  | (go_at_call 180;refine(zdK _ _ _ _ _ _ _ _ _ _ _ _ _ _).mono ?_;rintro e w1⟨rfl,hb1⟩;have hws1:=(hws.mono (bAl _ _)).mono hb1)
  | (go_at_call 250;refine(zgV _ _ _ _ _ _ _ _ _ _ _ _ _ _ _ (by exact hws1)).mono ?_;rintro e w2⟨rfl,hb2⟩))
 go_ret;exact⟨rfl,((bAl _ _).trans (hb1.mono (by simp))).trans (hb2.mono (by have:=hb1.size;simp at this;omega))⟩
theorem zmF (r:Nat)(nm:ByteArray)(ls ms:Int)(a:Option Addr)(cap:Nat)(ws:List ByteArray)(to:ByteArray)(rl:Int)(mu fx:Bool)(df wg:ByteArray)(v:ByteArray)(w:World)(hr:w.heap[r]?=some (.map yQ 4))(hv:v.size<=maxLen)(hz:¬v.size=0) :
 Calls Tryz.prog 185 #[.map (some r),.agg #[.string nm,.int .i64 3,.int .i64 ls,.int .i64 ms,.slice a ws.length cap,.string to,.int .i64 rl,.bool mu,.bool fx,.string df,.string wg],.string v] w
  fun e w'=>e=.returned (.bool (fits 3 ls ms ws v))/\Below w.heap.size w w':=by
 rw[zlF ls ms ws v hz];have hne:v.toList.isEmpty=false:=by rw[zq];simp[hz]
 have hlt:r<w.heap.size:=(gES hr).1
 have hlk:∀o,(Instr.lookup 212 (.map (some r)) (.int .i64 3) true).run Tryz.prog (w.alloc o)=.ok (.tuple #[.func (.func 181) #[] #[],.bool true]) (w.alloc o):=
  fun o=>yT Tryz.underlying212 Tryz.underlying3 (.int .i64 3) _ rfl yQ 4 2 rfl (w.alloc o) r ((Below.heap_alloc w o r hlt).trans hr)
 clear hr;have hmt:=zgX;go_enter Tryz.func185,Tryz.ntmps185
 go_wp2_with (first
  | (go_at_call 181;refine(zdB _ _ _ _ _ _ _ _ _ _ _ _ _ _).mono ?_;rintro e w1⟨rfl,hb1⟩)
  | (go_at_call 255;refine(zgi _ _ _ _ _ _ _ _ _ _ _ _ _ hv).mono ?_;rintro e w2⟨rfl,hb2⟩))
 go_ret;exact⟨rfl,((bAl _ _).trans (hb1.mono (by simp))).trans (hb2.mono (by have:=hb1.size;simp at this;omega))⟩
theorem zmS (r:Nat)(nm:ByteArray)(ls ms:Int)(a:Option Addr)(cap:Nat)(ws:List ByteArray)(to:ByteArray)(rl:Int)(mu fx:Bool)(df wg:ByteArray)(v:ByteArray)(w:World)(hr:w.heap[r]?=some (.map yQ 4))(hv:v.size<=maxLen)(hz:¬v.size=0) :
 Calls Tryz.prog 185 #[.map (some r),.agg #[.string nm,.int .i64 4,.int .i64 ls,.int .i64 ms,.slice a ws.length cap,.string to,.int .i64 rl,.bool mu,.bool fx,.string df,.string wg],.string v] w
  fun e w'=>e=.returned (.bool (fits 4 ls ms ws v))/\Below w.heap.size w w':=by
 rw[zof ls ms ws v hz];have hne:v.toList.isEmpty=false:=by rw[zq];simp[hz]
 have hlt:r<w.heap.size:=(gES hr).1
 have hlk:∀o,(Instr.lookup 212 (.map (some r)) (.int .i64 4) true).run Tryz.prog (w.alloc o)=.ok (.tuple #[.func (.func 182) #[] #[],.bool true]) (w.alloc o):=
  fun o=>yT Tryz.underlying212 Tryz.underlying3 (.int .i64 4) _ rfl yQ 4 3 rfl (w.alloc o) r ((Below.heap_alloc w o r hlt).trans hr)
 clear hr;have hmt:=zgL;go_enter Tryz.func185,Tryz.ntmps185
 go_wp2_with (first
  | (go_at_call 182;refine(zdD _ _ _ _ _ _ _ _ _ _ _ _ _ _).mono ?_;rintro e w1⟨rfl,hb1⟩)
  | (go_at_call 258;refine(zgU _ _ _ _ _ _ _ _ _ _ _ _ _ hv).mono ?_;rintro e w2⟨rfl,hb2⟩))
 go_ret;exact⟨rfl,((bAl _ _).trans (hb1.mono (by simp))).trans (hb2.mono (by have:=hb1.size;simp at this;omega))⟩
theorem zk9 (w:World):(zeroValue 249).run Tryz.prog w=.ok .nilFunc w:=by kernel_rfl
theorem zln (kd:Int)(h1:kd≠1)(h2:kd≠2)(h3:kd≠3)(h4:kd≠4):Instr.findNow (.int .i64) (.int .i64 kd) yQ.toList 0=some none:=by
 have e1:(kd == 1)=false:=by simpa using h1
 have e2:(kd == 2)=false:=by simpa using h2
 have e3:(kd == 3)=false:=by simpa using h3
 have e4:(kd == 4)=false:=by simpa using h4
 simp[Instr.findNow,Instr.sameNow,yQ,e1,e2,e3,e4]
theorem ziS (r:Nat)(nm:ByteArray)(kd ls ms:Int)(a:Option Addr)(cap:Nat)(ws:List ByteArray)(to:ByteArray)(rl:Int)(mu fx:Bool)(df wg:ByteArray)(v:ByteArray)(w:World)(hr:w.heap[r]?=some (.map yQ 4))(h1:kd≠1)(h2:kd≠2)(h3:kd≠3)(h4:kd≠4) :
 Calls Tryz.prog 185 #[.map (some r),.agg #[.string nm,.int .i64 kd,.int .i64 ls,.int .i64 ms,.slice a ws.length cap,.string to,.int .i64 rl,.bool mu,.bool fx,.string df,.string wg],.string v] w
  fun e w'=>e=.returned (.bool (fits kd ls ms ws v))/\Below w.heap.size w w':=by
 rw[zf2 kd ls ms ws v h1 h2 h3 h4];have hlt:r<w.heap.size:=(gES hr).1
 have hlk:∀o,(Instr.lookup 212 (.map (some r)) (.int .i64 kd) true).run Tryz.prog (w.alloc o)=.ok (.tuple #[.nilFunc,.bool false]) (w.alloc o):=
  fun o=>zcu Tryz.underlying212 Tryz.underlying3 (.int .i64 kd) _ rfl yQ 4 (zln kd h1 h2 h3 h4) (w.alloc o) (zk9 _) r ((Below.heap_alloc w o r hlt).trans hr)
 clear hr h1 h2 h3 h4;go_enter Tryz.func185,Tryz.ntmps185;go_wp2_with fail
 go_ret;exact⟨rfl,bAl _ _⟩
theorem zg5 (r:Nat)(nm:ByteArray)(ls ms:Int)(a:Option Addr)(cap:Nat)(ws:List ByteArray)(to:ByteArray)(rl:Int)(mu fx:Bool)(df wg:ByteArray)(v:ByteArray)(w:World)(hr:w.heap[r]?=some (.map yQ 4))(hz:v.size=0) :
 Calls Tryz.prog 185 #[.map (some r),.agg #[.string nm,.int .i64 1,.int .i64 ls,.int .i64 ms,.slice a ws.length cap,.string to,.int .i64 rl,.bool mu,.bool fx,.string df,.string wg],.string v] w
  fun e w'=>e=.returned (.bool (fits 1 ls ms ws v))/\Below w.heap.size w w':=by
 rw[zaw 1 ls ms ws v hz];have hne:v.toList.isEmpty=true:=by rw[zq];simp[hz]
 clear hz;have hlt:r<w.heap.size:=(gES hr).1
 have hlk:∀o,(Instr.lookup 212 (.map (some r)) (.int .i64 1) true).run Tryz.prog (w.alloc o)=.ok (.tuple #[.func (.func 179) #[] #[],.bool true]) (w.alloc o):=
  fun o=>yT Tryz.underlying212 Tryz.underlying3 (.int .i64 1) _ rfl yQ 4 0 rfl (w.alloc o) r ((Below.heap_alloc w o r hlt).trans hr)
 clear hr;go_enter Tryz.func185,Tryz.ntmps185;go_wp2_with fail
 go_ret;exact⟨rfl,bAl _ _⟩
theorem zg1 (r:Nat)(nm:ByteArray)(ls ms:Int)(a:Option Addr)(cap:Nat)(ws:List ByteArray)(to:ByteArray)(rl:Int)(mu fx:Bool)(df wg:ByteArray)(v:ByteArray)(w:World)(hr:w.heap[r]?=some (.map yQ 4))(hz:v.size=0) :
 Calls Tryz.prog 185 #[.map (some r),.agg #[.string nm,.int .i64 2,.int .i64 ls,.int .i64 ms,.slice a ws.length cap,.string to,.int .i64 rl,.bool mu,.bool fx,.string df,.string wg],.string v] w
  fun e w'=>e=.returned (.bool (fits 2 ls ms ws v))/\Below w.heap.size w w':=by
 rw[zaw 2 ls ms ws v hz];have hne:v.toList.isEmpty=true:=by rw[zq];simp[hz]
 clear hz;have hlt:r<w.heap.size:=(gES hr).1
 have hlk:∀o,(Instr.lookup 212 (.map (some r)) (.int .i64 2) true).run Tryz.prog (w.alloc o)=.ok (.tuple #[.func (.func 180) #[] #[],.bool true]) (w.alloc o):=
  fun o=>yT Tryz.underlying212 Tryz.underlying3 (.int .i64 2) _ rfl yQ 4 1 rfl (w.alloc o) r ((Below.heap_alloc w o r hlt).trans hr)
 clear hr;go_enter Tryz.func185,Tryz.ntmps185;go_wp2_with fail
 go_ret;exact⟨rfl,bAl _ _⟩
theorem zhb (r:Nat)(nm:ByteArray)(ls ms:Int)(a:Option Addr)(cap:Nat)(ws:List ByteArray)(to:ByteArray)(rl:Int)(mu fx:Bool)(df wg:ByteArray)(v:ByteArray)(w:World)(hr:w.heap[r]?=some (.map yQ 4))(hz:v.size=0) :
 Calls Tryz.prog 185 #[.map (some r),.agg #[.string nm,.int .i64 3,.int .i64 ls,.int .i64 ms,.slice a ws.length cap,.string to,.int .i64 rl,.bool mu,.bool fx,.string df,.string wg],.string v] w
  fun e w'=>e=.returned (.bool (fits 3 ls ms ws v))/\Below w.heap.size w w':=by
 rw[zaw 3 ls ms ws v hz];have hne:v.toList.isEmpty=true:=by rw[zq];simp[hz]
 clear hz;have hlt:r<w.heap.size:=(gES hr).1
 have hlk:∀o,(Instr.lookup 212 (.map (some r)) (.int .i64 3) true).run Tryz.prog (w.alloc o)=.ok (.tuple #[.func (.func 181) #[] #[],.bool true]) (w.alloc o):=
  fun o=>yT Tryz.underlying212 Tryz.underlying3 (.int .i64 3) _ rfl yQ 4 2 rfl (w.alloc o) r ((Below.heap_alloc w o r hlt).trans hr)
 clear hr;go_enter Tryz.func185,Tryz.ntmps185;go_wp2_with fail
 go_ret;exact⟨rfl,bAl _ _⟩
theorem zgs (r:Nat)(nm:ByteArray)(ls ms:Int)(a:Option Addr)(cap:Nat)(ws:List ByteArray)(to:ByteArray)(rl:Int)(mu fx:Bool)(df wg:ByteArray)(v:ByteArray)(w:World)(hr:w.heap[r]?=some (.map yQ 4))(hz:v.size=0) :
 Calls Tryz.prog 185 #[.map (some r),.agg #[.string nm,.int .i64 4,.int .i64 ls,.int .i64 ms,.slice a ws.length cap,.string to,.int .i64 rl,.bool mu,.bool fx,.string df,.string wg],.string v] w
  fun e w'=>e=.returned (.bool (fits 4 ls ms ws v))/\Below w.heap.size w w':=by
 rw[zaw 4 ls ms ws v hz];have hne:v.toList.isEmpty=true:=by rw[zq];simp[hz]
 clear hz;have hlt:r<w.heap.size:=(gES hr).1
 have hlk:∀o,(Instr.lookup 212 (.map (some r)) (.int .i64 4) true).run Tryz.prog (w.alloc o)=.ok (.tuple #[.func (.func 182) #[] #[],.bool true]) (w.alloc o):=
  fun o=>yT Tryz.underlying212 Tryz.underlying3 (.int .i64 4) _ rfl yQ 4 3 rfl (w.alloc o) r ((Below.heap_alloc w o r hlt).trans hr)
 clear hr;go_enter Tryz.func185,Tryz.ntmps185;go_wp2_with fail
 go_ret;exact⟨rfl,bAl _ _⟩
theorem zfA (r:Nat)(nm:ByteArray)(kd ls ms:Int)(a:Option Addr)(cap:Nat)(ws:List ByteArray)(to:ByteArray)(rl:Int)(mu fx:Bool)(df wg:ByteArray)(v:ByteArray)(w:World)(hr:w.heap[r]?=some (.map yQ 4))(hv:v.size<=maxLen)(hws:zD w a ws) :
 Calls Tryz.prog 185 #[.map (some r),.agg #[.string nm,.int .i64 kd,.int .i64 ls,.int .i64 ms,.slice a ws.length cap,.string to,.int .i64 rl,.bool mu,.bool fx,.string df,.string wg],.string v] w
  fun e w'=>e=.returned (.bool (fits kd ls ms ws v))/\Below w.heap.size w w':=by
 by_cases h1:kd=1
 ·subst h1;by_cases hz:v.size=0
  ·exact zg5 r nm ls ms a cap ws to rl mu fx df wg v w hr hz
  ·exact zn4 r nm ls ms a cap ws to rl mu fx df wg v w hr hv hz
 by_cases h2:kd=2
 ·subst h2;by_cases hz:v.size=0
  ·exact zg1 r nm ls ms a cap ws to rl mu fx df wg v w hr hz
  ·exact znd r nm ls ms a cap ws to rl mu fx df wg v w hr hws hz
 by_cases h3:kd=3
 ·subst h3;by_cases hz:v.size=0
  ·exact zhb r nm ls ms a cap ws to rl mu fx df wg v w hr hz
  ·exact zmF r nm ls ms a cap ws to rl mu fx df wg v w hr hv hz
 by_cases h4:kd=4
 ·subst h4;by_cases hz:v.size=0
  ·exact zgs r nm ls ms a cap ws to rl mu fx df wg v w hr hz
  ·exact zmS r nm ls ms a cap ws to rl mu fx df wg v w hr hv hz
 exact ziS r nm kd ls ms a cap ws to rl mu fx df wg v w hr h1 h2 h3 h4
theorem zoH (nm:ByteArray)(ls ms:Int)(a:Option Addr)(cap:Nat)(ws:List ByteArray)(to:ByteArray)(rl:Int)(mu fx:Bool)(df wg:ByteArray)(v:ByteArray)(w:World)(hv:v.size<=maxLen) :
 Calls Tryz.prog 134 #[.agg #[.string nm,.int .i64 1,.int .i64 ls,.int .i64 ms,.slice a ws.length cap,.string to,.int .i64 rl,.bool mu,.bool fx,.string df,.string wg],.string v] w
  fun e w'=>e=.returned (.bool (fits 1 ls ms ws v))/\Below w.heap.size w w':=by
 rw[zqB]
 by_cases hd:zao v=true
 ·have HE:Hid (qZ v=zgM v):=by unfold qZ Hid;rw[hd];rfl
  have HF:Hid (zaI ls ms v=(decide (ls<=qZ v)&&decide (qZ v<=ms))):=by rw[HE.out];exact zmB _ _ _ hd
  have h0:0<=qZ v:=by rw[HE.out];exact zdb v hd
  go_enter Tryz.func134,Tryz.ntmps134
  go_wp2_with (first
   | (go_at_call 175;refine(zeu _ _ hv).mono ?_;rintro e w'⟨rfl,rfl⟩)
   | (go_at_call 61;refine(yB _ _ _ _).mono ?_;rintro e w'⟨rfl,rfl⟩))
  go_ret;exact⟨ze HF.out.symm,bAl _ _⟩
 ·have hd':zao v=false:=by simpa using hd
  have HF:Hid (zaI ls ms v=false):=zjX _ _ _ hd';have h0:qZ v<0:=by unfold qZ;rw[hd'];simp
  go_enter Tryz.func134,Tryz.ntmps134
  go_wp2_with (first
   | (go_at_call 175;refine(zeu _ _ hv).mono ?_;rintro e w'⟨rfl,rfl⟩)
   | (go_at_call 61;refine(yB _ _ _ _).mono ?_;rintro e w'⟨rfl,rfl⟩))
  go_ret;exact⟨ze HF.out.symm,bAl _ _⟩
theorem zo6 (nm:ByteArray)(ls ms:Int)(a:Option Addr)(cap:Nat)(ws:List ByteArray)(to:ByteArray)(rl:Int)(mu fx:Bool)(df wg:ByteArray)(v:ByteArray)(w:World)(hws:zD w a ws) :
 Calls Tryz.prog 134 #[.agg #[.string nm,.int .i64 2,.int .i64 ls,.int .i64 ms,.slice a ws.length cap,.string to,.int .i64 rl,.bool mu,.bool fx,.string df,.string wg],.string v] w
  fun e w'=>e=.returned (.bool (fits 2 ls ms ws v))/\Below w.heap.size w w':=by
 by_cases hz:v.size=0
 ·rw[zaw _ _ _ _ _ hz]
  have hne:v.toList.isEmpty=true:=by rw[zq];simp[hz]
  clear hz hws;go_enter Tryz.func134,Tryz.ntmps134;go_wp2_with fail
  go_ret;exact⟨rfl,bAl _ _⟩
 ·rw[zoZ _ _ _ _ hz]
  have hne:v.toList.isEmpty=false:=by rw[zq];simp[hz]
  go_enter Tryz.func134,Tryz.ntmps134
  go_wp2_with (go_at_call 173;refine(zcI _ _ _ _ _ (by exact hws.mono (bAl _ _))).mono ?_;rintro e w'⟨rfl,rfl⟩)
  go_ret;exact⟨rfl,bAl _ _⟩
theorem zoh (nm:ByteArray)(ls ms:Int)(a:Option Addr)(cap:Nat)(ws:List ByteArray)(to:ByteArray)(rl:Int)(mu fx:Bool)(df wg:ByteArray)(v:ByteArray)(w:World)(hv:v.size<=maxLen) :
 Calls Tryz.prog 134 #[.agg #[.string nm,.int .i64 4,.int .i64 ls,.int .i64 ms,.slice a ws.length cap,.string to,.int .i64 rl,.bool mu,.bool fx,.string df,.string wg],.string v] w
  fun e w'=>e=.returned (.bool (fits 4 ls ms ws v))/\Below w.heap.size w w':=by
 rw[zpt];go_enter Tryz.func134,Tryz.ntmps134
 go_wp2_with (go_at_call 104;refine(zi _ _ hv).mono ?_;rintro e w'⟨rfl,rfl⟩)
 go_ret;exact⟨rfl,bAl _ _⟩
theorem zjR (nm:ByteArray)(kd ls ms:Int)(a:Option Addr)(cap:Nat)(ws:List ByteArray)(to:ByteArray)(rl:Int)(mu fx:Bool)(df wg:ByteArray)(v:ByteArray)(w:World)(h1:kd≠1)(h2:kd≠2)(h3:kd≠3)(h4:kd≠4) :
 Calls Tryz.prog 134 #[.agg #[.string nm,.int .i64 kd,.int .i64 ls,.int .i64 ms,.slice a ws.length cap,.string to,.int .i64 rl,.bool mu,.bool fx,.string df,.string wg],.string v] w
  fun e w'=>e=.returned (.bool (fits kd ls ms ws v))/\Below w.heap.size w w':=by
 rw[zf2 kd ls ms ws v h1 h2 h3 h4];have e1:(kd == 1)=false:=by simpa using h1
 have e2:(kd == 2)=false:=by simpa using h2
 have e3:(kd == 3)=false:=by simpa using h3
 have e4:(kd == 4)=false:=by simpa using h4
 clear h1 h2 h3 h4;go_enter Tryz.func134,Tryz.ntmps134;go_wp2_with fail
 go_ret;exact⟨rfl,bAl _ _⟩
theorem zow (nm:ByteArray)(ls ms:Int)(a:Option Addr)(cap:Nat)(ws:List ByteArray)(to:ByteArray)(rl:Int)(mu fx:Bool)(df wg:ByteArray)(v:ByteArray)(w:World)(hv:v.size<=maxLen) :
 Calls Tryz.prog 134 #[.agg #[.string nm,.int .i64 3,.int .i64 ls,.int .i64 ms,.slice a ws.length cap,.string to,.int .i64 rl,.bool mu,.bool fx,.string df,.string wg],.string v] w
  fun e w'=>e=.returned (.bool (fits 3 ls ms ws v))/\Below w.heap.size w w':=by
 unfold maxLen at hv;go_enter Tryz.func134,Tryz.ntmps134;go_wp2_with fail
 go_loop [6] (fun i=>∃k:Nat,k<=v.size/\i=.int .i64 k/\(v.data.toList.take k).all y8=true) (fun i=>v.size-(intOf i).toNat)
 case atStart=>exact⟨0,Nat.zero_le _,rfl,rfl⟩
 case round=>
  obtain⟨k,hk,rfl,hall⟩:=hrel
  by_cases hlt:k<v.size
  ·have HS:Hid ((v.data.toList.take (k+1)).all y8=(true&&y8 v[k])):=by rw[zaR _ v k hlt,hall];rfl
   have HN:Hid (y8 v[k]=false->fits 3 ls ms ws v=false):=fun h=>zkQ ls ms ws v (zce y8 v k hlt h)
   clear hall
   by_cases h33:33<=(v[k].toNat:Int)/\(v[k].toNat:Int)<=126
   ·have HC:Hid (y8 v[k]=true):=by simp[y8,Hid];omega
    obtain⟨ha,hb⟩:=h33
    go_wp2_with (go_at_call 61;refine(zbf _ _ _ _ (by omega) (by omega)).mono ?_;rintro e w'⟨rfl,rfl⟩)
    go_round
    case rel=>exact⟨k+1,by omega,by go_num,by rw[HS.out,HC.out];rfl⟩
    case measure=>simp[intOf];omega
   ·have HC:Hid (y8 v[k]=false):=by simp[y8,Hid];omega
    have HD:Hid (¬(33<=(v[k].toNat:Int)/\(v[k].toNat:Int)<=126)):=h33;clear h33;have hby:(v[k].toNat:Int)<256:=by have:=v[k].toNat_lt;omega
    go_wp2_with (go_at_call 61;refine(zdc _ _ _ _ (by have:=HD.out;omega)).mono ?_;rintro e w'⟨rfl,rfl⟩)
    go_ret;exact⟨ze (HN.out HC.out).symm,bAl _ _⟩
  ·have HA:Hid (zbQ v=true):=by unfold zbQ Hid;rw[<- zaA v k (by omega)];exact hall
   clear hall
   by_cases hz:v.size=0
   ·have HF:Hid (fits 3 ls ms ws v=false):=zaw _ _ _ _ _ hz
    have hne:v.toList.isEmpty=true:=by rw[zq];simp[hz]
    clear hz;go_wp2_with fail
    go_ret;exact⟨ze HF.out.symm,bAl _ _⟩
   ·have HF:Hid (fits 3 ls ms ws v=(decide (ls<=v.size)&&decide ((v.size:Int)<=ms))):=zkr ls ms ws v HA.out hz
    have hne:v.toList.isEmpty=false:=by rw[zq];simp[hz]
    go_wp2_with (go_at_call 61;refine(yB _ _ _ _).mono ?_;rintro e w'⟨rfl,rfl⟩)
    go_ret;exact⟨ze HF.out.symm,bAl _ _⟩
theorem yS (nm:ByteArray)(kd ls ms:Int)(a:Option Addr)(cap:Nat)(ws:List ByteArray)(to:ByteArray)(rl:Int)(mu fx:Bool)(df wg:ByteArray)(v:ByteArray)(w:World)(hv:v.size<=maxLen)(hws:zD w a ws) :
 Calls Tryz.prog 134 #[.agg #[.string nm,.int .i64 kd,.int .i64 ls,.int .i64 ms,.slice a ws.length cap,.string to,.int .i64 rl,.bool mu,.bool fx,.string df,.string wg],.string v] w
  fun e w'=>e=.returned (.bool (fits kd ls ms ws v))/\Below w.heap.size w w':=by
 by_cases h1:kd=1
 ·subst h1;exact zoH nm ls ms a cap ws to rl mu fx df wg v w hv
 by_cases h2:kd=2
 ·subst h2;exact zo6 nm ls ms a cap ws to rl mu fx df wg v w hws
 by_cases h3:kd=3
 ·subst h3;exact zow nm ls ms a cap ws to rl mu fx df wg v w hv
 by_cases h4:kd=4
 ·subst h4;exact zoh nm ls ms a cap ws to rl mu fx df wg v w hv
 exact zjR nm kd ls ms a cap ws to rl mu fx df wg v w h1 h2 h3 h4
theorem zx.setCell {lo:Nat}{w:World}{a:Option Addr}{ws:List ByteArray}(h:zx lo w a ws)(p:Addr)(hp:p.block<lo)(v:Value):zx lo (w.setCell p v) a ws:=by
 rcases h with⟨rfl,rfl⟩|⟨g,C,rfl,hg,hh,hc⟩
 ·exact Or.inl ⟨rfl,rfl⟩
 ·exact Or.inr ⟨g,C,rfl,hg,(Below.heap_setCell _ _ _ _ (by omega)).trans hh,hc⟩
theorem zx.low {lo lo':Nat}{w:World}{a:Option Addr}{ws:List ByteArray}(h:zx lo w a ws)(hl:lo'<=lo):zx lo' w a ws:=by
 rcases h with⟨rfl,rfl⟩|⟨g,C,rfl,hg,hh,hc⟩
 ·exact Or.inl ⟨rfl,rfl⟩
 ·exact Or.inr ⟨g,C,rfl,by omega,hh,hc⟩
structure Lg where
 tm:ByteArray
 rs:ByteArray
 mo:Int
 fr:Int
def Lg.cells (m:Lg):Array Value:=#[.string m.tm,.string m.rs,.int .i64 m.mo,.int .i64 m.fr]
structure Lg.Small (m:Lg):Prop where
 tm:m.tm.size<=maxLen
 rs:m.rs.size<=maxLen
structure zcX (w:World)(a:Option Addr)(ms:List Lg):Prop where
 len:ms.length<=maxLen
 small:∀i (h:i<ms.length),ms[i].Small
 rows:ms≠[]->∃b off,a=some ⟨b,off,none⟩/\b<w.heap.size/\∀i (h:i<ms.length),∀j,j<4->w.cell? ⟨b,off+i*4+j,none⟩=ms[i].cells[j]?
theorem zcX.mono {w w':World}{a:Option Addr}{ms:List Lg}(h:zcX w a ms)(hl:Below w.heap.size w w'):zcX w' a ms:=
 ⟨h.len,h.small,fun hne=>by
  obtain⟨b,off,ha,hb,hr⟩:=h.rows hne;exact⟨b,off,ha,nLt hb hl.size,fun i hi j hj=>(hl.cell (p:=⟨b,off+i*4+j,none⟩) hb).trans (hr i hi j hj)⟩⟩
theorem zcX.load {w w':World}{a:Option Addr}{ms:List Lg}(h:zcX w a ms)(hl:Below w.heap.size w w')(i:Nat)(hi:i<ms.length):∃b off,a=some ⟨b,off,none⟩/\b<w.heap.size /\
 w'.cell? ⟨b,off+i*4,none⟩=some (.string ms[i].tm)/\w'.cell? ⟨b,off+i*4+1,none⟩=some (.string ms[i].rs)/\w'.cell? ⟨b,off+i*4+2,none⟩=some (.int .i64 ms[i].mo)/\w'.cell? ⟨b,off+i*4+3,none⟩=some (.int .i64 ms[i].fr):=by
 obtain⟨b,off,ha,hb,hr⟩:=h.rows (by rintro rfl;simp at hi);have hc:∀j,j<4->w'.cell? ⟨b,off+i*4+j,none⟩=ms[i].cells[j]?:=fun j hj=>(hl.cell (p:=⟨b,off+i*4+j,none⟩) hb).trans (hr i hi j hj)
 exact⟨b,off,ha,hb,hc 0 (by omega),hc 1 (by omega),hc 2 (by omega),hc 3 (by omega)⟩
def Lg.sz (m:Lg):Nat:=m.tm.size+m.rs.size
def zeE (ms:List Lg):Nat:=(ms.map Lg.sz).sum
def zcO (ms:List Lg):Nat:=ms.length+zeE ms
theorem zdI (m:Lg)(left:Int)(w:World)(hm:m.Small)(h0:0<=left)(h1:left<=1048576) :
 Calls Tryz.prog 58 #[.agg m.cells,.int .i64 left] w fun e w'=>e=.returned (.int .i64 (zK m.sz left))/\Below w.heap.size w w':=by
 have k0:=hm.tm;have k1:=hm.rs;unfold maxLen at k0 k1;unfold Lg.cells;have hB:∀ob,Below w.heap.size w (w.alloc ob):=fun ob=>bAl _ _
 by_cases hf:(m.sz:Int)<=left
 ·have HF:Hid (zK m.sz left=left-m.tm.size-m.rs.size):=by
   unfold Hid;rw[zL hf];unfold Lg.sz;omega
  unfold Lg.sz at hf;go_enter Tryz.func58,Tryz.ntmps58;go_wp2_with fail
  go_ret;exact⟨zo HF.out.symm,hB _⟩
 ·have HF:Hid (zK m.sz left=-1):=zC hf
  have HN:Hid (¬((m.tm.size+m.rs.size:Nat):Int)<=left):=hf;clear hf;go_enter Tryz.func58,Tryz.ntmps58;go_wp2_with fail
  all_goals go_ret
  all_goals first|exact⟨zo HF.out.symm,hB _⟩|(exfalso;have:=HN.out;simp at *;omega)
theorem zhO (m:Lg)(left:Int)(w:World)(hm:m.Small)(h0:0<=left)(h1:left<=1048576)(h:(m.sz:Int)<=left) :
 Calls Tryz.prog 58 #[.agg m.cells,.int .i64 left] w fun e w'=>e=.returned (.int .i64 (left-m.sz))/\Below w.heap.size w w':=by
 refine(zdI m left w hm h0 h1).mono ?_;rintro e w'⟨rfl,hb⟩;exact⟨zo (zL h),hb⟩
theorem ziF (m:Lg)(left:Int)(w:World)(hm:m.Small)(h0:0<=left)(h1:left<=1048576)(h:¬(m.sz:Int)<=left) :
 Calls Tryz.prog 58 #[.agg m.cells,.int .i64 left] w fun e w'=>e=.returned (.int .i64 (-1))/\Below w.heap.size w w':=by
 refine(zdI m left w hm h0 h1).mono ?_;rintro e w'⟨rfl,hb⟩;exact⟨zo (zC h),hb⟩
theorem zgJ (a:Option Addr)(cap:Nat)(ms:List Lg)(left:Int)(w:World)(hw:zcX w a ms)(h0:0<=left)(h1:left<=1048576) :
 Calls Tryz.prog 22 #[.slice a ms.length cap,.int .i64 left] w fun e w'=>e=.returned (.int .i64 (zK (zcO ms) left))/\Below w.heap.size w w':=by
 have hl:=hw.len;unfold maxLen at hl
 by_cases hfit:(ms.length:Int)<=left
 ·go_enter Tryz.func22,Tryz.ntmps22
  go_wp2_with fail
  go_loopw [1,5] (fun l i wr=>∃k:Nat,k<=ms.length/\i=.int .i64 k/\0<=left-ms.length-zeE (ms.take k)/\l=.int .i64 (left-ms.length-zeE (ms.take k))/\Below w.heap.size w wr) (fun _ i _=>ms.length-(intOf i).toNat)
  case atStart=>exact⟨0,Nat.zero_le _,rfl,by simp[zeE];omega,by simp[zeE],bRf _ _⟩
  case round=>
   obtain⟨k,hk,rfl,hpos,rfl,hB⟩:=hrel
   by_cases hlt:k<ms.length
   ·obtain⟨b,off,rfl,hb,c0,c1,c2,c3⟩:=hw.load hB k hlt
    have hsm:=hw.small k hlt;have HS:Hid (zeE (ms.take (k+1))=zeE (ms.take k)+ms[k].sz):=zbd Lg.sz ms k hlt;have hle:zeE (ms.take (k+1))<=zeE ms:=zcY Lg.sz ms (k+1);clear hw
    by_cases hneg:(ms[k].sz:Int)<=left-ms.length-zeE (ms.take k)
    ·have HNG:Hid ((ms[k].sz:Int)<=left-ms.length-zeE (ms.take k)):=hneg
     clear hle;go_wp2_with fail
     refine(zhO _ _ _ hsm hpos (by omega) HNG.out).mono ?_;rintro e w1⟨rfl,hb1⟩;have hB1:=hB.trans (hb1.mono hB.size);clear hb1;go_wp2_with fail
     exact⟨⟨k+1,by omega,by go_num,by rw[HS.out];omega,by rw[HS.out];congr 1;omega,hB1⟩,by simp[intOf];omega⟩
    ·have HF:Hid (zK (zcO ms) left=-1):=zC (by have:=HS.out;unfold zcO;omega)
     have HNG:=hid hneg;clear hneg hle;go_wp2_with fail
     refine(ziF _ _ _ hsm hpos (by omega) (by have:=HNG.out;omega)).mono ?_;rintro e w1⟨rfl,hb1⟩;have hB1:=hB.trans (hb1.mono hB.size);clear hb1;go_wp2_with fail
     go_ret;exact⟨zo HF.out.symm,hB1⟩
   ·have HF:Hid (zK (zcO ms) left=left-ms.length-zeE (ms.take k)):=by
     rw[tOl (by omega)]at hpos ⊢;have e:zK (zcO ms) left=left-zcO ms:=zL (by unfold zcO;omega);unfold Hid;rw[e];unfold zcO;omega
    clear hw
    go_wp2
    go_ret;exact⟨zo HF.out.symm,hB⟩
 ·have HF:Hid (zK (zcO ms) left=-1):=zC (by unfold zcO;omega)
  clear hw;go_enter Tryz.func22,Tryz.ntmps22
  go_wp2
  go_ret;exact⟨zo HF.out.symm,bRf _ _⟩
theorem zhp (m:Lg)(w:World):Calls Tryz.prog 88 #[.agg m.cells,.agg m.cells] w fun e w'=>e=.returned (.bool true)/\Below w.heap.size w w':=by
 unfold Lg.cells;have hn2:(m.mo != m.mo)=false:=by simp
 have hn3:(m.fr != m.fr)=false:=by simp
 go_enter Tryz.func88,Tryz.ntmps88;go_wp2_with fail
 go_ret;exact⟨rfl,zw _ _ _⟩
theorem zgu (a a':Option Addr)(cap cap':Nat)(ms:List Lg)(w:World)(hw:zcX w a ms)(hw':zcX w a' ms) :
 Calls Tryz.prog 44 #[.slice a ms.length cap,.slice a' ms.length cap'] w fun e w'=>e=.returned (.bool true)/\Below w.heap.size w w':=by
 have hl:=hw.len;unfold maxLen at hl;have hnn:((ms.length:Int) != ms.length)=false:=by simp
 go_enter Tryz.func44,Tryz.ntmps44;go_wp2_with fail
 go_loopw [5] (fun i wr=>∃k:Nat,k<=ms.length/\i=.int .i64 k/\Below w.heap.size w wr) (fun i _=>ms.length-(intOf i).toNat)
 case atStart=>exact⟨0,Nat.zero_le _,rfl,bRf _ _⟩
 case round=>
  obtain⟨k,hk,rfl,hB⟩:=hrel
  by_cases hlt:k<ms.length
  ·obtain⟨b,off,rfl,hb,c0,c1,c2,c3⟩:=hw.load hB k hlt
   obtain⟨b',off',rfl,hb',d0,d1,d2,d3⟩:=hw'.load hB k hlt;have hltI:(k:Int)<(ms.length:Int):=by omega
   clear hw hw';go_wp2_with fail
   go_region_with (go_at_call 88;refine(zhp ms[k] _).mono ?_;rintro e w1⟨rfl,hb1'⟩;have hb1:=(bRf wr.heap.size wr).drew.trans hb1';clear hb1')
   all_goals go_wp2_with fail
   all_goals exact⟨⟨k+1,by omega,by go_num,hB.trans (hb1.mono hB.size)⟩,by simp[intOf];omega⟩
  ·clear hw hw'
   go_wp2_with fail
   go_ret;exact⟨rfl,hB⟩
structure zah (lo:Nat)(w:World)(bo:Nat)(ms:List Lg)(k:Nat):Prop where
 low:lo<=bo
 rows:∃C,w.heap[bo]?=some (.cells C 142)/\C.size=ms.length*4/\∀i (h:i<ms.length),i<k->∀j,j<4->C[i*4+j]?=ms[i].cells[j]?
theorem zah.at {lo:Nat}{w:World}{bo:Nat}{ms:List Lg}(h:zah lo w bo ms ms.length)(hs:∀i (h:i<ms.length),ms[i].Small)(hl:ms.length<=maxLen):zcX w (some ⟨bo,0,none⟩) ms:=by
 obtain⟨C,hC,hsz,hr⟩:=h.rows;refine⟨hl,hs,fun _=>⟨bo,0,rfl,(gES hC).1,fun i hi j hj=>?_⟩⟩;rw[cell_of_block hC,Nat.zero_add];exact hr i hi hi j hj
theorem zah.later {lo:Nat}{w w':World}{bo:Nat}{ms:List Lg}{k:Nat}(h:zah lo w bo ms k)(hb:Below w.heap.size w w'):zah lo w' bo ms k:=by
 obtain⟨C,hC,hsz,hr⟩:=h.rows;exact⟨h.low,C,(hb.block bo (gES hC).1).trans hC,hsz,hr⟩
theorem zah.above {lo:Nat}{w w':World}{bo:Nat}{ms:List Lg}{k:Nat}(h:zah lo w bo ms k)(ha:yP lo w w'):zah lo w' bo ms k:=by
 obtain⟨C,hC,hr⟩:=h.rows;exact⟨h.low,C,(ha.same _ h.low (gES hC).1).trans hC,hr⟩
theorem zah.weaken {lo lo':Nat}{w:World}{bo:Nat}{ms:List Lg}{k:Nat}(h:zah lo w bo ms k)(hl:lo'<=lo):zah lo' w bo ms k:=⟨Nat.le_trans hl h.low,h.rows⟩
def zqy (w:World)(b o:Nat)(v0 v1 v2 v3:Value):World:=((((w.setCell ⟨b,o,none⟩ v0).setCell ⟨b,o+1,none⟩ v1).setCell ⟨b,o+2,none⟩ v2).setCell ⟨b,o+3,none⟩ v3)
def zjs (C:Array Value)(o:Nat)(v0 v1 v2 v3:Value):Array Value:=((((C.setIfInBounds (o) v0).setIfInBounds (o+1) v1).setIfInBounds (o+2) v2).setIfInBounds (o+3) v3)
theorem znu {w:World}{b o:Nat}{C:Array Value}{t:TypeId}(h:w.heap[b]?=some (.cells C t))(v0 v1 v2 v3:Value):(zqy w b o v0 v1 v2 v3).heap[b]?=some (.cells (zjs C o v0 v1 v2 v3) t):=
 zk (zk (zk (zk h v0) v1) v2) v3
theorem znD {B:Nat}{a w:World}(h:Below B a w){b:Nat}(hb:B<=b)(o:Nat)(v0 v1 v2 v3:Value):Below B a (zqy w b o v0 v1 v2 v3):=
 (((h.setCell hb v0).setCell hb v1).setCell hb v2).setCell hb v3
theorem zoB (C:Array Value)(o:Nat)(v0 v1 v2 v3:Value):(zjs C o v0 v1 v2 v3).size=C.size:=by simp[zjs]
theorem zpR (C:Array Value)(o i:Nat)(v0 v1 v2 v3:Value)(h:i<o \/ o+4<=i):(zjs C o v0 v1 v2 v3)[i]?=C[i]?:=by
 unfold zjs
 iterate 4 rw[Array.getElem?_setIfInBounds,if_neg (by omega)]
theorem zqG (C:Array Value)(o j:Nat)(v0 v1 v2 v3:Value)(hj:j<4)(ho:o+4<=C.size):(zjs C o v0 v1 v2 v3)[o+j]?=(#[v0,v1,v2,v3]:Array Value)[j]?:=by
 have hc:j=0 \/ j=1 \/ j=2 \/ j=3:=by omega
 unfold zjs
 rcases hc with h|h|h|h <;> subst h <;> simp[Array.getElem?_setIfInBounds] <;> omega
theorem zah.put {lo:Nat}{w:World}{bo:Nat}{ms:List Lg}{k:Nat}(h:zah lo w bo ms k)(hk:k<ms.length) :
 zah lo (zqy w bo (k*4) (.string ms[k].tm) (.string ms[k].rs) (.int .i64 ms[k].mo) (.int .i64 ms[k].fr)) bo ms (k+1):=by
 obtain⟨C,hC,hsz,hr⟩:=h.rows;refine⟨h.low,_,znu hC _ _ _ _,by rw[zoB];exact hsz,fun i hi hik j hj=>?_⟩
 rcases Nat.lt_or_ge i k with hlt|hge
 ·rw[zpR _ _ _ _ _ _ _ (by omega)]
  exact hr i hi hlt j hj
 ·have e:i=k:=by omega
  subst e;rw[zqG _ _ _ _ _ _ _ hj (by omega)]
  rfl
theorem zhH (m:Lg)(w:World) :
 Calls Tryz.prog 72 #[.agg m.cells] w fun e w'=>e=.returned (.agg m.cells)/\Below w.heap.size w w':=by
 unfold Lg.cells;go_enter Tryz.func72,Tryz.ntmps72;go_wp2_with fail
 refine bodyPost_ret (v:=.agg #[.string m.tm,.string m.rs,.int .i64 m.mo,.int .i64 m.fr]) (by simp[results,Tryz.results72,go_sem]) rfl ⟨rfl,?_⟩;exact(((bAl _ _).alloc (by simp) _).alloc (by simp;omega) _)
def zp6:Array Value:=#[.string ByteArray.empty,.string ByteArray.empty,.int .i64 0,.int .i64 0]
def zpb (n:Nat):Array Value:=madeCells zp6 (n*4)
theorem zge (a:Option Addr)(cap:Nat)(ms:List Lg)(w:World)(hw:zcX w a ms)(hl:ms.length<=1048576) :
 Calls Tryz.prog 34 #[.slice a ms.length cap] w fun e w'=>e=.returned (.slice (some ⟨w.heap.size,0,none⟩) ms.length ms.length)/\zah w.heap.size w' w.heap.size ms ms.length/\Below w.heap.size w w':=by
 have hmk:∀w:World,(Instr.makeSlice 45 (.int .i64 ms.length) (.int .i64 ms.length)).run Tryz.prog w=.ok (.slice (some ⟨w.heap.size,0,none⟩) ms.length ms.length) (w.alloc (.cells (zpb ms.length) 142)):=
  fun w=>jI (P:=Tryz.prog) 45 142 (.agg zp6) 4 48 Tryz.underlying45 (by kernel_rfl) ms.length (by omega) (by omega) w
 go_enter Tryz.func34,Tryz.ntmps34;go_wp2_with fail
 clear hmk
 go_loopw [4] (fun i wr=>∃k:Nat,k<=ms.length/\i=.int .i64 k/\zah w.heap.size wr w.heap.size ms k/\Below w.heap.size w wr) (fun i _=>ms.length-(intOf i).toNat)
 case atStart=>exact⟨0,Nat.zero_le _,rfl,⟨Nat.le_refl _,zpb ms.length,(MapKept.heap_alloc w _).1,size_madeCells _ _,fun i _ h=>absurd h (by omega)⟩,bAl _ _⟩
 case round=>
  obtain⟨k,hk,rfl,hown,hB⟩:=hrel
  by_cases hlt:k<ms.length
  ·obtain⟨b,off,rfl,hb,c0,c1,c2,c3⟩:=hw.load hB k hlt
   have hltI:(k:Int)<(ms.length:Int):=by omega
   clear hw;go_wp2_with fail
   refine(zhH ms[k] _).mono ?_;rintro e w1⟨rfl,hb1⟩;have hB1:=hB.trans (hb1.mono hB.size);have hown1:=hown.later hb1
   have hbo:w.heap.size<wr.heap.size:=by
    obtain⟨C',hC',_⟩:=hown.rows;exact(gES hC').1
   obtain⟨C,hC,hsz,_⟩:=hown1.rows;have hfz:∀o,w1.frozen? ⟨w.heap.size,o,none⟩=false:=fun o=>zh hC
   have hex:∀o,o<ms.length*4->∃v,w1.cell? ⟨w.heap.size,o,none⟩=some v:=fun o ho=>⟨C[o]'(by omega),by rw[cell_of_block hC];exact Array.getElem?_eq_getElem (by omega)⟩
   obtain⟨v0,hv0⟩:=hex (k*4) (by omega);obtain⟨v1,hv1⟩:=hex (k*4+1) (by omega);obtain⟨v2,hv2⟩:=hex (k*4+2) (by omega);obtain⟨v3,hv3⟩:=hex (k*4+3) (by omega);have HP:=hid hown1;clear hex hC hsz c0 c1 c2 c3 hown hown1;unfold Lg.cells;go_wp2_with fail
   exact⟨⟨k+1,by omega,by go_num,HP.out.put hlt,znD hB1 (Nat.le_refl _) _ _ _ _ _⟩,by simp[intOf];omega⟩
  ·have HF:Hid (zah w.heap.size wr w.heap.size ms ms.length):=by
    have e:k=ms.length:=by omega
    subst e;exact hown
   clear hw hown;go_wp2_with fail
   go_ret;exact⟨rfl,HF.out,hB⟩
end Go.Proofs.YtnapmdofidgliaaGreat
