import Derived.Test.YtghnakljnhnenaaGreatM14
set_option maxHeartbeats 2000000
namespace Go.Proofs.YtghnakljnhnenaaGreat
open Go.RowKit
theorem zeB (nm:ByteArray) (kd ls ms:Int) (sl:Value) (to:ByteArray) (rl:Int) (mu fx:Bool) (df wg:ByteArray) (s:ByteArray) (w:World) (hs:s.size<=maxLen) :
 Calls Tryz.prog 244 #[.agg #[.string nm,.int .i64 kd,.int .i64 ls,.int .i64 ms,sl,.string to,.int .i64 rl,.bool mu,.bool fx,.string df,.string wg],.string s] w
  fun e w'=>e = .returned (.bool (Gate.zaq ls ms s))/\Below w.heap.size w w':=by
 by_cases hd:Gate.zal s=true
 ·have HE:Hid (zaD s=Gate.zfP s):=by unfold zaD Hid;rw [hd];rfl
  have HF:Hid (Gate.zaq ls ms s=(decide (ls<=Gate.zfP s) && decide (Gate.zfP s<=ms))):=by unfold Gate.zaq Hid;rw [hd];rfl
  go_enter Tryz.func244,Tryz.ntmps244
  go_wp2_with (go_at_call 225;refine (zda _ _ hs).mono ?_;rintro e w' ⟨rfl,rfl⟩)
  all_goals
   go_ret;refine ⟨ze ?_,bAl _ _⟩;rw [HF.out];have:=HE.out;rw [Bool.eq_iff_iff];simp;omega
 ·have hd':Gate.zal s=false:=by simpa using hd
  have HF:Hid (Gate.zaq ls ms s=false):=by unfold Gate.zaq Hid;rw [hd'];rfl
  go_enter Tryz.func244,Tryz.ntmps244
  go_wp2_with (go_at_call 225;refine (zda _ _ hs).mono ?_;rintro e w' ⟨rfl,rfl⟩)
  go_ret;exact ⟨ze HF.out.symm,bAl _ _⟩
def yM:Array MapEntry:=#[⟨.int .i64 1,.func (.func 178) #[] #[],0⟩,⟨.int .i64 2,.func (.func 179) #[] #[],1⟩,⟨.int .i64 3,.func (.func 180) #[] #[],2⟩,⟨.int .i64 4,.func (.func 181) #[] #[],3⟩]
theorem zcG (w:World) :
 Calls Tryz.prog 141 #[] w fun e w'=>e = .returned (.map (some w.heap.size))/\w'=w.alloc (.map yM 4):=by
 have hmm:=@run_makeMap Tryz.prog;have i1:=zbm (P:=Tryz.prog) Tryz.underlying206 Tryz.underlying3 (.int .i64 1) (.func (.func 178) #[] #[]) rfl #[] 0 rfl;have i2:=zbm (P:=Tryz.prog) Tryz.underlying206 Tryz.underlying3 (.int .i64 2) (.func (.func 179) #[] #[]) rfl #[⟨.int .i64 1,.func (.func 178) #[] #[],0⟩] 1 rfl;have i3:=zbm (P:=Tryz.prog) Tryz.underlying206 Tryz.underlying3 (.int .i64 3) (.func (.func 180) #[] #[]) rfl #[⟨.int .i64 1,.func (.func 178) #[] #[],0⟩,⟨.int .i64 2,.func (.func 179) #[] #[],1⟩] 2 rfl;have i4:=zbm (P:=Tryz.prog) Tryz.underlying206 Tryz.underlying3 (.int .i64 4) (.func (.func 181) #[] #[]) rfl #[⟨.int .i64 1,.func (.func 178) #[] #[],0⟩,⟨.int .i64 2,.func (.func 179) #[] #[],1⟩,⟨.int .i64 3,.func (.func 180) #[] #[],2⟩] 3 rfl;simp only [List.push_toArray,List.cons_append,List.nil_append,Nat.zero_add,Nat.reduceAdd] at i1 i2 i3 i4;go_enter Tryz.func141,Tryz.ntmps141
 go_wp2
 go_ret;exact ⟨rfl,rfl⟩
theorem zdo (nm:ByteArray) (kd ls ms:Int) (a:Option Addr) (n cap:Nat) (to:ByteArray) (rl:Int) (mu fx:Bool) (df wg:ByteArray) (w:World) :
 Calls Tryz.prog 178 #[.agg #[.string nm,.int .i64 kd,.int .i64 ls,.int .i64 ms,.slice a n cap,.string to,.int .i64 rl,.bool mu,.bool fx,.string df,.string wg]] w
  fun e w'=>e = .returned (.iface 246 (.agg #[.string nm,.int .i64 kd,.int .i64 ls,.int .i64 ms,.slice a n cap,.string to,.int .i64 rl,.bool mu,.bool fx,.string df,.string wg]))/\Below w.heap.size w w':=by
 go_enter Tryz.func178,Tryz.ntmps178
 go_wp2
 go_ret;exact ⟨rfl,bAl _ _⟩
theorem zds (nm:ByteArray) (kd ls ms:Int) (a:Option Addr) (n cap:Nat) (to:ByteArray) (rl:Int) (mu fx:Bool) (df wg:ByteArray) (w:World) :
 Calls Tryz.prog 179 #[.agg #[.string nm,.int .i64 kd,.int .i64 ls,.int .i64 ms,.slice a n cap,.string to,.int .i64 rl,.bool mu,.bool fx,.string df,.string wg]] w
  fun e w'=>e = .returned (.iface 248 (.agg #[.string nm,.int .i64 kd,.int .i64 ls,.int .i64 ms,.slice a n cap,.string to,.int .i64 rl,.bool mu,.bool fx,.string df,.string wg]))/\Below w.heap.size w w':=by
 go_enter Tryz.func179,Tryz.ntmps179
 go_wp2
 go_ret;exact ⟨rfl,bAl _ _⟩
theorem zdC (nm:ByteArray) (kd ls ms:Int) (a:Option Addr) (n cap:Nat) (to:ByteArray) (rl:Int) (mu fx:Bool) (df wg:ByteArray) (w:World) :
 Calls Tryz.prog 180 #[.agg #[.string nm,.int .i64 kd,.int .i64 ls,.int .i64 ms,.slice a n cap,.string to,.int .i64 rl,.bool mu,.bool fx,.string df,.string wg]] w
  fun e w'=>e = .returned (.iface 249 (.agg #[.string nm,.int .i64 kd,.int .i64 ls,.int .i64 ms,.slice a n cap,.string to,.int .i64 rl,.bool mu,.bool fx,.string df,.string wg]))/\Below w.heap.size w w':=by
 go_enter Tryz.func180,Tryz.ntmps180
 go_wp2
 go_ret;exact ⟨rfl,bAl _ _⟩
theorem zdA (nm:ByteArray) (kd ls ms:Int) (a:Option Addr) (n cap:Nat) (to:ByteArray) (rl:Int) (mu fx:Bool) (df wg:ByteArray) (w:World) :
 Calls Tryz.prog 181 #[.agg #[.string nm,.int .i64 kd,.int .i64 ls,.int .i64 ms,.slice a n cap,.string to,.int .i64 rl,.bool mu,.bool fx,.string df,.string wg]] w
  fun e w'=>e = .returned (.iface 250 (.agg #[.string nm,.int .i64 kd,.int .i64 ls,.int .i64 ms,.slice a n cap,.string to,.int .i64 rl,.bool mu,.bool fx,.string df,.string wg]))/\Below w.heap.size w w':=by
 go_enter Tryz.func181,Tryz.ntmps181
 go_wp2
 go_ret;exact ⟨rfl,bAl _ _⟩
theorem zfT (x:Value) (w:World):(method 401 246 x "loop.example/wharfgate/impl.fits").run Tryz.prog w = .ok (244,x) w:=by kernel_rfl
theorem zgn (x:Value) (w:World):(method 401 248 x "loop.example/wharfgate/impl.fits").run Tryz.prog w = .ok (247,x) w:=by kernel_rfl
theorem zfY (x:Value) (w:World):(method 401 249 x "loop.example/wharfgate/impl.fits").run Tryz.prog w = .ok (252,x) w:=by kernel_rfl
theorem zf9 (x:Value) (w:World):(method 401 250 x "loop.example/wharfgate/impl.fits").run Tryz.prog w = .ok (255,x) w:=by kernel_rfl
theorem zmv (r:Nat) (nm:ByteArray) (ls ms:Int) (a:Option Addr) (cap:Nat) (ws:List ByteArray) (to:ByteArray) (rl:Int) (mu fx:Bool) (df wg:ByteArray) (v:ByteArray) (w:World) (hr:w.heap[r]?=some (.map yM 4)) (hv:v.size<=maxLen) (hz:¬ v.size=0) :
 Calls Tryz.prog 184 #[.map (some r),.agg #[.string nm,.int .i64 1,.int .i64 ls,.int .i64 ms,.slice a ws.length cap,.string to,.int .i64 rl,.bool mu,.bool fx,.string df,.string wg],.string v] w
  fun e w'=>e = .returned (.bool (Gate.fits 1 ls ms ws v))/\Below w.heap.size w w':=by
 rw [Gate.znt ls ms ws v hz];have hne:v.toList.isEmpty=false:=by rw [Gate.zu];simp [hz]
 have hlt:r < w.heap.size:=(gES hr).1
 have hlk:∀ o,(Instr.lookup 206 (.map (some r)) (.int .i64 1) true).run Tryz.prog (w.alloc o) = .ok (.tuple #[.func (.func 178) #[] #[],.bool true]) (w.alloc o) :=
  fun o=>yT Tryz.underlying206 Tryz.underlying3 (.int .i64 1) _ rfl yM 4 0 rfl (w.alloc o) r ((Below.heap_alloc w o r hlt).trans hr)
 clear hr;have hmt:=zfT;go_enter Tryz.func184,Tryz.ntmps184
 go_wp2_with (first
  | (go_at_call 178;refine (zdo _ _ _ _ _ _ _ _ _ _ _ _ _ _).mono ?_;rintro e w1 ⟨rfl,hb1⟩)
  | (go_at_call 244;refine (zeB _ _ _ _ _ _ _ _ _ _ _ _ _ hv).mono ?_;rintro e w2 ⟨rfl,hb2⟩))
 go_ret;exact ⟨rfl,((bAl _ _).trans (hb1.mono (by simp))).trans (hb2.mono (by have:=hb1.size;simp at this;omega))⟩
theorem zlT (r:Nat) (nm:ByteArray) (ls ms:Int) (a:Option Addr) (cap:Nat) (ws:List ByteArray) (to:ByteArray) (rl:Int) (mu fx:Bool) (df wg:ByteArray) (v:ByteArray) (w:World) (hr:w.heap[r]?=some (.map yM 4)) (hws:zD w a ws) (hz:¬ v.size=0) :
 Calls Tryz.prog 184 #[.map (some r),.agg #[.string nm,.int .i64 2,.int .i64 ls,.int .i64 ms,.slice a ws.length cap,.string to,.int .i64 rl,.bool mu,.bool fx,.string df,.string wg],.string v] w
  fun e w'=>e = .returned (.bool (Gate.fits 2 ls ms ws v))/\Below w.heap.size w w':=by
 rw [Gate.zn4 ls ms ws v hz];have hne:v.toList.isEmpty=false:=by rw [Gate.zu];simp [hz]
 have hlt:r < w.heap.size:=(gES hr).1
 have hlk:∀ o,(Instr.lookup 206 (.map (some r)) (.int .i64 2) true).run Tryz.prog (w.alloc o) = .ok (.tuple #[.func (.func 179) #[] #[],.bool true]) (w.alloc o) :=
  fun o=>yT Tryz.underlying206 Tryz.underlying3 (.int .i64 2) _ rfl yM 4 1 rfl (w.alloc o) r ((Below.heap_alloc w o r hlt).trans hr)
 clear hr;have hmt:=zgn;go_enter Tryz.func184,Tryz.ntmps184
 go_wp2_with (first
  | (go_at_call 179;refine (zds _ _ _ _ _ _ _ _ _ _ _ _ _ _).mono ?_;rintro e w1 ⟨rfl,hb1⟩;have hws1:=(hws.mono (bAl _ _)).mono hb1)
  | (go_at_call 247;refine (zfR _ _ _ _ _ _ _ _ _ _ _ _ _ _ _ (by exact hws1)).mono ?_;rintro e w2 ⟨rfl,hb2⟩))
 go_ret;exact ⟨rfl,((bAl _ _).trans (hb1.mono (by simp))).trans (hb2.mono (by have:=hb1.size;simp at this;omega))⟩
theorem zmj (r:Nat) (nm:ByteArray) (ls ms:Int) (a:Option Addr) (cap:Nat) (ws:List ByteArray) (to:ByteArray) (rl:Int) (mu fx:Bool) (df wg:ByteArray) (v:ByteArray) (w:World) (hr:w.heap[r]?=some (.map yM 4)) (hv:v.size<=maxLen) (hz:¬ v.size=0) :
 Calls Tryz.prog 184 #[.map (some r),.agg #[.string nm,.int .i64 3,.int .i64 ls,.int .i64 ms,.slice a ws.length cap,.string to,.int .i64 rl,.bool mu,.bool fx,.string df,.string wg],.string v] w
  fun e w'=>e = .returned (.bool (Gate.fits 3 ls ms ws v))/\Below w.heap.size w w':=by
 rw [Gate.zlG ls ms ws v hz];have hne:v.toList.isEmpty=false:=by rw [Gate.zu];simp [hz]
 have hlt:r < w.heap.size:=(gES hr).1
 have hlk:∀ o,(Instr.lookup 206 (.map (some r)) (.int .i64 3) true).run Tryz.prog (w.alloc o) = .ok (.tuple #[.func (.func 180) #[] #[],.bool true]) (w.alloc o) :=
  fun o=>yT Tryz.underlying206 Tryz.underlying3 (.int .i64 3) _ rfl yM 4 2 rfl (w.alloc o) r ((Below.heap_alloc w o r hlt).trans hr)
 clear hr;have hmt:=zfY;go_enter Tryz.func184,Tryz.ntmps184
 go_wp2_with (first
  | (go_at_call 180;refine (zdC _ _ _ _ _ _ _ _ _ _ _ _ _ _).mono ?_;rintro e w1 ⟨rfl,hb1⟩)
  | (go_at_call 252;refine (zf2 _ _ _ _ _ _ _ _ _ _ _ _ _ hv).mono ?_;rintro e w2 ⟨rfl,hb2⟩))
 go_ret;exact ⟨rfl,((bAl _ _).trans (hb1.mono (by simp))).trans (hb2.mono (by have:=hb1.size;simp at this;omega))⟩
theorem zmQ (r:Nat) (nm:ByteArray) (ls ms:Int) (a:Option Addr) (cap:Nat) (ws:List ByteArray) (to:ByteArray) (rl:Int) (mu fx:Bool) (df wg:ByteArray) (v:ByteArray) (w:World) (hr:w.heap[r]?=some (.map yM 4)) (hv:v.size<=maxLen) (hz:¬ v.size=0) :
 Calls Tryz.prog 184 #[.map (some r),.agg #[.string nm,.int .i64 4,.int .i64 ls,.int .i64 ms,.slice a ws.length cap,.string to,.int .i64 rl,.bool mu,.bool fx,.string df,.string wg],.string v] w
  fun e w'=>e = .returned (.bool (Gate.fits 4 ls ms ws v))/\Below w.heap.size w w':=by
 rw [Gate.zns ls ms ws v hz];have hne:v.toList.isEmpty=false:=by rw [Gate.zu];simp [hz]
 have hlt:r < w.heap.size:=(gES hr).1
 have hlk:∀ o,(Instr.lookup 206 (.map (some r)) (.int .i64 4) true).run Tryz.prog (w.alloc o) = .ok (.tuple #[.func (.func 181) #[] #[],.bool true]) (w.alloc o) :=
  fun o=>yT Tryz.underlying206 Tryz.underlying3 (.int .i64 4) _ rfl yM 4 3 rfl (w.alloc o) r ((Below.heap_alloc w o r hlt).trans hr)
 clear hr;have hmt:=zf9;go_enter Tryz.func184,Tryz.ntmps184
 go_wp2_with (first
  | (go_at_call 181;refine (zdA _ _ _ _ _ _ _ _ _ _ _ _ _ _).mono ?_;rintro e w1 ⟨rfl,hb1⟩)
  | (go_at_call 255;refine (zgD _ _ _ _ _ _ _ _ _ _ _ _ _ hv).mono ?_;rintro e w2 ⟨rfl,hb2⟩))
 go_ret;exact ⟨rfl,((bAl _ _).trans (hb1.mono (by simp))).trans (hb2.mono (by have:=hb1.size;simp at this;omega))⟩
theorem zkt (w:World):(zeroValue 247).run Tryz.prog w = .ok .nilFunc w:=by kernel_rfl
theorem zkI (kd:Int) (h1:kd ≠ 1) (h2:kd ≠ 2) (h3:kd ≠ 3) (h4:kd ≠ 4):Instr.findNow (.int .i64) (.int .i64 kd) yM.toList 0=some none:=by
 have e1:(kd == 1)=false:=by simpa using h1
 have e2:(kd == 2)=false:=by simpa using h2
 have e3:(kd == 3)=false:=by simpa using h3
 have e4:(kd == 4)=false:=by simpa using h4
 simp [Instr.findNow,Instr.sameNow,yM,e1,e2,e3,e4]
theorem zis (r:Nat) (nm:ByteArray) (kd ls ms:Int) (a:Option Addr) (cap:Nat) (ws:List ByteArray) (to:ByteArray) (rl:Int) (mu fx:Bool) (df wg:ByteArray) (v:ByteArray) (w:World) (hr:w.heap[r]?=some (.map yM 4)) (h1:kd ≠ 1) (h2:kd ≠ 2) (h3:kd ≠ 3) (h4:kd ≠ 4) :
 Calls Tryz.prog 184 #[.map (some r),.agg #[.string nm,.int .i64 kd,.int .i64 ls,.int .i64 ms,.slice a ws.length cap,.string to,.int .i64 rl,.bool mu,.bool fx,.string df,.string wg],.string v] w
  fun e w'=>e = .returned (.bool (Gate.fits kd ls ms ws v))/\Below w.heap.size w w':=by
 rw [Gate.zfB kd ls ms ws v h1 h2 h3 h4];have hlt:r < w.heap.size:=(gES hr).1
 have hlk:∀ o,(Instr.lookup 206 (.map (some r)) (.int .i64 kd) true).run Tryz.prog (w.alloc o) = .ok (.tuple #[.nilFunc,.bool false]) (w.alloc o) :=
  fun o=>zch Tryz.underlying206 Tryz.underlying3 (.int .i64 kd) _ rfl yM 4 (zkI kd h1 h2 h3 h4) (w.alloc o) (zkt _) r ((Below.heap_alloc w o r hlt).trans hr)
 clear hr h1 h2 h3 h4;go_enter Tryz.func184,Tryz.ntmps184;go_wp2_with fail
 go_ret;exact ⟨rfl,bAl _ _⟩
theorem zfO (r:Nat) (nm:ByteArray) (ls ms:Int) (a:Option Addr) (cap:Nat) (ws:List ByteArray) (to:ByteArray) (rl:Int) (mu fx:Bool) (df wg:ByteArray) (v:ByteArray) (w:World) (hr:w.heap[r]?=some (.map yM 4)) (hz:v.size=0) :
 Calls Tryz.prog 184 #[.map (some r),.agg #[.string nm,.int .i64 1,.int .i64 ls,.int .i64 ms,.slice a ws.length cap,.string to,.int .i64 rl,.bool mu,.bool fx,.string df,.string wg],.string v] w
  fun e w'=>e = .returned (.bool (Gate.fits 1 ls ms ws v))/\Below w.heap.size w w':=by
 rw [Gate.zas 1 ls ms ws v hz];have hne:v.toList.isEmpty=true:=by rw [Gate.zu];simp [hz]
 clear hz;have hlt:r < w.heap.size:=(gES hr).1
 have hlk:∀ o,(Instr.lookup 206 (.map (some r)) (.int .i64 1) true).run Tryz.prog (w.alloc o) = .ok (.tuple #[.func (.func 178) #[] #[],.bool true]) (w.alloc o) :=
  fun o=>yT Tryz.underlying206 Tryz.underlying3 (.int .i64 1) _ rfl yM 4 0 rfl (w.alloc o) r ((Below.heap_alloc w o r hlt).trans hr)
 clear hr;go_enter Tryz.func184,Tryz.ntmps184;go_wp2_with fail
 go_ret;exact ⟨rfl,bAl _ _⟩
theorem zfV (r:Nat) (nm:ByteArray) (ls ms:Int) (a:Option Addr) (cap:Nat) (ws:List ByteArray) (to:ByteArray) (rl:Int) (mu fx:Bool) (df wg:ByteArray) (v:ByteArray) (w:World) (hr:w.heap[r]?=some (.map yM 4)) (hz:v.size=0) :
 Calls Tryz.prog 184 #[.map (some r),.agg #[.string nm,.int .i64 2,.int .i64 ls,.int .i64 ms,.slice a ws.length cap,.string to,.int .i64 rl,.bool mu,.bool fx,.string df,.string wg],.string v] w
  fun e w'=>e = .returned (.bool (Gate.fits 2 ls ms ws v))/\Below w.heap.size w w':=by
 rw [Gate.zas 2 ls ms ws v hz];have hne:v.toList.isEmpty=true:=by rw [Gate.zu];simp [hz]
 clear hz;have hlt:r < w.heap.size:=(gES hr).1
 have hlk:∀ o,(Instr.lookup 206 (.map (some r)) (.int .i64 2) true).run Tryz.prog (w.alloc o) = .ok (.tuple #[.func (.func 179) #[] #[],.bool true]) (w.alloc o) :=
  fun o=>yT Tryz.underlying206 Tryz.underlying3 (.int .i64 2) _ rfl yM 4 1 rfl (w.alloc o) r ((Below.heap_alloc w o r hlt).trans hr)
 clear hr;go_enter Tryz.func184,Tryz.ntmps184;go_wp2_with fail
 go_ret;exact ⟨rfl,bAl _ _⟩
theorem zgv (r:Nat) (nm:ByteArray) (ls ms:Int) (a:Option Addr) (cap:Nat) (ws:List ByteArray) (to:ByteArray) (rl:Int) (mu fx:Bool) (df wg:ByteArray) (v:ByteArray) (w:World) (hr:w.heap[r]?=some (.map yM 4)) (hz:v.size=0) :
 Calls Tryz.prog 184 #[.map (some r),.agg #[.string nm,.int .i64 3,.int .i64 ls,.int .i64 ms,.slice a ws.length cap,.string to,.int .i64 rl,.bool mu,.bool fx,.string df,.string wg],.string v] w
  fun e w'=>e = .returned (.bool (Gate.fits 3 ls ms ws v))/\Below w.heap.size w w':=by
 rw [Gate.zas 3 ls ms ws v hz];have hne:v.toList.isEmpty=true:=by rw [Gate.zu];simp [hz]
 clear hz;have hlt:r < w.heap.size:=(gES hr).1
 have hlk:∀ o,(Instr.lookup 206 (.map (some r)) (.int .i64 3) true).run Tryz.prog (w.alloc o) = .ok (.tuple #[.func (.func 180) #[] #[],.bool true]) (w.alloc o) :=
  fun o=>yT Tryz.underlying206 Tryz.underlying3 (.int .i64 3) _ rfl yM 4 2 rfl (w.alloc o) r ((Below.heap_alloc w o r hlt).trans hr)
 clear hr;go_enter Tryz.func184,Tryz.ntmps184;go_wp2_with fail
 go_ret;exact ⟨rfl,bAl _ _⟩
theorem zgi (r:Nat) (nm:ByteArray) (ls ms:Int) (a:Option Addr) (cap:Nat) (ws:List ByteArray) (to:ByteArray) (rl:Int) (mu fx:Bool) (df wg:ByteArray) (v:ByteArray) (w:World) (hr:w.heap[r]?=some (.map yM 4)) (hz:v.size=0) :
 Calls Tryz.prog 184 #[.map (some r),.agg #[.string nm,.int .i64 4,.int .i64 ls,.int .i64 ms,.slice a ws.length cap,.string to,.int .i64 rl,.bool mu,.bool fx,.string df,.string wg],.string v] w
  fun e w'=>e = .returned (.bool (Gate.fits 4 ls ms ws v))/\Below w.heap.size w w':=by
 rw [Gate.zas 4 ls ms ws v hz];have hne:v.toList.isEmpty=true:=by rw [Gate.zu];simp [hz]
 clear hz;have hlt:r < w.heap.size:=(gES hr).1
 have hlk:∀ o,(Instr.lookup 206 (.map (some r)) (.int .i64 4) true).run Tryz.prog (w.alloc o) = .ok (.tuple #[.func (.func 181) #[] #[],.bool true]) (w.alloc o) :=
  fun o=>yT Tryz.underlying206 Tryz.underlying3 (.int .i64 4) _ rfl yM 4 3 rfl (w.alloc o) r ((Below.heap_alloc w o r hlt).trans hr)
 clear hr;go_enter Tryz.func184,Tryz.ntmps184;go_wp2_with fail
 go_ret;exact ⟨rfl,bAl _ _⟩
theorem zfk (r:Nat) (nm:ByteArray) (kd ls ms:Int) (a:Option Addr) (cap:Nat) (ws:List ByteArray) (to:ByteArray) (rl:Int) (mu fx:Bool) (df wg:ByteArray) (v:ByteArray) (w:World) (hr:w.heap[r]?=some (.map yM 4)) (hv:v.size<=maxLen) (hws:zD w a ws) :
 Calls Tryz.prog 184 #[.map (some r),.agg #[.string nm,.int .i64 kd,.int .i64 ls,.int .i64 ms,.slice a ws.length cap,.string to,.int .i64 rl,.bool mu,.bool fx,.string df,.string wg],.string v] w
  fun e w'=>e = .returned (.bool (Gate.fits kd ls ms ws v))/\Below w.heap.size w w':=by
 by_cases h1:kd=1
 ·subst h1;by_cases hz:v.size=0
  ·exact zfO r nm ls ms a cap ws to rl mu fx df wg v w hr hz
  ·exact zmv r nm ls ms a cap ws to rl mu fx df wg v w hr hv hz
 by_cases h2:kd=2
 ·subst h2;by_cases hz:v.size=0
  ·exact zfV r nm ls ms a cap ws to rl mu fx df wg v w hr hz
  ·exact zlT r nm ls ms a cap ws to rl mu fx df wg v w hr hws hz
 by_cases h3:kd=3
 ·subst h3;by_cases hz:v.size=0
  ·exact zgv r nm ls ms a cap ws to rl mu fx df wg v w hr hz
  ·exact zmj r nm ls ms a cap ws to rl mu fx df wg v w hr hv hz
 by_cases h4:kd=4
 ·subst h4;by_cases hz:v.size=0
  ·exact zgi r nm ls ms a cap ws to rl mu fx df wg v w hr hz
  ·exact zmQ r nm ls ms a cap ws to rl mu fx df wg v w hr hv hz
 exact zis r nm kd ls ms a cap ws to rl mu fx df wg v w hr h1 h2 h3 h4
theorem zlB (x:Value) (w:World):(method 401 246 x "loop.example/wharfgate/impl.bare").run Tryz.prog w = .ok (243,x) w:=by kernel_rfl
theorem zjO (x:Value) (w:World):(method 401 246 x "loop.example/wharfgate/impl.sound").run Tryz.prog w = .ok (245,x) w:=by kernel_rfl
theorem zk9 (x:Value) (w:World):(method 401 248 x "loop.example/wharfgate/impl.bare").run Tryz.prog w = .ok (246,x) w:=by kernel_rfl
theorem zko (x:Value) (w:World):(method 401 248 x "loop.example/wharfgate/impl.sound").run Tryz.prog w = .ok (248,x) w:=by kernel_rfl
theorem zls (x:Value) (w:World):(method 401 249 x "loop.example/wharfgate/impl.bare").run Tryz.prog w = .ok (251,x) w:=by kernel_rfl
theorem zjN (x:Value) (w:World):(method 401 249 x "loop.example/wharfgate/impl.sound").run Tryz.prog w = .ok (253,x) w:=by kernel_rfl
theorem zkX (x:Value) (w:World):(method 401 250 x "loop.example/wharfgate/impl.bare").run Tryz.prog w = .ok (254,x) w:=by kernel_rfl
theorem zjX (x:Value) (w:World):(method 401 250 x "loop.example/wharfgate/impl.sound").run Tryz.prog w = .ok (256,x) w:=by kernel_rfl
theorem zoK (r:Nat) (nm:ByteArray) (ls ms:Int) (a:Option Addr) (cap:Nat) (ws:List ByteArray) (to:ByteArray) (rl:Int) (mu fx:Bool) (df wg:ByteArray) (a0:Option Addr) (cap0:Nat) (ss:List Shp) (w:World) (hr:w.heap[r]?=some (.map yM 4)) (hdf:df.size<=maxLen) (hwg:wg.size<=maxLen) :
 Calls Tryz.prog 203 #[.map (some r),.slice a0 ss.length cap0,.agg #[.string nm,.int .i64 1,.int .i64 ls,.int .i64 ms,.slice a ws.length cap,.string to,.int .i64 rl,.bool mu,.bool fx,.string df,.string wg]] w
  fun e w'=>e = .returned (.bool (Gate.yF ss ⟨nm,1,ls,ms,ws,to,rl,mu,fx,df,wg⟩))/\Below w.heap.size w w':=by
 have HO:Hid (Gate.yF ss ⟨nm,1,ls,ms,ws,to,rl,mu,fx,df,wg⟩=(Gate.yG 1 ls ms ws.length to rl wg && Gate.zZ ss ⟨nm,1,ls,ms,ws,to,rl,mu,fx,df,wg⟩ && (df.toList.isEmpty || Gate.fits 1 ls ms ws df))):=rfl;have hlt:r < w.heap.size:=(gES hr).1
 have hlk:∀ o,(Instr.lookup 206 (.map (some r)) (.int .i64 1) true).run Tryz.prog (w.alloc o) = .ok (.tuple #[.func (.func 178) #[] #[],.bool true]) (w.alloc o) :=
  fun o=>yT Tryz.underlying206 Tryz.underlying3 (.int .i64 1) _ rfl yM 4 0 rfl (w.alloc o) r ((Below.heap_alloc w o r hlt).trans hr)
 clear hr;have hm1:=zlB;have hm2:=zjO;have hm3:=zfT
 by_cases hbare:Gate.yG 1 ls ms ws.length to rl wg=true
 rotate_left
 ·have HBare:Hid (Gate.yG 1 ls ms ws.length to rl wg=false):=by simpa [Hid] using hbare
  clear hbare hm2 hm3;go_enter Tryz.func203,Tryz.ntmps203;go_wp2_with fail
  refine (zdo _ _ _ _ _ _ _ _ _ _ _ _ _ _).mono ?_;rintro e w1 ⟨rfl,hb1⟩;have hX1:=za (zm w _ _) (by simp) hb1;have hz1:w.heap.size < w1.heap.size:=by have:=hb1.size;simp at this;omega
  have hB1:Below w.heap.size w w1:=(bAl _ _).trans (hb1.mono (by simp));clear hb1 hlk;go_wp2_with fail
  refine (zf HBare.out (zbI _ _ _ _ _ _ _ _ _ _ _ _ _ _)).mono ?_;rintro e w2 ⟨rfl,hb2⟩;have hX2:=za hX1 hz1 hb2;have hz2:w.heap.size < w2.heap.size:=by have:=hb2.size;omega
  have hB2:Below w.heap.size w w2:=hB1.trans (hb2.mono (by omega));clear hb2 hX1 hz1 hB1;go_wp2_with fail
  go_ret;exact ⟨ze (by rw [HO.out,HBare.out];rfl),hB2⟩
 have HBare:Hid (Gate.yG 1 ls ms ws.length to rl wg=true):=hbare;clear hbare
 by_cases hsnd:Gate.zZ ss ⟨nm,1,ls,ms,ws,to,rl,mu,fx,df,wg⟩=true
 rotate_left
 ·have HSnd:Hid (Gate.zZ ss ⟨nm,1,ls,ms,ws,to,rl,mu,fx,df,wg⟩=false):=by simpa [Hid] using hsnd
  clear hsnd hm3;go_enter Tryz.func203,Tryz.ntmps203;go_wp2_with fail
  refine (zdo _ _ _ _ _ _ _ _ _ _ _ _ _ _).mono ?_;rintro e w1 ⟨rfl,hb1⟩;have hX1:=za (zm w _ _) (by simp) hb1;have hz1:w.heap.size < w1.heap.size:=by have:=hb1.size;simp at this;omega
  have hB1:Below w.heap.size w w1:=(bAl _ _).trans (hb1.mono (by simp));clear hb1 hlk;go_wp2_with fail
  refine (zf HBare.out (zbI _ _ _ _ _ _ _ _ _ _ _ _ _ _)).mono ?_;rintro e w2 ⟨rfl,hb2⟩;have hX2:=za hX1 hz1 hb2;have hz2:w.heap.size < w2.heap.size:=by have:=hb2.size;omega
  have hB2:Below w.heap.size w w2:=hB1.trans (hb2.mono (by omega));clear hb2 hX1 hz1 hB1;go_wp2_with fail
  refine (zf HSnd.out (zck _ _ _ _ _ _ _ _ _ _ _ _ _ _ _ _ hwg)).mono ?_;rintro e w3 ⟨rfl,hb3⟩;have hX3:=za hX2 hz2 hb3;have hz3:w.heap.size < w3.heap.size:=by have:=hb3.size;omega
  have hB3:Below w.heap.size w w3:=hB2.trans (hb3.mono (by omega));clear hb3 hX2 hz2 hB2;go_wp2_with fail
  go_ret;exact ⟨ze (by rw [HO.out,HBare.out,HSnd.out];rfl),hB3⟩
 have HSnd:Hid (Gate.zZ ss ⟨nm,1,ls,ms,ws,to,rl,mu,fx,df,wg⟩=true):=hsnd;clear hsnd
 by_cases hd:df.toList.isEmpty=true
 ·have HD:Hid (df.toList.isEmpty=true):=hd
  go_enter Tryz.func203,Tryz.ntmps203;go_wp2_with fail
  refine (zdo _ _ _ _ _ _ _ _ _ _ _ _ _ _).mono ?_;rintro e w1 ⟨rfl,hb1⟩;have hX1:=za (zm w _ _) (by simp) hb1;have hz1:w.heap.size < w1.heap.size:=by have:=hb1.size;simp at this;omega
  have hB1:Below w.heap.size w w1:=(bAl _ _).trans (hb1.mono (by simp));clear hb1 hlk;go_wp2_with fail
  refine (zf HBare.out (zbI _ _ _ _ _ _ _ _ _ _ _ _ _ _)).mono ?_;rintro e w2 ⟨rfl,hb2⟩;have hX2:=za hX1 hz1 hb2;have hz2:w.heap.size < w2.heap.size:=by have:=hb2.size;omega
  have hB2:Below w.heap.size w w2:=hB1.trans (hb2.mono (by omega));clear hb2 hX1 hz1 hB1;go_wp2_with fail
  refine (zf HSnd.out (zck _ _ _ _ _ _ _ _ _ _ _ _ _ _ _ _ hwg)).mono ?_;rintro e w3 ⟨rfl,hb3⟩;have hX3:=za hX2 hz2 hb3;have hz3:w.heap.size < w3.heap.size:=by have:=hb3.size;omega
  have hB3:Below w.heap.size w w3:=hB2.trans (hb3.mono (by omega));clear hb3 hX2 hz2 hB2;go_wp2_with fail
  go_ret;exact ⟨ze (by rw [HO.out,HBare.out,HSnd.out,HD.out];rfl),hB3⟩
 ·have hd':df.toList.isEmpty=false:=by simpa using hd
  have HD:Hid (df.toList.isEmpty=false):=hd';have HZ:Hid (Gate.fits 1 ls ms ws df=Gate.zaq ls ms df):=Gate.znt ls ms ws df (by intro h;rw [Gate.zu] at hd';simp [h] at hd');clear hd;go_enter Tryz.func203,Tryz.ntmps203;go_wp2_with fail
  refine (zdo _ _ _ _ _ _ _ _ _ _ _ _ _ _).mono ?_;rintro e w1 ⟨rfl,hb1⟩;have hX1:=za (zm w _ _) (by simp) hb1;have hz1:w.heap.size < w1.heap.size:=by have:=hb1.size;simp at this;omega
  have hB1:Below w.heap.size w w1:=(bAl _ _).trans (hb1.mono (by simp));clear hb1 hlk;go_wp2_with fail
  refine (zf HBare.out (zbI _ _ _ _ _ _ _ _ _ _ _ _ _ _)).mono ?_;rintro e w2 ⟨rfl,hb2⟩;have hX2:=za hX1 hz1 hb2;have hz2:w.heap.size < w2.heap.size:=by have:=hb2.size;omega
  have hB2:Below w.heap.size w w2:=hB1.trans (hb2.mono (by omega));clear hb2 hX1 hz1 hB1;go_wp2_with fail
  refine (zf HSnd.out (zck _ _ _ _ _ _ _ _ _ _ _ _ _ _ _ _ hwg)).mono ?_;rintro e w3 ⟨rfl,hb3⟩;have hX3:=za hX2 hz2 hb3;have hz3:w.heap.size < w3.heap.size:=by have:=hb3.size;omega
  have hB3:Below w.heap.size w w3:=hB2.trans (hb3.mono (by omega));clear hb3 hX2 hz2 hB2;go_wp2_with fail
  refine (zeB _ _ _ _ _ _ _ _ _ _ _ _ _ hdf).mono ?_;rintro e w4 ⟨rfl,hb4⟩;have hB4:Below w.heap.size w w4:=hB3.trans (hb4.mono (by omega));clear hb4;go_wp2_with fail
  go_ret;exact ⟨ze (by rw [HO.out,HBare.out,HSnd.out,HD.out,HZ.out];rfl),hB4⟩
theorem zou (r:Nat) (nm:ByteArray) (ls ms:Int) (a:Option Addr) (cap:Nat) (ws:List ByteArray) (to:ByteArray) (rl:Int) (mu fx:Bool) (df wg:ByteArray) (a0:Option Addr) (cap0:Nat) (ss:List Shp) (w:World) (hr:w.heap[r]?=some (.map yM 4)) (hws:zD w a ws) :
 Calls Tryz.prog 203 #[.map (some r),.slice a0 ss.length cap0,.agg #[.string nm,.int .i64 2,.int .i64 ls,.int .i64 ms,.slice a ws.length cap,.string to,.int .i64 rl,.bool mu,.bool fx,.string df,.string wg]] w
  fun e w'=>e = .returned (.bool (Gate.yF ss ⟨nm,2,ls,ms,ws,to,rl,mu,fx,df,wg⟩))/\Below w.heap.size w w':=by
 have HO:Hid (Gate.yF ss ⟨nm,2,ls,ms,ws,to,rl,mu,fx,df,wg⟩=(Gate.yG 2 ls ms ws.length to rl wg && Gate.zZ ss ⟨nm,2,ls,ms,ws,to,rl,mu,fx,df,wg⟩ && (df.toList.isEmpty || Gate.fits 2 ls ms ws df))):=rfl;have hlt:r < w.heap.size:=(gES hr).1
 have hlk:∀ o,(Instr.lookup 206 (.map (some r)) (.int .i64 2) true).run Tryz.prog (w.alloc o) = .ok (.tuple #[.func (.func 179) #[] #[],.bool true]) (w.alloc o) :=
  fun o=>yT Tryz.underlying206 Tryz.underlying3 (.int .i64 2) _ rfl yM 4 1 rfl (w.alloc o) r ((Below.heap_alloc w o r hlt).trans hr)
 clear hr;have hm1:=zk9;have hm2:=zko;have hm3:=zgn
 by_cases hbare:Gate.yG 2 ls ms ws.length to rl wg=true
 rotate_left
 ·have HBare:Hid (Gate.yG 2 ls ms ws.length to rl wg=false):=by simpa [Hid] using hbare
  clear hbare hm2 hm3;go_enter Tryz.func203,Tryz.ntmps203;go_wp2_with fail
  refine (zds _ _ _ _ _ _ _ _ _ _ _ _ _ _).mono ?_;rintro e w1 ⟨rfl,hb1⟩;have hX1:=za (zm w _ _) (by simp) hb1;have hz1:w.heap.size < w1.heap.size:=by have:=hb1.size;simp at this;omega
  have hB1:Below w.heap.size w w1:=(bAl _ _).trans (hb1.mono (by simp));clear hb1 hlk;go_wp2_with fail
  refine (zf HBare.out (zcx _ _ _ _ _ _ _ _ _ _ _ _ _ _)).mono ?_;rintro e w2 ⟨rfl,hb2⟩;have hX2:=za hX1 hz1 hb2;have hz2:w.heap.size < w2.heap.size:=by have:=hb2.size;omega
  have hB2:Below w.heap.size w w2:=hB1.trans (hb2.mono (by omega));clear hb2 hX1 hz1 hB1;go_wp2_with fail
  go_ret;exact ⟨ze (by rw [HO.out,HBare.out];rfl),hB2⟩
 have HBare:Hid (Gate.yG 2 ls ms ws.length to rl wg=true):=hbare;clear hbare
 by_cases hsnd:Gate.zZ ss ⟨nm,2,ls,ms,ws,to,rl,mu,fx,df,wg⟩=true
 rotate_left
 ·have HSnd:Hid (Gate.zZ ss ⟨nm,2,ls,ms,ws,to,rl,mu,fx,df,wg⟩=false):=by simpa [Hid] using hsnd
  clear hsnd hm3;go_enter Tryz.func203,Tryz.ntmps203;go_wp2_with fail
  refine (zds _ _ _ _ _ _ _ _ _ _ _ _ _ _).mono ?_;rintro e w1 ⟨rfl,hb1⟩;have hX1:=za (zm w _ _) (by simp) hb1;have hz1:w.heap.size < w1.heap.size:=by have:=hb1.size;simp at this;omega
  have hB1:Below w.heap.size w w1:=(bAl _ _).trans (hb1.mono (by simp));clear hb1 hlk;go_wp2_with fail
  refine (zf HBare.out (zcx _ _ _ _ _ _ _ _ _ _ _ _ _ _)).mono ?_;rintro e w2 ⟨rfl,hb2⟩;have hX2:=za hX1 hz1 hb2;have hz2:w.heap.size < w2.heap.size:=by have:=hb2.size;omega
  have hB2:Below w.heap.size w w2:=hB1.trans (hb2.mono (by omega));clear hb2 hX1 hz1 hB1;go_wp2_with fail
  refine (zf HSnd.out (zdj _ _ _ _ _ _ _ _ _ _ _ _ _ _ _ _ (by exact hws.mono hB2))).mono ?_;rintro e w3 ⟨rfl,hb3⟩;have hX3:=za hX2 hz2 hb3;have hz3:w.heap.size < w3.heap.size:=by have:=hb3.size;omega
  have hB3:Below w.heap.size w w3:=hB2.trans (hb3.mono (by omega));clear hb3 hX2 hz2 hB2;go_wp2_with fail
  go_ret;exact ⟨ze (by rw [HO.out,HBare.out,HSnd.out];rfl),hB3⟩
 have HSnd:Hid (Gate.zZ ss ⟨nm,2,ls,ms,ws,to,rl,mu,fx,df,wg⟩=true):=hsnd;clear hsnd
 by_cases hd:df.toList.isEmpty=true
 ·have HD:Hid (df.toList.isEmpty=true):=hd
  go_enter Tryz.func203,Tryz.ntmps203;go_wp2_with fail
  refine (zds _ _ _ _ _ _ _ _ _ _ _ _ _ _).mono ?_;rintro e w1 ⟨rfl,hb1⟩;have hX1:=za (zm w _ _) (by simp) hb1;have hz1:w.heap.size < w1.heap.size:=by have:=hb1.size;simp at this;omega
  have hB1:Below w.heap.size w w1:=(bAl _ _).trans (hb1.mono (by simp));clear hb1 hlk;go_wp2_with fail
  refine (zf HBare.out (zcx _ _ _ _ _ _ _ _ _ _ _ _ _ _)).mono ?_;rintro e w2 ⟨rfl,hb2⟩;have hX2:=za hX1 hz1 hb2;have hz2:w.heap.size < w2.heap.size:=by have:=hb2.size;omega
  have hB2:Below w.heap.size w w2:=hB1.trans (hb2.mono (by omega));clear hb2 hX1 hz1 hB1;go_wp2_with fail
  refine (zf HSnd.out (zdj _ _ _ _ _ _ _ _ _ _ _ _ _ _ _ _ (by exact hws.mono hB2))).mono ?_;rintro e w3 ⟨rfl,hb3⟩;have hX3:=za hX2 hz2 hb3;have hz3:w.heap.size < w3.heap.size:=by have:=hb3.size;omega
  have hB3:Below w.heap.size w w3:=hB2.trans (hb3.mono (by omega));clear hb3 hX2 hz2 hB2;go_wp2_with fail
  go_ret;exact ⟨ze (by rw [HO.out,HBare.out,HSnd.out,HD.out];rfl),hB3⟩
 ·have hd':df.toList.isEmpty=false:=by simpa using hd
  have HD:Hid (df.toList.isEmpty=false):=hd';have HZ:Hid (Gate.fits 2 ls ms ws df=Gate.has ws df):=Gate.zn4 ls ms ws df (by intro h;rw [Gate.zu] at hd';simp [h] at hd');clear hd;go_enter Tryz.func203,Tryz.ntmps203;go_wp2_with fail
  refine (zds _ _ _ _ _ _ _ _ _ _ _ _ _ _).mono ?_;rintro e w1 ⟨rfl,hb1⟩;have hX1:=za (zm w _ _) (by simp) hb1;have hz1:w.heap.size < w1.heap.size:=by have:=hb1.size;simp at this;omega
  have hB1:Below w.heap.size w w1:=(bAl _ _).trans (hb1.mono (by simp));clear hb1 hlk;go_wp2_with fail
  refine (zf HBare.out (zcx _ _ _ _ _ _ _ _ _ _ _ _ _ _)).mono ?_;rintro e w2 ⟨rfl,hb2⟩;have hX2:=za hX1 hz1 hb2;have hz2:w.heap.size < w2.heap.size:=by have:=hb2.size;omega
  have hB2:Below w.heap.size w w2:=hB1.trans (hb2.mono (by omega));clear hb2 hX1 hz1 hB1;go_wp2_with fail
  refine (zf HSnd.out (zdj _ _ _ _ _ _ _ _ _ _ _ _ _ _ _ _ (by exact hws.mono hB2))).mono ?_;rintro e w3 ⟨rfl,hb3⟩;have hX3:=za hX2 hz2 hb3;have hz3:w.heap.size < w3.heap.size:=by have:=hb3.size;omega
  have hB3:Below w.heap.size w w3:=hB2.trans (hb3.mono (by omega));clear hb3 hX2 hz2 hB2;go_wp2_with fail
  refine (zfR _ _ _ _ _ _ _ _ _ _ _ _ _ _ _ (by exact hws.mono hB3)).mono ?_;rintro e w4 ⟨rfl,hb4⟩;have hB4:Below w.heap.size w w4:=hB3.trans (hb4.mono (by omega));clear hb4;go_wp2_with fail
  go_ret;exact ⟨ze (by rw [HO.out,HBare.out,HSnd.out,HD.out,HZ.out];rfl),hB4⟩
theorem zoD (r:Nat) (nm:ByteArray) (ls ms:Int) (a:Option Addr) (cap:Nat) (ws:List ByteArray) (to:ByteArray) (rl:Int) (mu fx:Bool) (df wg:ByteArray) (a0:Option Addr) (cap0:Nat) (ss:List Shp) (w:World) (hr:w.heap[r]?=some (.map yM 4)) (hdf:df.size<=maxLen) :
 Calls Tryz.prog 203 #[.map (some r),.slice a0 ss.length cap0,.agg #[.string nm,.int .i64 3,.int .i64 ls,.int .i64 ms,.slice a ws.length cap,.string to,.int .i64 rl,.bool mu,.bool fx,.string df,.string wg]] w
  fun e w'=>e = .returned (.bool (Gate.yF ss ⟨nm,3,ls,ms,ws,to,rl,mu,fx,df,wg⟩))/\Below w.heap.size w w':=by
 have HO:Hid (Gate.yF ss ⟨nm,3,ls,ms,ws,to,rl,mu,fx,df,wg⟩=(Gate.yG 3 ls ms ws.length to rl wg && Gate.zZ ss ⟨nm,3,ls,ms,ws,to,rl,mu,fx,df,wg⟩ && (df.toList.isEmpty || Gate.fits 3 ls ms ws df))):=rfl;have hlt:r < w.heap.size:=(gES hr).1
 have hlk:∀ o,(Instr.lookup 206 (.map (some r)) (.int .i64 3) true).run Tryz.prog (w.alloc o) = .ok (.tuple #[.func (.func 180) #[] #[],.bool true]) (w.alloc o) :=
  fun o=>yT Tryz.underlying206 Tryz.underlying3 (.int .i64 3) _ rfl yM 4 2 rfl (w.alloc o) r ((Below.heap_alloc w o r hlt).trans hr)
 clear hr;have hm1:=zls;have hm2:=zjN;have hm3:=zfY
 by_cases hbare:Gate.yG 3 ls ms ws.length to rl wg=true
 rotate_left
 ·have HBare:Hid (Gate.yG 3 ls ms ws.length to rl wg=false):=by simpa [Hid] using hbare
  clear hbare hm2 hm3;go_enter Tryz.func203,Tryz.ntmps203;go_wp2_with fail
  refine (zdC _ _ _ _ _ _ _ _ _ _ _ _ _ _).mono ?_;rintro e w1 ⟨rfl,hb1⟩;have hX1:=za (zm w _ _) (by simp) hb1;have hz1:w.heap.size < w1.heap.size:=by have:=hb1.size;simp at this;omega
  have hB1:Below w.heap.size w w1:=(bAl _ _).trans (hb1.mono (by simp));clear hb1 hlk;go_wp2_with fail
  refine (zf HBare.out (zco _ _ _ _ _ _ _ _ _ _ _ _ _ _)).mono ?_;rintro e w2 ⟨rfl,hb2⟩;have hX2:=za hX1 hz1 hb2;have hz2:w.heap.size < w2.heap.size:=by have:=hb2.size;omega
  have hB2:Below w.heap.size w w2:=hB1.trans (hb2.mono (by omega));clear hb2 hX1 hz1 hB1;go_wp2_with fail
  go_ret;exact ⟨ze (by rw [HO.out,HBare.out];rfl),hB2⟩
 have HBare:Hid (Gate.yG 3 ls ms ws.length to rl wg=true):=hbare;clear hbare
 by_cases hsnd:Gate.zZ ss ⟨nm,3,ls,ms,ws,to,rl,mu,fx,df,wg⟩=true
 rotate_left
 ·have HSnd:Hid (Gate.zZ ss ⟨nm,3,ls,ms,ws,to,rl,mu,fx,df,wg⟩=false):=by simpa [Hid] using hsnd
  clear hsnd hm3;go_enter Tryz.func203,Tryz.ntmps203;go_wp2_with fail
  refine (zdC _ _ _ _ _ _ _ _ _ _ _ _ _ _).mono ?_;rintro e w1 ⟨rfl,hb1⟩;have hX1:=za (zm w _ _) (by simp) hb1;have hz1:w.heap.size < w1.heap.size:=by have:=hb1.size;simp at this;omega
  have hB1:Below w.heap.size w w1:=(bAl _ _).trans (hb1.mono (by simp));clear hb1 hlk;go_wp2_with fail
  refine (zf HBare.out (zco _ _ _ _ _ _ _ _ _ _ _ _ _ _)).mono ?_;rintro e w2 ⟨rfl,hb2⟩;have hX2:=za hX1 hz1 hb2;have hz2:w.heap.size < w2.heap.size:=by have:=hb2.size;omega
  have hB2:Below w.heap.size w w2:=hB1.trans (hb2.mono (by omega));clear hb2 hX1 hz1 hB1;go_wp2_with fail
  refine (zf HSnd.out (zdg _ _ _ _ _ _ _ _ _ _ _ _ _ _ _ _)).mono ?_;rintro e w3 ⟨rfl,hb3⟩;have hX3:=za hX2 hz2 hb3;have hz3:w.heap.size < w3.heap.size:=by have:=hb3.size;omega
  have hB3:Below w.heap.size w w3:=hB2.trans (hb3.mono (by omega));clear hb3 hX2 hz2 hB2;go_wp2_with fail
  go_ret;exact ⟨ze (by rw [HO.out,HBare.out,HSnd.out];rfl),hB3⟩
 have HSnd:Hid (Gate.zZ ss ⟨nm,3,ls,ms,ws,to,rl,mu,fx,df,wg⟩=true):=hsnd;clear hsnd
 by_cases hd:df.toList.isEmpty=true
 ·have HD:Hid (df.toList.isEmpty=true):=hd
  go_enter Tryz.func203,Tryz.ntmps203;go_wp2_with fail
  refine (zdC _ _ _ _ _ _ _ _ _ _ _ _ _ _).mono ?_;rintro e w1 ⟨rfl,hb1⟩;have hX1:=za (zm w _ _) (by simp) hb1;have hz1:w.heap.size < w1.heap.size:=by have:=hb1.size;simp at this;omega
  have hB1:Below w.heap.size w w1:=(bAl _ _).trans (hb1.mono (by simp));clear hb1 hlk;go_wp2_with fail
  refine (zf HBare.out (zco _ _ _ _ _ _ _ _ _ _ _ _ _ _)).mono ?_;rintro e w2 ⟨rfl,hb2⟩;have hX2:=za hX1 hz1 hb2;have hz2:w.heap.size < w2.heap.size:=by have:=hb2.size;omega
  have hB2:Below w.heap.size w w2:=hB1.trans (hb2.mono (by omega));clear hb2 hX1 hz1 hB1;go_wp2_with fail
  refine (zf HSnd.out (zdg _ _ _ _ _ _ _ _ _ _ _ _ _ _ _ _)).mono ?_;rintro e w3 ⟨rfl,hb3⟩;have hX3:=za hX2 hz2 hb3;have hz3:w.heap.size < w3.heap.size:=by have:=hb3.size;omega
  have hB3:Below w.heap.size w w3:=hB2.trans (hb3.mono (by omega));clear hb3 hX2 hz2 hB2;go_wp2_with fail
  go_ret;exact ⟨ze (by rw [HO.out,HBare.out,HSnd.out,HD.out];rfl),hB3⟩
 ·have hd':df.toList.isEmpty=false:=by simpa using hd
  have HD:Hid (df.toList.isEmpty=false):=hd';have HZ:Hid (Gate.fits 3 ls ms ws df=Gate.za4 ls ms df):=Gate.zlG ls ms ws df (by intro h;rw [Gate.zu] at hd';simp [h] at hd');clear hd;go_enter Tryz.func203,Tryz.ntmps203;go_wp2_with fail
  refine (zdC _ _ _ _ _ _ _ _ _ _ _ _ _ _).mono ?_;rintro e w1 ⟨rfl,hb1⟩;have hX1:=za (zm w _ _) (by simp) hb1;have hz1:w.heap.size < w1.heap.size:=by have:=hb1.size;simp at this;omega
  have hB1:Below w.heap.size w w1:=(bAl _ _).trans (hb1.mono (by simp));clear hb1 hlk;go_wp2_with fail
  refine (zf HBare.out (zco _ _ _ _ _ _ _ _ _ _ _ _ _ _)).mono ?_;rintro e w2 ⟨rfl,hb2⟩;have hX2:=za hX1 hz1 hb2;have hz2:w.heap.size < w2.heap.size:=by have:=hb2.size;omega
  have hB2:Below w.heap.size w w2:=hB1.trans (hb2.mono (by omega));clear hb2 hX1 hz1 hB1;go_wp2_with fail
  refine (zf HSnd.out (zdg _ _ _ _ _ _ _ _ _ _ _ _ _ _ _ _)).mono ?_;rintro e w3 ⟨rfl,hb3⟩;have hX3:=za hX2 hz2 hb3;have hz3:w.heap.size < w3.heap.size:=by have:=hb3.size;omega
  have hB3:Below w.heap.size w w3:=hB2.trans (hb3.mono (by omega));clear hb3 hX2 hz2 hB2;go_wp2_with fail
  refine (zf2 _ _ _ _ _ _ _ _ _ _ _ _ _ hdf).mono ?_;rintro e w4 ⟨rfl,hb4⟩;have hB4:Below w.heap.size w w4:=hB3.trans (hb4.mono (by omega));clear hb4;go_wp2_with fail
  go_ret;exact ⟨ze (by rw [HO.out,HBare.out,HSnd.out,HD.out,HZ.out];rfl),hB4⟩
theorem zoE (r:Nat) (nm:ByteArray) (ls ms:Int) (a:Option Addr) (cap:Nat) (ws:List ByteArray) (to:ByteArray) (rl:Int) (mu fx:Bool) (df wg:ByteArray) (a0:Option Addr) (cap0:Nat) (ss:List Shp) (w:World) (hr:w.heap[r]?=some (.map yM 4)) (hdf:df.size<=maxLen) (hss:yI w a0 ss) :
 Calls Tryz.prog 203 #[.map (some r),.slice a0 ss.length cap0,.agg #[.string nm,.int .i64 4,.int .i64 ls,.int .i64 ms,.slice a ws.length cap,.string to,.int .i64 rl,.bool mu,.bool fx,.string df,.string wg]] w
  fun e w'=>e = .returned (.bool (Gate.yF ss ⟨nm,4,ls,ms,ws,to,rl,mu,fx,df,wg⟩))/\Below w.heap.size w w':=by
 have HO:Hid (Gate.yF ss ⟨nm,4,ls,ms,ws,to,rl,mu,fx,df,wg⟩=(Gate.yG 4 ls ms ws.length to rl wg && Gate.zZ ss ⟨nm,4,ls,ms,ws,to,rl,mu,fx,df,wg⟩ && (df.toList.isEmpty || Gate.fits 4 ls ms ws df))):=rfl;have hlt:r < w.heap.size:=(gES hr).1
 have hlk:∀ o,(Instr.lookup 206 (.map (some r)) (.int .i64 4) true).run Tryz.prog (w.alloc o) = .ok (.tuple #[.func (.func 181) #[] #[],.bool true]) (w.alloc o) :=
  fun o=>yT Tryz.underlying206 Tryz.underlying3 (.int .i64 4) _ rfl yM 4 3 rfl (w.alloc o) r ((Below.heap_alloc w o r hlt).trans hr)
 clear hr;have hm1:=zkX;have hm2:=zjX;have hm3:=zf9
 by_cases hbare:Gate.yG 4 ls ms ws.length to rl wg=true
 rotate_left
 ·have HBare:Hid (Gate.yG 4 ls ms ws.length to rl wg=false):=by simpa [Hid] using hbare
  clear hbare hm2 hm3;go_enter Tryz.func203,Tryz.ntmps203;go_wp2_with fail
  refine (zdA _ _ _ _ _ _ _ _ _ _ _ _ _ _).mono ?_;rintro e w1 ⟨rfl,hb1⟩;have hX1:=za (zm w _ _) (by simp) hb1;have hz1:w.heap.size < w1.heap.size:=by have:=hb1.size;simp at this;omega
  have hB1:Below w.heap.size w w1:=(bAl _ _).trans (hb1.mono (by simp));clear hb1 hlk;go_wp2_with fail
  refine (zf HBare.out (zcs _ _ _ _ _ _ _ _ _ _ _ _ _ _)).mono ?_;rintro e w2 ⟨rfl,hb2⟩;have hX2:=za hX1 hz1 hb2;have hz2:w.heap.size < w2.heap.size:=by have:=hb2.size;omega
  have hB2:Below w.heap.size w w2:=hB1.trans (hb2.mono (by omega));clear hb2 hX1 hz1 hB1;go_wp2_with fail
  go_ret;exact ⟨ze (by rw [HO.out,HBare.out];rfl),hB2⟩
 have HBare:Hid (Gate.yG 4 ls ms ws.length to rl wg=true):=hbare;clear hbare
 by_cases hsnd:Gate.zZ ss ⟨nm,4,ls,ms,ws,to,rl,mu,fx,df,wg⟩=true
 rotate_left
 ·have HSnd:Hid (Gate.zZ ss ⟨nm,4,ls,ms,ws,to,rl,mu,fx,df,wg⟩=false):=by simpa [Hid] using hsnd
  clear hsnd hm3;go_enter Tryz.func203,Tryz.ntmps203;go_wp2_with fail
  refine (zdA _ _ _ _ _ _ _ _ _ _ _ _ _ _).mono ?_;rintro e w1 ⟨rfl,hb1⟩;have hX1:=za (zm w _ _) (by simp) hb1;have hz1:w.heap.size < w1.heap.size:=by have:=hb1.size;simp at this;omega
  have hB1:Below w.heap.size w w1:=(bAl _ _).trans (hb1.mono (by simp));clear hb1 hlk;go_wp2_with fail
  refine (zf HBare.out (zcs _ _ _ _ _ _ _ _ _ _ _ _ _ _)).mono ?_;rintro e w2 ⟨rfl,hb2⟩;have hX2:=za hX1 hz1 hb2;have hz2:w.heap.size < w2.heap.size:=by have:=hb2.size;omega
  have hB2:Below w.heap.size w w2:=hB1.trans (hb2.mono (by omega));clear hb2 hX1 hz1 hB1;go_wp2_with fail
  refine (zf HSnd.out (zdh _ _ _ _ _ _ _ _ _ _ _ _ _ _ _ _ (by exact hss.mono hB2))).mono ?_;rintro e w3 ⟨rfl,hb3⟩;have hX3:=za hX2 hz2 hb3;have hz3:w.heap.size < w3.heap.size:=by have:=hb3.size;omega
  have hB3:Below w.heap.size w w3:=hB2.trans (hb3.mono (by omega));clear hb3 hX2 hz2 hB2;go_wp2_with fail
  go_ret;exact ⟨ze (by rw [HO.out,HBare.out,HSnd.out];rfl),hB3⟩
 have HSnd:Hid (Gate.zZ ss ⟨nm,4,ls,ms,ws,to,rl,mu,fx,df,wg⟩=true):=hsnd;clear hsnd
 by_cases hd:df.toList.isEmpty=true
 ·have HD:Hid (df.toList.isEmpty=true):=hd
  go_enter Tryz.func203,Tryz.ntmps203;go_wp2_with fail
  refine (zdA _ _ _ _ _ _ _ _ _ _ _ _ _ _).mono ?_;rintro e w1 ⟨rfl,hb1⟩;have hX1:=za (zm w _ _) (by simp) hb1;have hz1:w.heap.size < w1.heap.size:=by have:=hb1.size;simp at this;omega
  have hB1:Below w.heap.size w w1:=(bAl _ _).trans (hb1.mono (by simp));clear hb1 hlk;go_wp2_with fail
  refine (zf HBare.out (zcs _ _ _ _ _ _ _ _ _ _ _ _ _ _)).mono ?_;rintro e w2 ⟨rfl,hb2⟩;have hX2:=za hX1 hz1 hb2;have hz2:w.heap.size < w2.heap.size:=by have:=hb2.size;omega
  have hB2:Below w.heap.size w w2:=hB1.trans (hb2.mono (by omega));clear hb2 hX1 hz1 hB1;go_wp2_with fail
  refine (zf HSnd.out (zdh _ _ _ _ _ _ _ _ _ _ _ _ _ _ _ _ (by exact hss.mono hB2))).mono ?_;rintro e w3 ⟨rfl,hb3⟩;have hX3:=za hX2 hz2 hb3;have hz3:w.heap.size < w3.heap.size:=by have:=hb3.size;omega
  have hB3:Below w.heap.size w w3:=hB2.trans (hb3.mono (by omega));clear hb3 hX2 hz2 hB2;go_wp2_with fail
  go_ret;exact ⟨ze (by rw [HO.out,HBare.out,HSnd.out,HD.out];rfl),hB3⟩
 ·have hd':df.toList.isEmpty=false:=by simpa using hd
  have HD:Hid (df.toList.isEmpty=false):=hd';have HZ:Hid (Gate.fits 4 ls ms ws df=Gate.zy df):=Gate.zns ls ms ws df (by intro h;rw [Gate.zu] at hd';simp [h] at hd');clear hd;go_enter Tryz.func203,Tryz.ntmps203;go_wp2_with fail
  refine (zdA _ _ _ _ _ _ _ _ _ _ _ _ _ _).mono ?_;rintro e w1 ⟨rfl,hb1⟩;have hX1:=za (zm w _ _) (by simp) hb1;have hz1:w.heap.size < w1.heap.size:=by have:=hb1.size;simp at this;omega
  have hB1:Below w.heap.size w w1:=(bAl _ _).trans (hb1.mono (by simp));clear hb1 hlk;go_wp2_with fail
  refine (zf HBare.out (zcs _ _ _ _ _ _ _ _ _ _ _ _ _ _)).mono ?_;rintro e w2 ⟨rfl,hb2⟩;have hX2:=za hX1 hz1 hb2;have hz2:w.heap.size < w2.heap.size:=by have:=hb2.size;omega
  have hB2:Below w.heap.size w w2:=hB1.trans (hb2.mono (by omega));clear hb2 hX1 hz1 hB1;go_wp2_with fail
  refine (zf HSnd.out (zdh _ _ _ _ _ _ _ _ _ _ _ _ _ _ _ _ (by exact hss.mono hB2))).mono ?_;rintro e w3 ⟨rfl,hb3⟩;have hX3:=za hX2 hz2 hb3;have hz3:w.heap.size < w3.heap.size:=by have:=hb3.size;omega
  have hB3:Below w.heap.size w w3:=hB2.trans (hb3.mono (by omega));clear hb3 hX2 hz2 hB2;go_wp2_with fail
  refine (zgD _ _ _ _ _ _ _ _ _ _ _ _ _ hdf).mono ?_;rintro e w4 ⟨rfl,hb4⟩;have hB4:Below w.heap.size w w4:=hB3.trans (hb4.mono (by omega));clear hb4;go_wp2_with fail
  go_ret;exact ⟨ze (by rw [HO.out,HBare.out,HSnd.out,HD.out,HZ.out];rfl),hB4⟩
theorem zjP (r:Nat) (nm:ByteArray) (kd ls ms:Int) (a:Option Addr) (cap:Nat) (ws:List ByteArray) (to:ByteArray) (rl:Int) (mu fx:Bool) (df wg:ByteArray) (a0:Option Addr) (cap0:Nat) (ss:List Shp) (w:World) (hr:w.heap[r]?=some (.map yM 4)) (h1:kd ≠ 1) (h2:kd ≠ 2) (h3:kd ≠ 3) (h4:kd ≠ 4) :
 Calls Tryz.prog 203 #[.map (some r),.slice a0 ss.length cap0,.agg #[.string nm,.int .i64 kd,.int .i64 ls,.int .i64 ms,.slice a ws.length cap,.string to,.int .i64 rl,.bool mu,.bool fx,.string df,.string wg]] w
  fun e w'=>e = .returned (.bool (Gate.yF ss ⟨nm,kd,ls,ms,ws,to,rl,mu,fx,df,wg⟩))/\Below w.heap.size w w':=by
 have HO:Hid (Gate.yF ss ⟨nm,kd,ls,ms,ws,to,rl,mu,fx,df,wg⟩=false):=by simp [Hid,Gate.yF,Gate.bare,Gate.yG,h1,h2,h3,h4]
 have hlt:r < w.heap.size:=(gES hr).1
 have hlk:∀ o,(Instr.lookup 206 (.map (some r)) (.int .i64 kd) true).run Tryz.prog (w.alloc o) = .ok (.tuple #[.nilFunc,.bool false]) (w.alloc o) :=
  fun o=>zch Tryz.underlying206 Tryz.underlying3 (.int .i64 kd) _ rfl yM 4 (zkI kd h1 h2 h3 h4) (w.alloc o) (zkt _) r ((Below.heap_alloc w o r hlt).trans hr)
 clear hr h1 h2 h3 h4;go_enter Tryz.func203,Tryz.ntmps203;go_wp2_with fail
 go_ret;exact ⟨ze HO.out.symm,bAl _ _⟩
theorem zm3 (r:Nat) (nm:ByteArray) (kd ls ms:Int) (a:Option Addr) (cap:Nat) (ws:List ByteArray) (to:ByteArray) (rl:Int) (mu fx:Bool) (df wg:ByteArray) (a0:Option Addr) (cap0:Nat) (ss:List Shp) (w:World) (hr:w.heap[r]?=some (.map yM 4)) (hdf:df.size<=maxLen) (hwg:wg.size<=maxLen) (hws:zD w a ws) (hss:yI w a0 ss) :
 Calls Tryz.prog 203 #[.map (some r),.slice a0 ss.length cap0,.agg #[.string nm,.int .i64 kd,.int .i64 ls,.int .i64 ms,.slice a ws.length cap,.string to,.int .i64 rl,.bool mu,.bool fx,.string df,.string wg]] w
  fun e w'=>e = .returned (.bool (Gate.yF ss ⟨nm,kd,ls,ms,ws,to,rl,mu,fx,df,wg⟩))/\Below w.heap.size w w':=by
 by_cases h1:kd=1
 ·subst h1;exact zoK r nm ls ms a cap ws to rl mu fx df wg a0 cap0 ss w hr hdf hwg
 by_cases h2:kd=2
 ·subst h2;exact zou r nm ls ms a cap ws to rl mu fx df wg a0 cap0 ss w hr hws
 by_cases h3:kd=3
 ·subst h3;exact zoD r nm ls ms a cap ws to rl mu fx df wg a0 cap0 ss w hr hdf
 by_cases h4:kd=4
 ·subst h4;exact zoE r nm ls ms a cap ws to rl mu fx df wg a0 cap0 ss w hr hdf hss
 exact zjP r nm kd ls ms a cap ws to rl mu fx df wg a0 cap0 ss w hr h1 h2 h3 h4
theorem zpx {fs:List Fld} {k:Nat} (h:k < fs.length) (hh:Gate.hasName (fs.take k) fs[k].nm=true):(Gate.zR fs fs[k].nm != (k:Int))=true:=by
 obtain ⟨j,hj,e⟩:=Gate.zjL fs _ k h hh;rw [e,bne_iff_ne];omega
theorem zpy {fs:List Fld} {k:Nat} (h:k < fs.length) (hh:Gate.hasName (fs.take k) fs[k].nm=false):(Gate.zR fs fs[k].nm != (k:Int))=false:=by
 rw [Gate.zeb fs _ k h hh rfl];simp
theorem zcr (r:Nat) (a0:Option Addr) (cap0:Nat) (ss:List Shp) (a:Option Addr) (cap:Nat) (fs:List Fld) (w:World) (hr:w.heap[r]?=some (.map yM 4)) (hss:yI w a0 ss) (hw:zP w a fs) :
 Calls Tryz.prog 177 #[.map (some r),.slice a0 ss.length cap0,.slice a fs.length cap] w fun e w'=>e = .returned (.bool (Gate.yU ss fs))/\Below w.heap.size w w':=by
 have hl:=hw.len;unfold maxLen at hl;have hrlt:r < w.heap.size:=(gES hr).1
 by_cases h6:fs.length<=6
 rotate_left
 ·have HF:Hid (Gate.yU ss fs=false):=by simp [Hid,Gate.yU,h6]
  clear hw hr hss;go_enter Tryz.func177,Tryz.ntmps177
  go_wp2
  go_ret;exact ⟨ze HF.out.symm,bRf _ _⟩
 have HG:Hid (Gate.yU ss fs=Gate.up (Gate.zd0 ss fs) fs.length):=by simp [Hid,Gate.yU,h6]
 have h6I:(fs.length:Int)<=6:=by omega
 go_enter Tryz.func177,Tryz.ntmps177
 go_wp2
 go_loopw [14] (fun i wr=>∃ k:Nat,k<=fs.length/\i = .int .i64 k/\Gate.up (Gate.zd0 ss fs) k=true/\Below w.heap.size w wr) (fun i _=>fs.length - (intOf i).toNat)
 case atStart=>exact ⟨0,Nat.zero_le _,rfl,rfl,bRf _ _⟩
 case round =>
  obtain ⟨k,hk,rfl,hup,hB⟩:=hrel;have hsz:=hB.size
  by_cases hlt:k < fs.length
  ·obtain ⟨b,off,rfl,hb,hrw⟩:=hw.rows (by rintro rfl;simp at hlt)
   obtain ⟨wa,wcap,hf⟩:=hrw k hlt;obtain ⟨c0,c1,c2,c3,c4,c5,c6,c7,c8,c9,c10⟩:=(hf.mono hb hB).load;have hsm:=hf.small;have hst:=hf.strs.mono hB;have hfa:zP wr (some ⟨b,off,none⟩) fs:=hw.mono hB;have hsa:yI wr a0 ss:=hss.mono hB;have hra:wr.heap[r]?=some (.map yM 4):=(hB.block r hrlt).trans hr;have HO:Hid (Gate.zd0 ss fs k=(Gate.zy fs[k].nm && !Gate.hasName (fs.take k) fs[k].nm && Gate.yF ss fs[k])):=Gate.zgB ss fs k hlt;have HS:Hid (Gate.zd0 ss fs k=true->Gate.up (Gate.zd0 ss fs) (k+1)=true):=fun h=>by rw [Gate.q9,hup,h];rfl
   have HN:Hid (Gate.zd0 ss fs k=false->Gate.yU ss fs=false):=fun h=>by rw [HG.out];exact Gate.zaR hlt h
   clear hw hrw hf hup hss hr
   by_cases hn:Gate.zy fs[k].nm=true
   rotate_left
   ·have HNm:Hid (Gate.zy fs[k].nm=false):=by simpa [Hid] using hn
    clear hn;go_wp2_with fail
    refine (zf HNm.out (zG _ _ hsm.nm)).mono ?_;rintro e w1 ⟨rfl,rfl⟩;go_wp2_with fail
    go_ret;exact ⟨ze (HN.out (by rw [HO.out,HNm.out];rfl)).symm,hB.alloc hsz _⟩
   have HNm:Hid (Gate.zy fs[k].nm=true):=hn;clear hn
   by_cases hh:Gate.hasName (fs.take k) fs[k].nm=true
   ·have HH:Hid (Gate.hasName (fs.take k) fs[k].nm=true):=hh
    have hpl:=zpx hlt hh;clear hh;go_wp2_with fail
    refine (zf HNm.out (zG _ _ hsm.nm)).mono ?_;rintro e w1 ⟨rfl,rfl⟩;go_wp2_with fail
    refine (jl _ _ _ _ _ (hfa.mono (bAl _ _))).mono ?_;rintro e w2 ⟨rfl,hb2⟩;have hB2:Below w.heap.size w w2:=(hB.alloc hsz _).trans (hb2.mono (by simp;omega));clear hb2;go_wp2_with fail
    go_ret;exact ⟨ze (HN.out (by rw [HO.out,HNm.out,HH.out];rfl)).symm,hB2⟩
   ·have HH:Hid (Gate.hasName (fs.take k) fs[k].nm=false):=by simpa [Hid] using hh
    have hpl:=zpy hlt HH.out;clear hh
    by_cases hok:Gate.yF ss fs[k]=true
    all_goals
     first
      | (have HK:Hid (Gate.yF ss fs[k]=true):=hok)
      | (have HK:Hid (Gate.yF ss fs[k]=false):=by simpa [Hid] using hok)
     clear hok;go_wp2_with fail
     refine (zf HNm.out (zG _ _ hsm.nm)).mono ?_;rintro e w1 ⟨rfl,rfl⟩;go_wp2_with fail
     refine (jl _ _ _ _ _ (hfa.mono (bAl _ _))).mono ?_;rintro e w2 ⟨rfl,hb2⟩;have hX2:=za (zm wr _ _) (by simp) hb2;have hz2:wr.heap.size < w2.heap.size:=by have:=hb2.size;simp at this;omega
     have hbr2:Below wr.heap.size wr w2:=(bAl _ _).trans (hb2.mono (by simp));have hB2:Below w.heap.size w w2:=hB.trans (hbr2.mono hsz);have hra2:w2.heap[r]?=some (.map yM 4):=(hbr2.block r (by omega)).trans hra;clear hb2;go_wp2_with fail
     refine (zf HK.out (zm3 _ _ _ _ _ _ _ _ _ _ _ _ _ _ _ _ _ _ hra2 hsm.df hsm.wg (hst.mono hbr2) (hsa.mono hbr2))).mono ?_;rintro e w3 ⟨rfl,hb3⟩;have hB3:Below w.heap.size w w3:=hB2.trans (hb3.mono (by omega));clear hb3 hX2;go_wp2_with fail
    ·exact ⟨⟨k+1,by omega,by go_num,HS.out (by rw [HO.out,HNm.out,HH.out,HK.out];rfl),hB3⟩,by simp [intOf];omega⟩
    ·go_ret
     exact ⟨ze (HN.out (by rw [HO.out,HNm.out,HH.out,HK.out];rfl)).symm,hB3⟩
  ·have HF:Hid (Gate.yU ss fs=true):=by
    have e:k=fs.length:=by omega
    subst e;rw [HG.out];exact hup
   clear hup hw
   go_wp2
   go_ret;exact ⟨ze HF.out.symm,hB⟩
end Go.Proofs.YtghnakljnhnenaaGreat
