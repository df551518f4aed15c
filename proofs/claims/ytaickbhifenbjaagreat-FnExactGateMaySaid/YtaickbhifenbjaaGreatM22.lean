import Derived.Test.YtaickbhifenbjaaGreatM17
import Derived.Test.YtaickbhifenbjaaGreatM21
import Derived.Test.YtaickbhifenbjaaGreatM12
import Derived.Test.YtaickbhifenbjaaGreatM14
set_option maxHeartbeats 2000000
namespace Go.Proofs.YtaickbhifenbjaaGreat
open Go.RowKit
theorem zem (nm:ByteArray) (kd ls ms:Int) (sl:Value) (to:ByteArray) (rl:Int) (mu fx:Bool) (df wg:ByteArray) (s:ByteArray) (w:World) (hs:s.size<=maxLen) :
 Calls Tryz.prog 239 #[.agg #[.string nm,.int .i64 kd,.int .i64 ls,.int .i64 ms,sl,.string to,.int .i64 rl,.bool mu,.bool fx,.string df,.string wg],.string s] w
  fun e w'=>e = .returned (.bool (Gate.zak ls ms s))/\Below w.heap.size w w':=by
 by_cases hd:Gate.zaa s=true
 ·have HE:Hid (zas s=Gate.zfa s):=by unfold zas Hid;rw [hd];rfl
  have HF:Hid (Gate.zak ls ms s=(decide (ls<=Gate.zfa s) && decide (Gate.zfa s<=ms))):=by unfold Gate.zak Hid;rw [hd];rfl
  go_enter Tryz.func239,Tryz.ntmps239
  go_wp2_with (go_at_call 219;refine (zcN _ _ hs).mono ?_;rintro e w' ⟨rfl,rfl⟩)
  all_goals
   go_ret
   refine ⟨ze ?_,(Below.refl _ _).alloc (Nat.le_refl _) _⟩
   rw [HF.out];have:=HE.out;rw [Bool.eq_iff_iff];simp;omega
 ·have hd':Gate.zaa s=false:=by simpa using hd
  have HF:Hid (Gate.zak ls ms s=false):=by unfold Gate.zak Hid;rw [hd'];rfl
  go_enter Tryz.func239,Tryz.ntmps239
  go_wp2_with (go_at_call 219;refine (zcN _ _ hs).mono ?_;rintro e w' ⟨rfl,rfl⟩)
  go_ret
  exact ⟨ze HF.out.symm,(Below.refl _ _).alloc (Nat.le_refl _) _⟩
def yO:Array MapEntry:=#[⟨.int .i64 1,.func (.func 170) #[] #[],0⟩,⟨.int .i64 2,.func (.func 171) #[] #[],1⟩,⟨.int .i64 3,.func (.func 172) #[] #[],2⟩,⟨.int .i64 4,.func (.func 173) #[] #[],3⟩]
theorem zcn (w:World) :
 Calls Tryz.prog 130 #[] w fun e w'=>e = .returned (.map (some w.heap.size))/\w'=w.alloc (.map yO 4):=by
 have hmm:=@run_makeMap Tryz.prog
 have i1:=zaX (P:=Tryz.prog) Tryz.underlying192 Tryz.underlying3 (.int .i64 1) (.func (.func 170) #[] #[]) rfl #[] 0 rfl
 have i2:=zaX (P:=Tryz.prog) Tryz.underlying192 Tryz.underlying3 (.int .i64 2) (.func (.func 171) #[] #[]) rfl #[⟨.int .i64 1,.func (.func 170) #[] #[],0⟩] 1 rfl
 have i3:=zaX (P:=Tryz.prog) Tryz.underlying192 Tryz.underlying3 (.int .i64 3) (.func (.func 172) #[] #[]) rfl #[⟨.int .i64 1,.func (.func 170) #[] #[],0⟩,⟨.int .i64 2,.func (.func 171) #[] #[],1⟩] 2 rfl
 have i4:=zaX (P:=Tryz.prog) Tryz.underlying192 Tryz.underlying3 (.int .i64 4) (.func (.func 173) #[] #[]) rfl #[⟨.int .i64 1,.func (.func 170) #[] #[],0⟩,⟨.int .i64 2,.func (.func 171) #[] #[],1⟩,⟨.int .i64 3,.func (.func 172) #[] #[],2⟩] 3 rfl
 simp only [List.push_toArray,List.cons_append,List.nil_append,Nat.zero_add,Nat.reduceAdd] at i1 i2 i3 i4
 go_enter Tryz.func130,Tryz.ntmps130
 go_wp2
 go_ret
 exact ⟨rfl,rfl⟩
theorem zc3 (nm:ByteArray) (kd ls ms:Int) (a:Option Addr) (n cap:Nat) (to:ByteArray) (rl:Int) (mu fx:Bool) (df wg:ByteArray) (w:World) :
 Calls Tryz.prog 170 #[.agg #[.string nm,.int .i64 kd,.int .i64 ls,.int .i64 ms,.slice a n cap,.string to,.int .i64 rl,.bool mu,.bool fx,.string df,.string wg]] w
  fun e w'=>e = .returned (.iface 234 (.agg #[.string nm,.int .i64 kd,.int .i64 ls,.int .i64 ms,.slice a n cap,.string to,.int .i64 rl,.bool mu,.bool fx,.string df,.string wg]))/\Below w.heap.size w w':=by
 go_enter Tryz.func170,Tryz.ntmps170
 go_wp2
 go_ret
 exact ⟨rfl,(Below.refl _ _).alloc (Nat.le_refl _) _⟩
theorem zcY (nm:ByteArray) (kd ls ms:Int) (a:Option Addr) (n cap:Nat) (to:ByteArray) (rl:Int) (mu fx:Bool) (df wg:ByteArray) (w:World) :
 Calls Tryz.prog 171 #[.agg #[.string nm,.int .i64 kd,.int .i64 ls,.int .i64 ms,.slice a n cap,.string to,.int .i64 rl,.bool mu,.bool fx,.string df,.string wg]] w
  fun e w'=>e = .returned (.iface 236 (.agg #[.string nm,.int .i64 kd,.int .i64 ls,.int .i64 ms,.slice a n cap,.string to,.int .i64 rl,.bool mu,.bool fx,.string df,.string wg]))/\Below w.heap.size w w':=by
 go_enter Tryz.func171,Tryz.ntmps171
 go_wp2
 go_ret
 exact ⟨rfl,(Below.refl _ _).alloc (Nat.le_refl _) _⟩
theorem zc5 (nm:ByteArray) (kd ls ms:Int) (a:Option Addr) (n cap:Nat) (to:ByteArray) (rl:Int) (mu fx:Bool) (df wg:ByteArray) (w:World) :
 Calls Tryz.prog 172 #[.agg #[.string nm,.int .i64 kd,.int .i64 ls,.int .i64 ms,.slice a n cap,.string to,.int .i64 rl,.bool mu,.bool fx,.string df,.string wg]] w
  fun e w'=>e = .returned (.iface 237 (.agg #[.string nm,.int .i64 kd,.int .i64 ls,.int .i64 ms,.slice a n cap,.string to,.int .i64 rl,.bool mu,.bool fx,.string df,.string wg]))/\Below w.heap.size w w':=by
 go_enter Tryz.func172,Tryz.ntmps172
 go_wp2
 go_ret
 exact ⟨rfl,(Below.refl _ _).alloc (Nat.le_refl _) _⟩
theorem zc1 (nm:ByteArray) (kd ls ms:Int) (a:Option Addr) (n cap:Nat) (to:ByteArray) (rl:Int) (mu fx:Bool) (df wg:ByteArray) (w:World) :
 Calls Tryz.prog 173 #[.agg #[.string nm,.int .i64 kd,.int .i64 ls,.int .i64 ms,.slice a n cap,.string to,.int .i64 rl,.bool mu,.bool fx,.string df,.string wg]] w
  fun e w'=>e = .returned (.iface 238 (.agg #[.string nm,.int .i64 kd,.int .i64 ls,.int .i64 ms,.slice a n cap,.string to,.int .i64 rl,.bool mu,.bool fx,.string df,.string wg]))/\Below w.heap.size w w':=by
 go_enter Tryz.func173,Tryz.ntmps173
 go_wp2
 go_ret
 exact ⟨rfl,(Below.refl _ _).alloc (Nat.le_refl _) _⟩
theorem zfk (x:Value) (w:World):(method 397 234 x "loop.example/wharfgate/impl.fits").run Tryz.prog w = .ok (239,x) w:=by kernel_rfl
theorem zff (x:Value) (w:World):(method 397 236 x "loop.example/wharfgate/impl.fits").run Tryz.prog w = .ok (242,x) w:=by kernel_rfl
theorem zeX (x:Value) (w:World):(method 397 237 x "loop.example/wharfgate/impl.fits").run Tryz.prog w = .ok (247,x) w:=by kernel_rfl
theorem zfm (x:Value) (w:World):(method 397 238 x "loop.example/wharfgate/impl.fits").run Tryz.prog w = .ok (250,x) w:=by kernel_rfl
theorem zkO (r:Nat) (nm:ByteArray) (ls ms:Int) (a:Option Addr) (cap:Nat) (ws:List ByteArray) (to:ByteArray) (rl:Int) (mu fx:Bool) (df wg:ByteArray) (v:ByteArray) (w:World) (hr:w.heap[r]?=some (.map yO 4)) (hv:v.size<=maxLen) (hz:¬ v.size=0) :
 Calls Tryz.prog 176 #[.map (some r),.agg #[.string nm,.int .i64 1,.int .i64 ls,.int .i64 ms,.slice a ws.length cap,.string to,.int .i64 rl,.bool mu,.bool fx,.string df,.string wg],.string v] w
  fun e w'=>e = .returned (.bool (Gate.fits 1 ls ms ws v))/\Below w.heap.size w w':=by
 rw [Gate.zmX ls ms ws v hz]
 have hne:v.toList.isEmpty=false:=by rw [Gate.zq];simp [hz]
 have hlt:r < w.heap.size:=(Array.getElem?_eq_some_iff.1 hr).1
 have hlk:∀ o,(Instr.lookup 192 (.map (some r)) (.int .i64 1) true).run Tryz.prog (w.alloc o) = .ok (.tuple #[.func (.func 170) #[] #[],.bool true]) (w.alloc o) :=
  fun o=>yU Tryz.underlying192 Tryz.underlying3 (.int .i64 1) _ rfl yO 4 0 rfl (w.alloc o) r ((Below.heap_alloc w o r hlt).trans hr)
 clear hr
 have hmt:=zfk
 go_enter Tryz.func176,Tryz.ntmps176
 go_wp2_with (first
  | (go_at_call 170;refine (zc3 _ _ _ _ _ _ _ _ _ _ _ _ _ _).mono ?_;rintro e w1 ⟨rfl,hb1⟩)
  | (go_at_call 239;refine (zem _ _ _ _ _ _ _ _ _ _ _ _ _ hv).mono ?_;rintro e w2 ⟨rfl,hb2⟩))
 go_ret
 exact ⟨rfl,(((Below.refl _ _).alloc (Nat.le_refl _) _).trans (hb1.mono (by simp))).trans (hb2.mono (by have:=hb1.size;simp at this;omega))⟩
theorem zk4 (r:Nat) (nm:ByteArray) (ls ms:Int) (a:Option Addr) (cap:Nat) (ws:List ByteArray) (to:ByteArray) (rl:Int) (mu fx:Bool) (df wg:ByteArray) (v:ByteArray) (w:World) (hr:w.heap[r]?=some (.map yO 4)) (hws:zF w a ws) (hz:¬ v.size=0) :
 Calls Tryz.prog 176 #[.map (some r),.agg #[.string nm,.int .i64 2,.int .i64 ls,.int .i64 ms,.slice a ws.length cap,.string to,.int .i64 rl,.bool mu,.bool fx,.string df,.string wg],.string v] w
  fun e w'=>e = .returned (.bool (Gate.fits 2 ls ms ws v))/\Below w.heap.size w w':=by
 rw [Gate.zmr ls ms ws v hz]
 have hne:v.toList.isEmpty=false:=by rw [Gate.zq];simp [hz]
 have hlt:r < w.heap.size:=(Array.getElem?_eq_some_iff.1 hr).1
 have hlk:∀ o,(Instr.lookup 192 (.map (some r)) (.int .i64 2) true).run Tryz.prog (w.alloc o) = .ok (.tuple #[.func (.func 171) #[] #[],.bool true]) (w.alloc o) :=
  fun o=>yU Tryz.underlying192 Tryz.underlying3 (.int .i64 2) _ rfl yO 4 1 rfl (w.alloc o) r ((Below.heap_alloc w o r hlt).trans hr)
 clear hr
 have hmt:=zff
 go_enter Tryz.func176,Tryz.ntmps176
 go_wp2_with (first
  | (go_at_call 171;refine (zcY _ _ _ _ _ _ _ _ _ _ _ _ _ _).mono ?_;rintro e w1 ⟨rfl,hb1⟩;have hws1:=(hws.mono ((Below.refl _ _).alloc (Nat.le_refl _) _)).mono hb1)
  | (go_at_call 242;refine (ze1 _ _ _ _ _ _ _ _ _ _ _ _ _ _ _ (by exact hws1)).mono ?_;rintro e w2 ⟨rfl,hb2⟩))
 go_ret
 exact ⟨rfl,(((Below.refl _ _).alloc (Nat.le_refl _) _).trans (hb1.mono (by simp))).trans (hb2.mono (by have:=hb1.size;simp at this;omega))⟩
theorem zll (r:Nat) (nm:ByteArray) (ls ms:Int) (a:Option Addr) (cap:Nat) (ws:List ByteArray) (to:ByteArray) (rl:Int) (mu fx:Bool) (df wg:ByteArray) (v:ByteArray) (w:World) (hr:w.heap[r]?=some (.map yO 4)) (hv:v.size<=maxLen) (hz:¬ v.size=0) :
 Calls Tryz.prog 176 #[.map (some r),.agg #[.string nm,.int .i64 3,.int .i64 ls,.int .i64 ms,.slice a ws.length cap,.string to,.int .i64 rl,.bool mu,.bool fx,.string df,.string wg],.string v] w
  fun e w'=>e = .returned (.bool (Gate.fits 3 ls ms ws v))/\Below w.heap.size w w':=by
 rw [Gate.zjZ ls ms ws v hz]
 have hne:v.toList.isEmpty=false:=by rw [Gate.zq];simp [hz]
 have hlt:r < w.heap.size:=(Array.getElem?_eq_some_iff.1 hr).1
 have hlk:∀ o,(Instr.lookup 192 (.map (some r)) (.int .i64 3) true).run Tryz.prog (w.alloc o) = .ok (.tuple #[.func (.func 172) #[] #[],.bool true]) (w.alloc o) :=
  fun o=>yU Tryz.underlying192 Tryz.underlying3 (.int .i64 3) _ rfl yO 4 2 rfl (w.alloc o) r ((Below.heap_alloc w o r hlt).trans hr)
 clear hr
 have hmt:=zeX
 go_enter Tryz.func176,Tryz.ntmps176
 go_wp2_with (first
  | (go_at_call 172;refine (zc5 _ _ _ _ _ _ _ _ _ _ _ _ _ _).mono ?_;rintro e w1 ⟨rfl,hb1⟩)
  | (go_at_call 247;refine (zfN _ _ _ _ _ _ _ _ _ _ _ _ _ hv).mono ?_;rintro e w2 ⟨rfl,hb2⟩))
 go_ret
 exact ⟨rfl,(((Below.refl _ _).alloc (Nat.le_refl _) _).trans (hb1.mono (by simp))).trans (hb2.mono (by have:=hb1.size;simp at this;omega))⟩
theorem zk9 (r:Nat) (nm:ByteArray) (ls ms:Int) (a:Option Addr) (cap:Nat) (ws:List ByteArray) (to:ByteArray) (rl:Int) (mu fx:Bool) (df wg:ByteArray) (v:ByteArray) (w:World) (hr:w.heap[r]?=some (.map yO 4)) (hv:v.size<=maxLen) (hz:¬ v.size=0) :
 Calls Tryz.prog 176 #[.map (some r),.agg #[.string nm,.int .i64 4,.int .i64 ls,.int .i64 ms,.slice a ws.length cap,.string to,.int .i64 rl,.bool mu,.bool fx,.string df,.string wg],.string v] w
  fun e w'=>e = .returned (.bool (Gate.fits 4 ls ms ws v))/\Below w.heap.size w w':=by
 rw [Gate.zms ls ms ws v hz]
 have hne:v.toList.isEmpty=false:=by rw [Gate.zq];simp [hz]
 have hlt:r < w.heap.size:=(Array.getElem?_eq_some_iff.1 hr).1
 have hlk:∀ o,(Instr.lookup 192 (.map (some r)) (.int .i64 4) true).run Tryz.prog (w.alloc o) = .ok (.tuple #[.func (.func 173) #[] #[],.bool true]) (w.alloc o) :=
  fun o=>yU Tryz.underlying192 Tryz.underlying3 (.int .i64 4) _ rfl yO 4 3 rfl (w.alloc o) r ((Below.heap_alloc w o r hlt).trans hr)
 clear hr
 have hmt:=zfm
 go_enter Tryz.func176,Tryz.ntmps176
 go_wp2_with (first
  | (go_at_call 173;refine (zc1 _ _ _ _ _ _ _ _ _ _ _ _ _ _).mono ?_;rintro e w1 ⟨rfl,hb1⟩)
  | (go_at_call 250;refine (zfw _ _ _ _ _ _ _ _ _ _ _ _ _ hv).mono ?_;rintro e w2 ⟨rfl,hb2⟩))
 go_ret
 exact ⟨rfl,(((Below.refl _ _).alloc (Nat.le_refl _) _).trans (hb1.mono (by simp))).trans (hb2.mono (by have:=hb1.size;simp at this;omega))⟩
theorem zjJ (w:World):(zeroValue 235).run Tryz.prog w = .ok .nilFunc w:=by kernel_rfl
theorem zjQ (kd:Int) (h1:kd ≠ 1) (h2:kd ≠ 2) (h3:kd ≠ 3) (h4:kd ≠ 4):Instr.findNow (.int .i64) (.int .i64 kd) yO.toList 0=some none:=by
 have e1:(kd == 1)=false:=by simpa using h1
 have e2:(kd == 2)=false:=by simpa using h2
 have e3:(kd == 3)=false:=by simpa using h3
 have e4:(kd == 4)=false:=by simpa using h4
 simp [Instr.findNow,Instr.sameNow,yO,e1,e2,e3,e4]
theorem zg2 (r:Nat) (nm:ByteArray) (kd ls ms:Int) (a:Option Addr) (cap:Nat) (ws:List ByteArray) (to:ByteArray) (rl:Int) (mu fx:Bool) (df wg:ByteArray) (v:ByteArray) (w:World) (hr:w.heap[r]?=some (.map yO 4)) (h1:kd ≠ 1) (h2:kd ≠ 2) (h3:kd ≠ 3) (h4:kd ≠ 4) :
 Calls Tryz.prog 176 #[.map (some r),.agg #[.string nm,.int .i64 kd,.int .i64 ls,.int .i64 ms,.slice a ws.length cap,.string to,.int .i64 rl,.bool mu,.bool fx,.string df,.string wg],.string v] w
  fun e w'=>e = .returned (.bool (Gate.fits kd ls ms ws v))/\Below w.heap.size w w':=by
 rw [Gate.zeN kd ls ms ws v h1 h2 h3 h4]
 have hlt:r < w.heap.size:=(Array.getElem?_eq_some_iff.1 hr).1
 have hlk:∀ o,(Instr.lookup 192 (.map (some r)) (.int .i64 kd) true).run Tryz.prog (w.alloc o) = .ok (.tuple #[.nilFunc,.bool false]) (w.alloc o) :=
  fun o=>zbV Tryz.underlying192 Tryz.underlying3 (.int .i64 kd) _ rfl yO 4 (zjQ kd h1 h2 h3 h4) (w.alloc o) (zjJ _) r ((Below.heap_alloc w o r hlt).trans hr)
 clear hr h1 h2 h3 h4
 go_enter Tryz.func176,Tryz.ntmps176
 go_wp2_with fail
 go_ret
 exact ⟨rfl,(Below.refl _ _).alloc (Nat.le_refl _) _⟩
theorem ze6 (r:Nat) (nm:ByteArray) (ls ms:Int) (a:Option Addr) (cap:Nat) (ws:List ByteArray) (to:ByteArray) (rl:Int) (mu fx:Bool) (df wg:ByteArray) (v:ByteArray) (w:World) (hr:w.heap[r]?=some (.map yO 4)) (hz:v.size=0) :
 Calls Tryz.prog 176 #[.map (some r),.agg #[.string nm,.int .i64 1,.int .i64 ls,.int .i64 ms,.slice a ws.length cap,.string to,.int .i64 rl,.bool mu,.bool fx,.string df,.string wg],.string v] w
  fun e w'=>e = .returned (.bool (Gate.fits 1 ls ms ws v))/\Below w.heap.size w w':=by
 rw [Gate.zab 1 ls ms ws v hz]
 have hne:v.toList.isEmpty=true:=by rw [Gate.zq];simp [hz]
 clear hz
 have hlt:r < w.heap.size:=(Array.getElem?_eq_some_iff.1 hr).1
 have hlk:∀ o,(Instr.lookup 192 (.map (some r)) (.int .i64 1) true).run Tryz.prog (w.alloc o) = .ok (.tuple #[.func (.func 170) #[] #[],.bool true]) (w.alloc o) :=
  fun o=>yU Tryz.underlying192 Tryz.underlying3 (.int .i64 1) _ rfl yO 4 0 rfl (w.alloc o) r ((Below.heap_alloc w o r hlt).trans hr)
 clear hr
 go_enter Tryz.func176,Tryz.ntmps176
 go_wp2_with fail
 go_ret
 exact ⟨rfl,(Below.refl _ _).alloc (Nat.le_refl _) _⟩
theorem zfM (r:Nat) (nm:ByteArray) (ls ms:Int) (a:Option Addr) (cap:Nat) (ws:List ByteArray) (to:ByteArray) (rl:Int) (mu fx:Bool) (df wg:ByteArray) (v:ByteArray) (w:World) (hr:w.heap[r]?=some (.map yO 4)) (hz:v.size=0) :
 Calls Tryz.prog 176 #[.map (some r),.agg #[.string nm,.int .i64 2,.int .i64 ls,.int .i64 ms,.slice a ws.length cap,.string to,.int .i64 rl,.bool mu,.bool fx,.string df,.string wg],.string v] w
  fun e w'=>e = .returned (.bool (Gate.fits 2 ls ms ws v))/\Below w.heap.size w w':=by
 rw [Gate.zab 2 ls ms ws v hz]
 have hne:v.toList.isEmpty=true:=by rw [Gate.zq];simp [hz]
 clear hz
 have hlt:r < w.heap.size:=(Array.getElem?_eq_some_iff.1 hr).1
 have hlk:∀ o,(Instr.lookup 192 (.map (some r)) (.int .i64 2) true).run Tryz.prog (w.alloc o) = .ok (.tuple #[.func (.func 171) #[] #[],.bool true]) (w.alloc o) :=
  fun o=>yU Tryz.underlying192 Tryz.underlying3 (.int .i64 2) _ rfl yO 4 1 rfl (w.alloc o) r ((Below.heap_alloc w o r hlt).trans hr)
 clear hr
 go_enter Tryz.func176,Tryz.ntmps176
 go_wp2_with fail
 go_ret
 exact ⟨rfl,(Below.refl _ _).alloc (Nat.le_refl _) _⟩
theorem ze8 (r:Nat) (nm:ByteArray) (ls ms:Int) (a:Option Addr) (cap:Nat) (ws:List ByteArray) (to:ByteArray) (rl:Int) (mu fx:Bool) (df wg:ByteArray) (v:ByteArray) (w:World) (hr:w.heap[r]?=some (.map yO 4)) (hz:v.size=0) :
 Calls Tryz.prog 176 #[.map (some r),.agg #[.string nm,.int .i64 3,.int .i64 ls,.int .i64 ms,.slice a ws.length cap,.string to,.int .i64 rl,.bool mu,.bool fx,.string df,.string wg],.string v] w
  fun e w'=>e = .returned (.bool (Gate.fits 3 ls ms ws v))/\Below w.heap.size w w':=by
 rw [Gate.zab 3 ls ms ws v hz]
 have hne:v.toList.isEmpty=true:=by rw [Gate.zq];simp [hz]
 clear hz
 have hlt:r < w.heap.size:=(Array.getElem?_eq_some_iff.1 hr).1
 have hlk:∀ o,(Instr.lookup 192 (.map (some r)) (.int .i64 3) true).run Tryz.prog (w.alloc o) = .ok (.tuple #[.func (.func 172) #[] #[],.bool true]) (w.alloc o) :=
  fun o=>yU Tryz.underlying192 Tryz.underlying3 (.int .i64 3) _ rfl yO 4 2 rfl (w.alloc o) r ((Below.heap_alloc w o r hlt).trans hr)
 clear hr
 go_enter Tryz.func176,Tryz.ntmps176
 go_wp2_with fail
 go_ret
 exact ⟨rfl,(Below.refl _ _).alloc (Nat.le_refl _) _⟩
theorem zfh (r:Nat) (nm:ByteArray) (ls ms:Int) (a:Option Addr) (cap:Nat) (ws:List ByteArray) (to:ByteArray) (rl:Int) (mu fx:Bool) (df wg:ByteArray) (v:ByteArray) (w:World) (hr:w.heap[r]?=some (.map yO 4)) (hz:v.size=0) :
 Calls Tryz.prog 176 #[.map (some r),.agg #[.string nm,.int .i64 4,.int .i64 ls,.int .i64 ms,.slice a ws.length cap,.string to,.int .i64 rl,.bool mu,.bool fx,.string df,.string wg],.string v] w
  fun e w'=>e = .returned (.bool (Gate.fits 4 ls ms ws v))/\Below w.heap.size w w':=by
 rw [Gate.zab 4 ls ms ws v hz]
 have hne:v.toList.isEmpty=true:=by rw [Gate.zq];simp [hz]
 clear hz
 have hlt:r < w.heap.size:=(Array.getElem?_eq_some_iff.1 hr).1
 have hlk:∀ o,(Instr.lookup 192 (.map (some r)) (.int .i64 4) true).run Tryz.prog (w.alloc o) = .ok (.tuple #[.func (.func 173) #[] #[],.bool true]) (w.alloc o) :=
  fun o=>yU Tryz.underlying192 Tryz.underlying3 (.int .i64 4) _ rfl yO 4 3 rfl (w.alloc o) r ((Below.heap_alloc w o r hlt).trans hr)
 clear hr
 go_enter Tryz.func176,Tryz.ntmps176
 go_wp2_with fail
 go_ret
 exact ⟨rfl,(Below.refl _ _).alloc (Nat.le_refl _) _⟩
theorem zeB (r:Nat) (nm:ByteArray) (kd ls ms:Int) (a:Option Addr) (cap:Nat) (ws:List ByteArray) (to:ByteArray) (rl:Int) (mu fx:Bool) (df wg:ByteArray) (v:ByteArray) (w:World) (hr:w.heap[r]?=some (.map yO 4)) (hv:v.size<=maxLen) (hws:zF w a ws) :
 Calls Tryz.prog 176 #[.map (some r),.agg #[.string nm,.int .i64 kd,.int .i64 ls,.int .i64 ms,.slice a ws.length cap,.string to,.int .i64 rl,.bool mu,.bool fx,.string df,.string wg],.string v] w
  fun e w'=>e = .returned (.bool (Gate.fits kd ls ms ws v))/\Below w.heap.size w w':=by
 by_cases h1:kd=1
 ·subst h1;by_cases hz:v.size=0
  ·exact ze6 r nm ls ms a cap ws to rl mu fx df wg v w hr hz
  ·exact zkO r nm ls ms a cap ws to rl mu fx df wg v w hr hv hz
 by_cases h2:kd=2
 ·subst h2;by_cases hz:v.size=0
  ·exact zfM r nm ls ms a cap ws to rl mu fx df wg v w hr hz
  ·exact zk4 r nm ls ms a cap ws to rl mu fx df wg v w hr hws hz
 by_cases h3:kd=3
 ·subst h3;by_cases hz:v.size=0
  ·exact ze8 r nm ls ms a cap ws to rl mu fx df wg v w hr hz
  ·exact zll r nm ls ms a cap ws to rl mu fx df wg v w hr hv hz
 by_cases h4:kd=4
 ·subst h4;by_cases hz:v.size=0
  ·exact zfh r nm ls ms a cap ws to rl mu fx df wg v w hr hz
  ·exact zk9 r nm ls ms a cap ws to rl mu fx df wg v w hr hv hz
 exact zg2 r nm kd ls ms a cap ws to rl mu fx df wg v w hr h1 h2 h3 h4
theorem zjY (x:Value) (w:World):(method 397 234 x "loop.example/wharfgate/impl.bare").run Tryz.prog w = .ok (238,x) w:=by kernel_rfl
theorem zi1 (x:Value) (w:World):(method 397 234 x "loop.example/wharfgate/impl.sound").run Tryz.prog w = .ok (240,x) w:=by kernel_rfl
theorem zkm (x:Value) (w:World):(method 397 236 x "loop.example/wharfgate/impl.bare").run Tryz.prog w = .ok (241,x) w:=by kernel_rfl
theorem zi2 (x:Value) (w:World):(method 397 236 x "loop.example/wharfgate/impl.sound").run Tryz.prog w = .ok (243,x) w:=by kernel_rfl
theorem zka (x:Value) (w:World):(method 397 237 x "loop.example/wharfgate/impl.bare").run Tryz.prog w = .ok (246,x) w:=by kernel_rfl
theorem zji (x:Value) (w:World):(method 397 237 x "loop.example/wharfgate/impl.sound").run Tryz.prog w = .ok (248,x) w:=by kernel_rfl
theorem zj6 (x:Value) (w:World):(method 397 238 x "loop.example/wharfgate/impl.bare").run Tryz.prog w = .ok (249,x) w:=by kernel_rfl
theorem zje (x:Value) (w:World):(method 397 238 x "loop.example/wharfgate/impl.sound").run Tryz.prog w = .ok (251,x) w:=by kernel_rfl
theorem znC (r:Nat) (nm:ByteArray) (ls ms:Int) (a:Option Addr) (cap:Nat) (ws:List ByteArray) (to:ByteArray) (rl:Int) (mu fx:Bool) (df wg:ByteArray) (a0:Option Addr) (cap0:Nat) (ss:List Shp) (w:World) (hr:w.heap[r]?=some (.map yO 4)) (hdf:df.size<=maxLen) (hwg:wg.size<=maxLen) :
 Calls Tryz.prog 198 #[.map (some r),.slice a0 ss.length cap0,.agg #[.string nm,.int .i64 1,.int .i64 ls,.int .i64 ms,.slice a ws.length cap,.string to,.int .i64 rl,.bool mu,.bool fx,.string df,.string wg]] w
  fun e w'=>e = .returned (.bool (Gate.yH ss ⟨nm,1,ls,ms,ws,to,rl,mu,fx,df,wg⟩))/\Below w.heap.size w w':=by
 have HO:Hid (Gate.yH ss ⟨nm,1,ls,ms,ws,to,rl,mu,fx,df,wg⟩=(Gate.yG 1 ls ms ws.length to rl wg && Gate.z8 ss ⟨nm,1,ls,ms,ws,to,rl,mu,fx,df,wg⟩ && (df.toList.isEmpty || Gate.fits 1 ls ms ws df))):=rfl
 have hlt:r < w.heap.size:=(Array.getElem?_eq_some_iff.1 hr).1
 have hlk:∀ o,(Instr.lookup 192 (.map (some r)) (.int .i64 1) true).run Tryz.prog (w.alloc o) = .ok (.tuple #[.func (.func 170) #[] #[],.bool true]) (w.alloc o) :=
  fun o=>yU Tryz.underlying192 Tryz.underlying3 (.int .i64 1) _ rfl yO 4 0 rfl (w.alloc o) r ((Below.heap_alloc w o r hlt).trans hr)
 clear hr
 have hm1:=zjY
 have hm2:=zi1
 have hm3:=zfk
 by_cases hbare:Gate.yG 1 ls ms ws.length to rl wg=true
 rotate_left
 ·have HBare:Hid (Gate.yG 1 ls ms ws.length to rl wg=false):=by simpa [Hid] using hbare
  clear hbare hm2 hm3
  go_enter Tryz.func198,Tryz.ntmps198
  go_wp2_with fail
  refine (zc3 _ _ _ _ _ _ _ _ _ _ _ _ _ _).mono ?_
  rintro e w1 ⟨rfl,hb1⟩
  have hX1:=za (zl w _ _) (by simp) hb1
  have hz1:w.heap.size < w1.heap.size:=by have:=hb1.size;simp at this;omega
  have hB1:Below w.heap.size w w1:=((Below.refl _ _).alloc (Nat.le_refl _) _).trans (hb1.mono (by simp))
  clear hb1 hlk
  go_wp2_with fail
  refine (zf HBare.out (zbj _ _ _ _ _ _ _ _ _ _ _ _ _ _)).mono ?_
  rintro e w2 ⟨rfl,hb2⟩
  have hX2:=za hX1 hz1 hb2
  have hz2:w.heap.size < w2.heap.size:=by have:=hb2.size;omega
  have hB2:Below w.heap.size w w2:=hB1.trans (hb2.mono (by omega))
  clear hb2 hX1 hz1 hB1
  go_wp2_with fail
  go_ret
  exact ⟨ze (by rw [HO.out,HBare.out];rfl),hB2⟩
 have HBare:Hid (Gate.yG 1 ls ms ws.length to rl wg=true):=hbare
 clear hbare
 by_cases hsnd:Gate.z8 ss ⟨nm,1,ls,ms,ws,to,rl,mu,fx,df,wg⟩=true
 rotate_left
 ·have HSnd:Hid (Gate.z8 ss ⟨nm,1,ls,ms,ws,to,rl,mu,fx,df,wg⟩=false):=by simpa [Hid] using hsnd
  clear hsnd hm3
  go_enter Tryz.func198,Tryz.ntmps198
  go_wp2_with fail
  refine (zc3 _ _ _ _ _ _ _ _ _ _ _ _ _ _).mono ?_
  rintro e w1 ⟨rfl,hb1⟩
  have hX1:=za (zl w _ _) (by simp) hb1
  have hz1:w.heap.size < w1.heap.size:=by have:=hb1.size;simp at this;omega
  have hB1:Below w.heap.size w w1:=((Below.refl _ _).alloc (Nat.le_refl _) _).trans (hb1.mono (by simp))
  clear hb1 hlk
  go_wp2_with fail
  refine (zf HBare.out (zbj _ _ _ _ _ _ _ _ _ _ _ _ _ _)).mono ?_
  rintro e w2 ⟨rfl,hb2⟩
  have hX2:=za hX1 hz1 hb2
  have hz2:w.heap.size < w2.heap.size:=by have:=hb2.size;omega
  have hB2:Below w.heap.size w w2:=hB1.trans (hb2.mono (by omega))
  clear hb2 hX1 hz1 hB1
  go_wp2_with fail
  refine (zf HSnd.out (zbW _ _ _ _ _ _ _ _ _ _ _ _ _ _ _ _ hwg)).mono ?_
  rintro e w3 ⟨rfl,hb3⟩
  have hX3:=za hX2 hz2 hb3
  have hz3:w.heap.size < w3.heap.size:=by have:=hb3.size;omega
  have hB3:Below w.heap.size w w3:=hB2.trans (hb3.mono (by omega))
  clear hb3 hX2 hz2 hB2
  go_wp2_with fail
  go_ret
  exact ⟨ze (by rw [HO.out,HBare.out,HSnd.out];rfl),hB3⟩
 have HSnd:Hid (Gate.z8 ss ⟨nm,1,ls,ms,ws,to,rl,mu,fx,df,wg⟩=true):=hsnd
 clear hsnd
 by_cases hd:df.toList.isEmpty=true
 ·have HD:Hid (df.toList.isEmpty=true):=hd
  go_enter Tryz.func198,Tryz.ntmps198
  go_wp2_with fail
  refine (zc3 _ _ _ _ _ _ _ _ _ _ _ _ _ _).mono ?_
  rintro e w1 ⟨rfl,hb1⟩
  have hX1:=za (zl w _ _) (by simp) hb1
  have hz1:w.heap.size < w1.heap.size:=by have:=hb1.size;simp at this;omega
  have hB1:Below w.heap.size w w1:=((Below.refl _ _).alloc (Nat.le_refl _) _).trans (hb1.mono (by simp))
  clear hb1 hlk
  go_wp2_with fail
  refine (zf HBare.out (zbj _ _ _ _ _ _ _ _ _ _ _ _ _ _)).mono ?_
  rintro e w2 ⟨rfl,hb2⟩
  have hX2:=za hX1 hz1 hb2
  have hz2:w.heap.size < w2.heap.size:=by have:=hb2.size;omega
  have hB2:Below w.heap.size w w2:=hB1.trans (hb2.mono (by omega))
  clear hb2 hX1 hz1 hB1
  go_wp2_with fail
  refine (zf HSnd.out (zbW _ _ _ _ _ _ _ _ _ _ _ _ _ _ _ _ hwg)).mono ?_
  rintro e w3 ⟨rfl,hb3⟩
  have hX3:=za hX2 hz2 hb3
  have hz3:w.heap.size < w3.heap.size:=by have:=hb3.size;omega
  have hB3:Below w.heap.size w w3:=hB2.trans (hb3.mono (by omega))
  clear hb3 hX2 hz2 hB2
  go_wp2_with fail
  go_ret
  exact ⟨ze (by rw [HO.out,HBare.out,HSnd.out,HD.out];rfl),hB3⟩
 ·have hd':df.toList.isEmpty=false:=by simpa using hd
  have HD:Hid (df.toList.isEmpty=false):=hd'
  have HZ:Hid (Gate.fits 1 ls ms ws df=Gate.zak ls ms df):=Gate.zmX ls ms ws df (by intro h;rw [Gate.zq] at hd';simp [h] at hd')
  clear hd
  go_enter Tryz.func198,Tryz.ntmps198
  go_wp2_with fail
  refine (zc3 _ _ _ _ _ _ _ _ _ _ _ _ _ _).mono ?_
  rintro e w1 ⟨rfl,hb1⟩
  have hX1:=za (zl w _ _) (by simp) hb1
  have hz1:w.heap.size < w1.heap.size:=by have:=hb1.size;simp at this;omega
  have hB1:Below w.heap.size w w1:=((Below.refl _ _).alloc (Nat.le_refl _) _).trans (hb1.mono (by simp))
  clear hb1 hlk
  go_wp2_with fail
  refine (zf HBare.out (zbj _ _ _ _ _ _ _ _ _ _ _ _ _ _)).mono ?_
  rintro e w2 ⟨rfl,hb2⟩
  have hX2:=za hX1 hz1 hb2
  have hz2:w.heap.size < w2.heap.size:=by have:=hb2.size;omega
  have hB2:Below w.heap.size w w2:=hB1.trans (hb2.mono (by omega))
  clear hb2 hX1 hz1 hB1
  go_wp2_with fail
  refine (zf HSnd.out (zbW _ _ _ _ _ _ _ _ _ _ _ _ _ _ _ _ hwg)).mono ?_
  rintro e w3 ⟨rfl,hb3⟩
  have hX3:=za hX2 hz2 hb3
  have hz3:w.heap.size < w3.heap.size:=by have:=hb3.size;omega
  have hB3:Below w.heap.size w w3:=hB2.trans (hb3.mono (by omega))
  clear hb3 hX2 hz2 hB2
  go_wp2_with fail
  refine (zem _ _ _ _ _ _ _ _ _ _ _ _ _ hdf).mono ?_
  rintro e w4 ⟨rfl,hb4⟩
  have hB4:Below w.heap.size w w4:=hB3.trans (hb4.mono (by omega))
  clear hb4
  go_wp2_with fail
  go_ret
  exact ⟨ze (by rw [HO.out,HBare.out,HSnd.out,HD.out,HZ.out];rfl),hB4⟩
theorem zny (r:Nat) (nm:ByteArray) (ls ms:Int) (a:Option Addr) (cap:Nat) (ws:List ByteArray) (to:ByteArray) (rl:Int) (mu fx:Bool) (df wg:ByteArray) (a0:Option Addr) (cap0:Nat) (ss:List Shp) (w:World) (hr:w.heap[r]?=some (.map yO 4)) (hws:zF w a ws) :
 Calls Tryz.prog 198 #[.map (some r),.slice a0 ss.length cap0,.agg #[.string nm,.int .i64 2,.int .i64 ls,.int .i64 ms,.slice a ws.length cap,.string to,.int .i64 rl,.bool mu,.bool fx,.string df,.string wg]] w
  fun e w'=>e = .returned (.bool (Gate.yH ss ⟨nm,2,ls,ms,ws,to,rl,mu,fx,df,wg⟩))/\Below w.heap.size w w':=by
 have HO:Hid (Gate.yH ss ⟨nm,2,ls,ms,ws,to,rl,mu,fx,df,wg⟩=(Gate.yG 2 ls ms ws.length to rl wg && Gate.z8 ss ⟨nm,2,ls,ms,ws,to,rl,mu,fx,df,wg⟩ && (df.toList.isEmpty || Gate.fits 2 ls ms ws df))):=rfl
 have hlt:r < w.heap.size:=(Array.getElem?_eq_some_iff.1 hr).1
 have hlk:∀ o,(Instr.lookup 192 (.map (some r)) (.int .i64 2) true).run Tryz.prog (w.alloc o) = .ok (.tuple #[.func (.func 171) #[] #[],.bool true]) (w.alloc o) :=
  fun o=>yU Tryz.underlying192 Tryz.underlying3 (.int .i64 2) _ rfl yO 4 1 rfl (w.alloc o) r ((Below.heap_alloc w o r hlt).trans hr)
 clear hr
 have hm1:=zkm
 have hm2:=zi2
 have hm3:=zff
 by_cases hbare:Gate.yG 2 ls ms ws.length to rl wg=true
 rotate_left
 ·have HBare:Hid (Gate.yG 2 ls ms ws.length to rl wg=false):=by simpa [Hid] using hbare
  clear hbare hm2 hm3
  go_enter Tryz.func198,Tryz.ntmps198
  go_wp2_with fail
  refine (zcY _ _ _ _ _ _ _ _ _ _ _ _ _ _).mono ?_
  rintro e w1 ⟨rfl,hb1⟩
  have hX1:=za (zl w _ _) (by simp) hb1
  have hz1:w.heap.size < w1.heap.size:=by have:=hb1.size;simp at this;omega
  have hB1:Below w.heap.size w w1:=((Below.refl _ _).alloc (Nat.le_refl _) _).trans (hb1.mono (by simp))
  clear hb1 hlk
  go_wp2_with fail
  refine (zf HBare.out (zca _ _ _ _ _ _ _ _ _ _ _ _ _ _)).mono ?_
  rintro e w2 ⟨rfl,hb2⟩
  have hX2:=za hX1 hz1 hb2
  have hz2:w.heap.size < w2.heap.size:=by have:=hb2.size;omega
  have hB2:Below w.heap.size w w2:=hB1.trans (hb2.mono (by omega))
  clear hb2 hX1 hz1 hB1
  go_wp2_with fail
  go_ret
  exact ⟨ze (by rw [HO.out,HBare.out];rfl),hB2⟩
 have HBare:Hid (Gate.yG 2 ls ms ws.length to rl wg=true):=hbare
 clear hbare
 by_cases hsnd:Gate.z8 ss ⟨nm,2,ls,ms,ws,to,rl,mu,fx,df,wg⟩=true
 rotate_left
 ·have HSnd:Hid (Gate.z8 ss ⟨nm,2,ls,ms,ws,to,rl,mu,fx,df,wg⟩=false):=by simpa [Hid] using hsnd
  clear hsnd hm3
  go_enter Tryz.func198,Tryz.ntmps198
  go_wp2_with fail
  refine (zcY _ _ _ _ _ _ _ _ _ _ _ _ _ _).mono ?_
  rintro e w1 ⟨rfl,hb1⟩
  have hX1:=za (zl w _ _) (by simp) hb1
  have hz1:w.heap.size < w1.heap.size:=by have:=hb1.size;simp at this;omega
  have hB1:Below w.heap.size w w1:=((Below.refl _ _).alloc (Nat.le_refl _) _).trans (hb1.mono (by simp))
  clear hb1 hlk
  go_wp2_with fail
  refine (zf HBare.out (zca _ _ _ _ _ _ _ _ _ _ _ _ _ _)).mono ?_
  rintro e w2 ⟨rfl,hb2⟩
  have hX2:=za hX1 hz1 hb2
  have hz2:w.heap.size < w2.heap.size:=by have:=hb2.size;omega
  have hB2:Below w.heap.size w w2:=hB1.trans (hb2.mono (by omega))
  clear hb2 hX1 hz1 hB1
  go_wp2_with fail
  refine (zf HSnd.out (zcP _ _ _ _ _ _ _ _ _ _ _ _ _ _ _ _ (by exact hws.mono hB2))).mono ?_
  rintro e w3 ⟨rfl,hb3⟩
  have hX3:=za hX2 hz2 hb3
  have hz3:w.heap.size < w3.heap.size:=by have:=hb3.size;omega
  have hB3:Below w.heap.size w w3:=hB2.trans (hb3.mono (by omega))
  clear hb3 hX2 hz2 hB2
  go_wp2_with fail
  go_ret
  exact ⟨ze (by rw [HO.out,HBare.out,HSnd.out];rfl),hB3⟩
 have HSnd:Hid (Gate.z8 ss ⟨nm,2,ls,ms,ws,to,rl,mu,fx,df,wg⟩=true):=hsnd
 clear hsnd
 by_cases hd:df.toList.isEmpty=true
 ·have HD:Hid (df.toList.isEmpty=true):=hd
  go_enter Tryz.func198,Tryz.ntmps198
  go_wp2_with fail
  refine (zcY _ _ _ _ _ _ _ _ _ _ _ _ _ _).mono ?_
  rintro e w1 ⟨rfl,hb1⟩
  have hX1:=za (zl w _ _) (by simp) hb1
  have hz1:w.heap.size < w1.heap.size:=by have:=hb1.size;simp at this;omega
  have hB1:Below w.heap.size w w1:=((Below.refl _ _).alloc (Nat.le_refl _) _).trans (hb1.mono (by simp))
  clear hb1 hlk
  go_wp2_with fail
  refine (zf HBare.out (zca _ _ _ _ _ _ _ _ _ _ _ _ _ _)).mono ?_
  rintro e w2 ⟨rfl,hb2⟩
  have hX2:=za hX1 hz1 hb2
  have hz2:w.heap.size < w2.heap.size:=by have:=hb2.size;omega
  have hB2:Below w.heap.size w w2:=hB1.trans (hb2.mono (by omega))
  clear hb2 hX1 hz1 hB1
  go_wp2_with fail
  refine (zf HSnd.out (zcP _ _ _ _ _ _ _ _ _ _ _ _ _ _ _ _ (by exact hws.mono hB2))).mono ?_
  rintro e w3 ⟨rfl,hb3⟩
  have hX3:=za hX2 hz2 hb3
  have hz3:w.heap.size < w3.heap.size:=by have:=hb3.size;omega
  have hB3:Below w.heap.size w w3:=hB2.trans (hb3.mono (by omega))
  clear hb3 hX2 hz2 hB2
  go_wp2_with fail
  go_ret
  exact ⟨ze (by rw [HO.out,HBare.out,HSnd.out,HD.out];rfl),hB3⟩
 ·have hd':df.toList.isEmpty=false:=by simpa using hd
  have HD:Hid (df.toList.isEmpty=false):=hd'
  have HZ:Hid (Gate.fits 2 ls ms ws df=Gate.has ws df):=Gate.zmr ls ms ws df (by intro h;rw [Gate.zq] at hd';simp [h] at hd')
  clear hd
  go_enter Tryz.func198,Tryz.ntmps198
  go_wp2_with fail
  refine (zcY _ _ _ _ _ _ _ _ _ _ _ _ _ _).mono ?_
  rintro e w1 ⟨rfl,hb1⟩
  have hX1:=za (zl w _ _) (by simp) hb1
  have hz1:w.heap.size < w1.heap.size:=by have:=hb1.size;simp at this;omega
  have hB1:Below w.heap.size w w1:=((Below.refl _ _).alloc (Nat.le_refl _) _).trans (hb1.mono (by simp))
  clear hb1 hlk
  go_wp2_with fail
  refine (zf HBare.out (zca _ _ _ _ _ _ _ _ _ _ _ _ _ _)).mono ?_
  rintro e w2 ⟨rfl,hb2⟩
  have hX2:=za hX1 hz1 hb2
  have hz2:w.heap.size < w2.heap.size:=by have:=hb2.size;omega
  have hB2:Below w.heap.size w w2:=hB1.trans (hb2.mono (by omega))
  clear hb2 hX1 hz1 hB1
  go_wp2_with fail
  refine (zf HSnd.out (zcP _ _ _ _ _ _ _ _ _ _ _ _ _ _ _ _ (by exact hws.mono hB2))).mono ?_
  rintro e w3 ⟨rfl,hb3⟩
  have hX3:=za hX2 hz2 hb3
  have hz3:w.heap.size < w3.heap.size:=by have:=hb3.size;omega
  have hB3:Below w.heap.size w w3:=hB2.trans (hb3.mono (by omega))
  clear hb3 hX2 hz2 hB2
  go_wp2_with fail
  refine (ze1 _ _ _ _ _ _ _ _ _ _ _ _ _ _ _ (by exact hws.mono hB3)).mono ?_
  rintro e w4 ⟨rfl,hb4⟩
  have hB4:Below w.heap.size w w4:=hB3.trans (hb4.mono (by omega))
  clear hb4
  go_wp2_with fail
  go_ret
  exact ⟨ze (by rw [HO.out,HBare.out,HSnd.out,HD.out,HZ.out];rfl),hB4⟩
theorem znO (r:Nat) (nm:ByteArray) (ls ms:Int) (a:Option Addr) (cap:Nat) (ws:List ByteArray) (to:ByteArray) (rl:Int) (mu fx:Bool) (df wg:ByteArray) (a0:Option Addr) (cap0:Nat) (ss:List Shp) (w:World) (hr:w.heap[r]?=some (.map yO 4)) (hdf:df.size<=maxLen) :
 Calls Tryz.prog 198 #[.map (some r),.slice a0 ss.length cap0,.agg #[.string nm,.int .i64 3,.int .i64 ls,.int .i64 ms,.slice a ws.length cap,.string to,.int .i64 rl,.bool mu,.bool fx,.string df,.string wg]] w
  fun e w'=>e = .returned (.bool (Gate.yH ss ⟨nm,3,ls,ms,ws,to,rl,mu,fx,df,wg⟩))/\Below w.heap.size w w':=by
 have HO:Hid (Gate.yH ss ⟨nm,3,ls,ms,ws,to,rl,mu,fx,df,wg⟩=(Gate.yG 3 ls ms ws.length to rl wg && Gate.z8 ss ⟨nm,3,ls,ms,ws,to,rl,mu,fx,df,wg⟩ && (df.toList.isEmpty || Gate.fits 3 ls ms ws df))):=rfl
 have hlt:r < w.heap.size:=(Array.getElem?_eq_some_iff.1 hr).1
 have hlk:∀ o,(Instr.lookup 192 (.map (some r)) (.int .i64 3) true).run Tryz.prog (w.alloc o) = .ok (.tuple #[.func (.func 172) #[] #[],.bool true]) (w.alloc o) :=
  fun o=>yU Tryz.underlying192 Tryz.underlying3 (.int .i64 3) _ rfl yO 4 2 rfl (w.alloc o) r ((Below.heap_alloc w o r hlt).trans hr)
 clear hr
 have hm1:=zka
 have hm2:=zji
 have hm3:=zeX
 by_cases hbare:Gate.yG 3 ls ms ws.length to rl wg=true
 rotate_left
 ·have HBare:Hid (Gate.yG 3 ls ms ws.length to rl wg=false):=by simpa [Hid] using hbare
  clear hbare hm2 hm3
  go_enter Tryz.func198,Tryz.ntmps198
  go_wp2_with fail
  refine (zc5 _ _ _ _ _ _ _ _ _ _ _ _ _ _).mono ?_
  rintro e w1 ⟨rfl,hb1⟩
  have hX1:=za (zl w _ _) (by simp) hb1
  have hz1:w.heap.size < w1.heap.size:=by have:=hb1.size;simp at this;omega
  have hB1:Below w.heap.size w w1:=((Below.refl _ _).alloc (Nat.le_refl _) _).trans (hb1.mono (by simp))
  clear hb1 hlk
  go_wp2_with fail
  refine (zf HBare.out (zb1 _ _ _ _ _ _ _ _ _ _ _ _ _ _)).mono ?_
  rintro e w2 ⟨rfl,hb2⟩
  have hX2:=za hX1 hz1 hb2
  have hz2:w.heap.size < w2.heap.size:=by have:=hb2.size;omega
  have hB2:Below w.heap.size w w2:=hB1.trans (hb2.mono (by omega))
  clear hb2 hX1 hz1 hB1
  go_wp2_with fail
  go_ret
  exact ⟨ze (by rw [HO.out,HBare.out];rfl),hB2⟩
 have HBare:Hid (Gate.yG 3 ls ms ws.length to rl wg=true):=hbare
 clear hbare
 by_cases hsnd:Gate.z8 ss ⟨nm,3,ls,ms,ws,to,rl,mu,fx,df,wg⟩=true
 rotate_left
 ·have HSnd:Hid (Gate.z8 ss ⟨nm,3,ls,ms,ws,to,rl,mu,fx,df,wg⟩=false):=by simpa [Hid] using hsnd
  clear hsnd hm3
  go_enter Tryz.func198,Tryz.ntmps198
  go_wp2_with fail
  refine (zc5 _ _ _ _ _ _ _ _ _ _ _ _ _ _).mono ?_
  rintro e w1 ⟨rfl,hb1⟩
  have hX1:=za (zl w _ _) (by simp) hb1
  have hz1:w.heap.size < w1.heap.size:=by have:=hb1.size;simp at this;omega
  have hB1:Below w.heap.size w w1:=((Below.refl _ _).alloc (Nat.le_refl _) _).trans (hb1.mono (by simp))
  clear hb1 hlk
  go_wp2_with fail
  refine (zf HBare.out (zb1 _ _ _ _ _ _ _ _ _ _ _ _ _ _)).mono ?_
  rintro e w2 ⟨rfl,hb2⟩
  have hX2:=za hX1 hz1 hb2
  have hz2:w.heap.size < w2.heap.size:=by have:=hb2.size;omega
  have hB2:Below w.heap.size w w2:=hB1.trans (hb2.mono (by omega))
  clear hb2 hX1 hz1 hB1
  go_wp2_with fail
  refine (zf HSnd.out (zcR _ _ _ _ _ _ _ _ _ _ _ _ _ _ _ _)).mono ?_
  rintro e w3 ⟨rfl,hb3⟩
  have hX3:=za hX2 hz2 hb3
  have hz3:w.heap.size < w3.heap.size:=by have:=hb3.size;omega
  have hB3:Below w.heap.size w w3:=hB2.trans (hb3.mono (by omega))
  clear hb3 hX2 hz2 hB2
  go_wp2_with fail
  go_ret
  exact ⟨ze (by rw [HO.out,HBare.out,HSnd.out];rfl),hB3⟩
 have HSnd:Hid (Gate.z8 ss ⟨nm,3,ls,ms,ws,to,rl,mu,fx,df,wg⟩=true):=hsnd
 clear hsnd
 by_cases hd:df.toList.isEmpty=true
 ·have HD:Hid (df.toList.isEmpty=true):=hd
  go_enter Tryz.func198,Tryz.ntmps198
  go_wp2_with fail
  refine (zc5 _ _ _ _ _ _ _ _ _ _ _ _ _ _).mono ?_
  rintro e w1 ⟨rfl,hb1⟩
  have hX1:=za (zl w _ _) (by simp) hb1
  have hz1:w.heap.size < w1.heap.size:=by have:=hb1.size;simp at this;omega
  have hB1:Below w.heap.size w w1:=((Below.refl _ _).alloc (Nat.le_refl _) _).trans (hb1.mono (by simp))
  clear hb1 hlk
  go_wp2_with fail
  refine (zf HBare.out (zb1 _ _ _ _ _ _ _ _ _ _ _ _ _ _)).mono ?_
  rintro e w2 ⟨rfl,hb2⟩
  have hX2:=za hX1 hz1 hb2
  have hz2:w.heap.size < w2.heap.size:=by have:=hb2.size;omega
  have hB2:Below w.heap.size w w2:=hB1.trans (hb2.mono (by omega))
  clear hb2 hX1 hz1 hB1
  go_wp2_with fail
  refine (zf HSnd.out (zcR _ _ _ _ _ _ _ _ _ _ _ _ _ _ _ _)).mono ?_
  rintro e w3 ⟨rfl,hb3⟩
  have hX3:=za hX2 hz2 hb3
  have hz3:w.heap.size < w3.heap.size:=by have:=hb3.size;omega
  have hB3:Below w.heap.size w w3:=hB2.trans (hb3.mono (by omega))
  clear hb3 hX2 hz2 hB2
  go_wp2_with fail
  go_ret
  exact ⟨ze (by rw [HO.out,HBare.out,HSnd.out,HD.out];rfl),hB3⟩
 ·have hd':df.toList.isEmpty=false:=by simpa using hd
  have HD:Hid (df.toList.isEmpty=false):=hd'
  have HZ:Hid (Gate.fits 3 ls ms ws df=Gate.zaQ ls ms df):=Gate.zjZ ls ms ws df (by intro h;rw [Gate.zq] at hd';simp [h] at hd')
  clear hd
  go_enter Tryz.func198,Tryz.ntmps198
  go_wp2_with fail
  refine (zc5 _ _ _ _ _ _ _ _ _ _ _ _ _ _).mono ?_
  rintro e w1 ⟨rfl,hb1⟩
  have hX1:=za (zl w _ _) (by simp) hb1
  have hz1:w.heap.size < w1.heap.size:=by have:=hb1.size;simp at this;omega
  have hB1:Below w.heap.size w w1:=((Below.refl _ _).alloc (Nat.le_refl _) _).trans (hb1.mono (by simp))
  clear hb1 hlk
  go_wp2_with fail
  refine (zf HBare.out (zb1 _ _ _ _ _ _ _ _ _ _ _ _ _ _)).mono ?_
  rintro e w2 ⟨rfl,hb2⟩
  have hX2:=za hX1 hz1 hb2
  have hz2:w.heap.size < w2.heap.size:=by have:=hb2.size;omega
  have hB2:Below w.heap.size w w2:=hB1.trans (hb2.mono (by omega))
  clear hb2 hX1 hz1 hB1
  go_wp2_with fail
  refine (zf HSnd.out (zcR _ _ _ _ _ _ _ _ _ _ _ _ _ _ _ _)).mono ?_
  rintro e w3 ⟨rfl,hb3⟩
  have hX3:=za hX2 hz2 hb3
  have hz3:w.heap.size < w3.heap.size:=by have:=hb3.size;omega
  have hB3:Below w.heap.size w w3:=hB2.trans (hb3.mono (by omega))
  clear hb3 hX2 hz2 hB2
  go_wp2_with fail
  refine (zfN _ _ _ _ _ _ _ _ _ _ _ _ _ hdf).mono ?_
  rintro e w4 ⟨rfl,hb4⟩
  have hB4:Below w.heap.size w w4:=hB3.trans (hb4.mono (by omega))
  clear hb4
  go_wp2_with fail
  go_ret
  exact ⟨ze (by rw [HO.out,HBare.out,HSnd.out,HD.out,HZ.out];rfl),hB4⟩
theorem znJ (r:Nat) (nm:ByteArray) (ls ms:Int) (a:Option Addr) (cap:Nat) (ws:List ByteArray) (to:ByteArray) (rl:Int) (mu fx:Bool) (df wg:ByteArray) (a0:Option Addr) (cap0:Nat) (ss:List Shp) (w:World) (hr:w.heap[r]?=some (.map yO 4)) (hdf:df.size<=maxLen) (hss:yL w a0 ss) :
 Calls Tryz.prog 198 #[.map (some r),.slice a0 ss.length cap0,.agg #[.string nm,.int .i64 4,.int .i64 ls,.int .i64 ms,.slice a ws.length cap,.string to,.int .i64 rl,.bool mu,.bool fx,.string df,.string wg]] w
  fun e w'=>e = .returned (.bool (Gate.yH ss ⟨nm,4,ls,ms,ws,to,rl,mu,fx,df,wg⟩))/\Below w.heap.size w w':=by
 have HO:Hid (Gate.yH ss ⟨nm,4,ls,ms,ws,to,rl,mu,fx,df,wg⟩=(Gate.yG 4 ls ms ws.length to rl wg && Gate.z8 ss ⟨nm,4,ls,ms,ws,to,rl,mu,fx,df,wg⟩ && (df.toList.isEmpty || Gate.fits 4 ls ms ws df))):=rfl
 have hlt:r < w.heap.size:=(Array.getElem?_eq_some_iff.1 hr).1
 have hlk:∀ o,(Instr.lookup 192 (.map (some r)) (.int .i64 4) true).run Tryz.prog (w.alloc o) = .ok (.tuple #[.func (.func 173) #[] #[],.bool true]) (w.alloc o) :=
  fun o=>yU Tryz.underlying192 Tryz.underlying3 (.int .i64 4) _ rfl yO 4 3 rfl (w.alloc o) r ((Below.heap_alloc w o r hlt).trans hr)
 clear hr
 have hm1:=zj6
 have hm2:=zje
 have hm3:=zfm
 by_cases hbare:Gate.yG 4 ls ms ws.length to rl wg=true
 rotate_left
 ·have HBare:Hid (Gate.yG 4 ls ms ws.length to rl wg=false):=by simpa [Hid] using hbare
  clear hbare hm2 hm3
  go_enter Tryz.func198,Tryz.ntmps198
  go_wp2_with fail
  refine (zc1 _ _ _ _ _ _ _ _ _ _ _ _ _ _).mono ?_
  rintro e w1 ⟨rfl,hb1⟩
  have hX1:=za (zl w _ _) (by simp) hb1
  have hz1:w.heap.size < w1.heap.size:=by have:=hb1.size;simp at this;omega
  have hB1:Below w.heap.size w w1:=((Below.refl _ _).alloc (Nat.le_refl _) _).trans (hb1.mono (by simp))
  clear hb1 hlk
  go_wp2_with fail
  refine (zf HBare.out (zb2 _ _ _ _ _ _ _ _ _ _ _ _ _ _)).mono ?_
  rintro e w2 ⟨rfl,hb2⟩
  have hX2:=za hX1 hz1 hb2
  have hz2:w.heap.size < w2.heap.size:=by have:=hb2.size;omega
  have hB2:Below w.heap.size w w2:=hB1.trans (hb2.mono (by omega))
  clear hb2 hX1 hz1 hB1
  go_wp2_with fail
  go_ret
  exact ⟨ze (by rw [HO.out,HBare.out];rfl),hB2⟩
 have HBare:Hid (Gate.yG 4 ls ms ws.length to rl wg=true):=hbare
 clear hbare
 by_cases hsnd:Gate.z8 ss ⟨nm,4,ls,ms,ws,to,rl,mu,fx,df,wg⟩=true
 rotate_left
 ·have HSnd:Hid (Gate.z8 ss ⟨nm,4,ls,ms,ws,to,rl,mu,fx,df,wg⟩=false):=by simpa [Hid] using hsnd
  clear hsnd hm3
  go_enter Tryz.func198,Tryz.ntmps198
  go_wp2_with fail
  refine (zc1 _ _ _ _ _ _ _ _ _ _ _ _ _ _).mono ?_
  rintro e w1 ⟨rfl,hb1⟩
  have hX1:=za (zl w _ _) (by simp) hb1
  have hz1:w.heap.size < w1.heap.size:=by have:=hb1.size;simp at this;omega
  have hB1:Below w.heap.size w w1:=((Below.refl _ _).alloc (Nat.le_refl _) _).trans (hb1.mono (by simp))
  clear hb1 hlk
  go_wp2_with fail
  refine (zf HBare.out (zb2 _ _ _ _ _ _ _ _ _ _ _ _ _ _)).mono ?_
  rintro e w2 ⟨rfl,hb2⟩
  have hX2:=za hX1 hz1 hb2
  have hz2:w.heap.size < w2.heap.size:=by have:=hb2.size;omega
  have hB2:Below w.heap.size w w2:=hB1.trans (hb2.mono (by omega))
  clear hb2 hX1 hz1 hB1
  go_wp2_with fail
  refine (zf HSnd.out (zcQ _ _ _ _ _ _ _ _ _ _ _ _ _ _ _ _ (by exact hss.mono hB2))).mono ?_
  rintro e w3 ⟨rfl,hb3⟩
  have hX3:=za hX2 hz2 hb3
  have hz3:w.heap.size < w3.heap.size:=by have:=hb3.size;omega
  have hB3:Below w.heap.size w w3:=hB2.trans (hb3.mono (by omega))
  clear hb3 hX2 hz2 hB2
  go_wp2_with fail
  go_ret
  exact ⟨ze (by rw [HO.out,HBare.out,HSnd.out];rfl),hB3⟩
 have HSnd:Hid (Gate.z8 ss ⟨nm,4,ls,ms,ws,to,rl,mu,fx,df,wg⟩=true):=hsnd
 clear hsnd
 by_cases hd:df.toList.isEmpty=true
 ·have HD:Hid (df.toList.isEmpty=true):=hd
  go_enter Tryz.func198,Tryz.ntmps198
  go_wp2_with fail
  refine (zc1 _ _ _ _ _ _ _ _ _ _ _ _ _ _).mono ?_
  rintro e w1 ⟨rfl,hb1⟩
  have hX1:=za (zl w _ _) (by simp) hb1
  have hz1:w.heap.size < w1.heap.size:=by have:=hb1.size;simp at this;omega
  have hB1:Below w.heap.size w w1:=((Below.refl _ _).alloc (Nat.le_refl _) _).trans (hb1.mono (by simp))
  clear hb1 hlk
  go_wp2_with fail
  refine (zf HBare.out (zb2 _ _ _ _ _ _ _ _ _ _ _ _ _ _)).mono ?_
  rintro e w2 ⟨rfl,hb2⟩
  have hX2:=za hX1 hz1 hb2
  have hz2:w.heap.size < w2.heap.size:=by have:=hb2.size;omega
  have hB2:Below w.heap.size w w2:=hB1.trans (hb2.mono (by omega))
  clear hb2 hX1 hz1 hB1
  go_wp2_with fail
  refine (zf HSnd.out (zcQ _ _ _ _ _ _ _ _ _ _ _ _ _ _ _ _ (by exact hss.mono hB2))).mono ?_
  rintro e w3 ⟨rfl,hb3⟩
  have hX3:=za hX2 hz2 hb3
  have hz3:w.heap.size < w3.heap.size:=by have:=hb3.size;omega
  have hB3:Below w.heap.size w w3:=hB2.trans (hb3.mono (by omega))
  clear hb3 hX2 hz2 hB2
  go_wp2_with fail
  go_ret
  exact ⟨ze (by rw [HO.out,HBare.out,HSnd.out,HD.out];rfl),hB3⟩
 ·have hd':df.toList.isEmpty=false:=by simpa using hd
  have HD:Hid (df.toList.isEmpty=false):=hd'
  have HZ:Hid (Gate.fits 4 ls ms ws df=Gate.zx df):=Gate.zms ls ms ws df (by intro h;rw [Gate.zq] at hd';simp [h] at hd')
  clear hd
  go_enter Tryz.func198,Tryz.ntmps198
  go_wp2_with fail
  refine (zc1 _ _ _ _ _ _ _ _ _ _ _ _ _ _).mono ?_
  rintro e w1 ⟨rfl,hb1⟩
  have hX1:=za (zl w _ _) (by simp) hb1
  have hz1:w.heap.size < w1.heap.size:=by have:=hb1.size;simp at this;omega
  have hB1:Below w.heap.size w w1:=((Below.refl _ _).alloc (Nat.le_refl _) _).trans (hb1.mono (by simp))
  clear hb1 hlk
  go_wp2_with fail
  refine (zf HBare.out (zb2 _ _ _ _ _ _ _ _ _ _ _ _ _ _)).mono ?_
  rintro e w2 ⟨rfl,hb2⟩
  have hX2:=za hX1 hz1 hb2
  have hz2:w.heap.size < w2.heap.size:=by have:=hb2.size;omega
  have hB2:Below w.heap.size w w2:=hB1.trans (hb2.mono (by omega))
  clear hb2 hX1 hz1 hB1
  go_wp2_with fail
  refine (zf HSnd.out (zcQ _ _ _ _ _ _ _ _ _ _ _ _ _ _ _ _ (by exact hss.mono hB2))).mono ?_
  rintro e w3 ⟨rfl,hb3⟩
  have hX3:=za hX2 hz2 hb3
  have hz3:w.heap.size < w3.heap.size:=by have:=hb3.size;omega
  have hB3:Below w.heap.size w w3:=hB2.trans (hb3.mono (by omega))
  clear hb3 hX2 hz2 hB2
  go_wp2_with fail
  refine (zfw _ _ _ _ _ _ _ _ _ _ _ _ _ hdf).mono ?_
  rintro e w4 ⟨rfl,hb4⟩
  have hB4:Below w.heap.size w w4:=hB3.trans (hb4.mono (by omega))
  clear hb4
  go_wp2_with fail
  go_ret
  exact ⟨ze (by rw [HO.out,HBare.out,HSnd.out,HD.out,HZ.out];rfl),hB4⟩
theorem zjm (r:Nat) (nm:ByteArray) (kd ls ms:Int) (a:Option Addr) (cap:Nat) (ws:List ByteArray) (to:ByteArray) (rl:Int) (mu fx:Bool) (df wg:ByteArray) (a0:Option Addr) (cap0:Nat) (ss:List Shp) (w:World) (hr:w.heap[r]?=some (.map yO 4)) (h1:kd ≠ 1) (h2:kd ≠ 2) (h3:kd ≠ 3) (h4:kd ≠ 4) :
 Calls Tryz.prog 198 #[.map (some r),.slice a0 ss.length cap0,.agg #[.string nm,.int .i64 kd,.int .i64 ls,.int .i64 ms,.slice a ws.length cap,.string to,.int .i64 rl,.bool mu,.bool fx,.string df,.string wg]] w
  fun e w'=>e = .returned (.bool (Gate.yH ss ⟨nm,kd,ls,ms,ws,to,rl,mu,fx,df,wg⟩))/\Below w.heap.size w w':=by
 have HO:Hid (Gate.yH ss ⟨nm,kd,ls,ms,ws,to,rl,mu,fx,df,wg⟩=false):=by simp [Hid,Gate.yH,Gate.bare,Gate.yG,h1,h2,h3,h4]
 have hlt:r < w.heap.size:=(Array.getElem?_eq_some_iff.1 hr).1
 have hlk:∀ o,(Instr.lookup 192 (.map (some r)) (.int .i64 kd) true).run Tryz.prog (w.alloc o) = .ok (.tuple #[.nilFunc,.bool false]) (w.alloc o) :=
  fun o=>zbV Tryz.underlying192 Tryz.underlying3 (.int .i64 kd) _ rfl yO 4 (zjQ kd h1 h2 h3 h4) (w.alloc o) (zjJ _) r ((Below.heap_alloc w o r hlt).trans hr)
 clear hr h1 h2 h3 h4
 go_enter Tryz.func198,Tryz.ntmps198
 go_wp2_with fail
 go_ret
 exact ⟨ze HO.out.symm,(Below.refl _ _).alloc (Nat.le_refl _) _⟩
theorem zlg (r:Nat) (nm:ByteArray) (kd ls ms:Int) (a:Option Addr) (cap:Nat) (ws:List ByteArray) (to:ByteArray) (rl:Int) (mu fx:Bool) (df wg:ByteArray) (a0:Option Addr) (cap0:Nat) (ss:List Shp) (w:World) (hr:w.heap[r]?=some (.map yO 4)) (hdf:df.size<=maxLen) (hwg:wg.size<=maxLen) (hws:zF w a ws) (hss:yL w a0 ss) :
 Calls Tryz.prog 198 #[.map (some r),.slice a0 ss.length cap0,.agg #[.string nm,.int .i64 kd,.int .i64 ls,.int .i64 ms,.slice a ws.length cap,.string to,.int .i64 rl,.bool mu,.bool fx,.string df,.string wg]] w
  fun e w'=>e = .returned (.bool (Gate.yH ss ⟨nm,kd,ls,ms,ws,to,rl,mu,fx,df,wg⟩))/\Below w.heap.size w w':=by
 by_cases h1:kd=1
 ·subst h1;exact znC r nm ls ms a cap ws to rl mu fx df wg a0 cap0 ss w hr hdf hwg
 by_cases h2:kd=2
 ·subst h2;exact zny r nm ls ms a cap ws to rl mu fx df wg a0 cap0 ss w hr hws
 by_cases h3:kd=3
 ·subst h3;exact znO r nm ls ms a cap ws to rl mu fx df wg a0 cap0 ss w hr hdf
 by_cases h4:kd=4
 ·subst h4;exact znJ r nm ls ms a cap ws to rl mu fx df wg a0 cap0 ss w hr hdf hss
 exact zjm r nm kd ls ms a cap ws to rl mu fx df wg a0 cap0 ss w hr h1 h2 h3 h4
theorem zov {fs:List Fld} {k:Nat} (h:k < fs.length) (hh:Gate.hasName (fs.take k) fs[k].nm=true):(Gate.zP fs fs[k].nm != (k:Int))=true:=by
 obtain ⟨j,hj,e⟩:=Gate.ziX fs _ k h hh
 rw [e,bne_iff_ne];omega
theorem zou {fs:List Fld} {k:Nat} (h:k < fs.length) (hh:Gate.hasName (fs.take k) fs[k].nm=false):(Gate.zP fs fs[k].nm != (k:Int))=false:=by
 rw [Gate.zdh fs _ k h hh rfl];simp
theorem zb6 (r:Nat) (a0:Option Addr) (cap0:Nat) (ss:List Shp) (a:Option Addr) (cap:Nat) (fs:List Fld) (w:World) (hr:w.heap[r]?=some (.map yO 4)) (hss:yL w a0 ss) (hw:zR w a fs) :
 Calls Tryz.prog 169 #[.map (some r),.slice a0 ss.length cap0,.slice a fs.length cap] w fun e w'=>e = .returned (.bool (Gate.yY ss fs))/\Below w.heap.size w w':=by
 have hl:=hw.len
 unfold maxLen at hl
 have hrlt:r < w.heap.size:=(Array.getElem?_eq_some_iff.1 hr).1
 by_cases h6:fs.length<=6
 rotate_left
 ·have HF:Hid (Gate.yY ss fs=false):=by simp [Hid,Gate.yY,h6]
  clear hw hr hss
  go_enter Tryz.func169,Tryz.ntmps169
  go_wp2
  go_ret
  exact ⟨ze HF.out.symm,Below.refl _ _⟩
 have HG:Hid (Gate.yY ss fs=Gate.up (Gate.zdD ss fs) fs.length):=by simp [Hid,Gate.yY,h6]
 have h6I:(fs.length:Int)<=6:=by omega
 go_enter Tryz.func169,Tryz.ntmps169
 go_wp2
 go_loopw [14] (fun i wr=>∃ k:Nat,k<=fs.length/\i = .int .i64 k/\Gate.up (Gate.zdD ss fs) k=true/\Below w.heap.size w wr) (fun i _=>fs.length - (intOf i).toNat)
 case atStart=>exact ⟨0,Nat.zero_le _,rfl,rfl,Below.refl _ _⟩
 case round =>
  obtain ⟨k,hk,rfl,hup,hB⟩:=hrel
  have hsz:=hB.size
  by_cases hlt:k < fs.length
  ·obtain ⟨b,off,rfl,hb,hrw⟩:=hw.rows (by rintro rfl;simp at hlt)
   obtain ⟨wa,wcap,hf⟩:=hrw k hlt
   obtain ⟨c0,c1,c2,c3,c4,c5,c6,c7,c8,c9,c10⟩:=(hf.mono hb hB).load
   have hsm:=hf.small
   have hst:=hf.strs.mono hB
   have hfa:zR wr (some ⟨b,off,none⟩) fs:=hw.mono hB
   have hsa:yL wr a0 ss:=hss.mono hB
   have hra:wr.heap[r]?=some (.map yO 4):=(hB.block r hrlt).trans hr
   have HO:Hid (Gate.zdD ss fs k=(Gate.zx fs[k].nm && !Gate.hasName (fs.take k) fs[k].nm && Gate.yH ss fs[k])):=Gate.zhD ss fs k hlt
   have HS:Hid (Gate.zdD ss fs k=true->Gate.up (Gate.zdD ss fs) (k+1)=true):=fun h=>by rw [Gate.jc,hup,h];rfl
   have HN:Hid (Gate.zdD ss fs k=false->Gate.yY ss fs=false):=fun h=>by rw [HG.out];exact Gate.zaw hlt h
   clear hw hrw hf hup hss hr
   by_cases hn:Gate.zx fs[k].nm=true
   rotate_left
   ·have HNm:Hid (Gate.zx fs[k].nm=false):=by simpa [Hid] using hn
    clear hn
    go_wp2_with fail
    refine (zf HNm.out (zG _ _ hsm.nm)).mono ?_
    rintro e w1 ⟨rfl,rfl⟩
    go_wp2_with fail
    go_ret
    exact ⟨ze (HN.out (by rw [HO.out,HNm.out];rfl)).symm,hB.alloc hsz _⟩
   have HNm:Hid (Gate.zx fs[k].nm=true):=hn
   clear hn
   by_cases hh:Gate.hasName (fs.take k) fs[k].nm=true
   ·have HH:Hid (Gate.hasName (fs.take k) fs[k].nm=true):=hh
    have hpl:=zov hlt hh
    clear hh
    go_wp2_with fail
    refine (zf HNm.out (zG _ _ hsm.nm)).mono ?_
    rintro e w1 ⟨rfl,rfl⟩
    go_wp2_with fail
    refine (jk _ _ _ _ _ (hfa.mono ((Below.refl _ _).alloc (Nat.le_refl _) _))).mono ?_
    rintro e w2 ⟨rfl,hb2⟩
    have hB2:Below w.heap.size w w2:=(hB.alloc hsz _).trans (hb2.mono (by simp;omega))
    clear hb2
    go_wp2_with fail
    go_ret
    exact ⟨ze (HN.out (by rw [HO.out,HNm.out,HH.out];rfl)).symm,hB2⟩
   ·have HH:Hid (Gate.hasName (fs.take k) fs[k].nm=false):=by simpa [Hid] using hh
    have hpl:=zou hlt HH.out
    clear hh
    by_cases hok:Gate.yH ss fs[k]=true
    all_goals
     first
      | (have HK:Hid (Gate.yH ss fs[k]=true):=hok)
      | (have HK:Hid (Gate.yH ss fs[k]=false):=by simpa [Hid] using hok)
     clear hok
     go_wp2_with fail
     refine (zf HNm.out (zG _ _ hsm.nm)).mono ?_
     rintro e w1 ⟨rfl,rfl⟩
     go_wp2_with fail
     refine (jk _ _ _ _ _ (hfa.mono ((Below.refl _ _).alloc (Nat.le_refl _) _))).mono ?_
     rintro e w2 ⟨rfl,hb2⟩
     have hX2:=za (zl wr _ _) (by simp) hb2
     have hz2:wr.heap.size < w2.heap.size:=by have:=hb2.size;simp at this;omega
     have hbr2:Below wr.heap.size wr w2:=((Below.refl _ _).alloc (Nat.le_refl _) _).trans (hb2.mono (by simp))
     have hB2:Below w.heap.size w w2:=hB.trans (hbr2.mono hsz)
     have hra2:w2.heap[r]?=some (.map yO 4):=(hbr2.block r (by omega)).trans hra
     clear hb2
     go_wp2_with fail
     refine (zf HK.out (zlg _ _ _ _ _ _ _ _ _ _ _ _ _ _ _ _ _ _ hra2 hsm.df hsm.wg (hst.mono hbr2) (hsa.mono hbr2))).mono ?_
     rintro e w3 ⟨rfl,hb3⟩
     have hB3:Below w.heap.size w w3:=hB2.trans (hb3.mono (by omega))
     clear hb3 hX2
     go_wp2_with fail
    ·exact ⟨⟨k+1,by omega,by go_num,HS.out (by rw [HO.out,HNm.out,HH.out,HK.out];rfl),hB3⟩,by simp [intOf];omega⟩
    ·go_ret
     exact ⟨ze (HN.out (by rw [HO.out,HNm.out,HH.out,HK.out];rfl)).symm,hB3⟩
  ·have HF:Hid (Gate.yY ss fs=true):=by
    have e:k=fs.length:=by omega
    subst e;rw [HG.out];exact hup
   clear hup hw
   go_wp2
   go_ret
   exact ⟨ze HF.out.symm,hB⟩
end Go.Proofs.YtaickbhifenbjaaGreat
