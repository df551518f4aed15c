import Derived.Test.YtihdafafigceiaaGreatM11
import Derived.Test.YtihdafafigceiaaGreatM14
import Derived.Test.YtihdafafigceiaaGreatM09
import Derived.Test.YtihdafafigceiaaGreatM12
set_option maxHeartbeats 1000000
namespace Go.Proofs.YtihdafafigceiaaGreat
open Go.RowKit
theorem znE (a:Option Addr) (cap:Nat) (ws:List ByteArray) (v:ByteArray) (w:World) (hw:zD w a ws) :
 Calls Tryz.prog 246 #[.slice a ws.length cap,.string v] w fun e w'=>∃ r:Int,e = .returned (.int .i64 r)/\decide (0<=r)=Gate.has ws v/\w'=w:=by
 have hl:=hw.len
 unfold maxLen at hl
 by_cases hne:ws=[]
 ·subst hne
  go_enter Tryz.func246,Tryz.ntmps246
  go_wp2
  go_loop [8] (fun i=>i = .int .i64 0) (fun i=>0)
  case atStart=>rfl
  case round =>
   subst hrel
   go_wp2
   go_ret
   exact ⟨_,rfl,rfl,rfl⟩
 ·obtain ⟨b,off,rfl,hb,hc⟩:=hw.cells hne
  clear hw
  have HL:Hid (0 < ws.length):=List.length_pos_iff.2 hne
  clear hne
  go_enter Tryz.func246,Tryz.ntmps246
  go_wp2
  go_loop [8] (fun i=>∃ k:Nat,k<=ws.length/\i = .int .i64 k/\Gate.has (ws.take k) v=false) (fun i=>ws.length - (intOf i).toNat)
  case atStart=>exact ⟨0,Nat.zero_le _,rfl,rfl⟩
  case round =>
   obtain ⟨k,hk,rfl,hall⟩:=hrel
   by_cases hlt:k < ws.length
   ·have hck:=hc k hlt
    clear hc
    have HS:Hid (Gate.has (ws.take (k+1)) v=(false || decide (ws[k]=v))):=by rw [Gate.zmj ws v k hlt,hall];rfl
    have HN:Hid (ws[k]=v->Gate.has ws v=true):=fun h=>Gate.zof ws v k hlt h
    clear hall
    by_cases he:ws[k]=v
    ·have hbe:(v.toList == ws[k].toList)=true:=by rw [Gate.beq_toList];simpa using he.symm
     have HE:Hid (ws[k]=v):=he
     clear he
     go_wp2
     go_ret
     exact ⟨_,rfl,by rw [HN.out HE.out];simp,rfl⟩
    ·have hbe:(v.toList == ws[k].toList)=false:=by rw [Gate.beq_toList];simpa using fun h=>he h.symm
     have HE:Hid (¬ ws[k]=v):=he
     clear he
     go_wp2
     go_round
     case rel=>exact ⟨k+1,by omega,by go_num,by rw [HS.out,decide_eq_false HE.out];rfl⟩
     case measure=>simp [intOf];omega
   ·have HA:Hid (Gate.has ws v=false):=by rw [<- Gate.zns ws v k (by omega)];exact hall
    clear hall hc
    go_wp2
    go_ret
    exact ⟨_,rfl,by rw [HA.out];rfl,rfl⟩
theorem zkj (a:Option Addr) (cap:Nat) (ws:List ByteArray) (v:ByteArray) (w:World) (hw:zD w a ws) :
 Calls Tryz.prog 245 #[.slice a ws.length cap,.string v] w fun e w'=>e = .returned (.bool (Gate.has ws v))/\w'=w:=by
 go_enter Tryz.func245,Tryz.ntmps245
 go_wp2_with (go_at_call 246;refine (znE _ _ _ _ _ hw).mono ?_;rintro e w' ⟨r,rfl,hr,rfl⟩)
 go_ret
 exact ⟨rfl,rfl⟩
theorem zf0 (nm:ByteArray) (kd ls ms:Int) (a:Option Addr) (cap:Nat) (ws:List ByteArray) (to:ByteArray) (rl:Int) (mu fx:Bool) (df wg:ByteArray) (v:ByteArray) (w:World) (hw:zD w a ws) :
 Calls Tryz.prog 243 #[.agg #[.string nm,.int .i64 kd,.int .i64 ls,.int .i64 ms,.slice a ws.length cap,.string to,.int .i64 rl,.bool mu,.bool fx,.string df,.string wg],.string v] w
  fun e w'=>e = .returned (.bool (Gate.has ws v))/\Below w.heap.size w w':=by
 go_enter Tryz.func243,Tryz.ntmps243
 go_wp2_with (go_at_call 245;refine (zkj _ _ _ _ _ (hw.mono (by exact (Below.refl _ _).alloc (Nat.le_refl _) _))).mono ?_;rintro e w' ⟨rfl,rfl⟩)
 go_ret
 exact ⟨rfl,(Below.refl _ _).alloc (Nat.le_refl _) _⟩
theorem zft (nm:ByteArray) (kd ls ms:Int) (sl:Value) (to:ByteArray) (rl:Int) (mu fx:Bool) (df wg:ByteArray) (v:ByteArray) (w:World) (hs:v.size<=maxLen) :
 Calls Tryz.prog 251 #[.agg #[.string nm,.int .i64 kd,.int .i64 ls,.int .i64 ms,sl,.string to,.int .i64 rl,.bool mu,.bool fx,.string df,.string wg],.string v] w
  fun e w'=>e = .returned (.bool (Gate.zy v))/\Below w.heap.size w w':=by
 go_enter Tryz.func251,Tryz.ntmps251
 go_wp2_with (go_at_call 140;refine (zF _ _ hs).mono ?_;rintro e w' ⟨rfl,rfl⟩)
 go_ret
 exact ⟨rfl,(Below.refl _ _).alloc (Nat.le_refl _) _⟩
theorem zfQ (nm:ByteArray) (kd ls ms:Int) (sl:Value) (to:ByteArray) (rl:Int) (mu fx:Bool) (df wg:ByteArray) (s:ByteArray) (w:World) (hs:s.size<=maxLen) :
 Calls Tryz.prog 248 #[.agg #[.string nm,.int .i64 kd,.int .i64 ls,.int .i64 ms,sl,.string to,.int .i64 rl,.bool mu,.bool fx,.string df,.string wg],.string s] w
  fun e w'=>e = .returned (.bool (Gate.za0 ls ms s))/\Below w.heap.size w w':=by
 unfold maxLen at hs
 by_cases h1:(s.size:Int) < ls
 ·go_enter Tryz.func248,Tryz.ntmps248
  go_wp2
  go_ret
  refine ⟨ze ?_,(Below.refl _ _).alloc (Nat.le_refl _) _⟩
  unfold Gate.za0;rw [decide_eq_false (by omega)];rfl
 ·by_cases h2:ms < (s.size:Int)
  ·go_enter Tryz.func248,Tryz.ntmps248
   go_wp2
   go_ret
   refine ⟨ze ?_,(Below.refl _ _).alloc (Nat.le_refl _) _⟩
   unfold Gate.za0;rw [decide_eq_false (show ¬ (s.size:Int)<=ms by omega)];simp
  ·have HF:Hid (Gate.za0 ls ms s=Gate.zbl s):=by
    unfold Gate.za0
    rw [decide_eq_true (show ls<=s.size by omega),decide_eq_true (show (s.size:Int)<=ms by omega)];simp [Hid]
   go_enter Tryz.func248,Tryz.ntmps248
   go_wp2
   go_loop [20] (fun i=>∃ k:Nat,k<=s.size/\i = .int .i64 k/\(s.data.toList.take k).all Gate.yY=true) (fun i=>s.size - (intOf i).toNat)
   case atStart=>exact ⟨0,Nat.zero_le _,rfl,rfl⟩
   case round =>
    obtain ⟨k,hk,rfl,hall⟩:=hrel
    by_cases hlt:k < s.size
    ·have HS:Hid ((s.data.toList.take (k+1)).all Gate.yY=(true && Gate.yY s[k])):=by rw [Gate.zaL _ s k hlt,hall];rfl
     have HN:Hid (Gate.yY s[k]=false->Gate.zbl s=false):=fun h=>Gate.zbS Gate.yY s k hlt h
     clear hall
     by_cases h33:(s[k].toNat:Int) < 33
     ·have HC:Hid (Gate.yY s[k]=false):=by simp [Gate.yY,Hid];omega
      go_wp2
      go_ret
      exact ⟨ze (HF.out.trans (HN.out HC.out)).symm,(Below.refl _ _).alloc (Nat.le_refl _) _⟩
     ·by_cases h126:126 < (s[k].toNat:Int)
      ·have HC:Hid (Gate.yY s[k]=false):=by simp [Gate.yY,Hid];omega
       go_wp2
       go_ret
       exact ⟨ze (HF.out.trans (HN.out HC.out)).symm,(Below.refl _ _).alloc (Nat.le_refl _) _⟩
      ·have HC:Hid (Gate.yY s[k]=true):=by simp [Gate.yY,Hid];omega
       go_wp2
       go_round
       case rel=>exact ⟨k+1,by omega,by go_num,by rw [HS.out,HC.out];rfl⟩
       case measure=>simp [intOf];omega
    ·have HA:Hid (Gate.zbl s=true):=by unfold Gate.zbl Hid;rw [<- Gate.zav s k (by omega)];exact hall
     clear hall
     go_wp2
     go_ret
     exact ⟨ze (HF.out.trans HA.out).symm,(Below.refl _ _).alloc (Nat.le_refl _) _⟩
theorem zev (nm:ByteArray) (kd ls ms:Int) (sl:Value) (to:ByteArray) (rl:Int) (mu fx:Bool) (df wg:ByteArray) (s:ByteArray) (w:World) (hs:s.size<=maxLen) :
 Calls Tryz.prog 240 #[.agg #[.string nm,.int .i64 kd,.int .i64 ls,.int .i64 ms,sl,.string to,.int .i64 rl,.bool mu,.bool fx,.string df,.string wg],.string s] w
  fun e w'=>e = .returned (.bool (Gate.zal ls ms s))/\Below w.heap.size w w':=by
 by_cases hd:Gate.zai s=true
 ·have HE:Hid (zay s=Gate.zfX s):=by unfold zay Hid;rw [hd];rfl
  have HF:Hid (Gate.zal ls ms s=(decide (ls<=Gate.zfX s) && decide (Gate.zfX s<=ms))):=by unfold Gate.zal Hid;rw [hd];rfl
  go_enter Tryz.func240,Tryz.ntmps240
  go_wp2_with (go_at_call 221;refine (zcR _ _ hs).mono ?_;rintro e w' ⟨rfl,rfl⟩)
  all_goals
   go_ret
   refine ⟨ze ?_,(Below.refl _ _).alloc (Nat.le_refl _) _⟩
   rw [HF.out];have:=HE.out;rw [Bool.eq_iff_iff];simp;omega
 ·have hd':Gate.zai s=false:=by simpa using hd
  have HF:Hid (Gate.zal ls ms s=false):=by unfold Gate.zal Hid;rw [hd'];rfl
  go_enter Tryz.func240,Tryz.ntmps240
  go_wp2_with (go_at_call 221;refine (zcR _ _ hs).mono ?_;rintro e w' ⟨rfl,rfl⟩)
  go_ret
  exact ⟨ze HF.out.symm,(Below.refl _ _).alloc (Nat.le_refl _) _⟩
def yM:Array MapEntry:=#[⟨.int .i64 1,.func (.func 174) #[] #[],0⟩,⟨.int .i64 2,.func (.func 175) #[] #[],1⟩,⟨.int .i64 3,.func (.func 176) #[] #[],2⟩,⟨.int .i64 4,.func (.func 177) #[] #[],3⟩]
theorem zcp (w:World) :
 Calls Tryz.prog 136 #[] w fun e w'=>e = .returned (.map (some w.heap.size))/\w'=w.alloc (.map yM 4):=by
 have hmm:=@run_makeMap Tryz.prog
 have i1:=za6 (P:=Tryz.prog) Tryz.underlying199 Tryz.underlying3 (.int .i64 1) (.func (.func 174) #[] #[]) rfl #[] 0 rfl
 have i2:=za6 (P:=Tryz.prog) Tryz.underlying199 Tryz.underlying3 (.int .i64 2) (.func (.func 175) #[] #[]) rfl #[⟨.int .i64 1,.func (.func 174) #[] #[],0⟩] 1 rfl
 have i3:=za6 (P:=Tryz.prog) Tryz.underlying199 Tryz.underlying3 (.int .i64 3) (.func (.func 176) #[] #[]) rfl #[⟨.int .i64 1,.func (.func 174) #[] #[],0⟩,⟨.int .i64 2,.func (.func 175) #[] #[],1⟩] 2 rfl
 have i4:=za6 (P:=Tryz.prog) Tryz.underlying199 Tryz.underlying3 (.int .i64 4) (.func (.func 177) #[] #[]) rfl #[⟨.int .i64 1,.func (.func 174) #[] #[],0⟩,⟨.int .i64 2,.func (.func 175) #[] #[],1⟩,⟨.int .i64 3,.func (.func 176) #[] #[],2⟩] 3 rfl
 simp only [List.push_toArray,List.cons_append,List.nil_append,Nat.zero_add,Nat.reduceAdd] at i1 i2 i3 i4
 go_enter Tryz.func136,Tryz.ntmps136
 go_wp2
 go_ret
 exact ⟨rfl,rfl⟩
theorem zc7 (nm:ByteArray) (kd ls ms:Int) (a:Option Addr) (n cap:Nat) (to:ByteArray) (rl:Int) (mu fx:Bool) (df wg:ByteArray) (w:World) :
 Calls Tryz.prog 174 #[.agg #[.string nm,.int .i64 kd,.int .i64 ls,.int .i64 ms,.slice a n cap,.string to,.int .i64 rl,.bool mu,.bool fx,.string df,.string wg]] w
  fun e w'=>e = .returned (.iface 240 (.agg #[.string nm,.int .i64 kd,.int .i64 ls,.int .i64 ms,.slice a n cap,.string to,.int .i64 rl,.bool mu,.bool fx,.string df,.string wg]))/\Below w.heap.size w w':=by
 go_enter Tryz.func174,Tryz.ntmps174
 go_wp2
 go_ret
 exact ⟨rfl,(Below.refl _ _).alloc (Nat.le_refl _) _⟩
theorem zdm (nm:ByteArray) (kd ls ms:Int) (a:Option Addr) (n cap:Nat) (to:ByteArray) (rl:Int) (mu fx:Bool) (df wg:ByteArray) (w:World) :
 Calls Tryz.prog 175 #[.agg #[.string nm,.int .i64 kd,.int .i64 ls,.int .i64 ms,.slice a n cap,.string to,.int .i64 rl,.bool mu,.bool fx,.string df,.string wg]] w
  fun e w'=>e = .returned (.iface 242 (.agg #[.string nm,.int .i64 kd,.int .i64 ls,.int .i64 ms,.slice a n cap,.string to,.int .i64 rl,.bool mu,.bool fx,.string df,.string wg]))/\Below w.heap.size w w':=by
 go_enter Tryz.func175,Tryz.ntmps175
 go_wp2
 go_ret
 exact ⟨rfl,(Below.refl _ _).alloc (Nat.le_refl _) _⟩
theorem zdk (nm:ByteArray) (kd ls ms:Int) (a:Option Addr) (n cap:Nat) (to:ByteArray) (rl:Int) (mu fx:Bool) (df wg:ByteArray) (w:World) :
 Calls Tryz.prog 176 #[.agg #[.string nm,.int .i64 kd,.int .i64 ls,.int .i64 ms,.slice a n cap,.string to,.int .i64 rl,.bool mu,.bool fx,.string df,.string wg]] w
  fun e w'=>e = .returned (.iface 243 (.agg #[.string nm,.int .i64 kd,.int .i64 ls,.int .i64 ms,.slice a n cap,.string to,.int .i64 rl,.bool mu,.bool fx,.string df,.string wg]))/\Below w.heap.size w w':=by
 go_enter Tryz.func176,Tryz.ntmps176
 go_wp2
 go_ret
 exact ⟨rfl,(Below.refl _ _).alloc (Nat.le_refl _) _⟩
theorem zdo (nm:ByteArray) (kd ls ms:Int) (a:Option Addr) (n cap:Nat) (to:ByteArray) (rl:Int) (mu fx:Bool) (df wg:ByteArray) (w:World) :
 Calls Tryz.prog 177 #[.agg #[.string nm,.int .i64 kd,.int .i64 ls,.int .i64 ms,.slice a n cap,.string to,.int .i64 rl,.bool mu,.bool fx,.string df,.string wg]] w
  fun e w'=>e = .returned (.iface 244 (.agg #[.string nm,.int .i64 kd,.int .i64 ls,.int .i64 ms,.slice a n cap,.string to,.int .i64 rl,.bool mu,.bool fx,.string df,.string wg]))/\Below w.heap.size w w':=by
 go_enter Tryz.func177,Tryz.ntmps177
 go_wp2
 go_ret
 exact ⟨rfl,(Below.refl _ _).alloc (Nat.le_refl _) _⟩
theorem zfP (x:Value) (w:World):(method 395 240 x "loop.example/wharfgate/impl.fits").run Tryz.prog w = .ok (240,x) w:=by kernel_rfl
theorem zfW (x:Value) (w:World):(method 395 242 x "loop.example/wharfgate/impl.fits").run Tryz.prog w = .ok (243,x) w:=by kernel_rfl
theorem zfw (x:Value) (w:World):(method 395 243 x "loop.example/wharfgate/impl.fits").run Tryz.prog w = .ok (248,x) w:=by kernel_rfl
theorem zfg (x:Value) (w:World):(method 395 244 x "loop.example/wharfgate/impl.fits").run Tryz.prog w = .ok (251,x) w:=by kernel_rfl
theorem zli (r:Nat) (nm:ByteArray) (ls ms:Int) (a:Option Addr) (cap:Nat) (ws:List ByteArray) (to:ByteArray) (rl:Int) (mu fx:Bool) (df wg:ByteArray) (v:ByteArray) (w:World) (hr:w.heap[r]?=some (.map yM 4)) (hv:v.size<=maxLen) (hz:¬ v.size=0) :
 Calls Tryz.prog 180 #[.map (some r),.agg #[.string nm,.int .i64 1,.int .i64 ls,.int .i64 ms,.slice a ws.length cap,.string to,.int .i64 rl,.bool mu,.bool fx,.string df,.string wg],.string v] w
  fun e w'=>e = .returned (.bool (Gate.fits 1 ls ms ws v))/\Below w.heap.size w w':=by
 rw [Gate.zmQ ls ms ws v hz]
 have hne:v.toList.isEmpty=false:=by rw [Gate.zu];simp [hz]
 have hlt:r < w.heap.size:=(Array.getElem?_eq_some_iff.1 hr).1
 have hlk:∀ o,(Instr.lookup 199 (.map (some r)) (.int .i64 1) true).run Tryz.prog (w.alloc o) = .ok (.tuple #[.func (.func 174) #[] #[],.bool true]) (w.alloc o) :=
  fun o=>yQ Tryz.underlying199 Tryz.underlying3 (.int .i64 1) _ rfl yM 4 0 rfl (w.alloc o) r ((Below.heap_alloc w o r hlt).trans hr)
 clear hr
 have hmt:=zfP
 go_enter Tryz.func180,Tryz.ntmps180
 go_wp2_with (first
  | (go_at_call 174;refine (zc7 _ _ _ _ _ _ _ _ _ _ _ _ _ _).mono ?_;rintro e w1 ⟨rfl,hb1⟩)
  | (go_at_call 240;refine (zev _ _ _ _ _ _ _ _ _ _ _ _ _ hv).mono ?_;rintro e w2 ⟨rfl,hb2⟩))
 go_ret
 exact ⟨rfl,(((Below.refl _ _).alloc (Nat.le_refl _) _).trans (hb1.mono (by simp))).trans (hb2.mono (by have:=hb1.size;simp at this;omega))⟩
theorem zlJ (r:Nat) (nm:ByteArray) (ls ms:Int) (a:Option Addr) (cap:Nat) (ws:List ByteArray) (to:ByteArray) (rl:Int) (mu fx:Bool) (df wg:ByteArray) (v:ByteArray) (w:World) (hr:w.heap[r]?=some (.map yM 4)) (hws:zD w a ws) (hz:¬ v.size=0) :
 Calls Tryz.prog 180 #[.map (some r),.agg #[.string nm,.int .i64 2,.int .i64 ls,.int .i64 ms,.slice a ws.length cap,.string to,.int .i64 rl,.bool mu,.bool fx,.string df,.string wg],.string v] w
  fun e w'=>e = .returned (.bool (Gate.fits 2 ls ms ws v))/\Below w.heap.size w w':=by
 rw [Gate.zm8 ls ms ws v hz]
 have hne:v.toList.isEmpty=false:=by rw [Gate.zu];simp [hz]
 have hlt:r < w.heap.size:=(Array.getElem?_eq_some_iff.1 hr).1
 have hlk:∀ o,(Instr.lookup 199 (.map (some r)) (.int .i64 2) true).run Tryz.prog (w.alloc o) = .ok (.tuple #[.func (.func 175) #[] #[],.bool true]) (w.alloc o) :=
  fun o=>yQ Tryz.underlying199 Tryz.underlying3 (.int .i64 2) _ rfl yM 4 1 rfl (w.alloc o) r ((Below.heap_alloc w o r hlt).trans hr)
 clear hr
 have hmt:=zfW
 go_enter Tryz.func180,Tryz.ntmps180
 go_wp2_with (first
  | (go_at_call 175;refine (zdm _ _ _ _ _ _ _ _ _ _ _ _ _ _).mono ?_;rintro e w1 ⟨rfl,hb1⟩;have hws1:=(hws.mono ((Below.refl _ _).alloc (Nat.le_refl _) _)).mono hb1)
  | (go_at_call 243;refine (zf0 _ _ _ _ _ _ _ _ _ _ _ _ _ _ _ (by exact hws1)).mono ?_;rintro e w2 ⟨rfl,hb2⟩))
 go_ret
 exact ⟨rfl,(((Below.refl _ _).alloc (Nat.le_refl _) _).trans (hb1.mono (by simp))).trans (hb2.mono (by have:=hb1.size;simp at this;omega))⟩
theorem zlH (r:Nat) (nm:ByteArray) (ls ms:Int) (a:Option Addr) (cap:Nat) (ws:List ByteArray) (to:ByteArray) (rl:Int) (mu fx:Bool) (df wg:ByteArray) (v:ByteArray) (w:World) (hr:w.heap[r]?=some (.map yM 4)) (hv:v.size<=maxLen) (hz:¬ v.size=0) :
 Calls Tryz.prog 180 #[.map (some r),.agg #[.string nm,.int .i64 3,.int .i64 ls,.int .i64 ms,.slice a ws.length cap,.string to,.int .i64 rl,.bool mu,.bool fx,.string df,.string wg],.string v] w
  fun e w'=>e = .returned (.bool (Gate.fits 3 ls ms ws v))/\Below w.heap.size w w':=by
 rw [Gate.zkr ls ms ws v hz]
 have hne:v.toList.isEmpty=false:=by rw [Gate.zu];simp [hz]
 have hlt:r < w.heap.size:=(Array.getElem?_eq_some_iff.1 hr).1
 have hlk:∀ o,(Instr.lookup 199 (.map (some r)) (.int .i64 3) true).run Tryz.prog (w.alloc o) = .ok (.tuple #[.func (.func 176) #[] #[],.bool true]) (w.alloc o) :=
  fun o=>yQ Tryz.underlying199 Tryz.underlying3 (.int .i64 3) _ rfl yM 4 2 rfl (w.alloc o) r ((Below.heap_alloc w o r hlt).trans hr)
 clear hr
 have hmt:=zfw
 go_enter Tryz.func180,Tryz.ntmps180
 go_wp2_with (first
  | (go_at_call 176;refine (zdk _ _ _ _ _ _ _ _ _ _ _ _ _ _).mono ?_;rintro e w1 ⟨rfl,hb1⟩)
  | (go_at_call 248;refine (zfQ _ _ _ _ _ _ _ _ _ _ _ _ _ hv).mono ?_;rintro e w2 ⟨rfl,hb2⟩))
 go_ret
 exact ⟨rfl,(((Below.refl _ _).alloc (Nat.le_refl _) _).trans (hb1.mono (by simp))).trans (hb2.mono (by have:=hb1.size;simp at this;omega))⟩
theorem zld (r:Nat) (nm:ByteArray) (ls ms:Int) (a:Option Addr) (cap:Nat) (ws:List ByteArray) (to:ByteArray) (rl:Int) (mu fx:Bool) (df wg:ByteArray) (v:ByteArray) (w:World) (hr:w.heap[r]?=some (.map yM 4)) (hv:v.size<=maxLen) (hz:¬ v.size=0) :
 Calls Tryz.prog 180 #[.map (some r),.agg #[.string nm,.int .i64 4,.int .i64 ls,.int .i64 ms,.slice a ws.length cap,.string to,.int .i64 rl,.bool mu,.bool fx,.string df,.string wg],.string v] w
  fun e w'=>e = .returned (.bool (Gate.fits 4 ls ms ws v))/\Below w.heap.size w w':=by
 rw [Gate.zmu ls ms ws v hz]
 have hne:v.toList.isEmpty=false:=by rw [Gate.zu];simp [hz]
 have hlt:r < w.heap.size:=(Array.getElem?_eq_some_iff.1 hr).1
 have hlk:∀ o,(Instr.lookup 199 (.map (some r)) (.int .i64 4) true).run Tryz.prog (w.alloc o) = .ok (.tuple #[.func (.func 177) #[] #[],.bool true]) (w.alloc o) :=
  fun o=>yQ Tryz.underlying199 Tryz.underlying3 (.int .i64 4) _ rfl yM 4 3 rfl (w.alloc o) r ((Below.heap_alloc w o r hlt).trans hr)
 clear hr
 have hmt:=zfg
 go_enter Tryz.func180,Tryz.ntmps180
 go_wp2_with (first
  | (go_at_call 177;refine (zdo _ _ _ _ _ _ _ _ _ _ _ _ _ _).mono ?_;rintro e w1 ⟨rfl,hb1⟩)
  | (go_at_call 251;refine (zft _ _ _ _ _ _ _ _ _ _ _ _ _ hv).mono ?_;rintro e w2 ⟨rfl,hb2⟩))
 go_ret
 exact ⟨rfl,(((Below.refl _ _).alloc (Nat.le_refl _) _).trans (hb1.mono (by simp))).trans (hb2.mono (by have:=hb1.size;simp at this;omega))⟩
theorem zkc (w:World):(zeroValue 241).run Tryz.prog w = .ok .nilFunc w:=by kernel_rfl
theorem zka (kd:Int) (h1:kd ≠ 1) (h2:kd ≠ 2) (h3:kd ≠ 3) (h4:kd ≠ 4):Instr.findNow (.int .i64) (.int .i64 kd) yM.toList 0=some none:=by
 have e1:(kd == 1)=false:=by simpa using h1
 have e2:(kd == 2)=false:=by simpa using h2
 have e3:(kd == 3)=false:=by simpa using h3
 have e4:(kd == 4)=false:=by simpa using h4
 simp [Instr.findNow,Instr.sameNow,yM,e1,e2,e3,e4]
theorem zhV (r:Nat) (nm:ByteArray) (kd ls ms:Int) (a:Option Addr) (cap:Nat) (ws:List ByteArray) (to:ByteArray) (rl:Int) (mu fx:Bool) (df wg:ByteArray) (v:ByteArray) (w:World) (hr:w.heap[r]?=some (.map yM 4)) (h1:kd ≠ 1) (h2:kd ≠ 2) (h3:kd ≠ 3) (h4:kd ≠ 4) :
 Calls Tryz.prog 180 #[.map (some r),.agg #[.string nm,.int .i64 kd,.int .i64 ls,.int .i64 ms,.slice a ws.length cap,.string to,.int .i64 rl,.bool mu,.bool fx,.string df,.string wg],.string v] w
  fun e w'=>e = .returned (.bool (Gate.fits kd ls ms ws v))/\Below w.heap.size w w':=by
 rw [Gate.ze9 kd ls ms ws v h1 h2 h3 h4]
 have hlt:r < w.heap.size:=(Array.getElem?_eq_some_iff.1 hr).1
 have hlk:∀ o,(Instr.lookup 199 (.map (some r)) (.int .i64 kd) true).run Tryz.prog (w.alloc o) = .ok (.tuple #[.nilFunc,.bool false]) (w.alloc o) :=
  fun o=>zb5 Tryz.underlying199 Tryz.underlying3 (.int .i64 kd) _ rfl yM 4 (zka kd h1 h2 h3 h4) (w.alloc o) (zkc _) r ((Below.heap_alloc w o r hlt).trans hr)
 clear hr h1 h2 h3 h4
 go_enter Tryz.func180,Tryz.ntmps180
 go_wp2_with fail
 go_ret
 exact ⟨rfl,(Below.refl _ _).alloc (Nat.le_refl _) _⟩
theorem zfJ (r:Nat) (nm:ByteArray) (ls ms:Int) (a:Option Addr) (cap:Nat) (ws:List ByteArray) (to:ByteArray) (rl:Int) (mu fx:Bool) (df wg:ByteArray) (v:ByteArray) (w:World) (hr:w.heap[r]?=some (.map yM 4)) (hz:v.size=0) :
 Calls Tryz.prog 180 #[.map (some r),.agg #[.string nm,.int .i64 1,.int .i64 ls,.int .i64 ms,.slice a ws.length cap,.string to,.int .i64 rl,.bool mu,.bool fx,.string df,.string wg],.string v] w
  fun e w'=>e = .returned (.bool (Gate.fits 1 ls ms ws v))/\Below w.heap.size w w':=by
 rw [Gate.zaj 1 ls ms ws v hz]
 have hne:v.toList.isEmpty=true:=by rw [Gate.zu];simp [hz]
 clear hz
 have hlt:r < w.heap.size:=(Array.getElem?_eq_some_iff.1 hr).1
 have hlk:∀ o,(Instr.lookup 199 (.map (some r)) (.int .i64 1) true).run Tryz.prog (w.alloc o) = .ok (.tuple #[.func (.func 174) #[] #[],.bool true]) (w.alloc o) :=
  fun o=>yQ Tryz.underlying199 Tryz.underlying3 (.int .i64 1) _ rfl yM 4 0 rfl (w.alloc o) r ((Below.heap_alloc w o r hlt).trans hr)
 clear hr
 go_enter Tryz.func180,Tryz.ntmps180
 go_wp2_with fail
 go_ret
 exact ⟨rfl,(Below.refl _ _).alloc (Nat.le_refl _) _⟩
theorem zfq (r:Nat) (nm:ByteArray) (ls ms:Int) (a:Option Addr) (cap:Nat) (ws:List ByteArray) (to:ByteArray) (rl:Int) (mu fx:Bool) (df wg:ByteArray) (v:ByteArray) (w:World) (hr:w.heap[r]?=some (.map yM 4)) (hz:v.size=0) :
 Calls Tryz.prog 180 #[.map (some r),.agg #[.string nm,.int .i64 2,.int .i64 ls,.int .i64 ms,.slice a ws.length cap,.string to,.int .i64 rl,.bool mu,.bool fx,.string df,.string wg],.string v] w
  fun e w'=>e = .returned (.bool (Gate.fits 2 ls ms ws v))/\Below w.heap.size w w':=by
 rw [Gate.zaj 2 ls ms ws v hz]
 have hne:v.toList.isEmpty=true:=by rw [Gate.zu];simp [hz]
 clear hz
 have hlt:r < w.heap.size:=(Array.getElem?_eq_some_iff.1 hr).1
 have hlk:∀ o,(Instr.lookup 199 (.map (some r)) (.int .i64 2) true).run Tryz.prog (w.alloc o) = .ok (.tuple #[.func (.func 175) #[] #[],.bool true]) (w.alloc o) :=
  fun o=>yQ Tryz.underlying199 Tryz.underlying3 (.int .i64 2) _ rfl yM 4 1 rfl (w.alloc o) r ((Below.heap_alloc w o r hlt).trans hr)
 clear hr
 go_enter Tryz.func180,Tryz.ntmps180
 go_wp2_with fail
 go_ret
 exact ⟨rfl,(Below.refl _ _).alloc (Nat.le_refl _) _⟩
theorem zfL (r:Nat) (nm:ByteArray) (ls ms:Int) (a:Option Addr) (cap:Nat) (ws:List ByteArray) (to:ByteArray) (rl:Int) (mu fx:Bool) (df wg:ByteArray) (v:ByteArray) (w:World) (hr:w.heap[r]?=some (.map yM 4)) (hz:v.size=0) :
 Calls Tryz.prog 180 #[.map (some r),.agg #[.string nm,.int .i64 3,.int .i64 ls,.int .i64 ms,.slice a ws.length cap,.string to,.int .i64 rl,.bool mu,.bool fx,.string df,.string wg],.string v] w
  fun e w'=>e = .returned (.bool (Gate.fits 3 ls ms ws v))/\Below w.heap.size w w':=by
 rw [Gate.zaj 3 ls ms ws v hz]
 have hne:v.toList.isEmpty=true:=by rw [Gate.zu];simp [hz]
 clear hz
 have hlt:r < w.heap.size:=(Array.getElem?_eq_some_iff.1 hr).1
 have hlk:∀ o,(Instr.lookup 199 (.map (some r)) (.int .i64 3) true).run Tryz.prog (w.alloc o) = .ok (.tuple #[.func (.func 176) #[] #[],.bool true]) (w.alloc o) :=
  fun o=>yQ Tryz.underlying199 Tryz.underlying3 (.int .i64 3) _ rfl yM 4 2 rfl (w.alloc o) r ((Below.heap_alloc w o r hlt).trans hr)
 clear hr
 go_enter Tryz.func180,Tryz.ntmps180
 go_wp2_with fail
 go_ret
 exact ⟨rfl,(Below.refl _ _).alloc (Nat.le_refl _) _⟩
theorem zfx (r:Nat) (nm:ByteArray) (ls ms:Int) (a:Option Addr) (cap:Nat) (ws:List ByteArray) (to:ByteArray) (rl:Int) (mu fx:Bool) (df wg:ByteArray) (v:ByteArray) (w:World) (hr:w.heap[r]?=some (.map yM 4)) (hz:v.size=0) :
 Calls Tryz.prog 180 #[.map (some r),.agg #[.string nm,.int .i64 4,.int .i64 ls,.int .i64 ms,.slice a ws.length cap,.string to,.int .i64 rl,.bool mu,.bool fx,.string df,.string wg],.string v] w
  fun e w'=>e = .returned (.bool (Gate.fits 4 ls ms ws v))/\Below w.heap.size w w':=by
 rw [Gate.zaj 4 ls ms ws v hz]
 have hne:v.toList.isEmpty=true:=by rw [Gate.zu];simp [hz]
 clear hz
 have hlt:r < w.heap.size:=(Array.getElem?_eq_some_iff.1 hr).1
 have hlk:∀ o,(Instr.lookup 199 (.map (some r)) (.int .i64 4) true).run Tryz.prog (w.alloc o) = .ok (.tuple #[.func (.func 177) #[] #[],.bool true]) (w.alloc o) :=
  fun o=>yQ Tryz.underlying199 Tryz.underlying3 (.int .i64 4) _ rfl yM 4 3 rfl (w.alloc o) r ((Below.heap_alloc w o r hlt).trans hr)
 clear hr
 go_enter Tryz.func180,Tryz.ntmps180
 go_wp2_with fail
 go_ret
 exact ⟨rfl,(Below.refl _ _).alloc (Nat.le_refl _) _⟩
theorem zeQ (r:Nat) (nm:ByteArray) (kd ls ms:Int) (a:Option Addr) (cap:Nat) (ws:List ByteArray) (to:ByteArray) (rl:Int) (mu fx:Bool) (df wg:ByteArray) (v:ByteArray) (w:World) (hr:w.heap[r]?=some (.map yM 4)) (hv:v.size<=maxLen) (hws:zD w a ws) :
 Calls Tryz.prog 180 #[.map (some r),.agg #[.string nm,.int .i64 kd,.int .i64 ls,.int .i64 ms,.slice a ws.length cap,.string to,.int .i64 rl,.bool mu,.bool fx,.string df,.string wg],.string v] w
  fun e w'=>e = .returned (.bool (Gate.fits kd ls ms ws v))/\Below w.heap.size w w':=by
 by_cases h1:kd=1
 ·subst h1;by_cases hz:v.size=0
  ·exact zfJ r nm ls ms a cap ws to rl mu fx df wg v w hr hz
  ·exact zli r nm ls ms a cap ws to rl mu fx df wg v w hr hv hz
 by_cases h2:kd=2
 ·subst h2;by_cases hz:v.size=0
  ·exact zfq r nm ls ms a cap ws to rl mu fx df wg v w hr hz
  ·exact zlJ r nm ls ms a cap ws to rl mu fx df wg v w hr hws hz
 by_cases h3:kd=3
 ·subst h3;by_cases hz:v.size=0
  ·exact zfL r nm ls ms a cap ws to rl mu fx df wg v w hr hz
  ·exact zlH r nm ls ms a cap ws to rl mu fx df wg v w hr hv hz
 by_cases h4:kd=4
 ·subst h4;by_cases hz:v.size=0
  ·exact zfx r nm ls ms a cap ws to rl mu fx df wg v w hr hz
  ·exact zld r nm ls ms a cap ws to rl mu fx df wg v w hr hv hz
 exact zhV r nm kd ls ms a cap ws to rl mu fx df wg v w hr h1 h2 h3 h4
theorem zkQ (x:Value) (w:World):(method 395 240 x "loop.example/wharfgate/impl.bare").run Tryz.prog w = .ok (239,x) w:=by kernel_rfl
theorem zjN (x:Value) (w:World):(method 395 240 x "loop.example/wharfgate/impl.sound").run Tryz.prog w = .ok (241,x) w:=by kernel_rfl
theorem zkM (x:Value) (w:World):(method 395 242 x "loop.example/wharfgate/impl.bare").run Tryz.prog w = .ok (242,x) w:=by kernel_rfl
theorem zjQ (x:Value) (w:World):(method 395 242 x "loop.example/wharfgate/impl.sound").run Tryz.prog w = .ok (244,x) w:=by kernel_rfl
theorem zki (x:Value) (w:World):(method 395 243 x "loop.example/wharfgate/impl.bare").run Tryz.prog w = .ok (247,x) w:=by kernel_rfl
theorem zjk (x:Value) (w:World):(method 395 243 x "loop.example/wharfgate/impl.sound").run Tryz.prog w = .ok (249,x) w:=by kernel_rfl
theorem zkk (x:Value) (w:World):(method 395 244 x "loop.example/wharfgate/impl.bare").run Tryz.prog w = .ok (250,x) w:=by kernel_rfl
theorem zjC (x:Value) (w:World):(method 395 244 x "loop.example/wharfgate/impl.sound").run Tryz.prog w = .ok (252,x) w:=by kernel_rfl
theorem zn0 (r:Nat) (nm:ByteArray) (ls ms:Int) (a:Option Addr) (cap:Nat) (ws:List ByteArray) (to:ByteArray) (rl:Int) (mu fx:Bool) (df wg:ByteArray) (a0:Option Addr) (cap0:Nat) (ss:List Shp) (w:World) (hr:w.heap[r]?=some (.map yM 4)) (hdf:df.size<=maxLen) (hwg:wg.size<=maxLen) :
 Calls Tryz.prog 199 #[.map (some r),.slice a0 ss.length cap0,.agg #[.string nm,.int .i64 1,.int .i64 ls,.int .i64 ms,.slice a ws.length cap,.string to,.int .i64 rl,.bool mu,.bool fx,.string df,.string wg]] w
  fun e w'=>e = .returned (.bool (Gate.yG ss ⟨nm,1,ls,ms,ws,to,rl,mu,fx,df,wg⟩))/\Below w.heap.size w w':=by
 have HO:Hid (Gate.yG ss ⟨nm,1,ls,ms,ws,to,rl,mu,fx,df,wg⟩=(Gate.yF 1 ls ms ws.length to rl wg && Gate.zW ss ⟨nm,1,ls,ms,ws,to,rl,mu,fx,df,wg⟩ && (df.toList.isEmpty || Gate.fits 1 ls ms ws df))):=rfl
 have hlt:r < w.heap.size:=(Array.getElem?_eq_some_iff.1 hr).1
 have hlk:∀ o,(Instr.lookup 199 (.map (some r)) (.int .i64 1) true).run Tryz.prog (w.alloc o) = .ok (.tuple #[.func (.func 174) #[] #[],.bool true]) (w.alloc o) :=
  fun o=>yQ Tryz.underlying199 Tryz.underlying3 (.int .i64 1) _ rfl yM 4 0 rfl (w.alloc o) r ((Below.heap_alloc w o r hlt).trans hr)
 clear hr
 have hm1:=zkQ
 have hm2:=zjN
 have hm3:=zfP
 by_cases hbare:Gate.yF 1 ls ms ws.length to rl wg=true
 rotate_left
 ·have HBare:Hid (Gate.yF 1 ls ms ws.length to rl wg=false):=by simpa [Hid] using hbare
  clear hbare hm2 hm3
  go_enter Tryz.func199,Tryz.ntmps199
  go_wp2_with fail
  refine (zc7 _ _ _ _ _ _ _ _ _ _ _ _ _ _).mono ?_
  rintro e w1 ⟨rfl,hb1⟩
  have hX1:=za (zm w _ _) (by simp) hb1
  have hz1:w.heap.size < w1.heap.size:=by have:=hb1.size;simp at this;omega
  have hB1:Below w.heap.size w w1:=((Below.refl _ _).alloc (Nat.le_refl _) _).trans (hb1.mono (by simp))
  clear hb1 hlk
  go_wp2_with fail
  refine (zf HBare.out (zbx _ _ _ _ _ _ _ _ _ _ _ _ _ _)).mono ?_
  rintro e w2 ⟨rfl,hb2⟩
  have hX2:=za hX1 hz1 hb2
  have hz2:w.heap.size < w2.heap.size:=by have:=hb2.size;omega
  have hB2:Below w.heap.size w w2:=hB1.trans (hb2.mono (by omega))
  clear hb2 hX1 hz1 hB1
  go_wp2_with fail
  go_ret
  exact ⟨ze (by rw [HO.out,HBare.out];rfl),hB2⟩
 have HBare:Hid (Gate.yF 1 ls ms ws.length to rl wg=true):=hbare
 clear hbare
 by_cases hsnd:Gate.zW ss ⟨nm,1,ls,ms,ws,to,rl,mu,fx,df,wg⟩=true
 rotate_left
 ·have HSnd:Hid (Gate.zW ss ⟨nm,1,ls,ms,ws,to,rl,mu,fx,df,wg⟩=false):=by simpa [Hid] using hsnd
  clear hsnd hm3
  go_enter Tryz.func199,Tryz.ntmps199
  go_wp2_with fail
  refine (zc7 _ _ _ _ _ _ _ _ _ _ _ _ _ _).mono ?_
  rintro e w1 ⟨rfl,hb1⟩
  have hX1:=za (zm w _ _) (by simp) hb1
  have hz1:w.heap.size < w1.heap.size:=by have:=hb1.size;simp at this;omega
  have hB1:Below w.heap.size w w1:=((Below.refl _ _).alloc (Nat.le_refl _) _).trans (hb1.mono (by simp))
  clear hb1 hlk
  go_wp2_with fail
  refine (zf HBare.out (zbx _ _ _ _ _ _ _ _ _ _ _ _ _ _)).mono ?_
  rintro e w2 ⟨rfl,hb2⟩
  have hX2:=za hX1 hz1 hb2
  have hz2:w.heap.size < w2.heap.size:=by have:=hb2.size;omega
  have hB2:Below w.heap.size w w2:=hB1.trans (hb2.mono (by omega))
  clear hb2 hX1 hz1 hB1
  go_wp2_with fail
  refine (zf HSnd.out (zb6 _ _ _ _ _ _ _ _ _ _ _ _ _ _ _ _ hwg)).mono ?_
  rintro e w3 ⟨rfl,hb3⟩
  have hX3:=za hX2 hz2 hb3
  have hz3:w.heap.size < w3.heap.size:=by have:=hb3.size;omega
  have hB3:Below w.heap.size w w3:=hB2.trans (hb3.mono (by omega))
  clear hb3 hX2 hz2 hB2
  go_wp2_with fail
  go_ret
  exact ⟨ze (by rw [HO.out,HBare.out,HSnd.out];rfl),hB3⟩
 have HSnd:Hid (Gate.zW ss ⟨nm,1,ls,ms,ws,to,rl,mu,fx,df,wg⟩=true):=hsnd
 clear hsnd
 by_cases hd:df.toList.isEmpty=true
 ·have HD:Hid (df.toList.isEmpty=true):=hd
  go_enter Tryz.func199,Tryz.ntmps199
  go_wp2_with fail
  refine (zc7 _ _ _ _ _ _ _ _ _ _ _ _ _ _).mono ?_
  rintro e w1 ⟨rfl,hb1⟩
  have hX1:=za (zm w _ _) (by simp) hb1
  have hz1:w.heap.size < w1.heap.size:=by have:=hb1.size;simp at this;omega
  have hB1:Below w.heap.size w w1:=((Below.refl _ _).alloc (Nat.le_refl _) _).trans (hb1.mono (by simp))
  clear hb1 hlk
  go_wp2_with fail
  refine (zf HBare.out (zbx _ _ _ _ _ _ _ _ _ _ _ _ _ _)).mono ?_
  rintro e w2 ⟨rfl,hb2⟩
  have hX2:=za hX1 hz1 hb2
  have hz2:w.heap.size < w2.heap.size:=by have:=hb2.size;omega
  have hB2:Below w.heap.size w w2:=hB1.trans (hb2.mono (by omega))
  clear hb2 hX1 hz1 hB1
  go_wp2_with fail
  refine (zf HSnd.out (zb6 _ _ _ _ _ _ _ _ _ _ _ _ _ _ _ _ hwg)).mono ?_
  rintro e w3 ⟨rfl,hb3⟩
  have hX3:=za hX2 hz2 hb3
  have hz3:w.heap.size < w3.heap.size:=by have:=hb3.size;omega
  have hB3:Below w.heap.size w w3:=hB2.trans (hb3.mono (by omega))
  clear hb3 hX2 hz2 hB2
  go_wp2_with fail
  go_ret
  exact ⟨ze (by rw [HO.out,HBare.out,HSnd.out,HD.out];rfl),hB3⟩
 ·have hd':df.toList.isEmpty=false:=by simpa using hd
  have HD:Hid (df.toList.isEmpty=false):=hd'
  have HZ:Hid (Gate.fits 1 ls ms ws df=Gate.zal ls ms df):=Gate.zmQ ls ms ws df (by intro h;rw [Gate.zu] at hd';simp [h] at hd')
  clear hd
  go_enter Tryz.func199,Tryz.ntmps199
  go_wp2_with fail
  refine (zc7 _ _ _ _ _ _ _ _ _ _ _ _ _ _).mono ?_
  rintro e w1 ⟨rfl,hb1⟩
  have hX1:=za (zm w _ _) (by simp) hb1
  have hz1:w.heap.size < w1.heap.size:=by have:=hb1.size;simp at this;omega
  have hB1:Below w.heap.size w w1:=((Below.refl _ _).alloc (Nat.le_refl _) _).trans (hb1.mono (by simp))
  clear hb1 hlk
  go_wp2_with fail
  refine (zf HBare.out (zbx _ _ _ _ _ _ _ _ _ _ _ _ _ _)).mono ?_
  rintro e w2 ⟨rfl,hb2⟩
  have hX2:=za hX1 hz1 hb2
  have hz2:w.heap.size < w2.heap.size:=by have:=hb2.size;omega
  have hB2:Below w.heap.size w w2:=hB1.trans (hb2.mono (by omega))
  clear hb2 hX1 hz1 hB1
  go_wp2_with fail
  refine (zf HSnd.out (zb6 _ _ _ _ _ _ _ _ _ _ _ _ _ _ _ _ hwg)).mono ?_
  rintro e w3 ⟨rfl,hb3⟩
  have hX3:=za hX2 hz2 hb3
  have hz3:w.heap.size < w3.heap.size:=by have:=hb3.size;omega
  have hB3:Below w.heap.size w w3:=hB2.trans (hb3.mono (by omega))
  clear hb3 hX2 hz2 hB2
  go_wp2_with fail
  refine (zev _ _ _ _ _ _ _ _ _ _ _ _ _ hdf).mono ?_
  rintro e w4 ⟨rfl,hb4⟩
  have hB4:Below w.heap.size w w4:=hB3.trans (hb4.mono (by omega))
  clear hb4
  go_wp2_with fail
  go_ret
  exact ⟨ze (by rw [HO.out,HBare.out,HSnd.out,HD.out,HZ.out];rfl),hB4⟩
theorem zoa (r:Nat) (nm:ByteArray) (ls ms:Int) (a:Option Addr) (cap:Nat) (ws:List ByteArray) (to:ByteArray) (rl:Int) (mu fx:Bool) (df wg:ByteArray) (a0:Option Addr) (cap0:Nat) (ss:List Shp) (w:World) (hr:w.heap[r]?=some (.map yM 4)) (hws:zD w a ws) :
 Calls Tryz.prog 199 #[.map (some r),.slice a0 ss.length cap0,.agg #[.string nm,.int .i64 2,.int .i64 ls,.int .i64 ms,.slice a ws.length cap,.string to,.int .i64 rl,.bool mu,.bool fx,.string df,.string wg]] w
  fun e w'=>e = .returned (.bool (Gate.yG ss ⟨nm,2,ls,ms,ws,to,rl,mu,fx,df,wg⟩))/\Below w.heap.size w w':=by
 have HO:Hid (Gate.yG ss ⟨nm,2,ls,ms,ws,to,rl,mu,fx,df,wg⟩=(Gate.yF 2 ls ms ws.length to rl wg && Gate.zW ss ⟨nm,2,ls,ms,ws,to,rl,mu,fx,df,wg⟩ && (df.toList.isEmpty || Gate.fits 2 ls ms ws df))):=rfl
 have hlt:r < w.heap.size:=(Array.getElem?_eq_some_iff.1 hr).1
 have hlk:∀ o,(Instr.lookup 199 (.map (some r)) (.int .i64 2) true).run Tryz.prog (w.alloc o) = .ok (.tuple #[.func (.func 175) #[] #[],.bool true]) (w.alloc o) :=
  fun o=>yQ Tryz.underlying199 Tryz.underlying3 (.int .i64 2) _ rfl yM 4 1 rfl (w.alloc o) r ((Below.heap_alloc w o r hlt).trans hr)
 clear hr
 have hm1:=zkM
 have hm2:=zjQ
 have hm3:=zfW
 by_cases hbare:Gate.yF 2 ls ms ws.length to rl wg=true
 rotate_left
 ·have HBare:Hid (Gate.yF 2 ls ms ws.length to rl wg=false):=by simpa [Hid] using hbare
  clear hbare hm2 hm3
  go_enter Tryz.func199,Tryz.ntmps199
  go_wp2_with fail
  refine (zdm _ _ _ _ _ _ _ _ _ _ _ _ _ _).mono ?_
  rintro e w1 ⟨rfl,hb1⟩
  have hX1:=za (zm w _ _) (by simp) hb1
  have hz1:w.heap.size < w1.heap.size:=by have:=hb1.size;simp at this;omega
  have hB1:Below w.heap.size w w1:=((Below.refl _ _).alloc (Nat.le_refl _) _).trans (hb1.mono (by simp))
  clear hb1 hlk
  go_wp2_with fail
  refine (zf HBare.out (zch _ _ _ _ _ _ _ _ _ _ _ _ _ _)).mono ?_
  rintro e w2 ⟨rfl,hb2⟩
  have hX2:=za hX1 hz1 hb2
  have hz2:w.heap.size < w2.heap.size:=by have:=hb2.size;omega
  have hB2:Below w.heap.size w w2:=hB1.trans (hb2.mono (by omega))
  clear hb2 hX1 hz1 hB1
  go_wp2_with fail
  go_ret
  exact ⟨ze (by rw [HO.out,HBare.out];rfl),hB2⟩
 have HBare:Hid (Gate.yF 2 ls ms ws.length to rl wg=true):=hbare
 clear hbare
 by_cases hsnd:Gate.zW ss ⟨nm,2,ls,ms,ws,to,rl,mu,fx,df,wg⟩=true
 rotate_left
 ·have HSnd:Hid (Gate.zW ss ⟨nm,2,ls,ms,ws,to,rl,mu,fx,df,wg⟩=false):=by simpa [Hid] using hsnd
  clear hsnd hm3
  go_enter Tryz.func199,Tryz.ntmps199
  go_wp2_with fail
  refine (zdm _ _ _ _ _ _ _ _ _ _ _ _ _ _).mono ?_
  rintro e w1 ⟨rfl,hb1⟩
  have hX1:=za (zm w _ _) (by simp) hb1
  have hz1:w.heap.size < w1.heap.size:=by have:=hb1.size;simp at this;omega
  have hB1:Below w.heap.size w w1:=((Below.refl _ _).alloc (Nat.le_refl _) _).trans (hb1.mono (by simp))
  clear hb1 hlk
  go_wp2_with fail
  refine (zf HBare.out (zch _ _ _ _ _ _ _ _ _ _ _ _ _ _)).mono ?_
  rintro e w2 ⟨rfl,hb2⟩
  have hX2:=za hX1 hz1 hb2
  have hz2:w.heap.size < w2.heap.size:=by have:=hb2.size;omega
  have hB2:Below w.heap.size w w2:=hB1.trans (hb2.mono (by omega))
  clear hb2 hX1 hz1 hB1
  go_wp2_with fail
  refine (zf HSnd.out (zcQ _ _ _ _ _ _ _ _ _ _ _ _ _ _ _ _ (by exact hws.mono hB2))).mono ?_
  rintro e w3 ⟨rfl,hb3⟩
  have hX3:=za hX2 hz2 hb3
  have hz3:w.heap.size < w3.heap.size:=by have:=hb3.size;omega
  have hB3:Below w.heap.size w w3:=hB2.trans (hb3.mono (by omega))
  clear hb3 hX2 hz2 hB2
  go_wp2_with fail
  go_ret
  exact ⟨ze (by rw [HO.out,HBare.out,HSnd.out];rfl),hB3⟩
 have HSnd:Hid (Gate.zW ss ⟨nm,2,ls,ms,ws,to,rl,mu,fx,df,wg⟩=true):=hsnd
 clear hsnd
 by_cases hd:df.toList.isEmpty=true
 ·have HD:Hid (df.toList.isEmpty=true):=hd
  go_enter Tryz.func199,Tryz.ntmps199
  go_wp2_with fail
  refine (zdm _ _ _ _ _ _ _ _ _ _ _ _ _ _).mono ?_
  rintro e w1 ⟨rfl,hb1⟩
  have hX1:=za (zm w _ _) (by simp) hb1
  have hz1:w.heap.size < w1.heap.size:=by have:=hb1.size;simp at this;omega
  have hB1:Below w.heap.size w w1:=((Below.refl _ _).alloc (Nat.le_refl _) _).trans (hb1.mono (by simp))
  clear hb1 hlk
  go_wp2_with fail
  refine (zf HBare.out (zch _ _ _ _ _ _ _ _ _ _ _ _ _ _)).mono ?_
  rintro e w2 ⟨rfl,hb2⟩
  have hX2:=za hX1 hz1 hb2
  have hz2:w.heap.size < w2.heap.size:=by have:=hb2.size;omega
  have hB2:Below w.heap.size w w2:=hB1.trans (hb2.mono (by omega))
  clear hb2 hX1 hz1 hB1
  go_wp2_with fail
  refine (zf HSnd.out (zcQ _ _ _ _ _ _ _ _ _ _ _ _ _ _ _ _ (by exact hws.mono hB2))).mono ?_
  rintro e w3 ⟨rfl,hb3⟩
  have hX3:=za hX2 hz2 hb3
  have hz3:w.heap.size < w3.heap.size:=by have:=hb3.size;omega
  have hB3:Below w.heap.size w w3:=hB2.trans (hb3.mono (by omega))
  clear hb3 hX2 hz2 hB2
  go_wp2_with fail
  go_ret
  exact ⟨ze (by rw [HO.out,HBare.out,HSnd.out,HD.out];rfl),hB3⟩
 ·have hd':df.toList.isEmpty=false:=by simpa using hd
  have HD:Hid (df.toList.isEmpty=false):=hd'
  have HZ:Hid (Gate.fits 2 ls ms ws df=Gate.has ws df):=Gate.zm8 ls ms ws df (by intro h;rw [Gate.zu] at hd';simp [h] at hd')
  clear hd
  go_enter Tryz.func199,Tryz.ntmps199
  go_wp2_with fail
  refine (zdm _ _ _ _ _ _ _ _ _ _ _ _ _ _).mono ?_
  rintro e w1 ⟨rfl,hb1⟩
  have hX1:=za (zm w _ _) (by simp) hb1
  have hz1:w.heap.size < w1.heap.size:=by have:=hb1.size;simp at this;omega
  have hB1:Below w.heap.size w w1:=((Below.refl _ _).alloc (Nat.le_refl _) _).trans (hb1.mono (by simp))
  clear hb1 hlk
  go_wp2_with fail
  refine (zf HBare.out (zch _ _ _ _ _ _ _ _ _ _ _ _ _ _)).mono ?_
  rintro e w2 ⟨rfl,hb2⟩
  have hX2:=za hX1 hz1 hb2
  have hz2:w.heap.size < w2.heap.size:=by have:=hb2.size;omega
  have hB2:Below w.heap.size w w2:=hB1.trans (hb2.mono (by omega))
  clear hb2 hX1 hz1 hB1
  go_wp2_with fail
  refine (zf HSnd.out (zcQ _ _ _ _ _ _ _ _ _ _ _ _ _ _ _ _ (by exact hws.mono hB2))).mono ?_
  rintro e w3 ⟨rfl,hb3⟩
  have hX3:=za hX2 hz2 hb3
  have hz3:w.heap.size < w3.heap.size:=by have:=hb3.size;omega
  have hB3:Below w.heap.size w w3:=hB2.trans (hb3.mono (by omega))
  clear hb3 hX2 hz2 hB2
  go_wp2_with fail
  refine (zf0 _ _ _ _ _ _ _ _ _ _ _ _ _ _ _ (by exact hws.mono hB3)).mono ?_
  rintro e w4 ⟨rfl,hb4⟩
  have hB4:Below w.heap.size w w4:=hB3.trans (hb4.mono (by omega))
  clear hb4
  go_wp2_with fail
  go_ret
  exact ⟨ze (by rw [HO.out,HBare.out,HSnd.out,HD.out,HZ.out];rfl),hB4⟩
theorem zn4 (r:Nat) (nm:ByteArray) (ls ms:Int) (a:Option Addr) (cap:Nat) (ws:List ByteArray) (to:ByteArray) (rl:Int) (mu fx:Bool) (df wg:ByteArray) (a0:Option Addr) (cap0:Nat) (ss:List Shp) (w:World) (hr:w.heap[r]?=some (.map yM 4)) (hdf:df.size<=maxLen) :
 Calls Tryz.prog 199 #[.map (some r),.slice a0 ss.length cap0,.agg #[.string nm,.int .i64 3,.int .i64 ls,.int .i64 ms,.slice a ws.length cap,.string to,.int .i64 rl,.bool mu,.bool fx,.string df,.string wg]] w
  fun e w'=>e = .returned (.bool (Gate.yG ss ⟨nm,3,ls,ms,ws,to,rl,mu,fx,df,wg⟩))/\Below w.heap.size w w':=by
 have HO:Hid (Gate.yG ss ⟨nm,3,ls,ms,ws,to,rl,mu,fx,df,wg⟩=(Gate.yF 3 ls ms ws.length to rl wg && Gate.zW ss ⟨nm,3,ls,ms,ws,to,rl,mu,fx,df,wg⟩ && (df.toList.isEmpty || Gate.fits 3 ls ms ws df))):=rfl
 have hlt:r < w.heap.size:=(Array.getElem?_eq_some_iff.1 hr).1
 have hlk:∀ o,(Instr.lookup 199 (.map (some r)) (.int .i64 3) true).run Tryz.prog (w.alloc o) = .ok (.tuple #[.func (.func 176) #[] #[],.bool true]) (w.alloc o) :=
  fun o=>yQ Tryz.underlying199 Tryz.underlying3 (.int .i64 3) _ rfl yM 4 2 rfl (w.alloc o) r ((Below.heap_alloc w o r hlt).trans hr)
 clear hr
 have hm1:=zki
 have hm2:=zjk
 have hm3:=zfw
 by_cases hbare:Gate.yF 3 ls ms ws.length to rl wg=true
 rotate_left
 ·have HBare:Hid (Gate.yF 3 ls ms ws.length to rl wg=false):=by simpa [Hid] using hbare
  clear hbare hm2 hm3
  go_enter Tryz.func199,Tryz.ntmps199
  go_wp2_with fail
  refine (zdk _ _ _ _ _ _ _ _ _ _ _ _ _ _).mono ?_
  rintro e w1 ⟨rfl,hb1⟩
  have hX1:=za (zm w _ _) (by simp) hb1
  have hz1:w.heap.size < w1.heap.size:=by have:=hb1.size;simp at this;omega
  have hB1:Below w.heap.size w w1:=((Below.refl _ _).alloc (Nat.le_refl _) _).trans (hb1.mono (by simp))
  clear hb1 hlk
  go_wp2_with fail
  refine (zf HBare.out (zcd _ _ _ _ _ _ _ _ _ _ _ _ _ _)).mono ?_
  rintro e w2 ⟨rfl,hb2⟩
  have hX2:=za hX1 hz1 hb2
  have hz2:w.heap.size < w2.heap.size:=by have:=hb2.size;omega
  have hB2:Below w.heap.size w w2:=hB1.trans (hb2.mono (by omega))
  clear hb2 hX1 hz1 hB1
  go_wp2_with fail
  go_ret
  exact ⟨ze (by rw [HO.out,HBare.out];rfl),hB2⟩
 have HBare:Hid (Gate.yF 3 ls ms ws.length to rl wg=true):=hbare
 clear hbare
 by_cases hsnd:Gate.zW ss ⟨nm,3,ls,ms,ws,to,rl,mu,fx,df,wg⟩=true
 rotate_left
 ·have HSnd:Hid (Gate.zW ss ⟨nm,3,ls,ms,ws,to,rl,mu,fx,df,wg⟩=false):=by simpa [Hid] using hsnd
  clear hsnd hm3
  go_enter Tryz.func199,Tryz.ntmps199
  go_wp2_with fail
  refine (zdk _ _ _ _ _ _ _ _ _ _ _ _ _ _).mono ?_
  rintro e w1 ⟨rfl,hb1⟩
  have hX1:=za (zm w _ _) (by simp) hb1
  have hz1:w.heap.size < w1.heap.size:=by have:=hb1.size;simp at this;omega
  have hB1:Below w.heap.size w w1:=((Below.refl _ _).alloc (Nat.le_refl _) _).trans (hb1.mono (by simp))
  clear hb1 hlk
  go_wp2_with fail
  refine (zf HBare.out (zcd _ _ _ _ _ _ _ _ _ _ _ _ _ _)).mono ?_
  rintro e w2 ⟨rfl,hb2⟩
  have hX2:=za hX1 hz1 hb2
  have hz2:w.heap.size < w2.heap.size:=by have:=hb2.size;omega
  have hB2:Below w.heap.size w w2:=hB1.trans (hb2.mono (by omega))
  clear hb2 hX1 hz1 hB1
  go_wp2_with fail
  refine (zf HSnd.out (zcY _ _ _ _ _ _ _ _ _ _ _ _ _ _ _ _)).mono ?_
  rintro e w3 ⟨rfl,hb3⟩
  have hX3:=za hX2 hz2 hb3
  have hz3:w.heap.size < w3.heap.size:=by have:=hb3.size;omega
  have hB3:Below w.heap.size w w3:=hB2.trans (hb3.mono (by omega))
  clear hb3 hX2 hz2 hB2
  go_wp2_with fail
  go_ret
  exact ⟨ze (by rw [HO.out,HBare.out,HSnd.out];rfl),hB3⟩
 have HSnd:Hid (Gate.zW ss ⟨nm,3,ls,ms,ws,to,rl,mu,fx,df,wg⟩=true):=hsnd
 clear hsnd
 by_cases hd:df.toList.isEmpty=true
 ·have HD:Hid (df.toList.isEmpty=true):=hd
  go_enter Tryz.func199,Tryz.ntmps199
  go_wp2_with fail
  refine (zdk _ _ _ _ _ _ _ _ _ _ _ _ _ _).mono ?_
  rintro e w1 ⟨rfl,hb1⟩
  have hX1:=za (zm w _ _) (by simp) hb1
  have hz1:w.heap.size < w1.heap.size:=by have:=hb1.size;simp at this;omega
  have hB1:Below w.heap.size w w1:=((Below.refl _ _).alloc (Nat.le_refl _) _).trans (hb1.mono (by simp))
  clear hb1 hlk
  go_wp2_with fail
  refine (zf HBare.out (zcd _ _ _ _ _ _ _ _ _ _ _ _ _ _)).mono ?_
  rintro e w2 ⟨rfl,hb2⟩
  have hX2:=za hX1 hz1 hb2
  have hz2:w.heap.size < w2.heap.size:=by have:=hb2.size;omega
  have hB2:Below w.heap.size w w2:=hB1.trans (hb2.mono (by omega))
  clear hb2 hX1 hz1 hB1
  go_wp2_with fail
  refine (zf HSnd.out (zcY _ _ _ _ _ _ _ _ _ _ _ _ _ _ _ _)).mono ?_
  rintro e w3 ⟨rfl,hb3⟩
  have hX3:=za hX2 hz2 hb3
  have hz3:w.heap.size < w3.heap.size:=by have:=hb3.size;omega
  have hB3:Below w.heap.size w w3:=hB2.trans (hb3.mono (by omega))
  clear hb3 hX2 hz2 hB2
  go_wp2_with fail
  go_ret
  exact ⟨ze (by rw [HO.out,HBare.out,HSnd.out,HD.out];rfl),hB3⟩
 ·have hd':df.toList.isEmpty=false:=by simpa using hd
  have HD:Hid (df.toList.isEmpty=false):=hd'
  have HZ:Hid (Gate.fits 3 ls ms ws df=Gate.za0 ls ms df):=Gate.zkr ls ms ws df (by intro h;rw [Gate.zu] at hd';simp [h] at hd')
  clear hd
  go_enter Tryz.func199,Tryz.ntmps199
  go_wp2_with fail
  refine (zdk _ _ _ _ _ _ _ _ _ _ _ _ _ _).mono ?_
  rintro e w1 ⟨rfl,hb1⟩
  have hX1:=za (zm w _ _) (by simp) hb1
  have hz1:w.heap.size < w1.heap.size:=by have:=hb1.size;simp at this;omega
  have hB1:Below w.heap.size w w1:=((Below.refl _ _).alloc (Nat.le_refl _) _).trans (hb1.mono (by simp))
  clear hb1 hlk
  go_wp2_with fail
  refine (zf HBare.out (zcd _ _ _ _ _ _ _ _ _ _ _ _ _ _)).mono ?_
  rintro e w2 ⟨rfl,hb2⟩
  have hX2:=za hX1 hz1 hb2
  have hz2:w.heap.size < w2.heap.size:=by have:=hb2.size;omega
  have hB2:Below w.heap.size w w2:=hB1.trans (hb2.mono (by omega))
  clear hb2 hX1 hz1 hB1
  go_wp2_with fail
  refine (zf HSnd.out (zcY _ _ _ _ _ _ _ _ _ _ _ _ _ _ _ _)).mono ?_
  rintro e w3 ⟨rfl,hb3⟩
  have hX3:=za hX2 hz2 hb3
  have hz3:w.heap.size < w3.heap.size:=by have:=hb3.size;omega
  have hB3:Below w.heap.size w w3:=hB2.trans (hb3.mono (by omega))
  clear hb3 hX2 hz2 hB2
  go_wp2_with fail
  refine (zfQ _ _ _ _ _ _ _ _ _ _ _ _ _ hdf).mono ?_
  rintro e w4 ⟨rfl,hb4⟩
  have hB4:Below w.heap.size w w4:=hB3.trans (hb4.mono (by omega))
  clear hb4
  go_wp2_with fail
  go_ret
  exact ⟨ze (by rw [HO.out,HBare.out,HSnd.out,HD.out,HZ.out];rfl),hB4⟩
theorem znJ (r:Nat) (nm:ByteArray) (ls ms:Int) (a:Option Addr) (cap:Nat) (ws:List ByteArray) (to:ByteArray) (rl:Int) (mu fx:Bool) (df wg:ByteArray) (a0:Option Addr) (cap0:Nat) (ss:List Shp) (w:World) (hr:w.heap[r]?=some (.map yM 4)) (hdf:df.size<=maxLen) (hss:yI w a0 ss) :
 Calls Tryz.prog 199 #[.map (some r),.slice a0 ss.length cap0,.agg #[.string nm,.int .i64 4,.int .i64 ls,.int .i64 ms,.slice a ws.length cap,.string to,.int .i64 rl,.bool mu,.bool fx,.string df,.string wg]] w
  fun e w'=>e = .returned (.bool (Gate.yG ss ⟨nm,4,ls,ms,ws,to,rl,mu,fx,df,wg⟩))/\Below w.heap.size w w':=by
 have HO:Hid (Gate.yG ss ⟨nm,4,ls,ms,ws,to,rl,mu,fx,df,wg⟩=(Gate.yF 4 ls ms ws.length to rl wg && Gate.zW ss ⟨nm,4,ls,ms,ws,to,rl,mu,fx,df,wg⟩ && (df.toList.isEmpty || Gate.fits 4 ls ms ws df))):=rfl
 have hlt:r < w.heap.size:=(Array.getElem?_eq_some_iff.1 hr).1
 have hlk:∀ o,(Instr.lookup 199 (.map (some r)) (.int .i64 4) true).run Tryz.prog (w.alloc o) = .ok (.tuple #[.func (.func 177) #[] #[],.bool true]) (w.alloc o) :=
  fun o=>yQ Tryz.underlying199 Tryz.underlying3 (.int .i64 4) _ rfl yM 4 3 rfl (w.alloc o) r ((Below.heap_alloc w o r hlt).trans hr)
 clear hr
 have hm1:=zkk
 have hm2:=zjC
 have hm3:=zfg
 by_cases hbare:Gate.yF 4 ls ms ws.length to rl wg=true
 rotate_left
 ·have HBare:Hid (Gate.yF 4 ls ms ws.length to rl wg=false):=by simpa [Hid] using hbare
  clear hbare hm2 hm3
  go_enter Tryz.func199,Tryz.ntmps199
  go_wp2_with fail
  refine (zdo _ _ _ _ _ _ _ _ _ _ _ _ _ _).mono ?_
  rintro e w1 ⟨rfl,hb1⟩
  have hX1:=za (zm w _ _) (by simp) hb1
  have hz1:w.heap.size < w1.heap.size:=by have:=hb1.size;simp at this;omega
  have hB1:Below w.heap.size w w1:=((Below.refl _ _).alloc (Nat.le_refl _) _).trans (hb1.mono (by simp))
  clear hb1 hlk
  go_wp2_with fail
  refine (zf HBare.out (zci _ _ _ _ _ _ _ _ _ _ _ _ _ _)).mono ?_
  rintro e w2 ⟨rfl,hb2⟩
  have hX2:=za hX1 hz1 hb2
  have hz2:w.heap.size < w2.heap.size:=by have:=hb2.size;omega
  have hB2:Below w.heap.size w w2:=hB1.trans (hb2.mono (by omega))
  clear hb2 hX1 hz1 hB1
  go_wp2_with fail
  go_ret
  exact ⟨ze (by rw [HO.out,HBare.out];rfl),hB2⟩
 have HBare:Hid (Gate.yF 4 ls ms ws.length to rl wg=true):=hbare
 clear hbare
 by_cases hsnd:Gate.zW ss ⟨nm,4,ls,ms,ws,to,rl,mu,fx,df,wg⟩=true
 rotate_left
 ·have HSnd:Hid (Gate.zW ss ⟨nm,4,ls,ms,ws,to,rl,mu,fx,df,wg⟩=false):=by simpa [Hid] using hsnd
  clear hsnd hm3
  go_enter Tryz.func199,Tryz.ntmps199
  go_wp2_with fail
  refine (zdo _ _ _ _ _ _ _ _ _ _ _ _ _ _).mono ?_
  rintro e w1 ⟨rfl,hb1⟩
  have hX1:=za (zm w _ _) (by simp) hb1
  have hz1:w.heap.size < w1.heap.size:=by have:=hb1.size;simp at this;omega
  have hB1:Below w.heap.size w w1:=((Below.refl _ _).alloc (Nat.le_refl _) _).trans (hb1.mono (by simp))
  clear hb1 hlk
  go_wp2_with fail
  refine (zf HBare.out (zci _ _ _ _ _ _ _ _ _ _ _ _ _ _)).mono ?_
  rintro e w2 ⟨rfl,hb2⟩
  have hX2:=za hX1 hz1 hb2
  have hz2:w.heap.size < w2.heap.size:=by have:=hb2.size;omega
  have hB2:Below w.heap.size w w2:=hB1.trans (hb2.mono (by omega))
  clear hb2 hX1 hz1 hB1
  go_wp2_with fail
  refine (zf HSnd.out (zc0 _ _ _ _ _ _ _ _ _ _ _ _ _ _ _ _ (by exact hss.mono hB2))).mono ?_
  rintro e w3 ⟨rfl,hb3⟩
  have hX3:=za hX2 hz2 hb3
  have hz3:w.heap.size < w3.heap.size:=by have:=hb3.size;omega
  have hB3:Below w.heap.size w w3:=hB2.trans (hb3.mono (by omega))
  clear hb3 hX2 hz2 hB2
  go_wp2_with fail
  go_ret
  exact ⟨ze (by rw [HO.out,HBare.out,HSnd.out];rfl),hB3⟩
 have HSnd:Hid (Gate.zW ss ⟨nm,4,ls,ms,ws,to,rl,mu,fx,df,wg⟩=true):=hsnd
 clear hsnd
 by_cases hd:df.toList.isEmpty=true
 ·have HD:Hid (df.toList.isEmpty=true):=hd
  go_enter Tryz.func199,Tryz.ntmps199
  go_wp2_with fail
  refine (zdo _ _ _ _ _ _ _ _ _ _ _ _ _ _).mono ?_
  rintro e w1 ⟨rfl,hb1⟩
  have hX1:=za (zm w _ _) (by simp) hb1
  have hz1:w.heap.size < w1.heap.size:=by have:=hb1.size;simp at this;omega
  have hB1:Below w.heap.size w w1:=((Below.refl _ _).alloc (Nat.le_refl _) _).trans (hb1.mono (by simp))
  clear hb1 hlk
  go_wp2_with fail
  refine (zf HBare.out (zci _ _ _ _ _ _ _ _ _ _ _ _ _ _)).mono ?_
  rintro e w2 ⟨rfl,hb2⟩
  have hX2:=za hX1 hz1 hb2
  have hz2:w.heap.size < w2.heap.size:=by have:=hb2.size;omega
  have hB2:Below w.heap.size w w2:=hB1.trans (hb2.mono (by omega))
  clear hb2 hX1 hz1 hB1
  go_wp2_with fail
  refine (zf HSnd.out (zc0 _ _ _ _ _ _ _ _ _ _ _ _ _ _ _ _ (by exact hss.mono hB2))).mono ?_
  rintro e w3 ⟨rfl,hb3⟩
  have hX3:=za hX2 hz2 hb3
  have hz3:w.heap.size < w3.heap.size:=by have:=hb3.size;omega
  have hB3:Below w.heap.size w w3:=hB2.trans (hb3.mono (by omega))
  clear hb3 hX2 hz2 hB2
  go_wp2_with fail
  go_ret
  exact ⟨ze (by rw [HO.out,HBare.out,HSnd.out,HD.out];rfl),hB3⟩
 ·have hd':df.toList.isEmpty=false:=by simpa using hd
  have HD:Hid (df.toList.isEmpty=false):=hd'
  have HZ:Hid (Gate.fits 4 ls ms ws df=Gate.zy df):=Gate.zmu ls ms ws df (by intro h;rw [Gate.zu] at hd';simp [h] at hd')
  clear hd
  go_enter Tryz.func199,Tryz.ntmps199
  go_wp2_with fail
  refine (zdo _ _ _ _ _ _ _ _ _ _ _ _ _ _).mono ?_
  rintro e w1 ⟨rfl,hb1⟩
  have hX1:=za (zm w _ _) (by simp) hb1
  have hz1:w.heap.size < w1.heap.size:=by have:=hb1.size;simp at this;omega
  have hB1:Below w.heap.size w w1:=((Below.refl _ _).alloc (Nat.le_refl _) _).trans (hb1.mono (by simp))
  clear hb1 hlk
  go_wp2_with fail
  refine (zf HBare.out (zci _ _ _ _ _ _ _ _ _ _ _ _ _ _)).mono ?_
  rintro e w2 ⟨rfl,hb2⟩
  have hX2:=za hX1 hz1 hb2
  have hz2:w.heap.size < w2.heap.size:=by have:=hb2.size;omega
  have hB2:Below w.heap.size w w2:=hB1.trans (hb2.mono (by omega))
  clear hb2 hX1 hz1 hB1
  go_wp2_with fail
  refine (zf HSnd.out (zc0 _ _ _ _ _ _ _ _ _ _ _ _ _ _ _ _ (by exact hss.mono hB2))).mono ?_
  rintro e w3 ⟨rfl,hb3⟩
  have hX3:=za hX2 hz2 hb3
  have hz3:w.heap.size < w3.heap.size:=by have:=hb3.size;omega
  have hB3:Below w.heap.size w w3:=hB2.trans (hb3.mono (by omega))
  clear hb3 hX2 hz2 hB2
  go_wp2_with fail
  refine (zft _ _ _ _ _ _ _ _ _ _ _ _ _ hdf).mono ?_
  rintro e w4 ⟨rfl,hb4⟩
  have hB4:Below w.heap.size w w4:=hB3.trans (hb4.mono (by omega))
  clear hb4
  go_wp2_with fail
  go_ret
  exact ⟨ze (by rw [HO.out,HBare.out,HSnd.out,HD.out,HZ.out];rfl),hB4⟩
theorem zjg (r:Nat) (nm:ByteArray) (kd ls ms:Int) (a:Option Addr) (cap:Nat) (ws:List ByteArray) (to:ByteArray) (rl:Int) (mu fx:Bool) (df wg:ByteArray) (a0:Option Addr) (cap0:Nat) (ss:List Shp) (w:World) (hr:w.heap[r]?=some (.map yM 4)) (h1:kd ≠ 1) (h2:kd ≠ 2) (h3:kd ≠ 3) (h4:kd ≠ 4) :
 Calls Tryz.prog 199 #[.map (some r),.slice a0 ss.length cap0,.agg #[.string nm,.int .i64 kd,.int .i64 ls,.int .i64 ms,.slice a ws.length cap,.string to,.int .i64 rl,.bool mu,.bool fx,.string df,.string wg]] w
  fun e w'=>e = .returned (.bool (Gate.yG ss ⟨nm,kd,ls,ms,ws,to,rl,mu,fx,df,wg⟩))/\Below w.heap.size w w':=by
 have HO:Hid (Gate.yG ss ⟨nm,kd,ls,ms,ws,to,rl,mu,fx,df,wg⟩=false):=by simp [Hid,Gate.yG,Gate.bare,Gate.yF,h1,h2,h3,h4]
 have hlt:r < w.heap.size:=(Array.getElem?_eq_some_iff.1 hr).1
 have hlk:∀ o,(Instr.lookup 199 (.map (some r)) (.int .i64 kd) true).run Tryz.prog (w.alloc o) = .ok (.tuple #[.nilFunc,.bool false]) (w.alloc o) :=
  fun o=>zb5 Tryz.underlying199 Tryz.underlying3 (.int .i64 kd) _ rfl yM 4 (zka kd h1 h2 h3 h4) (w.alloc o) (zkc _) r ((Below.heap_alloc w o r hlt).trans hr)
 clear hr h1 h2 h3 h4
 go_enter Tryz.func199,Tryz.ntmps199
 go_wp2_with fail
 go_ret
 exact ⟨ze HO.out.symm,(Below.refl _ _).alloc (Nat.le_refl _) _⟩
theorem zl3 (r:Nat) (nm:ByteArray) (kd ls ms:Int) (a:Option Addr) (cap:Nat) (ws:List ByteArray) (to:ByteArray) (rl:Int) (mu fx:Bool) (df wg:ByteArray) (a0:Option Addr) (cap0:Nat) (ss:List Shp) (w:World) (hr:w.heap[r]?=some (.map yM 4)) (hdf:df.size<=maxLen) (hwg:wg.size<=maxLen) (hws:zD w a ws) (hss:yI w a0 ss) :
 Calls Tryz.prog 199 #[.map (some r),.slice a0 ss.length cap0,.agg #[.string nm,.int .i64 kd,.int .i64 ls,.int .i64 ms,.slice a ws.length cap,.string to,.int .i64 rl,.bool mu,.bool fx,.string df,.string wg]] w
  fun e w'=>e = .returned (.bool (Gate.yG ss ⟨nm,kd,ls,ms,ws,to,rl,mu,fx,df,wg⟩))/\Below w.heap.size w w':=by
 by_cases h1:kd=1
 ·subst h1;exact zn0 r nm ls ms a cap ws to rl mu fx df wg a0 cap0 ss w hr hdf hwg
 by_cases h2:kd=2
 ·subst h2;exact zoa r nm ls ms a cap ws to rl mu fx df wg a0 cap0 ss w hr hws
 by_cases h3:kd=3
 ·subst h3;exact zn4 r nm ls ms a cap ws to rl mu fx df wg a0 cap0 ss w hr hdf
 by_cases h4:kd=4
 ·subst h4;exact znJ r nm ls ms a cap ws to rl mu fx df wg a0 cap0 ss w hr hdf hss
 exact zjg r nm kd ls ms a cap ws to rl mu fx df wg a0 cap0 ss w hr h1 h2 h3 h4
end Go.Proofs.YtihdafafigceiaaGreat
