import Derived.Test.YtaickbhifenbjaaGreatM13
import Derived.Test.YtaickbhifenbjaaGreatM02
import Derived.Deep.QuietTactic
import Derived.BigQuiet
import Derived.Test.YtaickbhifenbjaaGreatM22
import Derived.Test.YtaickbhifenbjaaGreatM01
set_option maxHeartbeats 1000000
namespace Go.Proofs.YtaickbhifenbjaaGreat
open Go.RowKit
theorem zal (a:Option Addr) (cap:Nat) (ws:List ByteArray) (w:World) (hw:zF w a ws) :
 Calls Tryz.prog 119 #[.slice a ws.length cap] w fun e w'=>e = .returned (.bool (Gate.asc ws))/\∃ n,w'=w.drewN n:=by
 have hl:=hw.len
 unfold maxLen at hl
 go_enter Tryz.func119,Tryz.ntmps119
 go_wp2
 go_loopw [3] (fun i wr=>∃ k:Nat,k<=ws.length/\i = .int .i64 k/\Gate.up (Gate.zda ws) k=true/\∃ n,wr=w.drewN n) (fun i _=>ws.length - (intOf i).toNat)
 case atStart=>exact ⟨0,Nat.zero_le _,rfl,rfl,0,rfl⟩
 case round =>
  obtain ⟨k,hk,rfl,hup,hwr⟩:=hrel
  have HW:Hid (∃ n,wr=w.drewN n):=hwr
  by_cases hlt:k < ws.length
  ·obtain ⟨b,off,rfl,hb,hc0⟩:=hw.cells (by rintro rfl;simp at hlt)
   have hc:∀ i (h:i < ws.length),wr.cell? ⟨b,off+i,none⟩=some (.string ws[i]):=by obtain ⟨n,rfl⟩:=hwr;exact hc0
   have hsm:=hw.small _ (List.getElem_mem hlt)
   clear hw hc0 hwr
   have hck:=hc k hlt
   have hltI:(k:Int) < (ws.length:Int):=by omega
   by_cases hn:Gate.zx ws[k]=true
   ·have hn':=hn
    by_cases hk0:k=0
    ·have HF:Hid (Gate.up (Gate.zda ws) (k+1)=true):=by subst hk0;unfold Hid;rw [Gate.jc,Gate.zgG hlt hn];rfl
     have hg:decide (0 < k)=false:=by simp;omega
     clear hn hc hup hk0
     go_wp2
     go_quiet ((go_at_call 86;exact Calls.quiet_of_same (zf hn' (zh _ _ hsm))))
     go_wp2
     obtain ⟨n,rfl⟩:=HW.out
     exact ⟨⟨k+1,by omega,by go_num,HF.out,n+nq,by simp⟩,by simp [intOf];omega⟩
    ·obtain ⟨m,rfl⟩:∃ m,k=m+1:=⟨k - 1,by omega⟩
     have hcm:=hc m (by omega)
     have HU:Hid (Gate.up (Gate.zda ws) (m+1+1)=Gate.less ws[m] ws[m+1]):=by unfold Hid;rw [Gate.jc,hup,Gate.zdl hlt hn];rfl
     have HN:Hid (Gate.less ws[m] ws[m+1]=false->Gate.asc ws=false):=fun h=>Gate.zaw hlt (by rw [Gate.zdl hlt hn];exact h)
     clear hn hc hup hk0
     by_cases hls:Gate.less ws[m] ws[m+1]=true
     ·have hls':Op.bytesLess ws[m].toList ws[m+1].toList=true:=hls
      have HLS:Hid (Gate.less ws[m] ws[m+1]=true):=hls
      clear hls
      go_wp2
      go_quiet ((go_at_call 86;exact Calls.quiet_of_same (zf hn' (zh _ _ hsm))))
      go_wp2
      obtain ⟨n,rfl⟩:=HW.out
      exact ⟨⟨m+1+1,by omega,by go_num,by rw [HU.out,HLS.out],n+nq,by simp⟩,by simp [intOf];omega⟩
     ·have hls':Op.bytesLess ws[m].toList ws[m+1].toList=false:=by simpa [Gate.less] using hls
      have HLS:Hid (Gate.less ws[m] ws[m+1]=false):=hls'
      clear hls
      go_wp2
      go_quiet ((go_at_call 86;exact Calls.quiet_of_same (zf hn' (zh _ _ hsm))))
      go_wp2
      go_ret
      refine ⟨ze (HN.out HLS.out).symm,?_⟩
      obtain ⟨n,rfl⟩:=HW.out
      exact ⟨n+nq,by simp⟩
   ·have hn':Gate.zx ws[k]=false:=by simpa using hn
    have HF:Hid (Gate.asc ws=false):=Gate.zaw hlt (Gate.zh6 hlt hn')
    clear hn hc hup
    go_wp2
    go_quiet ((go_at_call 86;exact Calls.quiet_of_same (zf hn' (zh _ _ hsm))))
    go_wp2
    go_ret
    refine ⟨ze HF.out.symm,?_⟩
    obtain ⟨n,rfl⟩:=HW.out
    exact ⟨n+nq,by simp⟩
  ·have HF:Hid (Gate.asc ws=true):=by
    have e:k=ws.length:=by omega
    subst e;exact hup
   clear hw hup hwr
   go_wp2
   go_ret
   exact ⟨ze HF.out.symm,HW.out⟩
theorem zmc (nm:ByteArray) (ls ms:Int) (a:Option Addr) (cap:Nat) (ws:List ByteArray) (to:ByteArray) (rl:Int) (mu fx:Bool) (df wg:ByteArray) (v:ByteArray) (w:World) (hv:v.size<=maxLen) :
 Calls Tryz.prog 120 #[.agg #[.string nm,.int .i64 1,.int .i64 ls,.int .i64 ms,.slice a ws.length cap,.string to,.int .i64 rl,.bool mu,.bool fx,.string df,.string wg],.string v] w
  fun e w'=>e = .returned (.bool (Gate.fits 1 ls ms ws v))/\Below w.heap.size w w':=by
 rw [Gate.zn1]
 by_cases hd:Gate.zaa v=true
 ·have HE:Hid (qX v=Gate.zfa v):=by unfold qX Hid;rw [hd];rfl
  have HF:Hid (Gate.zak ls ms v=(decide (ls<=qX v) && decide (qX v<=ms))):=by rw [HE.out];exact Gate.zl0 _ _ _ hd
  have h0:0<=qX v:=by rw [HE.out];exact Gate.zcG v hd
  go_enter Tryz.func120,Tryz.ntmps120
  go_wp2_with (first
   | (go_at_call 166;refine (zdi _ _ hv).mono ?_;rintro e w' ⟨rfl,rfl⟩)
   | (go_at_call 47;refine (yD _ _ _ _).mono ?_;rintro e w' ⟨rfl,rfl⟩))
  go_ret
  exact ⟨ze HF.out.symm,(Below.refl _ _).alloc (Nat.le_refl _) _⟩
 ·have hd':Gate.zaa v=false:=by simpa using hd
  have HF:Hid (Gate.zak ls ms v=false):=Gate.zhJ _ _ _ hd'
  have h0:qX v < 0:=by unfold qX;rw [hd'];simp
  go_enter Tryz.func120,Tryz.ntmps120
  go_wp2_with (first
   | (go_at_call 166;refine (zdi _ _ hv).mono ?_;rintro e w' ⟨rfl,rfl⟩)
   | (go_at_call 47;refine (yD _ _ _ _).mono ?_;rintro e w' ⟨rfl,rfl⟩))
  go_ret
  exact ⟨ze HF.out.symm,(Below.refl _ _).alloc (Nat.le_refl _) _⟩
theorem zmy (nm:ByteArray) (ls ms:Int) (a:Option Addr) (cap:Nat) (ws:List ByteArray) (to:ByteArray) (rl:Int) (mu fx:Bool) (df wg:ByteArray) (v:ByteArray) (w:World) (hws:zF w a ws) :
 Calls Tryz.prog 120 #[.agg #[.string nm,.int .i64 2,.int .i64 ls,.int .i64 ms,.slice a ws.length cap,.string to,.int .i64 rl,.bool mu,.bool fx,.string df,.string wg],.string v] w
  fun e w'=>e = .returned (.bool (Gate.fits 2 ls ms ws v))/\Below w.heap.size w w':=by
 by_cases hz:v.size=0
 ·rw [Gate.zab _ _ _ _ _ hz]
  have hne:v.toList.isEmpty=true:=by rw [Gate.zq];simp [hz]
  clear hz hws
  go_enter Tryz.func120,Tryz.ntmps120
  go_wp2_with fail
  go_ret
  exact ⟨rfl,(Below.refl _ _).alloc (Nat.le_refl _) _⟩
 ·rw [Gate.zmr _ _ _ _ hz]
  have hne:v.toList.isEmpty=false:=by rw [Gate.zq];simp [hz]
  go_enter Tryz.func120,Tryz.ntmps120
  go_wp2_with (go_at_call 164;refine (zcc _ _ _ _ _ (by exact hws.mono ((Below.refl _ _).alloc (Nat.le_refl _) _))).mono ?_;rintro e w' ⟨rfl,rfl⟩)
  go_ret
  exact ⟨rfl,(Below.refl _ _).alloc (Nat.le_refl _) _⟩
theorem zmz (nm:ByteArray) (ls ms:Int) (a:Option Addr) (cap:Nat) (ws:List ByteArray) (to:ByteArray) (rl:Int) (mu fx:Bool) (df wg:ByteArray) (v:ByteArray) (w:World) (hv:v.size<=maxLen) :
 Calls Tryz.prog 120 #[.agg #[.string nm,.int .i64 4,.int .i64 ls,.int .i64 ms,.slice a ws.length cap,.string to,.int .i64 rl,.bool mu,.bool fx,.string df,.string wg],.string v] w
  fun e w'=>e = .returned (.bool (Gate.fits 4 ls ms ws v))/\Below w.heap.size w w':=by
 rw [Gate.znP]
 go_enter Tryz.func120,Tryz.ntmps120
 go_wp2_with (go_at_call 86;refine (zh _ _ hv).mono ?_;rintro e w' ⟨rfl,rfl⟩)
 go_ret
 exact ⟨rfl,(Below.refl _ _).alloc (Nat.le_refl _) _⟩
theorem zh9 (nm:ByteArray) (kd ls ms:Int) (a:Option Addr) (cap:Nat) (ws:List ByteArray) (to:ByteArray) (rl:Int) (mu fx:Bool) (df wg:ByteArray) (v:ByteArray) (w:World) (h1:kd ≠ 1) (h2:kd ≠ 2) (h3:kd ≠ 3) (h4:kd ≠ 4) :
 Calls Tryz.prog 120 #[.agg #[.string nm,.int .i64 kd,.int .i64 ls,.int .i64 ms,.slice a ws.length cap,.string to,.int .i64 rl,.bool mu,.bool fx,.string df,.string wg],.string v] w
  fun e w'=>e = .returned (.bool (Gate.fits kd ls ms ws v))/\Below w.heap.size w w':=by
 rw [Gate.zeN kd ls ms ws v h1 h2 h3 h4]
 have e1:(kd == 1)=false:=by simpa using h1
 have e2:(kd == 2)=false:=by simpa using h2
 have e3:(kd == 3)=false:=by simpa using h3
 have e4:(kd == 4)=false:=by simpa using h4
 clear h1 h2 h3 h4
 go_enter Tryz.func120,Tryz.ntmps120
 go_wp2_with fail
 go_ret
 exact ⟨rfl,(Below.refl _ _).alloc (Nat.le_refl _) _⟩
theorem zml (nm:ByteArray) (ls ms:Int) (a:Option Addr) (cap:Nat) (ws:List ByteArray) (to:ByteArray) (rl:Int) (mu fx:Bool) (df wg:ByteArray) (v:ByteArray) (w:World) (hv:v.size<=maxLen) :
 Calls Tryz.prog 120 #[.agg #[.string nm,.int .i64 3,.int .i64 ls,.int .i64 ms,.slice a ws.length cap,.string to,.int .i64 rl,.bool mu,.bool fx,.string df,.string wg],.string v] w
  fun e w'=>e = .returned (.bool (Gate.fits 3 ls ms ws v))/\Below w.heap.size w w':=by
 unfold maxLen at hv
 go_enter Tryz.func120,Tryz.ntmps120
 go_wp2_with fail
 go_loop [6] (fun i=>∃ k:Nat,k<=v.size/\i = .int .i64 k/\(v.data.toList.take k).all Gate.y8=true) (fun i=>v.size - (intOf i).toNat)
 case atStart=>exact ⟨0,Nat.zero_le _,rfl,rfl⟩
 case round =>
  obtain ⟨k,hk,rfl,hall⟩:=hrel
  by_cases hlt:k < v.size
  ·have HS:Hid ((v.data.toList.take (k+1)).all Gate.y8=(true && Gate.y8 v[k])):=by rw [Gate.zaE _ v k hlt,hall];rfl
   have HN:Hid (Gate.y8 v[k]=false->Gate.fits 3 ls ms ws v=false):=fun h=>Gate.zjk ls ms ws v (Gate.zbJ Gate.y8 v k hlt h)
   clear hall
   by_cases h33:33<=(v[k].toNat:Int)/\(v[k].toNat:Int)<=126
   ·have HC:Hid (Gate.y8 v[k]=true):=by simp [Gate.y8,Hid];omega
    obtain ⟨ha,hb⟩:=h33
    go_wp2_with (go_at_call 47;refine (zaT _ _ _ _ (by omega) (by omega)).mono ?_;rintro e w' ⟨rfl,rfl⟩)
    go_round
    case rel=>exact ⟨k+1,by omega,by go_num,by rw [HS.out,HC.out];rfl⟩
    case measure=>simp [intOf];omega
   ·have HC:Hid (Gate.y8 v[k]=false):=by simp [Gate.y8,Hid];omega
    have HD:Hid (¬ (33<=(v[k].toNat:Int)/\(v[k].toNat:Int)<=126)):=h33
    clear h33
    have hby:(v[k].toNat:Int) < 256:=by have:=v[k].toNat_lt;omega
    go_wp2_with (go_at_call 47;refine (zcB _ _ _ _ (by have:=HD.out;omega)).mono ?_;rintro e w' ⟨rfl,rfl⟩)
    go_ret
    exact ⟨ze (HN.out HC.out).symm,(Below.refl _ _).alloc (Nat.le_refl _) _⟩
  ·have HA:Hid (Gate.zbg v=true):=by unfold Gate.zbg Hid;rw [<- Gate.zan v k (by omega)];exact hall
   clear hall
   by_cases hz:v.size=0
   ·have HF:Hid (Gate.fits 3 ls ms ws v=false):=Gate.zab _ _ _ _ _ hz
    have hne:v.toList.isEmpty=true:=by rw [Gate.zq];simp [hz]
    clear hz
    go_wp2_with fail
    go_ret
    exact ⟨ze HF.out.symm,(Below.refl _ _).alloc (Nat.le_refl _) _⟩
   ·have HF:Hid (Gate.fits 3 ls ms ws v=(decide (ls<=v.size) && decide ((v.size:Int)<=ms))):=Gate.zi3 ls ms ws v HA.out hz
    have hne:v.toList.isEmpty=false:=by rw [Gate.zq];simp [hz]
    go_wp2_with (go_at_call 47;refine (yD _ _ _ _).mono ?_;rintro e w' ⟨rfl,rfl⟩)
    go_ret
    exact ⟨ze HF.out.symm,(Below.refl _ _).alloc (Nat.le_refl _) _⟩
theorem yT (nm:ByteArray) (kd ls ms:Int) (a:Option Addr) (cap:Nat) (ws:List ByteArray) (to:ByteArray) (rl:Int) (mu fx:Bool) (df wg:ByteArray) (v:ByteArray) (w:World) (hv:v.size<=maxLen) (hws:zF w a ws) :
 Calls Tryz.prog 120 #[.agg #[.string nm,.int .i64 kd,.int .i64 ls,.int .i64 ms,.slice a ws.length cap,.string to,.int .i64 rl,.bool mu,.bool fx,.string df,.string wg],.string v] w
  fun e w'=>e = .returned (.bool (Gate.fits kd ls ms ws v))/\Below w.heap.size w w':=by
 by_cases h1:kd=1
 ·subst h1;exact zmc nm ls ms a cap ws to rl mu fx df wg v w hv
 by_cases h2:kd=2
 ·subst h2;exact zmy nm ls ms a cap ws to rl mu fx df wg v w hws
 by_cases h3:kd=3
 ·subst h3;exact zml nm ls ms a cap ws to rl mu fx df wg v w hv
 by_cases h4:kd=4
 ·subst h4;exact zmz nm ls ms a cap ws to rl mu fx df wg v w hv
 exact zh9 nm kd ls ms a cap ws to rl mu fx df wg v w h1 h2 h3 h4
def zn9 (ss:List Shp) (v:ByteArray) (e:Ending):Prop :=
 (Gate.zH ss v=false->e = .returned (.int .i64 (-1)))/\(Gate.zH ss v=true->∃ k,∃ h:k < ss.length,e = .returned (.int .i64 (k:Nat))/\Gate.shapeOf ss v=ss[k])
theorem zgK (a:Option Addr) (cap:Nat) (ss:List Shp) (v:ByteArray) (w:World) (hw:yL w a ss) :
 Calls Tryz.prog 124 #[.slice a ss.length cap,.string v] w fun e w'=>zn9 ss v e/\w'=w:=by
 have hl:=hw.len
 unfold maxLen at hl
 go_enter Tryz.func124,Tryz.ntmps124
 go_wp2
 go_loop [5] (fun i=>∃ k:Nat,k<=ss.length/\i = .int .i64 k/\Gate.zH (ss.take k) v=false) (fun i=>ss.length - (intOf i).toNat)
 case atStart=>exact ⟨0,Nat.zero_le _,rfl,rfl⟩
 case round =>
  obtain ⟨k,hk,rfl,hno⟩:=hrel
  by_cases hlt:k < ss.length
  ·obtain ⟨b,off,rfl,hb,hr⟩:=hw.rows (by rintro rfl;simp at hlt)
   obtain ⟨fa,fcap,hs⟩:=hr k hlt
   have hck:=hs.kind
   clear hw hr hs
   by_cases he:ss[k].kd=v
   ·have hbe:(ss[k].kd.toList == v.toList)=true:=by rw [Gate.beq_toList];simpa using he
    have HA:Hid (Gate.zH ss v=true):=Gate.zif ss v k hlt he
    have HB:Hid (Gate.shapeOf ss v=ss[k]):=Gate.zeM ss v k hlt hno he
    clear he hno
    go_wp2
    go_ret
    exact ⟨⟨fun h=>(by rw [HA.out] at h;cases h),fun _=>⟨k,hlt,rfl,HB.out⟩⟩,rfl⟩
   ·have hbe:(ss[k].kd.toList == v.toList)=false:=by rw [Gate.beq_toList];simpa using he
    have HS:Hid (Gate.zH (ss.take (k+1)) v=false):=by unfold Hid;rw [Gate.zfd ss v k hlt,hno,decide_eq_false he];rfl
    clear he hno
    go_wp2
    go_round
    case rel=>exact ⟨k+1,by omega,by go_num,HS.out⟩
    case measure=>simp [intOf];omega
  ·have HA:Hid (Gate.zH ss v=false):=by rw [<- Gate.zgL ss v k (by omega)];exact hno
   clear hno hw
   go_wp2
   go_ret
   exact ⟨⟨fun _=>rfl,fun h=>by rw [HA.out] at h;cases h⟩,rfl⟩
theorem zdz (a:Option Addr) (cap:Nat) (ss:List Shp) (v:ByteArray) (w:World) (hw:yL w a ss) (h:Gate.zH ss v=false) :
 Calls Tryz.prog 124 #[.slice a ss.length cap,.string v] w fun e w'=>e = .returned (.int .i64 (-1))/\w'=w:=by
 refine (zgK a cap ss v w hw).mono ?_
 rintro e w' ⟨⟨h1,_⟩,rfl⟩
 exact ⟨h1 h,rfl⟩
theorem jD (a:Option Addr) (cap:Nat) (ss:List Shp) (v:ByteArray) (w:World) (hw:yL w a ss) (h:Gate.zH ss v=true) :
 Calls Tryz.prog 124 #[.slice a ss.length cap,.string v] w fun e w'=>∃ k,∃ h:k < ss.length,e = .returned (.int .i64 (k:Nat))/\Gate.shapeOf ss v=ss[k]/\w'=w:=by
 refine (zgK a cap ss v w hw).mono ?_
 rintro e w' ⟨⟨_,h2⟩,rfl⟩
 obtain ⟨k,hk,he,hs⟩:=h2 h
 exact ⟨k,hk,he,hs,rfl⟩
theorem zdu (nm:ByteArray) (ls ms:Int) (a:Option Addr) (n cap:Nat) (to:ByteArray) (rl:Int) (mu fx:Bool) (df wg:ByteArray) (w:World) :
 Calls Tryz.prog 197 #[.agg #[.string nm,.int .i64 1,.int .i64 ls,.int .i64 ms,.slice a n cap,.string to,.int .i64 rl,.bool mu,.bool fx,.string df,.string wg]] w fun e w'=>e = .returned (.bool (Gate.yG 1 ls ms n to rl wg))/\Below w.heap.size w w':=by
 go_enter Tryz.func197,Tryz.ntmps197
 go_wp2
 all_goals
  go_ret
  refine ⟨ze ?_,(Below.refl _ _).alloc (Nat.le_refl _) _⟩
  simp_all [Gate.yG]
  try first | omega | (intros;omega) | (rw [Bool.eq_iff_iff];simp)
theorem zbB (nm:ByteArray) (ls ms:Int) (a:Option Addr) (n cap:Nat) (to:ByteArray) (rl:Int) (mu fx:Bool) (df wg:ByteArray) (w:World) :
 Calls Tryz.prog 197 #[.agg #[.string nm,.int .i64 2,.int .i64 ls,.int .i64 ms,.slice a n cap,.string to,.int .i64 rl,.bool mu,.bool fx,.string df,.string wg]] w fun e w'=>e = .returned (.bool (Gate.yG 2 ls ms n to rl wg))/\Below w.heap.size w w':=by
 go_enter Tryz.func197,Tryz.ntmps197
 go_wp2
 all_goals
  go_ret
  refine ⟨ze ?_,(Below.refl _ _).alloc (Nat.le_refl _) _⟩
  simp_all [Gate.yG]
  try first | omega | (intros;omega) | (rw [Bool.eq_iff_iff];simp)
theorem zdE (nm:ByteArray) (ls ms:Int) (a:Option Addr) (n cap:Nat) (to:ByteArray) (rl:Int) (mu fx:Bool) (df wg:ByteArray) (w:World) :
 Calls Tryz.prog 197 #[.agg #[.string nm,.int .i64 3,.int .i64 ls,.int .i64 ms,.slice a n cap,.string to,.int .i64 rl,.bool mu,.bool fx,.string df,.string wg]] w fun e w'=>e = .returned (.bool (Gate.yG 3 ls ms n to rl wg))/\Below w.heap.size w w':=by
 go_enter Tryz.func197,Tryz.ntmps197
 go_wp2
 all_goals
  go_ret
  refine ⟨ze ?_,(Below.refl _ _).alloc (Nat.le_refl _) _⟩
  simp_all [Gate.yG]
  try first | omega | (intros;omega) | (rw [Bool.eq_iff_iff];simp)
theorem zac (nm:ByteArray) (ls ms:Int) (a:Option Addr) (n cap:Nat) (to:ByteArray) (rl:Int) (mu fx:Bool) (df wg:ByteArray) (w:World) :
 Calls Tryz.prog 197 #[.agg #[.string nm,.int .i64 4,.int .i64 ls,.int .i64 ms,.slice a n cap,.string to,.int .i64 rl,.bool mu,.bool fx,.string df,.string wg]] w fun e w'=>e = .returned (.bool (Gate.yG 4 ls ms n to rl wg))/\Below w.heap.size w w':=by
 go_enter Tryz.func197,Tryz.ntmps197
 go_wp2
 all_goals
  go_ret
  refine ⟨ze ?_,(Below.refl _ _).alloc (Nat.le_refl _) _⟩
  simp_all [Gate.yG]
  try first | omega | (intros;omega) | (rw [Bool.eq_iff_iff];simp)
theorem zh1 (nm:ByteArray) (kd ls ms:Int) (a:Option Addr) (n cap:Nat) (to:ByteArray) (rl:Int) (mu fx:Bool) (df wg:ByteArray) (w:World) (h1:kd ≠ 1) (h2:kd ≠ 2) (h3:kd ≠ 3) (h4:kd ≠ 4) :
 Calls Tryz.prog 197 #[.agg #[.string nm,.int .i64 kd,.int .i64 ls,.int .i64 ms,.slice a n cap,.string to,.int .i64 rl,.bool mu,.bool fx,.string df,.string wg]] w fun e w'=>∃ b,e = .returned (.bool b)/\Below w.heap.size w w':=by
 have e1:(kd == 1)=false:=by simpa using h1
 have e2:(kd == 2)=false:=by simpa using h2
 have e3:(kd == 3)=false:=by simpa using h3
 have e4:(kd == 4)=false:=by simpa using h4
 have n1:(kd != 1)=true:=by simpa using h1
 have n2:(kd != 2)=true:=by simpa using h2
 clear h1 h2 h3 h4
 go_enter Tryz.func197,Tryz.ntmps197
 go_wp2
 all_goals
  go_ret
  exact ⟨_,rfl,(Below.refl _ _).alloc (Nat.le_refl _) _⟩
end Go.Proofs.YtaickbhifenbjaaGreat
