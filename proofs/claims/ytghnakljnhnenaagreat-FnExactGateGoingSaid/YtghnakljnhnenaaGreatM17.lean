import Derived.Test.YtghnakljnhnenaaGreatM16
set_option maxHeartbeats 1000000
namespace Go.Proofs.YtghnakljnhnenaaGreat
open Go.RowKit
theorem zaw (a:Option Addr) (cap:Nat) (ws:List ByteArray) (w:World) (hw:zD w a ws) :
 Calls Tryz.prog 129 #[.slice a ws.length cap] w fun e w'=>e = .returned (.bool (Gate.asc ws))/\∃ n,w'=w.drewN n:=by
 have hl:=hw.len;unfold maxLen at hl;go_enter Tryz.func129,Tryz.ntmps129
 go_wp2
 go_loopw [3] (fun i wr=>∃ k:Nat,k<=ws.length/\i = .int .i64 k/\Gate.up (Gate.zdD ws) k=true/\∃ n,wr=w.drewN n) (fun i _=>ws.length - (intOf i).toNat)
 case atStart=>exact ⟨0,Nat.zero_le _,rfl,rfl,0,rfl⟩
 case round =>
  obtain ⟨k,hk,rfl,hup,hwr⟩:=hrel;have HW:Hid (∃ n,wr=w.drewN n):=hwr
  by_cases hlt:k < ws.length
  ·obtain ⟨b,off,rfl,hb,hc0⟩:=hw.cells (by rintro rfl;simp at hlt)
   have hc:∀ i (h:i < ws.length),wr.cell? ⟨b,off+i,none⟩=some (.string ws[i]):=by obtain ⟨n,rfl⟩:=hwr;exact hc0
   have hsm:=hw.small _ (List.getElem_mem hlt);clear hw hc0 hwr;have hck:=hc k hlt;have hltI:(k:Int) < (ws.length:Int):=by omega
   by_cases hn:Gate.zy ws[k]=true
   ·have hn':=hn
    by_cases hk0:k=0
    ·have HF:Hid (Gate.up (Gate.zdD ws) (k+1)=true):=by subst hk0;unfold Hid;rw [Gate.q9,Gate.zhn hlt hn];rfl
     have hg:decide (0 < k)=false:=by simp;omega
     clear hn hc hup hk0
     go_wp2
     go_quiet ((go_at_call 97;exact Calls.quiet_of_same (zf hn' (zh _ _ hsm))))
     go_wp2
     obtain ⟨n,rfl⟩:=HW.out;exact ⟨⟨k+1,by omega,by go_num,HF.out,n+nq,by simp⟩,by simp [intOf];omega⟩
    ·obtain ⟨m,rfl⟩:∃ m,k=m+1:=⟨k - 1,by omega⟩
     have hcm:=hc m (by omega);have HU:Hid (Gate.up (Gate.zdD ws) (m+1+1)=Gate.less ws[m] ws[m+1]):=by unfold Hid;rw [Gate.q9,hup,Gate.zdK hlt hn];rfl
     have HN:Hid (Gate.less ws[m] ws[m+1]=false->Gate.asc ws=false):=fun h=>Gate.zaR hlt (by rw [Gate.zdK hlt hn];exact h)
     clear hn hc hup hk0
     by_cases hls:Gate.less ws[m] ws[m+1]=true
     ·have hls':Op.bytesLess ws[m].toList ws[m+1].toList=true:=hls
      have HLS:Hid (Gate.less ws[m] ws[m+1]=true):=hls;clear hls
      go_wp2
      go_quiet ((go_at_call 97;exact Calls.quiet_of_same (zf hn' (zh _ _ hsm))))
      go_wp2
      obtain ⟨n,rfl⟩:=HW.out;exact ⟨⟨m+1+1,by omega,by go_num,by rw [HU.out,HLS.out],n+nq,by simp⟩,by simp [intOf];omega⟩
     ·have hls':Op.bytesLess ws[m].toList ws[m+1].toList=false:=by simpa [Gate.less] using hls
      have HLS:Hid (Gate.less ws[m] ws[m+1]=false):=hls';clear hls
      go_wp2
      go_quiet ((go_at_call 97;exact Calls.quiet_of_same (zf hn' (zh _ _ hsm))))
      go_wp2
      go_ret;refine ⟨ze (HN.out HLS.out).symm,?_⟩;obtain ⟨n,rfl⟩:=HW.out;exact ⟨n+nq,by simp⟩
   ·have hn':Gate.zy ws[k]=false:=by simpa using hn
    have HF:Hid (Gate.asc ws=false):=Gate.zaR hlt (Gate.zi6 hlt hn');clear hn hc hup
    go_wp2
    go_quiet ((go_at_call 97;exact Calls.quiet_of_same (zf hn' (zh _ _ hsm))))
    go_wp2
    go_ret;refine ⟨ze HF.out.symm,?_⟩;obtain ⟨n,rfl⟩:=HW.out;exact ⟨n+nq,by simp⟩
  ·have HF:Hid (Gate.asc ws=true):=by
    have e:k=ws.length:=by omega
    subst e;exact hup
   clear hw hup hwr
   go_wp2
   go_ret;exact ⟨ze HF.out.symm,HW.out⟩
theorem znD (nm:ByteArray) (ls ms:Int) (a:Option Addr) (cap:Nat) (ws:List ByteArray) (to:ByteArray) (rl:Int) (mu fx:Bool) (df wg:ByteArray) (v:ByteArray) (w:World) (hv:v.size<=maxLen) :
 Calls Tryz.prog 130 #[.agg #[.string nm,.int .i64 1,.int .i64 ls,.int .i64 ms,.slice a ws.length cap,.string to,.int .i64 rl,.bool mu,.bool fx,.string df,.string wg],.string v] w
  fun e w'=>e = .returned (.bool (Gate.fits 1 ls ms ws v))/\Below w.heap.size w w':=by
 rw [Gate.zpg]
 by_cases hd:Gate.zal v=true
 ·have HE:Hid (qV v=Gate.zfP v):=by unfold qV Hid;rw [hd];rfl
  have HF:Hid (Gate.zaq ls ms v=(decide (ls<=qV v) && decide (qV v<=ms))):=by rw [HE.out];exact Gate.zma _ _ _ hd
  have h0:0<=qV v:=by rw [HE.out];exact Gate.zcT v hd
  go_enter Tryz.func130,Tryz.ntmps130
  go_wp2_with (first
   | (go_at_call 174;refine (zd8 _ _ hv).mono ?_;rintro e w' ⟨rfl,rfl⟩)
   | (go_at_call 59;refine (yD _ _ _ _).mono ?_;rintro e w' ⟨rfl,rfl⟩))
  go_ret;exact ⟨ze HF.out.symm,bAl _ _⟩
 ·have hd':Gate.zal v=false:=by simpa using hd
  have HF:Hid (Gate.zaq ls ms v=false):=Gate.zjk _ _ _ hd';have h0:qV v < 0:=by unfold qV;rw [hd'];simp
  go_enter Tryz.func130,Tryz.ntmps130
  go_wp2_with (first
   | (go_at_call 174;refine (zd8 _ _ hv).mono ?_;rintro e w' ⟨rfl,rfl⟩)
   | (go_at_call 59;refine (yD _ _ _ _).mono ?_;rintro e w' ⟨rfl,rfl⟩))
  go_ret;exact ⟨ze HF.out.symm,bAl _ _⟩
theorem znl (nm:ByteArray) (ls ms:Int) (a:Option Addr) (cap:Nat) (ws:List ByteArray) (to:ByteArray) (rl:Int) (mu fx:Bool) (df wg:ByteArray) (v:ByteArray) (w:World) (hws:zD w a ws) :
 Calls Tryz.prog 130 #[.agg #[.string nm,.int .i64 2,.int .i64 ls,.int .i64 ms,.slice a ws.length cap,.string to,.int .i64 rl,.bool mu,.bool fx,.string df,.string wg],.string v] w
  fun e w'=>e = .returned (.bool (Gate.fits 2 ls ms ws v))/\Below w.heap.size w w':=by
 by_cases hz:v.size=0
 ·rw [Gate.zas _ _ _ _ _ hz]
  have hne:v.toList.isEmpty=true:=by rw [Gate.zu];simp [hz]
  clear hz hws;go_enter Tryz.func130,Tryz.ntmps130;go_wp2_with fail
  go_ret;exact ⟨rfl,bAl _ _⟩
 ·rw [Gate.zn4 _ _ _ _ hz]
  have hne:v.toList.isEmpty=false:=by rw [Gate.zu];simp [hz]
  go_enter Tryz.func130,Tryz.ntmps130
  go_wp2_with (go_at_call 172;refine (zcz _ _ _ _ _ (by exact hws.mono (bAl _ _))).mono ?_;rintro e w' ⟨rfl,rfl⟩)
  go_ret;exact ⟨rfl,bAl _ _⟩
theorem zng (nm:ByteArray) (ls ms:Int) (a:Option Addr) (cap:Nat) (ws:List ByteArray) (to:ByteArray) (rl:Int) (mu fx:Bool) (df wg:ByteArray) (v:ByteArray) (w:World) (hv:v.size<=maxLen) :
 Calls Tryz.prog 130 #[.agg #[.string nm,.int .i64 4,.int .i64 ls,.int .i64 ms,.slice a ws.length cap,.string to,.int .i64 rl,.bool mu,.bool fx,.string df,.string wg],.string v] w
  fun e w'=>e = .returned (.bool (Gate.fits 4 ls ms ws v))/\Below w.heap.size w w':=by
 rw [Gate.zot];go_enter Tryz.func130,Tryz.ntmps130
 go_wp2_with (go_at_call 97;refine (zh _ _ hv).mono ?_;rintro e w' ⟨rfl,rfl⟩)
 go_ret;exact ⟨rfl,bAl _ _⟩
theorem zi0 (nm:ByteArray) (kd ls ms:Int) (a:Option Addr) (cap:Nat) (ws:List ByteArray) (to:ByteArray) (rl:Int) (mu fx:Bool) (df wg:ByteArray) (v:ByteArray) (w:World) (h1:kd ≠ 1) (h2:kd ≠ 2) (h3:kd ≠ 3) (h4:kd ≠ 4) :
 Calls Tryz.prog 130 #[.agg #[.string nm,.int .i64 kd,.int .i64 ls,.int .i64 ms,.slice a ws.length cap,.string to,.int .i64 rl,.bool mu,.bool fx,.string df,.string wg],.string v] w
  fun e w'=>e = .returned (.bool (Gate.fits kd ls ms ws v))/\Below w.heap.size w w':=by
 rw [Gate.zfB kd ls ms ws v h1 h2 h3 h4];have e1:(kd == 1)=false:=by simpa using h1
 have e2:(kd == 2)=false:=by simpa using h2
 have e3:(kd == 3)=false:=by simpa using h3
 have e4:(kd == 4)=false:=by simpa using h4
 clear h1 h2 h3 h4;go_enter Tryz.func130,Tryz.ntmps130;go_wp2_with fail
 go_ret;exact ⟨rfl,bAl _ _⟩
theorem znX (nm:ByteArray) (ls ms:Int) (a:Option Addr) (cap:Nat) (ws:List ByteArray) (to:ByteArray) (rl:Int) (mu fx:Bool) (df wg:ByteArray) (v:ByteArray) (w:World) (hv:v.size<=maxLen) :
 Calls Tryz.prog 130 #[.agg #[.string nm,.int .i64 3,.int .i64 ls,.int .i64 ms,.slice a ws.length cap,.string to,.int .i64 rl,.bool mu,.bool fx,.string df,.string wg],.string v] w
  fun e w'=>e = .returned (.bool (Gate.fits 3 ls ms ws v))/\Below w.heap.size w w':=by
 unfold maxLen at hv;go_enter Tryz.func130,Tryz.ntmps130;go_wp2_with fail
 go_loop [6] (fun i=>∃ k:Nat,k<=v.size/\i = .int .i64 k/\(v.data.toList.take k).all Gate.y8=true) (fun i=>v.size - (intOf i).toNat)
 case atStart=>exact ⟨0,Nat.zero_le _,rfl,rfl⟩
 case round =>
  obtain ⟨k,hk,rfl,hall⟩:=hrel
  by_cases hlt:k < v.size
  ·have HS:Hid ((v.data.toList.take (k+1)).all Gate.y8=(true && Gate.y8 v[k])):=by rw [Gate.zaN _ v k hlt,hall];rfl
   have HN:Hid (Gate.y8 v[k]=false->Gate.fits 3 ls ms ws v=false):=fun h=>Gate.zkk ls ms ws v (Gate.zb4 Gate.y8 v k hlt h)
   clear hall
   by_cases h33:33<=(v[k].toNat:Int)/\(v[k].toNat:Int)<=126
   ·have HC:Hid (Gate.y8 v[k]=true):=by simp [Gate.y8,Hid];omega
    obtain ⟨ha,hb⟩:=h33
    go_wp2_with (go_at_call 59;refine (zbb _ _ _ _ (by omega) (by omega)).mono ?_;rintro e w' ⟨rfl,rfl⟩)
    go_round
    case rel=>exact ⟨k+1,by omega,by go_num,by rw [HS.out,HC.out];rfl⟩
    case measure=>simp [intOf];omega
   ·have HC:Hid (Gate.y8 v[k]=false):=by simp [Gate.y8,Hid];omega
    have HD:Hid (¬ (33<=(v[k].toNat:Int)/\(v[k].toNat:Int)<=126)):=h33;clear h33;have hby:(v[k].toNat:Int) < 256:=by have:=v[k].toNat_lt;omega
    go_wp2_with (go_at_call 59;refine (zcW _ _ _ _ (by have:=HD.out;omega)).mono ?_;rintro e w' ⟨rfl,rfl⟩)
    go_ret;exact ⟨ze (HN.out HC.out).symm,bAl _ _⟩
  ·have HA:Hid (Gate.zbG v=true):=by unfold Gate.zbG Hid;rw [<- Gate.zaz v k (by omega)];exact hall
   clear hall
   by_cases hz:v.size=0
   ·have HF:Hid (Gate.fits 3 ls ms ws v=false):=Gate.zas _ _ _ _ _ hz
    have hne:v.toList.isEmpty=true:=by rw [Gate.zu];simp [hz]
    clear hz;go_wp2_with fail
    go_ret;exact ⟨ze HF.out.symm,bAl _ _⟩
   ·have HF:Hid (Gate.fits 3 ls ms ws v=(decide (ls<=v.size) && decide ((v.size:Int)<=ms))):=Gate.zjZ ls ms ws v HA.out hz
    have hne:v.toList.isEmpty=false:=by rw [Gate.zu];simp [hz]
    go_wp2_with (go_at_call 59;refine (yD _ _ _ _).mono ?_;rintro e w' ⟨rfl,rfl⟩)
    go_ret;exact ⟨ze HF.out.symm,bAl _ _⟩
theorem yS (nm:ByteArray) (kd ls ms:Int) (a:Option Addr) (cap:Nat) (ws:List ByteArray) (to:ByteArray) (rl:Int) (mu fx:Bool) (df wg:ByteArray) (v:ByteArray) (w:World) (hv:v.size<=maxLen) (hws:zD w a ws) :
 Calls Tryz.prog 130 #[.agg #[.string nm,.int .i64 kd,.int .i64 ls,.int .i64 ms,.slice a ws.length cap,.string to,.int .i64 rl,.bool mu,.bool fx,.string df,.string wg],.string v] w
  fun e w'=>e = .returned (.bool (Gate.fits kd ls ms ws v))/\Below w.heap.size w w':=by
 by_cases h1:kd=1
 ·subst h1;exact znD nm ls ms a cap ws to rl mu fx df wg v w hv
 by_cases h2:kd=2
 ·subst h2;exact znl nm ls ms a cap ws to rl mu fx df wg v w hws
 by_cases h3:kd=3
 ·subst h3;exact znX nm ls ms a cap ws to rl mu fx df wg v w hv
 by_cases h4:kd=4
 ·subst h4;exact zng nm ls ms a cap ws to rl mu fx df wg v w hv
 exact zi0 nm kd ls ms a cap ws to rl mu fx df wg v w h1 h2 h3 h4
theorem zdY (nm:ByteArray) (ls ms:Int) (a:Option Addr) (n cap:Nat) (to:ByteArray) (rl:Int) (mu fx:Bool) (df wg:ByteArray) (w:World) :
 Calls Tryz.prog 202 #[.agg #[.string nm,.int .i64 1,.int .i64 ls,.int .i64 ms,.slice a n cap,.string to,.int .i64 rl,.bool mu,.bool fx,.string df,.string wg]] w fun e w'=>e = .returned (.bool (Gate.yG 1 ls ms n to rl wg))/\Below w.heap.size w w':=by
 go_enter Tryz.func202,Tryz.ntmps202
 go_wp2
 all_goals
  go_ret;refine ⟨ze ?_,bAl _ _⟩
  simp_all [Gate.yG]
  try first | omega | (intros;omega) | (rw [Bool.eq_iff_iff];simp)
theorem zbS (nm:ByteArray) (ls ms:Int) (a:Option Addr) (n cap:Nat) (to:ByteArray) (rl:Int) (mu fx:Bool) (df wg:ByteArray) (w:World) :
 Calls Tryz.prog 202 #[.agg #[.string nm,.int .i64 2,.int .i64 ls,.int .i64 ms,.slice a n cap,.string to,.int .i64 rl,.bool mu,.bool fx,.string df,.string wg]] w fun e w'=>e = .returned (.bool (Gate.yG 2 ls ms n to rl wg))/\Below w.heap.size w w':=by
 go_enter Tryz.func202,Tryz.ntmps202
 go_wp2
 all_goals
  go_ret;refine ⟨ze ?_,bAl _ _⟩
  simp_all [Gate.yG]
  try first | omega | (intros;omega) | (rw [Bool.eq_iff_iff];simp)
theorem zdI (nm:ByteArray) (ls ms:Int) (a:Option Addr) (n cap:Nat) (to:ByteArray) (rl:Int) (mu fx:Bool) (df wg:ByteArray) (w:World) :
 Calls Tryz.prog 202 #[.agg #[.string nm,.int .i64 3,.int .i64 ls,.int .i64 ms,.slice a n cap,.string to,.int .i64 rl,.bool mu,.bool fx,.string df,.string wg]] w fun e w'=>e = .returned (.bool (Gate.yG 3 ls ms n to rl wg))/\Below w.heap.size w w':=by
 go_enter Tryz.func202,Tryz.ntmps202
 go_wp2
 all_goals
  go_ret;refine ⟨ze ?_,bAl _ _⟩
  simp_all [Gate.yG]
  try first | omega | (intros;omega) | (rw [Bool.eq_iff_iff];simp)
theorem zar (nm:ByteArray) (ls ms:Int) (a:Option Addr) (n cap:Nat) (to:ByteArray) (rl:Int) (mu fx:Bool) (df wg:ByteArray) (w:World) :
 Calls Tryz.prog 202 #[.agg #[.string nm,.int .i64 4,.int .i64 ls,.int .i64 ms,.slice a n cap,.string to,.int .i64 rl,.bool mu,.bool fx,.string df,.string wg]] w fun e w'=>e = .returned (.bool (Gate.yG 4 ls ms n to rl wg))/\Below w.heap.size w w':=by
 go_enter Tryz.func202,Tryz.ntmps202
 go_wp2
 all_goals
  go_ret;refine ⟨ze ?_,bAl _ _⟩
  simp_all [Gate.yG]
  try first | omega | (intros;omega) | (rw [Bool.eq_iff_iff];simp)
theorem ziz (nm:ByteArray) (kd ls ms:Int) (a:Option Addr) (n cap:Nat) (to:ByteArray) (rl:Int) (mu fx:Bool) (df wg:ByteArray) (w:World) (h1:kd ≠ 1) (h2:kd ≠ 2) (h3:kd ≠ 3) (h4:kd ≠ 4) :
 Calls Tryz.prog 202 #[.agg #[.string nm,.int .i64 kd,.int .i64 ls,.int .i64 ms,.slice a n cap,.string to,.int .i64 rl,.bool mu,.bool fx,.string df,.string wg]] w fun e w'=>∃ b,e = .returned (.bool b)/\Below w.heap.size w w':=by
 have e1:(kd == 1)=false:=by simpa using h1
 have e2:(kd == 2)=false:=by simpa using h2
 have e3:(kd == 3)=false:=by simpa using h3
 have e4:(kd == 4)=false:=by simpa using h4
 have n1:(kd != 1)=true:=by simpa using h1
 have n2:(kd != 2)=true:=by simpa using h2
 clear h1 h2 h3 h4;go_enter Tryz.func202,Tryz.ntmps202
 go_wp2
 all_goals
  go_ret;exact ⟨_,rfl,bAl _ _⟩
theorem qx (a:Option Addr) (cap:Nat) (fs:List Fld) (v:ByteArray) (w:World) (hw:zP w a fs) :
 Calls Tryz.prog 171 #[.slice a fs.length cap,.string v] w fun e w'=>e = .returned (.int .i64 (Gate.zR fs v))/\w'=w:=by
 have hl:=hw.len;unfold maxLen at hl;go_enter Tryz.func171,Tryz.ntmps171
 go_wp2
 go_loop [5] (fun i=>∃ k:Nat,k<=fs.length/\i = .int .i64 k/\Gate.hasName (fs.take k) v=false) (fun i=>fs.length - (intOf i).toNat)
 case atStart=>exact ⟨0,Nat.zero_le _,rfl,rfl⟩
 case round =>
  obtain ⟨k,hk,rfl,hno⟩:=hrel
  by_cases hlt:k < fs.length
  ·obtain ⟨b,off,rfl,hb,hr⟩:=hw.rows (by rintro rfl;simp at hlt)
   obtain ⟨wa,wcap,hf⟩:=hr k hlt;obtain ⟨c0,c1,c2,c3,c4,c5,c6,c7,c8,c9,c10⟩:=hf.load;clear hw hr hf c1 c2 c3 c4 c5 c6 c7 c8 c9 c10
   by_cases he:fs[k].nm=v
   ·have hbe:(fs[k].nm.toList == v.toList)=true:=by rw [Gate.beq_toList];simpa using he
    have HB:Hid (Gate.zR fs v=(k:Int)):=Gate.zeb fs v k hlt hno he;clear he hno
    go_wp2
    go_ret;exact ⟨by rw [HB.out];rfl,rfl⟩
   ·have hbe:(fs[k].nm.toList == v.toList)=false:=by rw [Gate.beq_toList];simpa using he
    have HS:Hid (Gate.hasName (fs.take (k+1)) v=false):=by unfold Hid;rw [Gate.zdV fs v k hlt,hno,decide_eq_false he];rfl
    clear he hno
    go_wp2
    go_round
    case rel=>exact ⟨k+1,by omega,by go_num,HS.out⟩
    case measure=>simp [intOf];omega
  ·have HA:Hid (Gate.zR fs v=-1):=Gate.zfH fs v (by rw [<- Gate.zhE fs v k (by omega)];exact hno)
   clear hno hw
   go_wp2
   go_ret;exact ⟨by rw [HA.out];rfl,rfl⟩
theorem zB (a:Option Addr) (cap:Nat) (fs:List Fld) (v:ByteArray) (w:World) (hw:zP w a fs) :
 Calls Tryz.prog 170 #[.slice a fs.length cap,.string v] w fun e w'=>e = .returned (.bool (Gate.plain fs v))/\Below w.heap.size w w':=by
 have hl:=hw.len;unfold maxLen at hl
 rcases Gate.jm fs v with ⟨h1,h2⟩ | ⟨i,hi,h1,h2,h3⟩
 ·have HP:Hid (Gate.plain fs v=false):=Gate.zau h2
  go_enter Tryz.func170,Tryz.ntmps170;go_wp2_with fail
  have h:=qx a cap fs v w hw;rw [h1] at h;refine h.mono ?_;rintro e w1 ⟨rfl,rfl⟩;clear h;go_wp2_with fail
  go_ret;exact ⟨by rw [HP.out];rfl,bRf _ _⟩
 ·have HP:Hid (Gate.plain fs v=decide (fs[i].kd ≠ 4)):=Gate.zjC h3
  obtain ⟨b,off,rfl,hb,hr⟩:=hw.rows (by rintro rfl;simp at hi);obtain ⟨wa,wcap,hf0⟩:=hr i hi;go_enter Tryz.func170,Tryz.ntmps170;go_wp2_with fail
  have h:=qx (some ⟨b,off,none⟩) cap fs v w hw;rw [h1] at h;refine h.mono ?_;rintro e w1 ⟨rfl,rfl⟩;obtain ⟨c0,c1,c2,c3,c4,c5,c6,c7,c8,c9,c10⟩:=hf0.load;have hiI:(i:Int) < (fs.length:Int):=by omega
  have hge:decide ((i:Int) ≥ 0)=true:=by simp
  clear h hw hr hf0 h3 h2 h1;go_wp2_with fail
  go_ret;exact ⟨by rw [HP.out];exact zp4 fs[i].kd,bRf _ _⟩
namespace Gate
def yx (fs:List Fld) (m:Mnd):Bool :=
 plain fs m.fd && (!isSet m.wh || plain fs m.wh) && (!isSet m.fr || plain fs m.fr) && !decide (m.wh=m.fd) && !decide (m.fr=m.fd) && yC fs m
theorem zo6 (s:ByteArray):isSet s=true ↔ s ≠ ByteArray.empty:=by
 unfold isSet;rw [zu]
 constructor
 ·intro h e;subst e;simp at h
 ·intro h
  simp only [Bool.not_eq_true',decide_eq_false_iff_not];intro h0
  apply h
  have:s.data.size=0:=h0
  cases s with
  | mk d=>simp only at this;have:=Array.eq_empty_of_size_eq_zero this;subst this;rfl
end Gate
end Go.Proofs.YtghnakljnhnenaaGreat
