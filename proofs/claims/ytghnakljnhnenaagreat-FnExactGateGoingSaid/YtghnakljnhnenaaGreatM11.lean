import Derived.Test.YtghnakljnhnenaaGreatM10
set_option maxHeartbeats 1000000
namespace Go.Proofs.YtghnakljnhnenaaGreat
open Go.RowKit
theorem zh (s:ByteArray) (w:World) (hs:s.size<=maxLen) :
 Calls Tryz.prog 97 #[.string s] w fun e w'=>e = .returned (.bool (Gate.zy s))/\w'=w:=by
 unfold maxLen at hs
 by_cases hb:1<=s.size/\s.size<=16
 ·obtain ⟨hb1,hb2⟩:=hb
  go_enter Tryz.func97,Tryz.ntmps97
  go_wp2_with (go_at_call 59;refine (zbb _ _ _ _ (by omega) (by omega)).mono ?_;rintro e w' ⟨rfl,rfl⟩)
  go_loop [3] (fun i=>∃ k:Nat,k<=s.size/\i = .int .i64 k/\(s.data.toList.take k).all Gate.zJ=true) (fun i=>s.size - (intOf i).toNat)
  case atStart=>exact ⟨0,Nat.zero_le _,rfl,rfl⟩
  case round =>
   obtain ⟨k,hk,rfl,hall⟩:=hrel
   by_cases hlt:k < s.size
   ·have HS:Hid ((s.data.toList.take (k+1)).all Gate.zJ=(true && Gate.zJ s[k])):=by rw [Gate.zaN _ s k hlt,hall];rfl
    have HN:=fun h=>Gate.zb4 Gate.zJ s k hlt h
    have HN':Hid (Gate.zJ s[k]=false->Gate.yZ s=false):=HN;clear HN hall
    by_cases hc:Gate.zJ s[k]=true
    ·go_wp2_with (go_at_call 135;refine (zad _ _).mono ?_;rintro e w' ⟨rfl,rfl⟩)
     go_round
     case rel=>exact ⟨k+1,by omega,by go_num,by rw [HS.out,hc];rfl⟩
     case measure=>simp [intOf];omega
    ·have hc':Gate.zJ s[k]=false:=by simpa using hc
     clear hc
     go_wp2_with (go_at_call 135;refine (zad _ _).mono ?_;rintro e w' ⟨rfl,rfl⟩)
     go_ret;refine ⟨ze ?_,rfl⟩
     simp [Gate.zy,HN'.out hc']
   ·have HA:Hid (Gate.yZ s=true):=by unfold Gate.yZ Hid;rw [<- Gate.zaz s k (by omega)];exact hall
    clear hall
    go_wp2
    go_ret;refine ⟨ze ?_,rfl⟩;simp only [Gate.zy,HA.out];simp;omega
 ·go_enter Tryz.func97,Tryz.ntmps97
  go_wp2_with (go_at_call 59;refine (zcW _ _ _ _ (by omega)).mono ?_;rintro e w' ⟨rfl,rfl⟩)
  go_ret;refine ⟨ze ?_,rfl⟩
  simp [Gate.zy];omega
theorem jZ (s:ByteArray) (w:World) (hs:s.size<=maxLen) :
 Calls Tryz.prog 189 #[.string s] w fun e w'=>e = .returned (.bool (Gate.yZ s))/\w'=w:=by
 unfold maxLen at hs;go_enter Tryz.func189,Tryz.ntmps189
 go_wp2
 go_loop [7] (fun i=>∃ k:Nat,k<=s.size/\i = .int .i64 k/\(s.data.toList.take k).all Gate.zJ=true) (fun i=>s.size - (intOf i).toNat)
 case atStart=>exact ⟨0,Nat.zero_le _,rfl,rfl⟩
 case round =>
  obtain ⟨k,hk,rfl,hall⟩:=hrel
  by_cases hlt:k < s.size
  ·have HS:Hid ((s.data.toList.take (k+1)).all Gate.zJ=(true && Gate.zJ s[k])):=by rw [Gate.zaN _ s k hlt,hall];rfl
   have HN:Hid (Gate.zJ s[k]=false->Gate.yZ s=false):=fun h=>Gate.zb4 Gate.zJ s k hlt h
   clear hall
   by_cases hd:48<=(s[k].toNat:Int)/\(s[k].toNat:Int)<=57
   ·have HC:Hid (Gate.zJ s[k]=true):=by simp [Gate.zJ,Hid];omega
    obtain ⟨hd1,hd2⟩:=hd
    go_wp2_with (go_at_call 207;refine (zhL _ _ hd1 hd2).mono ?_;rintro e w' ⟨rfl,rfl⟩)
    go_round
    case rel=>exact ⟨k+1,by omega,by go_num,by rw [HS.out,HC.out];rfl⟩
    case measure=>simp [intOf];omega
   ·have HD:Hid (¬ (48<=(s[k].toNat:Int)/\(s[k].toNat:Int)<=57)):=hd
    clear hd
    by_cases h45:(s[k].toNat:Int)=45
    ·have HC:Hid (Gate.zJ s[k]=true):=by simp [Gate.zJ,Hid];omega
     have h45':((s[k].toNat:Int) != 45)=false:=by simp [h45]
     clear h45
     go_wp2_with (go_at_call 207;refine (zcO _ _ HD.out).mono ?_;rintro e w' ⟨rfl,rfl⟩)
     go_round
     case rel=>exact ⟨k+1,by omega,by go_num,by rw [HS.out,HC.out];rfl⟩
     case measure=>simp [intOf];omega
    ·have h45':((s[k].toNat:Int) != 45)=true:=by simp [h45]
     by_cases h97:(s[k].toNat:Int) < 97
     ·have HC:Hid (Gate.zJ s[k]=false):=by have:=HD.out;simp [Gate.zJ,Hid];omega
      clear h45
      go_wp2_with (go_at_call 207;refine (zcO _ _ HD.out).mono ?_;rintro e w' ⟨rfl,rfl⟩)
      go_ret;exact ⟨ze (HN.out HC.out).symm,rfl⟩
     ·by_cases h122:122 < (s[k].toNat:Int)
      ·have HC:Hid (Gate.zJ s[k]=false):=by have:=HD.out;simp [Gate.zJ,Hid];omega
       clear h45
       go_wp2_with (go_at_call 207;refine (zcO _ _ HD.out).mono ?_;rintro e w' ⟨rfl,rfl⟩)
       go_ret;exact ⟨ze (HN.out HC.out).symm,rfl⟩
      ·have HC:Hid (Gate.zJ s[k]=true):=by simp [Gate.zJ,Hid];omega
       clear h45
       go_wp2_with (go_at_call 207;refine (zcO _ _ HD.out).mono ?_;rintro e w' ⟨rfl,rfl⟩)
       go_round
       case rel=>exact ⟨k+1,by omega,by go_num,by rw [HS.out,HC.out];rfl⟩
       case measure=>simp [intOf];omega
  ·have HA:Hid (Gate.yZ s=true):=by unfold Gate.yZ Hid;rw [<- Gate.zaz s k (by omega)];exact hall
   clear hall
   go_wp2
   go_ret;exact ⟨ze HA.out.symm,rfl⟩
theorem zG (s:ByteArray) (w:World) (hs:s.size<=maxLen) :
 Calls Tryz.prog 145 #[.string s] w fun e w'=>e = .returned (.bool (Gate.zy s))/\w'=w:=by
 have hs':=hs;unfold maxLen at hs'
 by_cases h0:s.size=0
 ·rw [Gate.zde s h0]
  go_enter Tryz.func145,Tryz.ntmps145
  go_wp2
  go_ret;exact ⟨rfl,rfl⟩
 ·have hne:s.toList.isEmpty=false:=by rw [Gate.zu];simp [h0]
  by_cases h16:s.size<=16
  ·have HF:Hid (Gate.zy s=Gate.yZ s):=by
    simp only [Hid,Gate.zy];rw [decide_eq_true (show 1<=s.size by omega),decide_eq_true h16];simp
   go_enter Tryz.func145,Tryz.ntmps145
   go_wp2_with (go_at_call 189;refine (jZ _ _ hs).mono ?_;rintro e w' ⟨rfl,rfl⟩)
   go_ret;exact ⟨ze HF.out.symm,rfl⟩
  ·go_enter Tryz.func145,Tryz.ntmps145
   go_wp2_with (go_at_call 189;refine (jZ _ _ hs).mono ?_;rintro e w' ⟨rfl,rfl⟩)
   go_ret;refine ⟨ze ?_,rfl⟩;simp only [Gate.zy];rw [decide_eq_false h16];simp
theorem zcz (a:Option Addr) (cap:Nat) (ws:List ByteArray) (v:ByteArray) (w:World) (hw:zD w a ws) :
 Calls Tryz.prog 172 #[.slice a ws.length cap,.string v] w fun e w'=>e = .returned (.bool (Gate.has ws v))/\w'=w:=by
 have hl:=hw.len;unfold maxLen at hl
 by_cases hne:ws=[]
 ·subst hne
  go_enter Tryz.func172,Tryz.ntmps172
  go_wp2
  go_loop [5] (fun i=>i = .int .i64 0) (fun i=>0)
  case atStart=>rfl
  case round =>
   subst hrel
   go_wp2
   go_ret;exact ⟨rfl,rfl⟩
 ·obtain ⟨b,off,rfl,hb,hc⟩:=hw.cells hne
  clear hw;have HL:Hid (0 < ws.length):=List.length_pos_iff.2 hne;clear hne;go_enter Tryz.func172,Tryz.ntmps172
  go_wp2
  go_loop [5] (fun i=>∃ k:Nat,k<=ws.length/\i = .int .i64 k/\Gate.has (ws.take k) v=false) (fun i=>ws.length - (intOf i).toNat)
  case atStart=>exact ⟨0,Nat.zero_le _,rfl,rfl⟩
  case round =>
   obtain ⟨k,hk,rfl,hall⟩:=hrel
   by_cases hlt:k < ws.length
   ·have hck:=hc k hlt
    clear hc;have HS:Hid (Gate.has (ws.take (k+1)) v=(false || decide (ws[k]=v))):=by rw [Gate.zmT ws v k hlt,hall];rfl
    have HN:Hid (ws[k]=v->Gate.has ws v=true):=fun h=>Gate.zpP ws v k hlt h
    clear hall
    by_cases he:ws[k]=v
    ·have hbe:(ws[k].toList == v.toList)=true:=by rw [Gate.beq_toList];simpa using he
     have HE:Hid (ws[k]=v):=he;clear he
     go_wp2
     go_ret;exact ⟨ze (HN.out HE.out).symm,rfl⟩
    ·have hbe:(ws[k].toList == v.toList)=false:=by rw [Gate.beq_toList];simpa using he
     have HE:Hid (¬ ws[k]=v):=he;clear he
     go_wp2
     go_round
     case rel=>exact ⟨k+1,by omega,by go_num,by rw [HS.out,decide_eq_false HE.out];rfl⟩
     case measure=>simp [intOf];omega
   ·have HA:Hid (Gate.has ws v=false):=by rw [<- Gate.zoj ws v k (by omega)];exact hall
    clear hall hc
    go_wp2
    go_ret;exact ⟨ze HA.out.symm,rfl⟩
theorem zi7 (a:Option Addr) (cap:Nat) (ws:List ByteArray) (w:World) (hw:zD w a ws) :
 Calls Tryz.prog 222 #[.slice a ws.length cap] w fun e w'=>e = .returned (.bool (Gate.asc ws))/\w'=w:=by
 have hl:=hw.len;unfold maxLen at hl;go_enter Tryz.func222,Tryz.ntmps222
 go_wp2
 go_loop [7] (fun i=>∃ k:Nat,k<=ws.length/\i = .int .i64 k/\Gate.up (Gate.zdD ws) k=true) (fun i=>ws.length - (intOf i).toNat)
 case atStart=>exact ⟨0,Nat.zero_le _,rfl,rfl⟩
 case round =>
  obtain ⟨k,hk,rfl,hup⟩:=hrel
  by_cases hlt:k < ws.length
  ·obtain ⟨b,off,rfl,hb,hc⟩:=hw.cells (by rintro rfl;simp at hlt)
   have hsm:=hw.small _ (List.getElem_mem hlt);clear hw;have hck:=hc k hlt
   by_cases hn:Gate.zy ws[k]=true
   ·by_cases hk0:k=0
    ·have HF:Hid (Gate.up (Gate.zdD ws) (k+1)=true):=by subst hk0;unfold Hid;rw [Gate.q9,Gate.zhn hlt hn];rfl
     have hg:decide (0 < k)=false:=by simp;omega
     have HN:Hid (Gate.zy ws[k]=true):=hn;clear hn hc hup hk0
     go_wp2_with (go_at_call 145;refine (zf HN.out (zG _ _ hsm)).mono ?_;rintro e w' ⟨rfl,rfl⟩)
     go_round
     case rel=>exact ⟨k+1,by omega,by go_num,HF.out⟩
     case measure=>simp [intOf];omega
    ·obtain ⟨m,rfl⟩:∃ m,k=m+1:=⟨k - 1,by omega⟩
     have hcm:=hc m (by omega);have HU:Hid (Gate.up (Gate.zdD ws) (m+1+1)=Gate.less ws[m] ws[m+1]):=by unfold Hid;rw [Gate.q9,hup,Gate.zdK hlt hn];rfl
     have HNN:Hid (Gate.less ws[m] ws[m+1]=false->Gate.asc ws=false):=fun h=>Gate.zaR hlt (by rw [Gate.zdK hlt hn];exact h)
     have HN:Hid (Gate.zy ws[m+1]=true):=hn;clear hn hc hup hk0
     by_cases hls:Gate.less ws[m] ws[m+1]=true
     ·have hls':Op.bytesLess ws[m].toList ws[m+1].toList=true:=hls
      have HLS:Hid (Gate.less ws[m] ws[m+1]=true):=hls;clear hls
      go_wp2_with (go_at_call 145;refine (zf HN.out (zG _ _ hsm)).mono ?_;rintro e w' ⟨rfl,rfl⟩)
      go_round
      case rel=>exact ⟨m+1+1,by omega,by go_num,by rw [HU.out,HLS.out]⟩
      case measure=>simp [intOf];omega
     ·have hls':Op.bytesLess ws[m].toList ws[m+1].toList=false:=by simpa [Gate.less] using hls
      have HLS:Hid (Gate.less ws[m] ws[m+1]=false):=hls';clear hls
      go_wp2_with (go_at_call 145;refine (zf HN.out (zG _ _ hsm)).mono ?_;rintro e w' ⟨rfl,rfl⟩)
      go_ret;exact ⟨ze (HNN.out HLS.out).symm,rfl⟩
   ·have hn':Gate.zy ws[k]=false:=by simpa using hn
    have HF:Hid (Gate.asc ws=false):=Gate.zaR hlt (Gate.zi6 hlt hn');have HN:Hid (Gate.zy ws[k]=false):=hn';clear hn hn' hc hup
    go_wp2_with (go_at_call 145;refine (zf HN.out (zG _ _ hsm)).mono ?_;rintro e w' ⟨rfl,rfl⟩)
    go_ret;exact ⟨ze HF.out.symm,rfl⟩
  ·have HF:Hid (Gate.asc ws=true):=by
    have e:k=ws.length:=by omega
    subst e;exact hup
   clear hw hup
   go_wp2
   go_ret;exact ⟨ze HF.out.symm,rfl⟩
theorem zbu (ls ms lo hi:Int) (w:World) :
 Calls Tryz.prog 160 #[.int .i64 ls,.int .i64 ms,.int .i64 lo,.int .i64 hi] w fun e w'=>e = .returned (.bool (Gate.jF ls ms lo hi))/\w'=w:=by
 go_enter Tryz.func160,Tryz.ntmps160
 go_wp2
 all_goals
  go_ret;refine ⟨ze ?_,rfl⟩;rw [Bool.eq_iff_iff];simp [Gate.jF];try omega
theorem zbI (nm:ByteArray) (kd ls ms:Int) (a:Option Addr) (n cap:Nat) (to:ByteArray) (rl:Int) (mu fx:Bool) (df wg:ByteArray) (w:World) :
 Calls Tryz.prog 243 #[.agg #[.string nm,.int .i64 kd,.int .i64 ls,.int .i64 ms,.slice a n cap,.string to,.int .i64 rl,.bool mu,.bool fx,.string df,.string wg]] w fun e w'=>e = .returned (.bool (Gate.yG 1 ls ms n to rl wg))/\Below w.heap.size w w':=by
 go_enter Tryz.func243,Tryz.ntmps243
 go_wp2
 all_goals
  go_ret;refine ⟨ze ?_,bAl _ _⟩
  simp_all [Gate.yG]
  try (rw [Bool.eq_iff_iff];simp)
theorem zcx (nm:ByteArray) (kd ls ms:Int) (a:Option Addr) (n cap:Nat) (to:ByteArray) (rl:Int) (mu fx:Bool) (df wg:ByteArray) (w:World) :
 Calls Tryz.prog 246 #[.agg #[.string nm,.int .i64 kd,.int .i64 ls,.int .i64 ms,.slice a n cap,.string to,.int .i64 rl,.bool mu,.bool fx,.string df,.string wg]] w fun e w'=>e = .returned (.bool (Gate.yG 2 ls ms n to rl wg))/\Below w.heap.size w w':=by
 go_enter Tryz.func246,Tryz.ntmps246
 go_wp2
 all_goals
  go_ret;refine ⟨ze ?_,bAl _ _⟩
  simp_all [Gate.yG]
  try (rw [Bool.eq_iff_iff];simp)
theorem zco (nm:ByteArray) (kd ls ms:Int) (a:Option Addr) (n cap:Nat) (to:ByteArray) (rl:Int) (mu fx:Bool) (df wg:ByteArray) (w:World) :
 Calls Tryz.prog 251 #[.agg #[.string nm,.int .i64 kd,.int .i64 ls,.int .i64 ms,.slice a n cap,.string to,.int .i64 rl,.bool mu,.bool fx,.string df,.string wg]] w fun e w'=>e = .returned (.bool (Gate.yG 3 ls ms n to rl wg))/\Below w.heap.size w w':=by
 go_enter Tryz.func251,Tryz.ntmps251
 go_wp2
 all_goals
  go_ret;refine ⟨ze ?_,bAl _ _⟩
  simp_all [Gate.yG]
  try (rw [Bool.eq_iff_iff];simp)
theorem zcs (nm:ByteArray) (kd ls ms:Int) (a:Option Addr) (n cap:Nat) (to:ByteArray) (rl:Int) (mu fx:Bool) (df wg:ByteArray) (w:World) :
 Calls Tryz.prog 254 #[.agg #[.string nm,.int .i64 kd,.int .i64 ls,.int .i64 ms,.slice a n cap,.string to,.int .i64 rl,.bool mu,.bool fx,.string df,.string wg]] w fun e w'=>e = .returned (.bool (Gate.yG 4 ls ms n to rl wg))/\Below w.heap.size w w':=by
 go_enter Tryz.func254,Tryz.ntmps254
 go_wp2
 all_goals
  go_ret;refine ⟨ze ?_,bAl _ _⟩
  simp_all [Gate.yG]
  try (rw [Bool.eq_iff_iff];simp)
theorem zck (nm:ByteArray) (ls ms:Int) (a:Option Addr) (cap:Nat) (ws:List ByteArray) (to:ByteArray) (rl:Int) (mu fx:Bool) (df wg:ByteArray) (a0:Option Addr) (cap0:Nat) (ss:List Shp) (w:World) (hwg:wg.size<=maxLen) :
 Calls Tryz.prog 245 #[.agg #[.string nm,.int .i64 1,.int .i64 ls,.int .i64 ms,.slice a ws.length cap,.string to,.int .i64 rl,.bool mu,.bool fx,.string df,.string wg],.slice a0 ss.length cap0] w fun e w'=>e = .returned (.bool (Gate.zZ ss ⟨nm,1,ls,ms,ws,to,rl,mu,fx,df,wg⟩))/\Below w.heap.size w w':=by
 have HF:Hid (Gate.zZ ss ⟨nm,1,ls,ms,ws,to,rl,mu,fx,df,wg⟩=(Gate.jF ls ms 0 1000000 && (wg.toList.isEmpty || Gate.zy wg))):=by simp [Gate.zZ,Hid]
 by_cases hr:Gate.jF ls ms 0 1000000=true
 ·by_cases he:wg.toList.isEmpty=true
  ·go_enter Tryz.func245,Tryz.ntmps245
   go_wp2_with (go_at_call 160;refine (zbu _ _ _ _ _).mono ?_;rintro e w' ⟨rfl,rfl⟩)
   go_ret;exact ⟨ze (by rw [HF.out,hr,he];rfl),bAl _ _⟩
  ·have he':wg.toList.isEmpty=false:=by simpa using he
   clear he;go_enter Tryz.func245,Tryz.ntmps245
   go_wp2_with (first | (go_at_call 160;refine (zbu _ _ _ _ _).mono ?_;rintro e w' ⟨rfl,rfl⟩) | (go_at_call 145;refine (zG _ _ hwg).mono ?_;rintro e w' ⟨rfl,rfl⟩))
   go_ret;exact ⟨ze (by rw [HF.out,hr,he'];rfl),bAl _ _⟩
 ·have hr':Gate.jF ls ms 0 1000000=false:=by simpa using hr
  clear hr;go_enter Tryz.func245,Tryz.ntmps245
  go_wp2_with (go_at_call 160;refine (zbu _ _ _ _ _).mono ?_;rintro e w' ⟨rfl,rfl⟩)
  go_ret;exact ⟨ze (by rw [HF.out,hr'];rfl),bAl _ _⟩
theorem zdg (nm:ByteArray) (ls ms:Int) (a:Option Addr) (cap:Nat) (ws:List ByteArray) (to:ByteArray) (rl:Int) (mu fx:Bool) (df wg:ByteArray) (a0:Option Addr) (cap0:Nat) (ss:List Shp) (w:World) :
 Calls Tryz.prog 253 #[.agg #[.string nm,.int .i64 3,.int .i64 ls,.int .i64 ms,.slice a ws.length cap,.string to,.int .i64 rl,.bool mu,.bool fx,.string df,.string wg],.slice a0 ss.length cap0] w fun e w'=>e = .returned (.bool (Gate.zZ ss ⟨nm,3,ls,ms,ws,to,rl,mu,fx,df,wg⟩))/\Below w.heap.size w w':=by
 have HF:Hid (Gate.zZ ss ⟨nm,3,ls,ms,ws,to,rl,mu,fx,df,wg⟩=Gate.jF ls ms 1 40):=by simp [Gate.zZ,Hid]
 go_enter Tryz.func253,Tryz.ntmps253
 go_wp2_with (go_at_call 160;refine (zbu _ _ _ _ _).mono ?_;rintro e w' ⟨rfl,rfl⟩)
 go_ret;exact ⟨ze HF.out.symm,bAl _ _⟩
theorem zdj (nm:ByteArray) (ls ms:Int) (a:Option Addr) (cap:Nat) (ws:List ByteArray) (to:ByteArray) (rl:Int) (mu fx:Bool) (df wg:ByteArray) (a0:Option Addr) (cap0:Nat) (ss:List Shp) (w:World) (hw:zD w a ws) :
 Calls Tryz.prog 248 #[.agg #[.string nm,.int .i64 2,.int .i64 ls,.int .i64 ms,.slice a ws.length cap,.string to,.int .i64 rl,.bool mu,.bool fx,.string df,.string wg],.slice a0 ss.length cap0] w fun e w'=>e = .returned (.bool (Gate.zZ ss ⟨nm,2,ls,ms,ws,to,rl,mu,fx,df,wg⟩))/\Below w.heap.size w w':=by
 have HF:Hid (Gate.zZ ss ⟨nm,2,ls,ms,ws,to,rl,mu,fx,df,wg⟩=(decide (1<=ws.length) && decide (ws.length<=6) && Gate.asc ws)):=by simp [Gate.zZ,Hid]
 have hl:=hw.len;unfold maxLen at hl
 by_cases h1:0 < ws.length
 ·by_cases h6:ws.length<=6
  ·go_enter Tryz.func248,Tryz.ntmps248
   go_wp2_with (go_at_call 222;refine (zi7 _ _ _ _ (by exact hw.mono (bAl _ _))).mono ?_;rintro e w' ⟨rfl,rfl⟩)
   go_ret;exact ⟨ze (by rw [HF.out,decide_eq_true (show 1<=ws.length by omega),decide_eq_true h6];rfl),bAl _ _⟩
  ·go_enter Tryz.func248,Tryz.ntmps248
   go_wp2_with fail
   go_ret;exact ⟨ze (by rw [HF.out,decide_eq_true (show 1<=ws.length by omega),decide_eq_false (show ¬ ws.length<=6 by omega)];rfl),bAl _ _⟩
 ·go_enter Tryz.func248,Tryz.ntmps248
  go_wp2_with fail
  go_ret;exact ⟨ze (by rw [HF.out,decide_eq_false (show ¬ 1<=ws.length by omega)];rfl),bAl _ _⟩
end Go.Proofs.YtghnakljnhnenaaGreat
