import Derived.Test.YtihdafafigceiaaGreatM02
import Derived.Test.YtihdafafigceiaaGreatM01
set_option maxHeartbeats 1000000
namespace Go.Proofs.YtihdafafigceiaaGreat
open Go.RowKit
theorem jY (c:UInt8) (w:World) :
 Calls Tryz.prog 130 #[.int .u8 c.toNat] w fun e w'=>e = .returned (.bool (Gate.zI c))/\w'=w:=by
 go_enter Tryz.func130,Tryz.ntmps130
 go_wp2
 all_goals
  go_ret
  refine ⟨ze ?_,rfl⟩
  rw [Bool.eq_iff_iff];simp [Gate.zI];try omega
theorem zh (s:ByteArray) (w:World) (hs:s.size<=maxLen) :
 Calls Tryz.prog 95 #[.string s] w fun e w'=>e = .returned (.bool (Gate.zy s))/\w'=w:=by
 unfold maxLen at hs
 by_cases hb:1<=s.size/\s.size<=16
 ·obtain ⟨hb1,hb2⟩:=hb
  go_enter Tryz.func95,Tryz.ntmps95
  go_wp2_with (go_at_call 57;refine (zaV _ _ _ _ (by omega) (by omega)).mono ?_;rintro e w' ⟨rfl,rfl⟩)
  go_loop [3] (fun i=>∃ k:Nat,k<=s.size/\i = .int .i64 k/\(s.data.toList.take k).all Gate.zI=true) (fun i=>s.size - (intOf i).toNat)
  case atStart=>exact ⟨0,Nat.zero_le _,rfl,rfl⟩
  case round =>
   obtain ⟨k,hk,rfl,hall⟩:=hrel
   by_cases hlt:k < s.size
   ·have HS:Hid ((s.data.toList.take (k+1)).all Gate.zI=(true && Gate.zI s[k])):=by rw [Gate.zaL _ s k hlt,hall];rfl
    have HN:=fun h=>Gate.zbS Gate.zI s k hlt h
    have HN':Hid (Gate.zI s[k]=false->Gate.yV s=false):=HN
    clear HN hall
    by_cases hc:Gate.zI s[k]=true
    ·go_wp2_with (go_at_call 130;refine (jY _ _).mono ?_;rintro e w' ⟨rfl,rfl⟩)
     go_round
     case rel=>exact ⟨k+1,by omega,by go_num,by rw [HS.out,hc];rfl⟩
     case measure=>simp [intOf];omega
    ·have hc':Gate.zI s[k]=false:=by simpa using hc
     clear hc
     go_wp2_with (go_at_call 130;refine (jY _ _).mono ?_;rintro e w' ⟨rfl,rfl⟩)
     go_ret
     refine ⟨ze ?_,rfl⟩
     simp [Gate.zy,HN'.out hc']
   ·have HA:Hid (Gate.yV s=true):=by unfold Gate.yV Hid;rw [<- Gate.zav s k (by omega)];exact hall
    clear hall
    go_wp2
    go_ret
    refine ⟨ze ?_,rfl⟩
    simp only [Gate.zy,HA.out];simp;omega
 ·go_enter Tryz.func95,Tryz.ntmps95
  go_wp2_with (go_at_call 57;refine (zcL _ _ _ _ (by omega)).mono ?_;rintro e w' ⟨rfl,rfl⟩)
  go_ret
  refine ⟨ze ?_,rfl⟩
  simp [Gate.zy];omega
theorem jU (s:ByteArray) (w:World) (hs:s.size<=maxLen) :
 Calls Tryz.prog 185 #[.string s] w fun e w'=>e = .returned (.bool (Gate.yV s))/\w'=w:=by
 unfold maxLen at hs
 go_enter Tryz.func185,Tryz.ntmps185
 go_wp2
 go_loop [7] (fun i=>∃ k:Nat,k<=s.size/\i = .int .i64 k/\(s.data.toList.take k).all Gate.zI=true) (fun i=>s.size - (intOf i).toNat)
 case atStart=>exact ⟨0,Nat.zero_le _,rfl,rfl⟩
 case round =>
  obtain ⟨k,hk,rfl,hall⟩:=hrel
  by_cases hlt:k < s.size
  ·have HS:Hid ((s.data.toList.take (k+1)).all Gate.zI=(true && Gate.zI s[k])):=by rw [Gate.zaL _ s k hlt,hall];rfl
   have HN:Hid (Gate.zI s[k]=false->Gate.yV s=false):=fun h=>Gate.zbS Gate.zI s k hlt h
   clear hall
   by_cases hd:48<=(s[k].toNat:Int)/\(s[k].toNat:Int)<=57
   ·have HC:Hid (Gate.zI s[k]=true):=by simp [Gate.zI,Hid];omega
    obtain ⟨hd1,hd2⟩:=hd
    go_wp2_with (go_at_call 203;refine (zgV _ _ hd1 hd2).mono ?_;rintro e w' ⟨rfl,rfl⟩)
    go_round
    case rel=>exact ⟨k+1,by omega,by go_num,by rw [HS.out,HC.out];rfl⟩
    case measure=>simp [intOf];omega
   ·have HD:Hid (¬ (48<=(s[k].toNat:Int)/\(s[k].toNat:Int)<=57)):=hd
    clear hd
    by_cases h45:(s[k].toNat:Int)=45
    ·have HC:Hid (Gate.zI s[k]=true):=by simp [Gate.zI,Hid];omega
     have h45':((s[k].toNat:Int) != 45)=false:=by simp [h45]
     clear h45
     go_wp2_with (go_at_call 203;refine (zcr _ _ HD.out).mono ?_;rintro e w' ⟨rfl,rfl⟩)
     go_round
     case rel=>exact ⟨k+1,by omega,by go_num,by rw [HS.out,HC.out];rfl⟩
     case measure=>simp [intOf];omega
    ·have h45':((s[k].toNat:Int) != 45)=true:=by simp [h45]
     by_cases h97:(s[k].toNat:Int) < 97
     ·have HC:Hid (Gate.zI s[k]=false):=by have:=HD.out;simp [Gate.zI,Hid];omega
      clear h45
      go_wp2_with (go_at_call 203;refine (zcr _ _ HD.out).mono ?_;rintro e w' ⟨rfl,rfl⟩)
      go_ret
      exact ⟨ze (HN.out HC.out).symm,rfl⟩
     ·by_cases h122:122 < (s[k].toNat:Int)
      ·have HC:Hid (Gate.zI s[k]=false):=by have:=HD.out;simp [Gate.zI,Hid];omega
       clear h45
       go_wp2_with (go_at_call 203;refine (zcr _ _ HD.out).mono ?_;rintro e w' ⟨rfl,rfl⟩)
       go_ret
       exact ⟨ze (HN.out HC.out).symm,rfl⟩
      ·have HC:Hid (Gate.zI s[k]=true):=by simp [Gate.zI,Hid];omega
       clear h45
       go_wp2_with (go_at_call 203;refine (zcr _ _ HD.out).mono ?_;rintro e w' ⟨rfl,rfl⟩)
       go_round
       case rel=>exact ⟨k+1,by omega,by go_num,by rw [HS.out,HC.out];rfl⟩
       case measure=>simp [intOf];omega
  ·have HA:Hid (Gate.yV s=true):=by unfold Gate.yV Hid;rw [<- Gate.zav s k (by omega)];exact hall
   clear hall
   go_wp2
   go_ret
   exact ⟨ze HA.out.symm,rfl⟩
theorem zF (s:ByteArray) (w:World) (hs:s.size<=maxLen) :
 Calls Tryz.prog 140 #[.string s] w fun e w'=>e = .returned (.bool (Gate.zy s))/\w'=w:=by
 have hs':=hs
 unfold maxLen at hs'
 by_cases h0:s.size=0
 ·rw [Gate.zcW s h0]
  go_enter Tryz.func140,Tryz.ntmps140
  go_wp2
  go_ret
  exact ⟨rfl,rfl⟩
 ·have hne:s.toList.isEmpty=false:=by rw [Gate.zu];simp [h0]
  by_cases h16:s.size<=16
  ·have HF:Hid (Gate.zy s=Gate.yV s):=by
    simp only [Hid,Gate.zy];rw [decide_eq_true (show 1<=s.size by omega),decide_eq_true h16];simp
   go_enter Tryz.func140,Tryz.ntmps140
   go_wp2_with (go_at_call 185;refine (jU _ _ hs).mono ?_;rintro e w' ⟨rfl,rfl⟩)
   go_ret
   exact ⟨ze HF.out.symm,rfl⟩
  ·go_enter Tryz.func140,Tryz.ntmps140
   go_wp2_with (go_at_call 185;refine (jU _ _ hs).mono ?_;rintro e w' ⟨rfl,rfl⟩)
   go_ret
   refine ⟨ze ?_,rfl⟩
   simp only [Gate.zy];rw [decide_eq_false h16];simp
theorem zck (a:Option Addr) (cap:Nat) (ws:List ByteArray) (v:ByteArray) (w:World) (hw:zD w a ws) :
 Calls Tryz.prog 168 #[.slice a ws.length cap,.string v] w fun e w'=>e = .returned (.bool (Gate.has ws v))/\w'=w:=by
 have hl:=hw.len
 unfold maxLen at hl
 by_cases hne:ws=[]
 ·subst hne
  go_enter Tryz.func168,Tryz.ntmps168
  go_wp2
  go_loop [5] (fun i=>i = .int .i64 0) (fun i=>0)
  case atStart=>rfl
  case round =>
   subst hrel
   go_wp2
   go_ret
   exact ⟨rfl,rfl⟩
 ·obtain ⟨b,off,rfl,hb,hc⟩:=hw.cells hne
  clear hw
  have HL:Hid (0 < ws.length):=List.length_pos_iff.2 hne
  clear hne
  go_enter Tryz.func168,Tryz.ntmps168
  go_wp2
  go_loop [5] (fun i=>∃ k:Nat,k<=ws.length/\i = .int .i64 k/\Gate.has (ws.take k) v=false) (fun i=>ws.length - (intOf i).toNat)
  case atStart=>exact ⟨0,Nat.zero_le _,rfl,rfl⟩
  case round =>
   obtain ⟨k,hk,rfl,hall⟩:=hrel
   by_cases hlt:k < ws.length
   ·have hck:=hc k hlt
    clear hc
    have HS:Hid (Gate.has (ws.take (k+1)) v=(false || decide (ws[k]=v))):=by rw [Gate.zmj ws v k hlt,hall];rfl
    have HN:Hid (ws[k]=v->Gate.has ws v=true):=fun h=>Gate.zof ws v k hlt h
    clear hall
    by_cases he:ws[k]=v
    ·have hbe:(ws[k].toList == v.toList)=true:=by rw [Gate.beq_toList];simpa using he
     have HE:Hid (ws[k]=v):=he
     clear he
     go_wp2
     go_ret
     exact ⟨ze (HN.out HE.out).symm,rfl⟩
    ·have hbe:(ws[k].toList == v.toList)=false:=by rw [Gate.beq_toList];simpa using he
     have HE:Hid (¬ ws[k]=v):=he
     clear he
     go_wp2
     go_round
     case rel=>exact ⟨k+1,by omega,by go_num,by rw [HS.out,decide_eq_false HE.out];rfl⟩
     case measure=>simp [intOf];omega
   ·have HA:Hid (Gate.has ws v=false):=by rw [<- Gate.zns ws v k (by omega)];exact hall
    clear hall hc
    go_wp2
    go_ret
    exact ⟨ze HA.out.symm,rfl⟩
theorem ziJ (a:Option Addr) (cap:Nat) (ws:List ByteArray) (w:World) (hw:zD w a ws) :
 Calls Tryz.prog 218 #[.slice a ws.length cap] w fun e w'=>e = .returned (.bool (Gate.asc ws))/\w'=w:=by
 have hl:=hw.len
 unfold maxLen at hl
 go_enter Tryz.func218,Tryz.ntmps218
 go_wp2
 go_loop [7] (fun i=>∃ k:Nat,k<=ws.length/\i = .int .i64 k/\Gate.up (Gate.zdc ws) k=true) (fun i=>ws.length - (intOf i).toNat)
 case atStart=>exact ⟨0,Nat.zero_le _,rfl,rfl⟩
 case round =>
  obtain ⟨k,hk,rfl,hup⟩:=hrel
  by_cases hlt:k < ws.length
  ·obtain ⟨b,off,rfl,hb,hc⟩:=hw.cells (by rintro rfl;simp at hlt)
   have hsm:=hw.small _ (List.getElem_mem hlt)
   clear hw
   have hck:=hc k hlt
   by_cases hn:Gate.zy ws[k]=true
   ·by_cases hk0:k=0
    ·have HF:Hid (Gate.up (Gate.zdc ws) (k+1)=true):=by subst hk0;unfold Hid;rw [Gate.qZ,Gate.zha hlt hn];rfl
     have hg:decide (0 < k)=false:=by simp;omega
     have HN:Hid (Gate.zy ws[k]=true):=hn
     clear hn hc hup hk0
     go_wp2_with (go_at_call 140;refine (zf HN.out (zF _ _ hsm)).mono ?_;rintro e w' ⟨rfl,rfl⟩)
     go_round
     case rel=>exact ⟨k+1,by omega,by go_num,HF.out⟩
     case measure=>simp [intOf];omega
    ·obtain ⟨m,rfl⟩:∃ m,k=m+1:=⟨k - 1,by omega⟩
     have hcm:=hc m (by omega)
     have HU:Hid (Gate.up (Gate.zdc ws) (m+1+1)=Gate.less ws[m] ws[m+1]):=by unfold Hid;rw [Gate.qZ,hup,Gate.zdI hlt hn];rfl
     have HNN:Hid (Gate.less ws[m] ws[m+1]=false->Gate.asc ws=false):=fun h=>Gate.zaD hlt (by rw [Gate.zdI hlt hn];exact h)
     have HN:Hid (Gate.zy ws[m+1]=true):=hn
     clear hn hc hup hk0
     by_cases hls:Gate.less ws[m] ws[m+1]=true
     ·have hls':Op.bytesLess ws[m].toList ws[m+1].toList=true:=hls
      have HLS:Hid (Gate.less ws[m] ws[m+1]=true):=hls
      clear hls
      go_wp2_with (go_at_call 140;refine (zf HN.out (zF _ _ hsm)).mono ?_;rintro e w' ⟨rfl,rfl⟩)
      go_round
      case rel=>exact ⟨m+1+1,by omega,by go_num,by rw [HU.out,HLS.out]⟩
      case measure=>simp [intOf];omega
     ·have hls':Op.bytesLess ws[m].toList ws[m+1].toList=false:=by simpa [Gate.less] using hls
      have HLS:Hid (Gate.less ws[m] ws[m+1]=false):=hls'
      clear hls
      go_wp2_with (go_at_call 140;refine (zf HN.out (zF _ _ hsm)).mono ?_;rintro e w' ⟨rfl,rfl⟩)
      go_ret
      exact ⟨ze (HNN.out HLS.out).symm,rfl⟩
   ·have hn':Gate.zy ws[k]=false:=by simpa using hn
    have HF:Hid (Gate.asc ws=false):=Gate.zaD hlt (Gate.zi4 hlt hn')
    have HN:Hid (Gate.zy ws[k]=false):=hn'
    clear hn hn' hc hup
    go_wp2_with (go_at_call 140;refine (zf HN.out (zF _ _ hsm)).mono ?_;rintro e w' ⟨rfl,rfl⟩)
    go_ret
    exact ⟨ze HF.out.symm,rfl⟩
  ·have HF:Hid (Gate.asc ws=true):=by
    have e:k=ws.length:=by omega
    subst e;exact hup
   clear hw hup
   go_wp2
   go_ret
   exact ⟨ze HF.out.symm,rfl⟩
end Go.Proofs.YtihdafafigceiaaGreat
