import Derived.Test.YtjnpjkigofldlaaGreatM08
import Derived.Test.YtjnpjkigofldlaaGreatM06
set_option maxHeartbeats 1000000
namespace Go.Proofs.YtjnpjkigofldlaaGreat
open Go.RowKit
variable {lo:Nat}{w w':World}{ws:List BA}{a:OA}{vs:List Int}
theorem yg (s:BA)(w:World)(hs:s.size<=maxLen) :
 Calls Tryz.prog 122 #[.s s] w fun e w'=>e=.returned (.bool (zC s))/\w'=w:=by
 unfold maxLen at hs
 by_cases hb:1<=s.size/\s.size<=16
 ·obtain⟨hb1,hb2⟩:=hb
  go_in
  go_wp2_with (go_at_call 63;refine(zdb _ _ _ _ (by omega) (by omega)).mono ?_;rintro e w'⟨rfl,rfl⟩)
  go_loop [3] (fun i=>∃k:Nat,k<=s.size/\i=.i k/\(s.data.toList.take k).all yF=true) (fun i=>s.size-(intOf i).toNat)
  case atStart=>exact⟨0,Nat.zero_le _,rfl,rfl⟩
  case round=>
   obtain⟨k,hk,rfl,hall⟩:=hrel
   by_cases hlt:k<s.size
   ·have HS:Hid ((s.data.toList.take (k+1)).all yF=(true&&yF s[k])):=by rw[zcy _ s k hlt,hall];rfl
    have HN:=fun h=>zeJ yF s k hlt h
    have HN':Hid (yF s[k]=false->zav s=false):=HN;clear HN hall
    by_cases hc:yF s[k]=true
    ·go_wp2_with (go_at_call 166;refine(zeu _ _).mono ?_;rintro e w'⟨rfl,rfl⟩)
     go_round
     case rel=>exact⟨k+1,by omega,by go_num,by rw[HS.o,hc];rfl⟩
     case measure=>simp[intOf];omega
    ·have hc':yF s[k]=false:=by simpa using hc
     clear hc
     go_wp2_with (go_at_call 166;refine(zeu _ _).mono ?_;rintro e w'⟨rfl,rfl⟩)
     go_ret;refine⟨ze ?_,rfl⟩
     simp[zC,HN'.out hc']
   ·have HA:Hid (zav s=true):=by unfold zav Hid;rw[<- zbD s k (by omega)];exact hall
    clear hall
    go_wp2
    go_ret;refine⟨ze ?_,rfl⟩;simp only[zC,HA.o];simp;omega
 ·go_in
  go_wp2_with (go_at_call 63;refine(zfU _ _ _ _ (by omega)).mono ?_;rintro e w'⟨rfl,rfl⟩)
  go_ret;refine⟨ze ?_,rfl⟩
  simp[zC];omega
theorem zcD (s:BA)(w:World)(hs:s.size<=maxLen) :
 Calls Tryz.prog 220 #[.s s] w fun e w'=>e=.returned (.bool (zav s))/\w'=w:=by
 unfold maxLen at hs;go_in
 go_wp2
 go_loop [7] (fun i=>∃k:Nat,k<=s.size/\i=.i k/\(s.data.toList.take k).all yF=true) (fun i=>s.size-(intOf i).toNat)
 case atStart=>exact⟨0,Nat.zero_le _,rfl,rfl⟩
 case round=>
  obtain⟨k,hk,rfl,hall⟩:=hrel
  by_cases hlt:k<s.size
  ·have HS:Hid ((s.data.toList.take (k+1)).all yF=(true&&yF s[k])):=by rw[zcy _ s k hlt,hall];rfl
   have HN:Hid (yF s[k]=false->zav s=false):=fun h=>zeJ yF s k hlt h
   clear hall
   by_cases hd:48<=(s[k].toNat:Int)/\(s[k].toNat:Int)<=57
   ·have HC:Hid (yF s[k]=true):=by simp[yF,Hid];omega
    obtain⟨hd1,hd2⟩:=hd
    go_wp2_with (go_at_call 232;refine(ziY _ _ hd1 hd2).mono ?_;rintro e w'⟨rfl,rfl⟩)
    go_round
    case rel=>exact⟨k+1,by omega,by go_num,by rw[HS.o,HC.o];rfl⟩
    case measure=>simp[intOf];omega
   ·have HD:Hid (¬(48<=(s[k].toNat:Int)/\(s[k].toNat:Int)<=57)):=hd
    clear hd
    by_cases h45:(s[k].toNat:Int)=45
    ·have HC:Hid (yF s[k]=true):=by simp[yF,Hid];omega
     have h45':((s[k].toNat:Int) != 45)=false:=by simp[h45]
     clear h45
     go_wp2_with (go_at_call 232;refine(zdi _ _ HD.o).mono ?_;rintro e w'⟨rfl,rfl⟩)
     go_round
     case rel=>exact⟨k+1,by omega,by go_num,by rw[HS.o,HC.o];rfl⟩
     case measure=>simp[intOf];omega
    ·have h45':((s[k].toNat:Int) != 45)=true:=by simp[h45]
     by_cases h97:(s[k].toNat:Int)<97
     ·have HC:Hid (yF s[k]=false):=by have:=HD.o;simp[yF,Hid];omega
      clear h45
      go_wp2_with (go_at_call 232;refine(zdi _ _ HD.o).mono ?_;rintro e w'⟨rfl,rfl⟩)
      go_ret;exact⟨ze (HN.o HC.o).symm,rfl⟩
     ·by_cases h122:122<(s[k].toNat:Int)
      ·have HC:Hid (yF s[k]=false):=by have:=HD.o;simp[yF,Hid];omega
       clear h45
       go_wp2_with (go_at_call 232;refine(zdi _ _ HD.o).mono ?_;rintro e w'⟨rfl,rfl⟩)
       go_ret;exact⟨ze (HN.o HC.o).symm,rfl⟩
      ·have HC:Hid (yF s[k]=true):=by simp[yF,Hid];omega
       clear h45
       go_wp2_with (go_at_call 232;refine(zdi _ _ HD.o).mono ?_;rintro e w'⟨rfl,rfl⟩)
       go_round
       case rel=>exact⟨k+1,by omega,by go_num,by rw[HS.o,HC.o];rfl⟩
       case measure=>simp[intOf];omega
  ·have HA:Hid (zav s=true):=by unfold zav Hid;rw[<- zbD s k (by omega)];exact hall
   clear hall
   go_wp2
   go_ret;exact⟨ze HA.o.symm,rfl⟩
theorem zZ (s:BA)(w:World)(hs:s.size<=maxLen) :
 Calls Tryz.prog 175 #[.s s] w fun e w'=>e=.returned (.bool (zC s))/\w'=w:=by
 have hs':=hs;unfold maxLen at hs'
 by_cases h0:s.size=0
 ·rw[zdG s h0]
  go_in
  go_wp2
  go_ret;exact⟨rfl,rfl⟩
 ·have hne:s.toList.isEmpty=false:=by rw[zu];simp[h0]
  by_cases h16:s.size<=16
  ·have HF:Hid (zC s=zav s):=by
    simp only[Hid,zC];rw[decide_eq_true (show 1<=s.size by omega),decide_eq_true h16];simp
   go_in
   go_wp2_with (go_at_call 220;refine(zcD _ _ hs).mono ?_;rintro e w'⟨rfl,rfl⟩)
   go_ret;exact⟨ze HF.o.symm,rfl⟩
  ·go_in
   go_wp2_with (go_at_call 220;refine(zcD _ _ hs).mono ?_;rintro e w'⟨rfl,rfl⟩)
   go_ret;refine⟨ze ?_,rfl⟩;simp only[zC];rw[decide_eq_false h16];simp
theorem zcR (a:OA)(cap:Nat)(ws:List BA)(v:BA)(w:World)(hw:zD w a ws) :
 Calls Tryz.prog 205 #[.l a ws.length cap,.s v] w fun e w'=>e=.returned (.bool (has ws v))/\w'=w:=by
 have hl:=hw.len;unfold maxLen at hl
 by_cases hne:ws=[]
 ·subst hne
  go_in
  go_wp2
  go_loop [5] (fun i=>i=.i 0) (fun i=>0)
  case atStart=>rfl
  case round=>
   subst hrel
   go_wp2
   go_ret;exact⟨rfl,rfl⟩
 ·obtain⟨b,off,rfl,hb,hc⟩:=hw.cells hne
  clear hw;have HL:Hid (0<ws.length):=List.length_pos_iff.2 hne;clear hne;go_in
  go_wp2
  go_loop [5] (fun i=>∃k:Nat,k<=ws.length/\i=.i k/\has (ws.take k) v=false) (fun i=>ws.length-(intOf i).toNat)
  case atStart=>exact⟨0,Nat.zero_le _,rfl,rfl⟩
  case round=>
   obtain⟨k,hk,rfl,hall⟩:=hrel
   by_cases hlt:k<ws.length
   ·have hck:=hc k hlt
    clear hc;have HS:Hid (has (ws.take (k+1)) v=(false||decide (ws[k]=v))):=by rw[zoD ws v k hlt,hall];rfl
    have HN:Hid (ws[k]=v->has ws v=true):=fun h=>ztb ws v k hlt h
    clear hall
    by_cases he:ws[k]=v
    ·have hbe:(ws[k].toList == v.toList)=true:=by rw[beq_toList];simpa using he
     have HE:Hid (ws[k]=v):=he;clear he
     go_wp2
     go_ret;exact⟨ze (HN.o HE.o).symm,rfl⟩
    ·have hbe:(ws[k].toList == v.toList)=false:=by rw[beq_toList];simpa using he
     have HE:Hid (¬ws[k]=v):=he;clear he
     go_wp2
     go_round
     case rel=>exact⟨k+1,by omega,by go_num,by rw[HS.o,decide_eq_false HE.o];rfl⟩
     case measure=>simp[intOf];omega
   ·have HA:Hid (has ws v=false):=by rw[<- zrC ws v k (by omega)];exact hall
    clear hall hc
    go_wp2
    go_ret;exact⟨ze HA.o.symm,rfl⟩
theorem zlH (a:OA)(cap:Nat)(ws:List BA)(w:World)(hw:zD w a ws) :
 Calls Tryz.prog 250 #[.l a ws.length cap] w fun e w'=>e=.returned (.bool (asc ws))/\w'=w:=by
 have hl:=hw.len;unfold maxLen at hl;go_in
 go_wp2
 go_loop [7] (fun i=>∃k:Nat,k<=ws.length/\i=.i k/\up (zed ws) k=true) (fun i=>ws.length-(intOf i).toNat)
 case atStart=>exact⟨0,Nat.zero_le _,rfl,rfl⟩
 case round=>
  obtain⟨k,hk,rfl,hup⟩:=hrel
  by_cases hlt:k<ws.length
  ·obtain⟨b,off,rfl,hb,hc⟩:=hw.cells (by rintro rfl;simp at hlt)
   have hsm:=hw.small _ (List.getElem_mem hlt);clear hw;have hck:=hc k hlt
   by_cases hn:zC ws[k]=true
   ·by_cases hk0:k=0
    ·have HF:Hid (up (zed ws) (k+1)=true):=by subst hk0;unfold Hid;rw[zab,zjd hlt hn];rfl
     have hg:decide (0<k)=false:=by simp;omega
     have HN:Hid (zC ws[k]=true):=hn;clear hn hc hup hk0
     go_wp2_with (go_at_call 175;refine(zw HN.o (zZ _ _ hsm)).mono ?_;rintro e w'⟨rfl,rfl⟩)
     go_round
     case rel=>exact⟨k+1,by omega,by go_num,HF.o⟩
     case measure=>simp[intOf];omega
    ·obtain⟨m,rfl⟩:∃m,k=m+1:=⟨k-1,by omega⟩
     have hcm:=hc m (by omega);have HU:Hid (up (zed ws) (m+1+1)=less ws[m] ws[m+1]):=by unfold Hid;rw[zab,hup,zeK hlt hn];rfl
     have HNN:Hid (less ws[m] ws[m+1]=false->asc ws=false):=fun h=>zbL hlt (by rw[zeK hlt hn];exact h)
     have HN:Hid (zC ws[m+1]=true):=hn;clear hn hc hup hk0
     by_cases hls:less ws[m] ws[m+1]=true
     ·have hls':Op.bytesLess ws[m].toList ws[m+1].toList=true:=hls
      have HLS:Hid (less ws[m] ws[m+1]=true):=hls;clear hls
      go_wp2_with (go_at_call 175;refine(zw HN.o (zZ _ _ hsm)).mono ?_;rintro e w'⟨rfl,rfl⟩)
      go_round
      case rel=>exact⟨m+1+1,by omega,by go_num,by rw[HU.o,HLS.o]⟩
      case measure=>simp[intOf];omega
     ·have hls':Op.bytesLess ws[m].toList ws[m+1].toList=false:=by simpa[less] using hls
      have HLS:Hid (less ws[m] ws[m+1]=false):=hls';clear hls
      go_wp2_with (go_at_call 175;refine(zw HN.o (zZ _ _ hsm)).mono ?_;rintro e w'⟨rfl,rfl⟩)
      go_ret;exact⟨ze (HNN.o HLS.o).symm,rfl⟩
   ·have hn':zC ws[k]=false:=by simpa using hn
    have HF:Hid (asc ws=false):=zbL hlt (zk6 hlt hn');have HN:Hid (zC ws[k]=false):=hn';clear hn hn' hc hup
    go_wp2_with (go_at_call 175;refine(zw HN.o (zZ _ _ hsm)).mono ?_;rintro e w'⟨rfl,rfl⟩)
    go_ret;exact⟨ze HF.o.symm,rfl⟩
  ·have HF:Hid (asc ws=true):=by
    have e:k=ws.length:=by omega
    subst e;exact hup
   clear hw hup
   go_wp2
   go_ret;exact⟨ze HF.o.symm,rfl⟩
theorem zsy (a:OA)(cap:Nat)(ws:List BA)(v:BA)(w:World)(hw:zD w a ws) :
 Calls Tryz.prog 278 #[.l a ws.length cap,.s v] w fun e w'=>∃r:Int,e=.returned (.i r)/\decide (0<=r)=has ws v/\w'=w:=by
 have hl:=hw.len;unfold maxLen at hl
 by_cases hne:ws=[]
 ·subst hne
  go_in
  go_wp2
  go_loop [8] (fun i=>i=.i 0) (fun i=>0)
  case atStart=>rfl
  case round=>
   subst hrel
   go_wp2
   go_ret;exact⟨_,rfl,rfl,rfl⟩
 ·obtain⟨b,off,rfl,hb,hc⟩:=hw.cells hne
  clear hw;have HL:Hid (0<ws.length):=List.length_pos_iff.2 hne;clear hne;go_in
  go_wp2
  go_loop [8] (fun i=>∃k:Nat,k<=ws.length/\i=.i k/\has (ws.take k) v=false) (fun i=>ws.length-(intOf i).toNat)
  case atStart=>exact⟨0,Nat.zero_le _,rfl,rfl⟩
  case round=>
   obtain⟨k,hk,rfl,hall⟩:=hrel
   by_cases hlt:k<ws.length
   ·have hck:=hc k hlt
    clear hc;have HS:Hid (has (ws.take (k+1)) v=(false||decide (ws[k]=v))):=by rw[zoD ws v k hlt,hall];rfl
    have HN:Hid (ws[k]=v->has ws v=true):=fun h=>ztb ws v k hlt h
    clear hall
    by_cases he:ws[k]=v
    ·have hbe:(v.toList == ws[k].toList)=true:=by rw[beq_toList];simpa using he.symm
     have HE:Hid (ws[k]=v):=he;clear he
     go_wp2
     go_ret;exact⟨_,rfl,by rw[HN.o HE.o];simp,rfl⟩
    ·have hbe:(v.toList == ws[k].toList)=false:=by rw[beq_toList];simpa using fun h=>he h.symm
     have HE:Hid (¬ws[k]=v):=he;clear he
     go_wp2
     go_round
     case rel=>exact⟨k+1,by omega,by go_num,by rw[HS.o,decide_eq_false HE.o];rfl⟩
     case measure=>simp[intOf];omega
   ·have HA:Hid (has ws v=false):=by rw[<- zrC ws v k (by omega)];exact hall
    clear hall hc
    go_wp2
    go_ret;exact⟨_,rfl,by rw[HA.o];rfl,rfl⟩
theorem zox (a:OA)(cap:Nat)(ws:List BA)(v:BA)(w:World)(hw:zD w a ws) :
 Calls Tryz.prog 277 #[.l a ws.length cap,.s v] w fun e w'=>e=.returned (.bool (has ws v))/\w'=w:=by
 go_in
 go_wp2_with (go_at_call 278;refine(zsy _ _ _ _ _ hw).mono ?_;rintro e w'⟨r,rfl,hr,rfl⟩)
 go_ret;exact⟨rfl,rfl⟩
theorem zhj (nm:BA)(kd ls ms:Int)(a:OA)(cap:Nat)(ws:List BA)(to:BA)(rl:Int)(mu fx:Bool)(df wg:BA)(v:BA)(w:World)(hw:zD w a ws) :
 Calls Tryz.prog 275 #[.agg #[.s nm,.i kd,.i ls,.i ms,.l a ws.length cap,.s to,.i rl,.bool mu,.bool fx,.s df,.s wg],.s v] w
  fun e w'=>e=.returned (.bool (has ws v))/\Bw w w':=by
 go_in
 go_wp2_with (go_at_call 277;refine(zox _ _ _ _ _ (hw.mono (by exact bAl _ _))).mono ?_;rintro e w'⟨rfl,rfl⟩)
 go_ret;exact⟨rfl,bAl _ _⟩
theorem zhp (nm:BA)(kd ls ms:Int)(sl:Value)(to:BA)(rl:Int)(mu fx:Bool)(df wg:BA)(v:BA)(w:World)(hs:v.size<=maxLen) :
 Calls Tryz.prog 283 #[.agg #[.s nm,.i kd,.i ls,.i ms,sl,.s to,.i rl,.bool mu,.bool fx,.s df,.s wg],.s v] w
  fun e w'=>e=.returned (.bool (zC v))/\Bw w w':=by
 go_in
 go_wp2_with (go_at_call 175;refine(zZ _ _ hs).mono ?_;rintro e w'⟨rfl,rfl⟩)
 go_ret;exact⟨rfl,bAl _ _⟩
theorem zg7 (nm:BA)(kd ls ms:Int)(sl:Value)(to:BA)(rl:Int)(mu fx:Bool)(df wg:BA)(s:BA)(w:World)(hs:s.size<=maxLen) :
 Calls Tryz.prog 280 #[.agg #[.s nm,.i kd,.i ls,.i ms,sl,.s to,.i rl,.bool mu,.bool fx,.s df,.s wg],.s s] w
  fun e w'=>e=.returned (.bool (zbE ls ms s))/\Bw w w':=by
 unfold maxLen at hs
 by_cases h1:(s.size:Int)<ls
 ·go_in
  go_wp2
  go_ret;refine⟨ze ?_,bAl _ _⟩;unfold zbE;rw[decide_eq_false (by omega)];rfl
 ·by_cases h2:ms<(s.size:Int)
  ·go_in
   go_wp2
   go_ret;refine⟨ze ?_,bAl _ _⟩;unfold zbE;rw[decide_eq_false (show ¬(s.size:Int)<=ms by omega)];simp
  ·have HF:Hid (zbE ls ms s=zbK s):=by
    unfold zbE;rw[decide_eq_true (show ls<=s.size by omega),decide_eq_true (show(s.size:Int)<=ms by omega)];simp[Hid]
   go_in
   go_wp2
   go_loop [20] (fun i=>∃k:Nat,k<=s.size/\i=.i k/\(s.data.toList.take k).all yX=true) (fun i=>s.size-(intOf i).toNat)
   case atStart=>exact⟨0,Nat.zero_le _,rfl,rfl⟩
   case round=>
    obtain⟨k,hk,rfl,hall⟩:=hrel
    by_cases hlt:k<s.size
    ·have HS:Hid ((s.data.toList.take (k+1)).all yX=(true&&yX s[k])):=by rw[zcy _ s k hlt,hall];rfl
     have HN:Hid (yX s[k]=false->zbK s=false):=fun h=>zeJ yX s k hlt h
     clear hall
     by_cases h33:(s[k].toNat:Int)<33
     ·have HC:Hid (yX s[k]=false):=by simp[yX,Hid];omega
      go_wp2
      go_ret;exact⟨ze (HF.o.trans (HN.o HC.o)).symm,bAl _ _⟩
     ·by_cases h126:126<(s[k].toNat:Int)
      ·have HC:Hid (yX s[k]=false):=by simp[yX,Hid];omega
       go_wp2
       go_ret;exact⟨ze (HF.o.trans (HN.o HC.o)).symm,bAl _ _⟩
      ·have HC:Hid (yX s[k]=true):=by simp[yX,Hid];omega
       go_wp2
       go_round
       case rel=>exact⟨k+1,by omega,by go_num,by rw[HS.o,HC.o];rfl⟩
       case measure=>simp[intOf];omega
    ·have HA:Hid (zbK s=true):=by unfold zbK Hid;rw[<- zbD s k (by omega)];exact hall
     clear hall
     go_wp2
     go_ret;exact⟨ze (HF.o.trans HA.o).symm,bAl _ _⟩
theorem zfQ (nm:BA)(kd ls ms:Int)(sl:Value)(to:BA)(rl:Int)(mu fx:Bool)(df wg:BA)(s:BA)(w:World)(hs:s.size<=maxLen) :
 Calls Tryz.prog 272 #[.agg #[.s nm,.i kd,.i ls,.i ms,sl,.s to,.i rl,.bool mu,.bool fx,.s df,.s wg],.s s] w
  fun e w'=>e=.returned (.bool (zaK ls ms s))/\Bw w w':=by
 by_cases hd:zaC s=true
 ·have HE:Hid (zaI s=zg5 s):=by unfold zaI Hid;rw[hd];rfl
  have HF:Hid (zaK ls ms s=(decide (ls<=zg5 s)&&decide (zg5 s<=ms))):=by unfold zaK Hid;rw[hd];rfl
  go_in
  go_wp2_with (go_at_call 199;refine(zdL _ _ hs).mono ?_;rintro e w'⟨rfl,rfl⟩)
  all_goals
   go_ret;refine⟨ze ?_,bAl _ _⟩;rw[HF.o];have:=HE.o;rw[Bool.eq_iff_iff];simp;omega
 ·have hd':zaC s=false:=by simpa using hd
  have HF:Hid (zaK ls ms s=false):=by unfold zaK Hid;rw[hd'];rfl
  go_in
  go_wp2_with (go_at_call 199;refine(zdL _ _ hs).mono ?_;rintro e w'⟨rfl,rfl⟩)
  go_ret;exact⟨ze HF.o.symm,bAl _ _⟩
theorem zgf (b off cap:Nat)(ws:List BA)(w:World)(hw:zD w (some (aD b off)) ws)(hl:ws.length<=1048576) :
 Calls Tryz.prog 146 #[.l (some (aD b off)) ws.length cap] w
  fun e w'=>∃v,e=.returned v/\w'.ownsRow w.heap.size 9 1 v ws.length (ws.map Value.string)/\Bw w w':=by
 obtain⟨i0,hi,hz0,hz1,hz2⟩:=info_parts Tryz.zeB
 have hnews:∀j u,(ws.map Value.string)[j]?=some u->w.cell? (((aD b off):Addr).add j)=some u:=by
  intro j u hj
  have hlt:j<ws.length:=by
   have:=(List.getElem?_eq_some_iff.1 hj).1;simpa using this
  obtain⟨b',off',he,hb,hc⟩:=hw.cells (by rintro rfl;simp at hlt);simp only[Option.some.injEq,Addr.mk.injEq]at he;obtain⟨rfl,rfl,_⟩:=he;have h1:=hc j hlt
  have e1:((aD b off):Addr).add j=(aD b (off+j)):=by
   unfold Addr.add;split
   ·rename_i h;subst h;simp
   ·rfl
  rw[e1,h1];rw[List.getElem?_map,List.getElem?_eq_getElem hlt]at hj
  simpa using hj
 have hone:∀u∈ws.map Value.string,u.oneCell'=true:=by
  intro u hu;simp only[List.mem_map]at hu;obtain⟨s,_,rfl⟩:=hu;rfl
 go_in
 go_wp2_with (at_builtin;refine wpList_append_own _ rfl _ _ 98 rfl w.heap.size 9 i0 (.s ByteArray.empty) 1 16 Tryz.underlying98 hi hz0 hz1 hz2 rfl (by decide) (.l none 0 0) 0 [] rfl ⟨rfl,.inl ⟨rfl,rfl⟩⟩ (aD b off) ws.length cap (ws.map Value.string) rfl (by simp) hnews hone (by unfold maxLen;omega) (by omega) (Nat.le_refl _) ?_;intro v' w1 hown hgr _)
 simp only[Nat.zero_add,List.nil_append]at hown;go_ret;exact⟨v',rfl,hown,(bRf _ _).grown hgr (Nat.le_refl _) (by simp[Value.ownBlock])⟩
def zk (lo:Nat)(w:World)(a:OA)(ws:List BA):Prop:=
 (a=none/\ws=[]) \/ ∃g C,a=some (aD g 0)/\lo<=g/\w.heap[g]?=some (.cells C 9)/\∀i (h:i<ws.length),C[i]?=some (.s ws[i])
theorem zk.zbC {v:Value}(h:w.ownsRow lo 9 1 v ws.length (ws.map Value.string)):∃a cap,v=.l a ws.length cap/\zk lo w a ws:=by
 obtain⟨_,⟨rfl,h0⟩|⟨g,cap,cur,rfl,hg,hh,_,_,_,ht⟩⟩:=h
 ·exact⟨none,0,by rw[h0],Or.inl ⟨rfl,List.length_eq_zero_iff.1 h0⟩⟩
 ·refine⟨some (aD g 0),cap,rfl,Or.inr ⟨g,cur,rfl,hg,hh,fun i hi=>?_⟩⟩
  have h1:(cur.toList.take (ws.length*1))[i]?=(ws.map Value.string)[i]?:=by rw[ht]
  rw[List.getElem?_take_of_lt (by omega),List.getElem?_map,List.getElem?_eq_getElem hi]at h1
  simpa using h1
theorem zk.mono (h:zk lo w a ws)(hb:Bw w w'):zk lo w' a ws:=by
 rcases h with⟨rfl,rfl⟩|⟨g,C,rfl,hg,hh,hc⟩
 ·exact Or.inl ⟨rfl,rfl⟩
 ·exact Or.inr ⟨g,C,rfl,hg,(hb.block g (gES hh).1).trans hh,hc⟩
theorem zk.at (h:zk lo w a ws)(hl:ws.length<=maxLen)(hs:∀s∈ws,s.size<=maxLen):zD w a ws:=by
 refine⟨hl,hs,fun hne=>?_⟩
 rcases h with⟨_,rfl⟩|⟨g,C,rfl,_,hh,hc⟩
 ·exact absurd rfl hne
 ·refine⟨g,0,rfl,(gES hh).1,fun i hi=>?_⟩
  simp only[World.cell?,hh,Nat.zero_add]
  simpa using hc i hi
theorem zk.setCell (h:zk lo w a ws)(p:Addr)(hp:p.block<lo)(v:Value):zk lo (w.setCell p v) a ws:=by
 rcases h with⟨rfl,rfl⟩|⟨g,C,rfl,hg,hh,hc⟩
 ·exact Or.inl ⟨rfl,rfl⟩
 ·exact Or.inr ⟨g,C,rfl,hg,(Below.heap_setCell _ _ _ _ (by omega)).trans hh,hc⟩
theorem zk.low {lo':Nat}(h:zk lo w a ws)(hl:lo'<=lo):zk lo' w a ws:=by
 rcases h with⟨rfl,rfl⟩|⟨g,C,rfl,hg,hh,hc⟩
 ·exact Or.inl ⟨rfl,rfl⟩
 ·exact Or.inr ⟨g,C,rfl,by omega,hh,hc⟩
structure yZ (w:World)(a:OA)(vs:List Int):Prop where
 len:vs.length<=maxLen
 cells:vs≠[]->∃b off,a=some (aD b off)/\b<w.heap.size/\∀i (h:i<vs.length),w.cell? (aD b (off+i))=some (.i vs[i])
theorem yZ.mono (h:yZ w a vs)(hb:Bw w w'):yZ w' a vs:=
 ⟨h.len,fun hne=>by
  obtain⟨b,off,ha,hbs,hc⟩:=h.cells hne;exact⟨b,off,ha,nLt hbs hb.size,fun i hi=>(hb.cell (p:=(aD b (off+i))) hbs).trans (hc i hi)⟩⟩
theorem yZ.load (h:yZ w a vs)(hl:Bw w w')(i:Nat)(hi:i<vs.length):∃b off,a=some (aD b off)/\b<w.heap.size/\w'.cell? (aD b (off+i))=some (.i vs[i]):=by
 obtain⟨b,off,ha,hb,hc⟩:=h.cells (by rintro rfl;simp at hi);exact⟨b,off,ha,hb,(hl.cell (p:=(aD b (off+i))) hb).trans (hc i hi)⟩
def zb3 (vs:List Int):AV:=(vs.map (Value.int .i64)).toArray
def intCells (vs:List Int)(k:Nat):AV:=((vs.take k).map (Value.int .i64)++List.replicate (vs.length-k) (Value.i 0)).toArray
theorem zo0 (vs:List Int)(k:Nat)(h:k<vs.length):(intCells vs k)[k]?=some (.i 0):=by
 unfold intCells;have hl:((vs.take k).map (Value.int .i64)).length=k:=by simp;omega
 rw[List.getElem?_toArray,List.getElem?_append_right (by omega),hl,Nat.sub_self];obtain⟨m,hm⟩:∃m,vs.length-k=m+1:=⟨vs.length-k-1,by omega⟩
 rw[hm,List.replicate_succ];rfl
theorem zok (vs:List Int)(k:Nat)(h:k<vs.length):(intCells vs k).setIfInBounds k (.i vs[k])=intCells vs (k+1):=by
 unfold intCells;rw[List.setIfInBounds_toArray,List.set_append_right _ _ (by simp;omega)]
 congr 1
 rw[tSe h,List.map_append,List.append_assoc]
 congr 1
 obtain⟨m,hm⟩:∃m,vs.length-k=m+1:=⟨vs.length-k-1,by omega⟩
 rw[hm,show vs.length-(k+1)=m by omega]
 have:k-((vs.take k).map (Value.int .i64)).length=0:=by simp;omega
 rw[this,List.replicate_succ]
 rfl
theorem znD (vs:List Int)(k:Nat)(h:vs.length<=k):intCells vs k=zb3 vs:=by
 unfold intCells zb3;rw[tOl h,show vs.length-k=0 by omega];simp
theorem zml (vs:List Int):madeCells #[Value.i 0] vs.length=intCells vs 0:=by
 apply Array.toList_inj.1
 rw[toList_madeCells_one]
 simp[intCells]
theorem ziC {bk:Nat}{t:TypeId}(h:w.heap[bk]?=some (.cells (zb3 vs) t))(hl:vs.length<=maxLen):yZ w (some (aD bk 0)) vs:=
 ⟨hl,fun _=>⟨bk,0,rfl,(gES h).1,fun i hi=>by
  simp[World.cell?,h,zb3,hi]⟩⟩
def Rl.cells (r:Rl)(a:OA)(cap:Nat):AV:=#[.l a r.vs.length cap,.s r.kd,.s r.tm,.s r.px]
structure Rl.Small (r:Rl):Prop where
 kd:r.kd.size<=maxLen
 tm:r.tm.size<=maxLen
 px:r.px.size<=maxLen
def Rl.sz (r:Rl):Nat:=r.vs.length+r.kd.size+r.tm.size+r.px.size
theorem zA {b o:Nat}{v:Value}{b':Nat}(h:b'≠b):(w.setCell (aD b o) v).heap[b']?=w.heap[b']?:=by
 simp only[World.setCell,Array.getElem?_modify];rw[if_neg (fun e=>h (Eq.symm e))]
theorem ztt (w:World)(o1:Obj)(X:AV)(t:TypeId):∀o,((w.alloc o1).alloc (.cells X t)).cell? (aD (w.heap.size+1) o)=X[o]?:=by
 intro o;have h:=zI (w.alloc o1) X t o;have e:(w.alloc o1).heap.size=w.heap.size+1:=by simp
 rw[e]at h;exact h
theorem qM {α:Type}(p:α->Bool)(l:List α)(k:Nat)(h:k<l.length):(l.take (k+1)).all p=((l.take k).all p&&p l[k]):=by
 rw[tSe h,List.all_append];simp
theorem zaE {α:Type}(p:α->Bool)(l:List α)(k:Nat)(h:k<l.length)(hp:p l[k]=false):l.all p=false:=by
 rw[List.all_eq_false];exact⟨l[k],List.getElem_mem h,by simp[hp]⟩
end Go.Proofs.YtjnpjkigofldlaaGreat
namespace Go.Proofs.YtjnpjkigofldlaaGreat
open Go.ChangeShapes Go.WideShapes Go.ChangeAt Go.RowKit
theorem Tryz.zmK:Tryz.prog.cellsOf 96=2:=by kernel_rfl
section
variable {H:Type} {enc:TypeId × Value->H} {w:World} {base:Nat} {spare:Nat->Bool} {held:Bool}
theorem zsx {fuel:Nat}{cs:List Value}{x:DataW H × List MemPlace}(h:DataW.trod enc Tryz.prog w base spare held fuel 96 cs=some x) :
 ∃m:Tm,cs=m.cells.toList/\m.Small:=by
 have hlen:cs.length=2:=by
  obtain⟨_,_,_,_,hl,_,_⟩:=DataW.trod_struct Tryz.underlying96 h;rw[hl];exact Tryz.zmK
 match cs,hlen with
 | [c0,c1],_=>
  have hf:=zai Tryz.underlying96 h;obtain⟨_,_,f0⟩:=hf 0 9 0 c0 rfl Tryz.zW rfl;obtain⟨_,_,f1⟩:=hf 1 9 1 c1 rfl Tryz.zW rfl;obtain⟨x0,e0,_,s0⟩:=DataW.trod_string Tryz.underlying9 f0;obtain⟨x1,e1,_,s1⟩:=DataW.trod_string Tryz.underlying9 f1;simp only[List.cons.injEq,and_true]at e0 e1;subst e0 e1;exact⟨⟨x0,x1⟩,rfl,s0,s1⟩
theorem zrb {fuel:Nat}{cs:List Value}{x:DataW H × List MemPlace}(h:DataW.trod enc Tryz.prog w base spare held fuel 24 cs=some x) :
 ∃a cap ts,cs=[.l a (List.length ts) cap]/\jQ w a ts:=by
 obtain⟨a,len,cap,rfl,hm,hr⟩:=za0 Tryz.underlying24 Tryz.zmK (by omega) h
 rcases Nat.eq_zero_or_pos len with h0|hp
 ·subst h0
  exact⟨a,cap,[],rfl,⟨by simp[maxLen],fun i h=>absurd h (by simp),fun h=>absurd rfl h⟩⟩
 ·obtain⟨b,off,rfl,hb,hrow⟩:=hr hp
  have hf:∀i,i<len->∃m:Tm,m.Small/\∀j,j<2->w.cell? (aD b (off+i*2+j))=m.cells[j]?:=by
   intro i hi;obtain⟨es,n,y,hel,hcell,hy⟩:=hrow i hi;obtain⟨m,rfl,hs⟩:=zsx hy;exact⟨m,hs,fun j hj=>by rw[hcell j hj];simp⟩
  obtain⟨ms,hl,hms⟩:=zck len hf;exact⟨_,cap,ms,by rw[hl],⟨by omega,fun i hi=>(hms i hi).1,fun _=>⟨b,off,rfl,hb,fun i hi=>(hms i hi).2⟩⟩⟩
end
end Go.Proofs.YtjnpjkigofldlaaGreat
namespace Go.Proofs.YtjnpjkigofldlaaGreat
open Go.ChangeShapes Go.WideShapes Go.ChangeAt Go.RowKit
theorem Tryz.ziV:Tryz.prog.cellsOf 100=7:=by kernel_rfl
theorem zp1 {H:Type}{enc:TypeId × Value->H}{w:World}{base:Nat}{spare:Nat->Bool}{held:Bool}{fuel:Nat}{cs:List Value}{x:DataW H × List MemPlace}
 (h:DataW.trod enc Tryz.prog w base spare held fuel 100 cs=some x) :
 ∃(o:Ob) (a a':OA) (cap cap':Nat),cs=[.s o.kd,.s o.nm,.s o.tm,.l a o.vs.length cap,.bool o.en,.l a' o.hs.length cap',.i o.vr]/\qY w o a a':=by
 have hlen:cs.length=7:=by
  obtain⟨_,_,_,_,hl,_,_⟩:=DataW.trod_struct Tryz.underlying100 h;rw[hl];exact Tryz.ziV
 match cs,hlen with
 | [c0,c1,c2,c3,c4,c5,c6],_=>
  have hf:=zai Tryz.underlying100 h;obtain⟨_,_,f0⟩:=hf 0 9 0 c0 rfl Tryz.zW rfl;obtain⟨_,_,f1⟩:=hf 1 9 1 c1 rfl Tryz.zW rfl;obtain⟨_,_,f2⟩:=hf 2 9 2 c2 rfl Tryz.zW rfl;obtain⟨_,_,f3⟩:=hf 3 98 3 c3 rfl Tryz.zem rfl;obtain⟨_,_,f4⟩:=hf 4 4 4 c4 rfl Tryz.zh0 rfl;obtain⟨_,_,f5⟩:=hf 5 98 5 c5 rfl Tryz.zem rfl;obtain⟨_,_,f6⟩:=hf 6 3 6 c6 rfl Tryz.jT rfl;obtain⟨kd,e0,_,s0⟩:=DataW.trod_string Tryz.underlying9 f0;obtain⟨nm,e1,_,s1⟩:=DataW.trod_string Tryz.underlying9 f1;obtain⟨tm,e2,_,s2⟩:=DataW.trod_string Tryz.underlying9 f2;obtain⟨a,cap,vs,e3,hV⟩:=ziB Tryz.underlying98 Tryz.underlying9 Tryz.zW f3;obtain⟨en,e4,_⟩:=DataW.trod_bool Tryz.underlying4 f4;obtain⟨a',cap',hs,e5,hH⟩:=ziB Tryz.underlying98 Tryz.underlying9 Tryz.zW f5;obtain⟨vr,e6,_,_⟩:=DataW.trod_int Tryz.underlying3 f6;simp only[List.cons.injEq,and_true]at e0 e1 e2 e3 e4 e5 e6;subst e0 e1 e2 e3 e4 e5 e6;exact⟨⟨kd,nm,tm,vs,en,hs,vr⟩,a,a',cap,cap',rfl,⟨⟨s0,s1,s2⟩,hV,hH⟩⟩
end Go.Proofs.YtjnpjkigofldlaaGreat
namespace Go.Proofs.YtjnpjkigofldlaaGreat
open Go.ChangeShapes Go.WideShapes Go.ChangeAt Go.RowKit
theorem Tryz.zsf:Tryz.prog.cellsOf 71=1:=by kernel_rfl
theorem Tryz.zm3:Tryz.prog.cellsOf 103=4:=by kernel_rfl
section
variable {H:Type} {enc:TypeId × Value->H} {w:World} {base:Nat} {spare:Nat->Bool} {held:Bool}
theorem zr5 {fuel:Nat}{cs:List Value}{x:DataW H × List MemPlace}(h:DataW.trod enc Tryz.prog w base spare held fuel 71 cs=some x) :
 ∃a cap vs,cs=[.l a (List.length vs) cap]/\yZ w a vs:=by
 obtain⟨a,len,cap,rfl,hm,hr⟩:=za0 Tryz.underlying71 Tryz.jT (by omega) h
 rcases Nat.eq_zero_or_pos len with h0|hp
 ·subst h0
  exact⟨a,cap,[],rfl,⟨by simp[maxLen],fun h=>absurd rfl h⟩⟩
 ·obtain⟨b,off,rfl,hb,hrow⟩:=hr hp
  have hf:∀i,i<len->∃v:Int,w.cell? (aD b (off+i))=some (.i v):=by
   intro i hi;obtain⟨es,n,y,hel,hcell,hy⟩:=hrow i hi;obtain⟨v,e0,_,_⟩:=DataW.trod_int Tryz.underlying3 hy;subst e0;exact⟨v,by simpa using hcell 0 (by omega)⟩
  obtain⟨vs,hl,hvs⟩:=zck len hf;exact⟨_,cap,vs,by rw[hl],⟨by omega,fun _=>⟨b,off,rfl,hb,hvs⟩⟩⟩
theorem zsa {fuel:Nat}{cs:List Value}{x:DataW H × List MemPlace}(h:DataW.trod enc Tryz.prog w base spare held fuel 103 cs=some x) :
 ∃(r:Rl) (a:OA) (cap:Nat),cs=(r.cells a cap).toList/\r.Small/\yZ w a r.vs:=by
 have hlen:cs.length=4:=by
  obtain⟨_,_,_,_,hl,_,_⟩:=DataW.trod_struct Tryz.underlying103 h;rw[hl];exact Tryz.zm3
 match cs,hlen with
 | [c0,c1,c2,c3],_=>
  have hf:=zai Tryz.underlying103 h;obtain⟨_,_,f0⟩:=hf 0 71 0 c0 rfl Tryz.zsf rfl;obtain⟨_,_,f1⟩:=hf 1 9 1 c1 rfl Tryz.zW rfl;obtain⟨_,_,f2⟩:=hf 2 9 2 c2 rfl Tryz.zW rfl;obtain⟨_,_,f3⟩:=hf 3 9 3 c3 rfl Tryz.zW rfl;obtain⟨a,cap,vs,e0,hI⟩:=zr5 f0;obtain⟨x1,e1,_,s1⟩:=DataW.trod_string Tryz.underlying9 f1;obtain⟨x2,e2,_,s2⟩:=DataW.trod_string Tryz.underlying9 f2;obtain⟨x3,e3,_,s3⟩:=DataW.trod_string Tryz.underlying9 f3;simp only[List.cons.injEq,and_true]at e0 e1 e2 e3;subst e0 e1 e2 e3;exact⟨⟨vs,x1,x2,x3⟩,a,cap,rfl,⟨s1,s2,s3⟩,hI⟩
end
end Go.Proofs.YtjnpjkigofldlaaGreat
