import Derived.Deep.QuietTactic
import Derived.BigQuiet
import Derived.Test.YtkficnallnpjnaaGreatM05
set_option maxHeartbeats 1000000
namespace Go.Proofs.YtkficnallnpjnaaGreat
open Go.RowKit
theorem j6 (c:UInt8)(w:World) :
 Calls Tryz.prog 144 #[.int .u8 c.toNat] w fun e w'=>e=.returned (.bool (zK c))/\w'=w:=by
 go_enter Tryz.func144,Tryz.ntmps144
 go_wp2
 all_goals
  go_ret;refine⟨ze ?_,rfl⟩;rw[Bool.eq_iff_iff];simp[zK];try omega
def zcc (ws:List ByteArray):Nat:=(ws.map ByteArray.size).sum
def qU (ws:List ByteArray):Nat:=ws.length+zcc ws
theorem zoI (ws:List ByteArray)(k:Nat)(h:k<ws.length):zcc (ws.take (k+1))=zcc (ws.take k)+ws[k].size:=by
 unfold zcc;rw[tSe h,List.map_append,List.sum_append];simp
theorem zqf (ws:List ByteArray)(k:Nat):zcc (ws.take k)<=zcc ws:=by
 unfold zcc
 conv=>rhs;rw[<- List.take_append_drop k ws]
 rw[List.map_append,List.sum_append];omega
theorem zpj (ws:List ByteArray)(k:Nat)(h:ws.length<=k):zcc (ws.take k)=zcc ws:=by rw[tOl h]
theorem zfr (a:Option Addr)(cap:Nat)(ws:List ByteArray)(left:Int)(w:World)(hw:zF w a ws)(h0:0<=left)(h1:left<=1048576) :
 Calls Tryz.prog 98 #[.slice a ws.length cap,.int .i64 left] w fun e w'=>e=.returned (.int .i64 (zL (qU ws) left))/\w'=w:=by
 have hl:=hw.len;unfold maxLen at hl
 by_cases hfit:(ws.length:Int)<=left
 ·go_enter Tryz.func98,Tryz.ntmps98
  go_wp2
  go_loop [1,5] (fun l i=>∃k:Nat,k<=ws.length/\i=.int .i64 k/\0<=left-ws.length-zcc (ws.take k)/\l=.int .i64 (left-ws.length-zcc (ws.take k))) (fun _ i=>ws.length-(intOf i).toNat)
  case atStart=>exact⟨0,Nat.zero_le _,rfl,by simp[zcc];omega,by simp[zcc]⟩
  case round=>
   obtain⟨k,hk,rfl,hpos,rfl⟩:=hrel
   by_cases hlt:k<ws.length
   ·obtain⟨b,off,rfl,hb,hc⟩:=hw.cells (by rintro rfl;simp at hlt)
    have hsm:=hw.small _ (List.getElem_mem hlt);unfold maxLen at hsm;clear hw;have hck:=hc k hlt;have HS:Hid (zcc (ws.take (k+1))=zcc (ws.take k)+ws[k].size):=zoI ws k hlt;have hle:=zqf ws (k+1);clear hc
    by_cases hneg:left-ws.length-zcc (ws.take k)-ws[k].size<0
    ·have HF:Hid (zL (qU ws) left=-1):=zC (by have:=HS.out;unfold qU;omega)
     clear hle
     go_wp2
     go_ret;exact⟨zo HF.out.symm,rfl⟩
    ·clear hle
     go_wp2
     go_round
     case rel=>exact⟨k+1,by omega,by go_num,by rw[HS.out];omega,by rw[HS.out];go_num⟩
     case measure=>simp[intOf];omega
   ·have HF:Hid (zL (qU ws) left=left-ws.length-zcc (ws.take k)):=by
     rw[zpj ws k (by omega)]at hpos ⊢;have e:zL (qU ws) left=left-qU ws:=zM (by unfold qU;omega);unfold Hid;rw[e];unfold qU;omega
    clear hw
    go_wp2
    go_ret;exact⟨zo HF.out.symm,rfl⟩
 ·have HF:Hid (zL (qU ws) left=-1):=zC (by unfold qU;omega)
  clear hw;go_enter Tryz.func98,Tryz.ntmps98
  go_wp2
  go_ret;exact⟨zo HF.out.symm,rfl⟩
theorem zdm (a a':Option Addr)(cap cap':Nat)(ws:List ByteArray)(w:World)(hw:zF w a ws)(hw':zF w a' ws) :
 Calls Tryz.prog 129 #[.slice a ws.length cap,.slice a' ws.length cap'] w fun e w'=>e=.returned (.bool true)/\Below w.heap.size w w':=by
 have hl:=hw.len;unfold maxLen at hl;have hnn:((ws.length:Int) != ws.length)=false:=by simp
 go_enter Tryz.func129,Tryz.ntmps129
 go_wp2
 go_loopw [5] (fun i wr=>∃k:Nat,k<=ws.length/\i=.int .i64 k/\∃n,wr=w.drewN n) (fun i _=>ws.length-(intOf i).toNat)
 case atStart=>exact⟨0,Nat.zero_le _,rfl,0,rfl⟩
 case round=>
  obtain⟨k,hk,rfl,nd,rfl⟩:=hrel
  by_cases hlt:k<ws.length
  ·obtain⟨b,off,rfl,hb,hc⟩:=hw.cells (by rintro rfl;simp at hlt)
   obtain⟨b',off',rfl,hb',hc'⟩:=hw'.cells (by rintro rfl;simp at hlt);clear hw hw';have hck:=hc k hlt;have hck':=hc' k hlt;have hltI:(k:Int)<(ws.length:Int):=by omega
   clear hc hc'
   go_wp2
   go_quiet (fail)
   go_wp2
   exact⟨⟨k+1,by omega,by go_num,nd+nq,rfl⟩,by simp[intOf];omega⟩
  ·clear hw hw'
   go_wp2
   go_ret;exact⟨rfl,below_drewN (bRf _ _) nd⟩
theorem zit (nm:ByteArray)(kd ls ms:Int)(a a':Option Addr)(cap cap':Nat)(ws:List ByteArray)(to:ByteArray)(rl:Int)(mu fx:Bool)(df wg:ByteArray)(w:World)(hw:zF w a ws)(hw':zF w a' ws) :
 Calls Tryz.prog 177 #[.agg #[.string nm,.int .i64 kd,.int .i64 ls,.int .i64 ms,.slice a ws.length cap,.string to,.int .i64 rl,.bool mu,.bool fx,.string df,.string wg],.agg #[.string nm,.int .i64 kd,.int .i64 ls,.int .i64 ms,.slice a' ws.length cap',.string to,.int .i64 rl,.bool mu,.bool fx,.string df,.string wg]] w
  fun e w'=>e=.returned (.bool true)/\Below w.heap.size w w':=by
 go_enter Tryz.func177,Tryz.ntmps177
 go_wp2_with (go_at_call 129;refine(zdm _ _ _ _ _ _ (by exact hw.mono (zw _ _ _)) (by exact hw'.mono (zw _ _ _))).mono ?_;rintro e w1⟨rfl,hb1⟩;have hc1:=(zrn hb1).1;have hz1:=hb1.size;simp only[World.size_alloc]at hz1)
 go_ret;exact⟨rfl,(zw _ _ _).trans (hb1.mono (by simp;omega))⟩
def zaq (nm:ByteArray)(ws:List ByteArray)(to df wg:ByteArray):Nat:=nm.size+qU ws+to.size+df.size+wg.size
theorem jY (a:Option Addr)(cap:Nat)(ws:List ByteArray)(left:Int)(w:World)(hw:zF w a ws)(h0:0<=left)(h1:left<=1048576)(h:(qU ws:Int)<=left) :
 Calls Tryz.prog 98 #[.slice a ws.length cap,.int .i64 left] w fun e w'=>e=.returned (.int .i64 (left-qU ws))/\w'=w:=by
 refine(zfr a cap ws left w hw h0 h1).mono ?_;rintro e w'⟨rfl,rfl⟩;exact⟨zo (zM h),rfl⟩
theorem zd9 (a:Option Addr)(cap:Nat)(ws:List ByteArray)(left:Int)(w:World)(hw:zF w a ws)(h0:0<=left)(h1:left<=1048576)(h:¬(qU ws:Int)<=left) :
 Calls Tryz.prog 98 #[.slice a ws.length cap,.int .i64 left] w fun e w'=>e=.returned (.int .i64 (-1))/\w'=w:=by
 refine(zfr a cap ws left w hw h0 h1).mono ?_;rintro e w'⟨rfl,rfl⟩;exact⟨zo (zC h),rfl⟩
theorem zep (nm:ByteArray)(kd ls ms:Int)(a:Option Addr)(cap:Nat)(ws:List ByteArray)(to:ByteArray)(rl:Int)(mu fx:Bool)(df wg:ByteArray)(left:Int)(w:World)(hw:zF w a ws)(h0:0<=left)(h1:left<=1048576)
 (hnm:nm.size<=maxLen) (hto:to.size<=maxLen) (hdf:df.size<=maxLen) (hwg:wg.size<=maxLen) :
 Calls Tryz.prog 132 #[.agg #[.string nm,.int .i64 kd,.int .i64 ls,.int .i64 ms,.slice a ws.length cap,.string to,.int .i64 rl,.bool mu,.bool fx,.string df,.string wg],.int .i64 left] w fun e w'=>e=.returned (.int .i64 (zL (zaq nm ws to df wg) left))/\Below w.heap.size w w':=by
 unfold maxLen at hnm hto hdf hwg
 by_cases c1:(nm.size:Int)<=left
 rotate_left
 ·have HF:Hid (zL (zaq nm ws to df wg) left=-1):=zC (by unfold zaq;omega)
  go_enter Tryz.func132,Tryz.ntmps132;go_wp2_with fail
  go_ret;exact⟨zo HF.out.symm,bAl _ _⟩
 by_cases c2:(qU ws:Int)<=left-nm.size
 rotate_left
 ·have HF:Hid (zL (zaq nm ws to df wg) left=-1):=zC (by unfold zaq;omega)
  go_enter Tryz.func132,Tryz.ntmps132
  go_wp2_with (go_at_call 98;refine(zd9 _ _ _ _ _ (by exact hw.mono (bAl _ _)) (by omega) (by omega) (by omega)).mono ?_;rintro e w1⟨rfl,rfl⟩)
  go_ret;exact⟨zo HF.out.symm,bAl _ _⟩
 by_cases c3:(to.size:Int)<=left-nm.size-qU ws
 rotate_left
 ·have HF:Hid (zL (zaq nm ws to df wg) left=-1):=zC (by unfold zaq;omega)
  go_enter Tryz.func132,Tryz.ntmps132
  go_wp2_with (go_at_call 98;refine(jY _ _ _ _ _ (by exact hw.mono (bAl _ _)) (by omega) (by omega) (by omega)).mono ?_;rintro e w1⟨rfl,rfl⟩)
  go_ret;exact⟨zo HF.out.symm,bAl _ _⟩
 by_cases c4:(df.size:Int)<=left-nm.size-qU ws-to.size
 rotate_left
 ·have HF:Hid (zL (zaq nm ws to df wg) left=-1):=zC (by unfold zaq;omega)
  go_enter Tryz.func132,Tryz.ntmps132
  go_wp2_with (go_at_call 98;refine(jY _ _ _ _ _ (by exact hw.mono (bAl _ _)) (by omega) (by omega) (by omega)).mono ?_;rintro e w1⟨rfl,rfl⟩)
  go_ret;exact⟨zo HF.out.symm,bAl _ _⟩
 by_cases c5:(wg.size:Int)<=left-nm.size-qU ws-to.size-df.size
 rotate_left
 ·have HF:Hid (zL (zaq nm ws to df wg) left=-1):=zC (by unfold zaq;omega)
  go_enter Tryz.func132,Tryz.ntmps132
  go_wp2_with (go_at_call 98;refine(jY _ _ _ _ _ (by exact hw.mono (bAl _ _)) (by omega) (by omega) (by omega)).mono ?_;rintro e w1⟨rfl,rfl⟩)
  go_ret;exact⟨zo HF.out.symm,bAl _ _⟩
 ·have HF:Hid (zL (zaq nm ws to df wg) left=left-nm.size-qU ws-to.size-df.size-wg.size):=by
   have e:zL (zaq nm ws to df wg) left=left-zaq nm ws to df wg:=zM (by unfold zaq;omega);unfold Hid;rw[e];unfold zaq;omega
  go_enter Tryz.func132,Tryz.ntmps132
  go_wp2_with (go_at_call 98;refine(jY _ _ _ _ _ (by exact hw.mono (bAl _ _)) (by omega) (by omega) (by omega)).mono ?_;rintro e w1⟨rfl,rfl⟩)
  go_ret;exact⟨zo HF.out.symm,bAl _ _⟩
def qR (s:ByteArray):Int:=if zak s=true then zgN s else -1
theorem zly (k:Nat)(h:k<=7):(10:Int) ^ k<=10000000:=by
 have:k=0 \/ k=1 \/ k=2 \/ k=3 \/ k=4 \/ k=5 \/ k=6 \/ k=7:=by omega
 rcases this with h|h|h|h|h|h|h|h <;> subst h <;> decide
theorem zkG (s:ByteArray)(w:World)(h1:1<=s.size)(h7:s.size<=7)(hz:s.size<=1 \/ ¬(s[0].toNat:Int)=48) :
 Calls Tryz.prog 183 #[.string s] w fun e w'=>e=.returned (.int .i64 (qR s))/\w'=w:=by
 have HF:Hid (zak s=za2 s):=zlh s h1 h7 hz
 rcases(show(s.size<=1) \/ (1<s.size/\¬(s[0].toNat:Int)=48) by rcases hz with h|h <;> omega) with hone|⟨hmore,hz0⟩
 all_goals
  clear hz
  try have hz1:((s[0].toNat:Int) == 48)=false:=by simpa using hz0
  try clear hz0
  go_enter Tryz.func183,Tryz.ntmps183
  go_wp2_with (go_at_call 61;refine(zbz _ _ _ _ (by omega) (by omega)).mono ?_;rintro e w'⟨rfl,rfl⟩)
  go_loop [3,4] (fun n i=>∃k:Nat,k<=s.size/\i=.int .i64 k/\(s.data.toList.take k).all digit=true/\n=.int .i64 (dec (s.data.toList.take k))) (fun _ i=>s.size-(intOf i).toNat)
  case atStart=>exact⟨0,Nat.zero_le _,rfl,rfl,rfl⟩
  case round=>
   obtain⟨k,hk,rfl,hall,rfl⟩:=hrel;have hlen:(s.data.toList.take k).length<=k:=List.length_take_le _ _;obtain⟨hd0,hd1⟩:=zfh _ hall k hlen
   by_cases hlt:k<s.size
   ·have hp:=zly k (by omega)
    have hd2:dec (s.data.toList.take k)<10000000:=by omega
    clear hp hd1 hlen;have HS:Hid ((s.data.toList.take (k+1)).all digit=(true&&digit s[k])):=by rw[zaJ _ s k hlt,hall];rfl
    have HD:Hid (dec (s.data.toList.take (k+1))=dec (s.data.toList.take k)*10+((s[k].toNat:Int)-48)):=by rw[zhi s k hlt];exact zm8 _ _
    have HN:Hid (digit s[k]=false->za2 s=false):=fun h=>zb3 digit s k hlt h
    clear hall
    by_cases h48:(s[k].toNat:Int)<48
    ·have HC:Hid (digit s[k]=false):=by simp[digit,Hid];omega
     go_wp2
     go_ret;exact⟨zo (by unfold qR;rw[HF.out,HN.out HC.out];rfl),rfl⟩
    ·by_cases h57:57<(s[k].toNat:Int)
     ·have HC:Hid (digit s[k]=false):=by simp[digit,Hid];omega
      go_wp2
      go_ret;exact⟨zo (by unfold qR;rw[HF.out,HN.out HC.out];rfl),rfl⟩
     ·have HC:Hid (digit s[k]=true):=by simp[digit,Hid];omega
      go_wp2
      go_round
      case rel=>exact⟨k+1,by omega,by go_num,by rw[HS.out,HC.out];rfl,by rw[HD.out];go_num⟩
      case measure=>simp[intOf];omega
   ·have HA:Hid (za2 s=true):=by unfold za2 Hid;rw[<- zar s k (by omega)];exact hall
    have HB:Hid (dec (s.data.toList.take k)=zgN s):=by rw[zar s k (by omega)];rfl
    clear hall hd0 hd1 hlen
    go_wp2
    go_ret;exact⟨zo (by unfold qR;rw[HF.out,HA.out,HB.out];rfl),rfl⟩
theorem zea (s:ByteArray)(w:World)(hs:s.size<=maxLen) :
 Calls Tryz.prog 183 #[.string s] w fun e w'=>e=.returned (.int .i64 (qR s))/\w'=w:=by
 unfold maxLen at hs
 by_cases h17:1<=s.size/\s.size<=7
 ·obtain⟨h1,h7⟩:=h17
  by_cases hz:1<s.size/\(s[0].toNat:Int)=48
  ·obtain⟨hm,hz0⟩:=hz
   have HF:Hid (qR s=-1):=by unfold qR Hid;rw[zft s hm hz0];rfl
   have hz1:((s[0].toNat:Int) == 48)=true:=by simpa using hz0
   clear hz0;go_enter Tryz.func183,Tryz.ntmps183
   go_wp2_with (go_at_call 61;refine(zbz _ _ _ _ (by omega) (by omega)).mono ?_;rintro e w'⟨rfl,rfl⟩)
   go_ret;exact⟨zo HF.out.symm,rfl⟩
  ·exact zkG s w h1 h7 (by omega)
 ·have HF:Hid (qR s=-1):=by unfold qR Hid;rw[zef s h17];rfl
  go_enter Tryz.func183,Tryz.ntmps183
  go_wp2_with (go_at_call 61;refine(zc7 _ _ _ _ (by omega)).mono ?_;rintro e w'⟨rfl,rfl⟩)
  go_ret;exact⟨zo HF.out.symm,rfl⟩
def within (n lo hi:Int):Bool:=decide (lo<=n)&&decide (n<=hi)
theorem je (n lo hi:Int)(w:World) :
 Calls Tryz.prog 159 #[.int .i64 n,.int .i64 lo,.int .i64 hi] w fun e w'=>e=.returned (.bool (within n lo hi))/\w'=w:=by
 by_cases h1:lo<=n
 ·by_cases h2:n<=hi
  ·have HF:Hid (within n lo hi=true):=by unfold Hid within;simp[h1,h2]
   go_enter Tryz.func159,Tryz.ntmps159;go_wp2_with fail
   go_ret;exact⟨ze HF.out.symm,rfl⟩
  ·have HF:Hid (within n lo hi=false):=by unfold Hid within;simp[h2]
   go_enter Tryz.func159,Tryz.ntmps159;go_wp2_with fail
   go_ret;exact⟨ze HF.out.symm,rfl⟩
 ·have HF:Hid (within n lo hi=false):=by unfold Hid within;simp[h1]
  go_enter Tryz.func159,Tryz.ntmps159;go_wp2_with fail
  go_ret;exact⟨ze HF.out.symm,rfl⟩
end Go.Proofs.YtkficnallnpjnaaGreat
namespace Go.Proofs.YtkficnallnpjnaaGreat
open Go.ChangeShapes Go.WideShapes Go.ChangeAt Go.RowKit
theorem Tryz.zdV:Tryz.prog.cellsOf 100=1:=by kernel_rfl
theorem Tryz.zjK:Tryz.prog.cellsOf 185=11:=by kernel_rfl
theorem znR {H:Type}{enc:TypeId × Value->H}{w:World}{base:Nat}{spare:Nat->Bool}{held:Bool}{fuel:Nat}{cs:List Value}{x:DataW H × List MemPlace}
 (h:DataW.trod enc Tryz.prog w base spare held fuel 185 cs=some x) :
 ∃nm kd ls ms a cap ws to rl mu fx df wg,cs=[.string nm,.int .i64 kd,.int .i64 ls,.int .i64 ms,.slice a (List.length ws) cap,.string to,.int .i64 rl,.bool mu,.bool fx,.string df,.string wg]/\zF w a ws /\
  nm.size<=maxLen/\to.size<=maxLen/\df.size<=maxLen/\wg.size<=maxLen:=by
 have hlen:cs.length=11:=by
  obtain⟨_,_,_,_,hl,_,_⟩:=DataW.trod_struct Tryz.underlying185 h;rw[hl];exact Tryz.zjK
 match cs,hlen with
 | [c0,c1,c2,c3,c4,c5,c6,c7,c8,c9,c10],_=>
  have hf:=zae Tryz.underlying185 h;obtain⟨_,_,f0⟩:=hf 0 9 0 c0 rfl Tryz.zS rfl;obtain⟨_,_,f1⟩:=hf 1 3 1 c1 rfl Tryz.jU rfl;obtain⟨_,_,f2⟩:=hf 2 3 2 c2 rfl Tryz.jU rfl;obtain⟨_,_,f3⟩:=hf 3 3 3 c3 rfl Tryz.jU rfl;obtain⟨_,_,f4⟩:=hf 4 100 4 c4 rfl Tryz.zdV rfl;obtain⟨_,_,f5⟩:=hf 5 9 5 c5 rfl Tryz.zS rfl;obtain⟨_,_,f6⟩:=hf 6 3 6 c6 rfl Tryz.jU rfl;obtain⟨_,_,f7⟩:=hf 7 4 7 c7 rfl Tryz.zhj rfl;obtain⟨_,_,f8⟩:=hf 8 4 8 c8 rfl Tryz.zhj rfl;obtain⟨_,_,f9⟩:=hf 9 9 9 c9 rfl Tryz.zS rfl;obtain⟨_,_,f10⟩:=hf 10 9 10 c10 rfl Tryz.zS rfl;obtain⟨nm,e0,_,s0⟩:=DataW.trod_string Tryz.underlying9 f0;obtain⟨kd,e1,_,_⟩:=DataW.trod_int Tryz.underlying3 f1;obtain⟨ls,e2,_,_⟩:=DataW.trod_int Tryz.underlying3 f2;obtain⟨ms,e3,_,_⟩:=DataW.trod_int Tryz.underlying3 f3;obtain⟨a,cap,ws,e4,hS⟩:=zhH Tryz.underlying100 Tryz.underlying9 Tryz.zS f4;obtain⟨to,e5,_,s5⟩:=DataW.trod_string Tryz.underlying9 f5;obtain⟨rl,e6,_,_⟩:=DataW.trod_int Tryz.underlying3 f6;obtain⟨mu,e7,_⟩:=DataW.trod_bool Tryz.underlying4 f7;obtain⟨fx,e8,_⟩:=DataW.trod_bool Tryz.underlying4 f8;obtain⟨df,e9,_,s9⟩:=DataW.trod_string Tryz.underlying9 f9;obtain⟨wg,e10,_,s10⟩:=DataW.trod_string Tryz.underlying9 f10;simp only[List.cons.injEq,and_true]at e0 e1 e2 e3 e4 e5 e6 e7 e8 e9 e10;subst e0 e1 e2 e3 e4 e5 e6 e7 e8 e9 e10;exact⟨nm,kd,ls,ms,a,cap,ws,to,rl,mu,fx,df,wg,rfl,hS,s0,s5,s9,s10⟩
end Go.Proofs.YtkficnallnpjnaaGreat
namespace Go.Proofs.YtkficnallnpjnaaGreat
open Go.RowKit
structure zbR (fs:List Fld):Prop where
 small:∀i (h:i<fs.length),fs[i].Small/\fs[i].ws.length<=maxLen/\∀s∈fs[i].ws,s.size<=maxLen
theorem yc.smalls {w:World}{a:Option Addr}{fs:List Fld}(h:yc w a fs):zbR fs:=
 ⟨fun i hi=>by
  obtain⟨b,off,_,_,hr⟩:=h.rows (by rintro rfl;simp at hi);obtain⟨wa,wcap,hf⟩:=hr i hi;exact⟨hf.small,hf.strs.len,hf.strs.small⟩⟩
structure zdw (ss:List Shp):Prop where
 small:∀i (h:i<ss.length),ss[i].kd.size<=maxLen/\ss[i].fs.length<=maxLen/\zbR ss[i].fs
theorem yT.smalls {w:World}{a:Option Addr}{ss:List Shp}(h:yT w a ss):zdw ss:=
 ⟨fun i hi=>by
  obtain⟨b,off,_,_,hr⟩:=h.rows (by rintro rfl;simp at hi);obtain⟨fa,fcap,hs⟩:=hr i hi;exact⟨hs.small,hs.zdy.len,hs.zdy.smalls⟩⟩
theorem Tryz.zcH:(Tryz.prog.info? 9).map (fun i=>(i.zero,i.size,i.bytes))=some (some (.string ByteArray.empty),1,16):=by kernel_rfl
theorem zT (w:World)(o1 o2:Obj):((w.alloc o1).alloc o2).heap[w.heap.size]?=some o1/\((w.alloc o1).alloc o2).heap[w.heap.size+1]?=some o2:=by
 refine⟨(Below.heap_alloc _ _ _ (by simp)).trans (alloc_at _ _),?_⟩;have h:=alloc_at (w.alloc o1) o2
 simpa using h
end Go.Proofs.YtkficnallnpjnaaGreat
namespace Go.Proofs.YtkficnallnpjnaaGreat
structure Ob where
 kd:ByteArray
 nm:ByteArray
 tm:ByteArray
 vs:List ByteArray
 en:Bool
 hs:List ByteArray
 vr:Int
abbrev oC (o:Ob)(a a':Option Addr)(c c':Nat):Array Value:=#[.string o.kd,.string o.nm,.string o.tm,.slice a o.vs.length c,.bool o.en,.slice a' o.hs.length c',.int .i64 o.vr]
abbrev oZ:Array Value:=#[.string ByteArray.empty,.string ByteArray.empty,.string ByteArray.empty,.slice none 0 0,.bool false,.slice none 0 0,.int .i64 0]
structure Ob.Small (o:Ob):Prop where
 kd:o.kd.size<=maxLen
 nm:o.nm.size<=maxLen
 tm:o.tm.size<=maxLen
def zaC (f:Fld)(v:ByteArray):Int:=if v.size=0 then (if f.mu then 2 else 0) else if zfx f v then 0 else 3
def zgh (fs:List Fld)(vs:List ByteArray)(i:Nat):Int:=zaC (fs.getD i zbs) (vs.getD i ByteArray.empty)
def za9 (fs:List Fld)(vs:List ByteArray)(i:Nat):Bool:=decide (zgh fs vs i=0)
def jJ (fs:List Fld)(vs:List ByteArray):Int × Int:=match (List.range fs.length).find? (fun i=>!za9 fs vs i) with|some i=>(zgh fs vs i,i)|none=>(0,0)
theorem find_range {P:Nat->Bool}{n k:Nat}(hk:k<n)(hu:up P k=true)(hp:P k=false):(List.range n).find? (fun i=>!P i)=some k:=by
 rw[List.find?_eq_some_iff_getElem];refine⟨by simp[hp],k,by simpa using hk,by simp,fun j hj=>?_⟩
 have:=zib hj hu
 simp[this]
theorem zin {P:Nat->Bool}{n:Nat}(hu:up P n=true):(List.range n).find? (fun i=>!P i)=none:=by
 rw[List.find?_eq_none];intro x hx
 have:=zib (List.mem_range.1 hx) hu
 simp[this]
theorem zlp {fs:List Fld}{vs:List ByteArray}{k:Nat}(hk:k<fs.length)(hu:up (za9 fs vs) k=true)(hp:za9 fs vs k=false):jJ fs vs=(zgh fs vs k,(k:Int)):=by
 unfold jJ;rw[find_range hk hu hp]
theorem zic {fs:List Fld}{vs:List ByteArray}(hu:up (za9 fs vs) fs.length=true):jJ fs vs=(0,0):=by
 unfold jJ;rw[zin hu]
theorem zjb {fs:List Fld}{vs:List ByteArray}{k:Nat}(h1:k<fs.length)(h2:k<vs.length):zgh fs vs k=zaC fs[k] vs[k]:=by
 unfold zgh;rw[getD_at fs k _ h1,getD_at vs k _ h2]
def qH (o:Ob):Bool:=zA o.nm&&zA o.tm
def qW (o:Ob):Bool:=decide (o.hs.length<=3)&&asc o.hs
def qx (o:Ob):Bool:=decide (0<=o.vr)&&decide (o.vr<=1000000)
def zB (ss:List Shp)(o:Ob):Bool:=zJ ss o.kd&&decide (o.vs.length=(shapeOf ss o.kd).fs.length)
def whole (ss:List Shp)(o:Ob):Bool:=qH o&&qW o&&qx o&&zB ss o
def yC (ss:List Shp)(o:Ob):Int × Int:=if whole ss o=true then jJ (shapeOf ss o.kd).fs o.vs else (1,0)
end Go.Proofs.YtkficnallnpjnaaGreat
namespace Go.Proofs.YtkficnallnpjnaaGreat
structure Tm where
 nm:ByteArray
 ov:ByteArray
def zbd:Tm:=⟨ByteArray.empty,ByteArray.empty⟩
def yB (ts:List Tm)(v:ByteArray):Bool:=ts.any fun t=>decide (t.nm=v)
def over (ts:List Tm)(v:ByteArray):ByteArray:=((ts.find? fun t=>decide (t.nm=v)).getD zbd).ov
theorem zdS (ts:List Tm)(v:ByteArray)(k:Nat)(h:k<ts.length):yB (ts.take (k+1)) v=(yB (ts.take k) v||decide (ts[k].nm=v)):=by
 unfold yB;rw[tSe h,List.any_append];simp
theorem znO (ts:List Tm)(v:ByteArray)(k:Nat)(h:k<ts.length)(e:ts[k].nm=v):yB ts v=true:=by
 unfold yB;rw[List.any_eq_true];exact⟨ts[k],List.getElem_mem h,by simpa using e⟩
theorem zeZ (ts:List Tm)(v:ByteArray)(k:Nat)(h:ts.length<=k):yB (ts.take k) v=yB ts v:=by rw[tOl h]
theorem zl6 (ts:List Tm)(v:ByteArray)(k:Nat)(h:k<ts.length)(hb:yB (ts.take k) v=false)(e:ts[k].nm=v):over ts v=ts[k].ov:=by
 unfold over
 have hn:(ts.take k).find? (fun s=>decide (s.nm=v))=none:=by
  rw[List.find?_eq_none];intro x hx;unfold yB at hb;rw[List.any_eq_false]at hb;exact hb x hx
 have hf:ts.find? (fun s=>decide (s.nm=v))=some ts[k]:=by
  conv=>lhs;rw[<- List.take_append_drop k ts]
  rw[List.find?_append,hn,List.drop_eq_getElem_cons h,List.find?_cons_of_pos (by simpa using e)];rfl
 rw[hf];rfl
theorem zht (ts:List Tm)(v:ByteArray)(hb:yB ts v=false):over ts v=ByteArray.empty:=by
 unfold over
 have hn:ts.find? (fun s=>decide (s.nm=v))=none:=by
  rw[List.find?_eq_none];intro x hx;unfold yB at hb;rw[List.any_eq_false]at hb;exact hb x hx
 rw[hn];rfl
def under (ts:List Tm):Nat->ByteArray->ByteArray->Bool
 | 0,a,b=>decide (a=b)
 | n+1,a,b=>decide (a=b)||(decide (¬(over ts a).size=0)&&under ts n (over ts a) b)
theorem zd1 (ts:List Tm)(n:Nat)(a b:ByteArray)(h:a=b):under ts n a b=true:=by
 cases n <;> simp[under,h]
theorem zlx (ts:List Tm){a b:ByteArray}(h:¬a=b):under ts 0 a b=false:=by simp[under,h]
theorem zjo (ts:List Tm)(n:Nat){a b:ByteArray}(h:¬a=b)(h0:(over ts a).size=0):under ts (n+1) a b=false:=by simp[under,h,h0]
theorem znv (ts:List Tm)(n:Nat){a b:ByteArray}(h:¬a=b)(h0:¬(over ts a).size=0):under ts (n+1) a b=under ts n (over ts a) b:=by simp[under,h,h0]
def qB (ts:List Tm)(i:Nat):Bool:=
 zA (ts.getD i zbd).nm&&(decide (i=0)||less (ts.getD (i-1) zbd).nm (ts.getD i zbd).nm)&&((ts.getD i zbd).ov.toList.isEmpty||yB ts (ts.getD i zbd).ov)
def ze4 (ts:List Tm):Nat->ByteArray->ByteArray
 | 0,a=>a
 | n+1,a=>ze4 ts n (over ts a)
def jQ (ts:List Tm):Nat->ByteArray->ByteArray
 | 0,a=>a
 | n+1,a=>if a.size=0 then a else jQ ts n (over ts a)
def zeh (ts:List Tm)(t:Tm):Bool:=decide ((ze4 ts 4 t.ov).size=0)
def zfV (ts:List Tm)(i:Nat):Bool:=zeh ts (ts.getD i zbd)
def zdG (ts:List Tm)(i:Nat):Bool:=decide ((jQ ts 5 (ts.getD i zbd).nm).size=0)
def zbH (ts:List Tm):Bool:=decide (ts.length<=12)&&(up (qB ts) ts.length&&up (zfV ts) ts.length)
def zb5 (ts:List Tm)(i:Nat):Bool:=qB ts i&&zdG ts i
def zaH (ts:List Tm):Bool:=decide (ts.length<=12)&&up (zb5 ts) ts.length
theorem zcY {P:Nat->Bool}{n:Nat}:up P n=true↔∀i,i<n->P i=true:=by
 unfold up;rw[List.all_eq_true];simp
theorem zp1 {ts:List Tm}{i:Nat}(hi:i<ts.length)(h:qB ts i=true):zA ts[i].nm=true:=by
 unfold qB at h;rw[getD_at ts i _ hi]at h;simp only[Bool.and_eq_true]at h;exact h.1.1
theorem zpV {ts:List Tm}{i:Nat}(hi:i+1<ts.length)(h:qB ts (i+1)=true):less ts[i].nm ts[i+1].nm=true:=by
 unfold qB at h;rw[getD_at ts (i+1) _ hi,Nat.add_sub_cancel,getD_at ts i _ (by omega)]at h;simp only[Bool.and_eq_true]at h
 simpa using h.1.2
theorem zoc {ts:List Tm}(h:up (qB ts) ts.length=true):∀(j:Nat) (hj:j<ts.length) (i:Nat) (hi:i<j),less (ts[i]'(by omega)).nm ts[j].nm=true:=by
 intro j
 induction j with
 | zero=>intro _ i hi;omega
 | succ j ih=>
  intro hj i hi;have h2:=zpV hj (zib hj h)
  rcases Nat.lt_or_ge i j with hlt|hge
  ·exact zbb _ _ _ (ih (by omega) i hlt) h2
  ·have e:i=j:=by omega
   subst e;exact h2
theorem over_self {ts:List Tm}(h:up (qB ts) ts.length=true)(i:Nat)(hi:i<ts.length):over ts ts[i].nm=ts[i].ov:=by
 refine zl6 ts _ i hi ?_ rfl;unfold yB;rw[List.any_eq_false];intro x hx;obtain⟨k,hk,rfl⟩:=List.mem_iff_getElem.1 hx;have hk':k<i:=by simp at hk;omega
 have h1:=zoc h i hi k hk';simp only[List.getElem_take,decide_eq_true_eq];intro e;unfold less at h1;rw[e,zbZ]at h1
 cases h1
theorem zoS {ts:List Tm}(h:up (qB ts) ts.length=true):over ts ByteArray.empty=ByteArray.empty:=by
 apply zht
 unfold yB;rw[List.any_eq_false];intro x hx;obtain⟨k,hk,rfl⟩:=List.mem_iff_getElem.1 hx;have h1:=zp1 hk (zib hk h);simp only[decide_eq_true_eq];intro e;rw[e,zf6 _ rfl]at h1
 cases h1
theorem zh6 {ts:List Tm}(h:over ts ByteArray.empty=ByteArray.empty):∀n,ze4 ts n ByteArray.empty=ByteArray.empty
 | 0=>rfl
 | n+1=>by unfold ze4;rw[h];exact zh6 h n
theorem zjH {ts:List Tm}(h:over ts ByteArray.empty=ByteArray.empty):∀n a,jQ ts n a=ze4 ts n a
 | 0,_=>rfl
 | n+1,a=>by
  unfold jQ
  by_cases h0:a.size=0
  ·rw[if_pos h0,zdn a h0,zh6 h]
  ·rw[if_neg h0,zjH h n];rfl
theorem zls {ts:List Tm}(h:up (qB ts) ts.length=true)(i:Nat)(hi:i<ts.length):zdG ts i=zfV ts i:=by
 unfold zdG zfV zeh;rw[getD_at ts i _ hi,zjH (zoS h),show ze4 ts 5 ts[i].nm=ze4 ts 4 (over ts ts[i].nm) from rfl,over_self h i hi]
theorem zl9 (ts:List Tm):zbH ts=zaH ts:=by
 unfold zbH zaH
 congr 1
 rw[Bool.eq_iff_iff,Bool.and_eq_true]
 constructor
 ·rintro⟨h1,h2⟩
  rw[zcY];intro i hi;unfold zb5;rw[zib hi h1,zls h1 i hi,zib hi h2];rfl
 ·intro h
  rw[zcY]at h
  have h1:up (qB ts) ts.length=true:=by
   rw[zcY];intro i hi;have:=h i hi;unfold zb5 at this;rw[Bool.and_eq_true]at this;exact this.1
  refine⟨h1,?_⟩;rw[zcY];intro i hi;have:=h i hi;unfold zb5 at this;rw[Bool.and_eq_true,zls h1 i hi]at this;exact this.2
end Go.Proofs.YtkficnallnpjnaaGreat
namespace Go.Proofs.YtkficnallnpjnaaGreat
open Go.RowKit
structure zbe (w:World)(r:Nat)(f:Int->Option Int):Prop where
 ex:∃es clock,w.heap[r]?=some (.map es clock)/\(∀x∈es.toList,∃k v,x.key=.int .i64 k/\x.val=.int .i64 v/\f k=some v)/\(∀k v,f k=some v->∃x∈es.toList,x.key=.int .i64 k)/\∀(i j:Nat) (x y:MapEntry),es[i]?=some x->es[j]?=some y->x.key=y.key->i=j
theorem zbe.mono {w w':World}{r:Nat}{f:Int->Option Int}(h:zbe w r f)(hb:w'.heap[r]?=w.heap[r]?):zbe w' r f:=by
 obtain⟨es,clock,h1,h2⟩:=h.ex;exact⟨es,clock,hb.trans h1,h2⟩
theorem zbe.lt {w:World}{r:Nat}{f:Int->Option Int}(h:zbe w r f):r<w.heap.size:=by
 obtain⟨es,clock,h1,_⟩:=h.ex;exact(gES h1).1
theorem zbp (k:Int):MapKept.IsKey (.int .i64) (.int .i64 k):=by simp[MapKept.IsKey]
theorem zbe.keys {es:Array MapEntry}{f:Int->Option Int}(h:∀x∈es.toList,∃k v,x.key=.int .i64 k/\x.val=.int .i64 v/\f k=some v):∀x∈es.toList,MapKept.IsKey (.int .i64) x.key:=by
 intro x hx;obtain⟨k,v,h1,_⟩:=h x hx;rw[h1];exact zbp k
theorem zbe.look {w:World}{r:Nat}{f:Int->Option Int}(h:zbe w r f)(k:Int) :
 (Instr.lookup 264 (.map (some r)) (.int .i64 k) true).run Tryz.prog w=.ok (.tuple #[.int .i64 ((f k).getD 0),.bool (f k).isSome]) w:=by
 obtain⟨es,clock,hb,h1,h2,h3⟩:=h.ex
 rcases MapKept.findNow_spec (zbp k) es.toList 0 (zbe.keys h1) with⟨g1,g2⟩|⟨j,e,g1,g2,g3⟩
 ·have hn:f k=none:=by
   cases hf:f k with
   | none=>rfl
   | some v=>
    obtain⟨x,hx,hk⟩:=h2 k v hf;exact absurd hk (g2 x hx)
  rw[hn];exact zci Tryz.underlying264 Tryz.underlying3 (.int .i64 k) (.int .i64 0) (zbp k) es clock g1 w (by kernel_rfl) r hb
 ·obtain⟨k',v',e1,e2,e3⟩:=h1 e (List.mem_of_getElem? g2)
  rw[g3]at e1
  cases e1
  rw[e3];rw[e2]at g1;exact yQ Tryz.underlying264 Tryz.underlying3 (.int .i64 k) (.int .i64 v') (zbp k) es clock _ g1 w r hb
structure zg9 (r:Nat)(w w':World):Prop where
 os:w'.os=w.os
 tape:w'.tape=w.tape
 output:w'.output=w.output
 size:w'.heap.size=w.heap.size
 out:∀k,k≠r->w'.heap[k]?=w.heap[k]?
theorem zbe.upd {w:World}{r:Nat}{f:Int->Option Int}(h:zbe w r f)(k v:Int) :
 ∃w',(Instr.mapUpdate 264 (.map (some r)) (.int .i64 k) (.int .i64 v)).run Tryz.prog w=.ok () w'/\zbe w' r (fun q=>if q=k then some v else f q)/\zg9 r w w':=by
 obtain⟨es,clock,hb,h1,h2,h3⟩:=h.ex;have hm:=Tryz.underlying264;have hd:=Tryz.underlying3
 rcases MapKept.findNow_spec (zbp k) es.toList 0 (zbe.keys h1) with⟨g1,g2⟩|⟨j,e,g1,g2,g3⟩
 ·refine⟨{ w with heap:=w.heap.setIfInBounds r (.map (es.push ⟨.int .i64 k,.int .i64 v,clock⟩) (clock+1)) },?_,⟨_,_,(MapKept.heap_set hb).1,?_,?_,?_⟩,rfl,rfl,rfl,by simp,fun q hq=>(MapKept.heap_set hb).2 q hq⟩
  ·simp[Instr.mapUpdate,run_underlying hm,MapKept.run_getObj_map hb,MapKept.run_checkKey hd (zbp k),MapKept.run_findKey hd g1,MapKept.run_setObj_map _ hb,Result.andThen]
  ·intro x hx
   rw[Array.toList_push,List.mem_append,List.mem_singleton]at hx
   rcases hx with hx|rfl
   ·obtain⟨k',v',e1,e2,e3⟩:=h1 x hx
    refine⟨k',v',e1,e2,?_⟩
    have:k'≠k:=by rintro rfl;exact g2 x hx e1
    simp only[if_neg this];exact e3
   ·exact⟨k,v,rfl,rfl,by simp⟩
  ·intro q u hq
   by_cases e:q=k
   ·subst e
    exact⟨⟨.int .i64 q,.int .i64 v,clock⟩,by simp,rfl⟩
   ·rw[if_neg e]at hq
    obtain⟨x,hx,hk⟩:=h2 q u hq;exact⟨x,by simp[Array.toList_push];exact Or.inl (by simpa using hx),hk⟩
  ·intro i j' x y hx hy hxy
   rw[Array.getElem?_push]at hx hy
   by_cases e1:i=es.size
   ·by_cases e2:j'=es.size
    ·omega
    ·rw[if_pos e1]at hx
     rw[if_neg e2]at hy;have hm:y∈es.toList:=by rw[<- Array.mem_def];exact Array.mem_of_getElem? hy
     cases hx
     exact absurd hxy.symm (g2 y hm)
   ·by_cases e2:j'=es.size
    ·rw[if_neg e1]at hx
     rw[if_pos e2]at hy;have hm:x∈es.toList:=by rw[<- Array.mem_def];exact Array.mem_of_getElem? hx
     cases hy
     exact absurd hxy (g2 x hm)
    ·rw[if_neg e1]at hx
     rw[if_neg e2]at hy;exact h3 i j' x y hx hy hxy
 ·have hj:es[j]?=some e:=by simpa using g2
  refine⟨{ w with heap:=w.heap.setIfInBounds r (.map (es.modify j fun x=>{ x with key:=.int .i64 k,val:=.int .i64 v }) clock) },?_,⟨_,_,(MapKept.heap_set hb).1,?_,?_,?_⟩,rfl,rfl,rfl,by simp,fun q hq=>(MapKept.heap_set hb).2 q hq⟩
  ·simp[Instr.mapUpdate,run_underlying hm,MapKept.run_getObj_map hb,MapKept.run_checkKey hd (zbp k),MapKept.run_findKey hd g1,hj,g3,MapKept.run_keyThatStays (zbp k),MapKept.run_setObj_map _ hb,Result.andThen]
  ·intro x hx
   obtain⟨i,hi,rfl⟩:=List.mem_iff_getElem.1 hx;have hi':i<es.size:=by simpa using hi
   simp only[Array.getElem_toList,Array.getElem_modify]
   by_cases e':j=i
   ·subst e'
    simp only[if_true];exact⟨k,v,rfl,rfl,by simp⟩
   ·simp only[if_neg e']
    obtain⟨k',v',e1,e2,e3⟩:=h1 es[i] (by simp)
    have ek:k'≠k:=by
     rintro rfl;exact e' (h3 j i e es[i] hj (Array.getElem?_eq_getElem hi') (g3.trans e1.symm))
    exact⟨k',v',e1,e2,by rw[if_neg ek];exact e3⟩
  ·intro q u hq
   have hj':j<es.size:=(gES hj).1
   by_cases e':q=k
   ·subst e'
    refine⟨(es.modify j fun x=>{ x with key:=.int .i64 q,val:=.int .i64 v })[j]'(by simpa using hj'),?_,?_⟩
    ·rw[<- Array.mem_def];exact Array.getElem_mem _
    ·rw[Array.getElem_modify];simp
   ·rw[if_neg e']at hq
    obtain⟨x,hx,hk⟩:=h2 q u hq;obtain⟨i,hi,rfl⟩:=List.mem_iff_getElem.1 hx;have hi':i<es.size:=by simpa using hi
    have hij:j≠i:=by
     rintro rfl;rw[Array.getElem_toList]at hk;rw[Array.getElem?_eq_getElem hi']at hj
     cases hj
     rw[g3]at hk
     cases hk
     exact e' rfl
    refine⟨(es.modify j fun x=>{ x with key:=.int .i64 k,val:=.int .i64 v })[i]'(by simpa using hi'),?_,?_⟩
    ·rw[<- Array.mem_def];exact Array.getElem_mem _
    ·rw[Array.getElem_modify,if_neg hij];simpa using hk
  ·have hkey:∀(i:Nat) (x:MapEntry),(es.modify j fun x=>{ x with key:=.int .i64 k,val:=.int .i64 v })[i]?=some x->∃y,es[i]?=some y/\x.key=y.key:=by
    intro i x hx;obtain⟨hi,rfl⟩:=gES hx;have hi':i<es.size:=by simpa using hi
    refine⟨es[i],Array.getElem?_eq_getElem hi',?_⟩;rw[Array.getElem_modify]
    by_cases e':j=i
    ·subst e'
     rw[Array.getElem?_eq_getElem hi']at hj
     cases hj
     simp[g3]
    ·rw[if_neg e']
   intro i j' x y hx hy hxy;obtain⟨x',hx',ex⟩:=hkey i x hx;obtain⟨y',hy',ey⟩:=hkey j' y hy;exact h3 i j' x' y' hx' hy' (ex.symm.trans (hxy.trans ey))
end Go.Proofs.YtkficnallnpjnaaGreat
