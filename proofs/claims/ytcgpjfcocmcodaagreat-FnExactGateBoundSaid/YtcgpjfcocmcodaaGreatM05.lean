import Derived.Test.YtcgpjfcocmcodaaGreatM04
import Derived.Deep.QuietTactic
import Derived.BigQuiet
set_option maxHeartbeats 1000000
namespace Go.Proofs.YtcgpjfcocmcodaaGreat
open Go.RowKit
def qU (s:BA):Int:=if zak s=true then zgF s else -1
theorem zlq (k:Nat)(h:k<=7):(10:Int) ^ k<=10000000:=by
 have:k=0 \/ k=1 \/ k=2 \/ k=3 \/ k=4 \/ k=5 \/ k=6 \/ k=7:=by omega
 rcases this with h|h|h|h|h|h|h|h <;> subst h <;> decide
theorem zlk (s:BA)(w:World)(h1:1<=s.size)(h7:s.size<=7)(hz:s.size<=1 \/ ¬(s[0].toNat:Int)=48) :
 Calls Tryz.prog 127 #[.s s] w fun e w'=>e=.returned (.i (qU s))/\w'=w:=by
 have HF:Hid (zak s=za9 s):=zlB s h1 h7 hz
 rcases(show(s.size<=1) \/ (1<s.size/\¬(s[0].toNat:Int)=48) by rcases hz with h|h <;> omega) with hone|⟨hmore,hz0⟩
 all_goals
  clear hz
  try have hz1:((s[0].toNat:Int) == 48)=false:=by simpa using hz0
  try clear hz0
  go_enter Tryz.func127,Tryz.ntmps127
  go_wp2_with (go_at_call 26;refine(zbH _ _ _ _ (by omega) (by omega)).mono ?_;rintro e w'⟨rfl,rfl⟩)
  go_loop [3,4] (fun n i=>∃k:Nat,k<=s.size/\i=.i k/\(s.data.toList.take k).all digit=true/\n=.i (dec (s.data.toList.take k))) (fun _ i=>s.size-(intOf i).toNat)
  case atStart=>exact⟨0,Nat.zero_le _,rfl,rfl,rfl⟩
  case round=>
   obtain⟨k,hk,rfl,hall,rfl⟩:=hrel;have hlen:(s.data.toList.take k).length<=k:=List.length_take_le _ _;obtain⟨hd0,hd1⟩:=zfz _ hall k hlen
   by_cases hlt:k<s.size
   ·have hp:=zlq k (by omega)
    have hd2:dec (s.data.toList.take k)<10000000:=by omega
    clear hp hd1 hlen;have HS:Hid ((s.data.toList.take (k+1)).all digit=(true&&digit s[k])):=by rw[zaU _ s k hlt,hall];rfl
    have HD:Hid (dec (s.data.toList.take (k+1))=dec (s.data.toList.take k)*10+((s[k].toNat:Int)-48)):=by rw[zh1 s k hlt];exact znp _ _
    have HN:Hid (digit s[k]=false->za9 s=false):=fun h=>zb4 digit s k hlt h
    clear hall
    by_cases h48:(s[k].toNat:Int)<48
    ·have HC:Hid (digit s[k]=false):=by simp[digit,Hid];omega
     go_wp2
     go_ret;exact⟨zo (by unfold qU;rw[HF.o,HN.o HC.o];rfl),rfl⟩
    ·by_cases h57:57<(s[k].toNat:Int)
     ·have HC:Hid (digit s[k]=false):=by simp[digit,Hid];omega
      go_wp2
      go_ret;exact⟨zo (by unfold qU;rw[HF.o,HN.o HC.o];rfl),rfl⟩
     ·have HC:Hid (digit s[k]=true):=by simp[digit,Hid];omega
      go_wp2
      go_round
      case rel=>exact⟨k+1,by omega,by go_num,by rw[HS.o,HC.o];rfl,by rw[HD.o];go_num⟩
      case measure=>simp[intOf];omega
   ·have HA:Hid (za9 s=true):=by unfold za9 Hid;rw[<- zat s k (by omega)];exact hall
    have HB:Hid (dec (s.data.toList.take k)=zgF s):=by rw[zat s k (by omega)];rfl
    clear hall hd0 hd1 hlen
    go_wp2
    go_ret;exact⟨zo (by unfold qU;rw[HF.o,HA.o,HB.o];rfl),rfl⟩
theorem zep (s:BA)(w:World)(hs:s.size<=maxLen) :
 Calls Tryz.prog 127 #[.s s] w fun e w'=>e=.returned (.i (qU s))/\w'=w:=by
 unfold maxLen at hs
 by_cases h17:1<=s.size/\s.size<=7
 ·obtain⟨h1,h7⟩:=h17
  by_cases hz:1<s.size/\(s[0].toNat:Int)=48
  ·obtain⟨hm,hz0⟩:=hz
   have HF:Hid (qU s=-1):=by unfold qU Hid;rw[zfT s hm hz0];rfl
   have hz1:((s[0].toNat:Int) == 48)=true:=by simpa using hz0
   clear hz0;go_enter Tryz.func127,Tryz.ntmps127
   go_wp2_with (go_at_call 26;refine(zbH _ _ _ _ (by omega) (by omega)).mono ?_;rintro e w'⟨rfl,rfl⟩)
   go_ret;exact⟨zo HF.o.symm,rfl⟩
  ·exact zlk s w h1 h7 (by omega)
 ·have HF:Hid (qU s=-1):=by unfold qU Hid;rw[zen s h17];rfl
  go_enter Tryz.func127,Tryz.ntmps127
  go_wp2_with (go_at_call 26;refine(zdl _ _ _ _ (by omega)).mono ?_;rintro e w'⟨rfl,rfl⟩)
  go_ret;exact⟨zo HF.o.symm,rfl⟩
def zcc (ws:List BA):Nat:=(ws.map ByteArray.size).sum
def qQ (ws:List BA):Nat:=ws.length+zcc ws
theorem zos (ws:List BA)(k:Nat)(h:k<ws.length):zcc (ws.take (k+1))=zcc (ws.take k)+ws[k].size:=by
 unfold zcc;rw[tSe h,List.map_append,List.sum_append];simp
theorem zqI (ws:List BA)(k:Nat):zcc (ws.take k)<=zcc ws:=by
 unfold zcc
 conv=>rhs;rw[<- List.take_append_drop k ws]
 rw[List.map_append,List.sum_append];omega
theorem zp8 (ws:List BA)(k:Nat)(h:ws.length<=k):zcc (ws.take k)=zcc ws:=by rw[tOl h]
theorem zfS (a:OA)(cap:Nat)(ws:List BA)(left:Int)(w:World)(hw:zG w a ws)(h0:0<=left)(h1:left<=1048576) :
 Calls Tryz.prog 114 #[.l a ws.length cap,.i left] w fun e w'=>e=.returned (.i (zL (qQ ws) left))/\w'=w:=by
 have hl:=hw.len;unfold maxLen at hl
 by_cases hfit:(ws.length:Int)<=left
 ·go_enter Tryz.func114,Tryz.ntmps114
  go_wp2
  go_loop [1,5] (fun l i=>∃k:Nat,k<=ws.length/\i=.i k/\0<=left-ws.length-zcc (ws.take k)/\l=.i (left-ws.length-zcc (ws.take k))) (fun _ i=>ws.length-(intOf i).toNat)
  case atStart=>exact⟨0,Nat.zero_le _,rfl,by simp[zcc];omega,by simp[zcc]⟩
  case round=>
   obtain⟨k,hk,rfl,hpos,rfl⟩:=hrel
   by_cases hlt:k<ws.length
   ·obtain⟨b,off,rfl,hb,hc⟩:=hw.cells (by rintro rfl;simp at hlt)
    have hsm:=hw.small _ (List.getElem_mem hlt);unfold maxLen at hsm;clear hw;have hck:=hc k hlt;have HS:Hid (zcc (ws.take (k+1))=zcc (ws.take k)+ws[k].size):=zos ws k hlt;have hle:=zqI ws (k+1);clear hc
    by_cases hneg:left-ws.length-zcc (ws.take k)-ws[k].size<0
    ·have HF:Hid (zL (qQ ws) left=-1):=zC (by have:=HS.o;unfold qQ;omega)
     clear hle
     go_wp2
     go_ret;exact⟨zo HF.o.symm,rfl⟩
    ·clear hle
     go_wp2
     go_round
     case rel=>exact⟨k+1,by omega,by go_num,by rw[HS.o];omega,by rw[HS.o];go_num⟩
     case measure=>simp[intOf];omega
   ·have HF:Hid (zL (qQ ws) left=left-ws.length-zcc (ws.take k)):=by
     rw[zp8 ws k (by omega)]at hpos ⊢;have e:zL (qQ ws) left=left-qQ ws:=zM (by unfold qQ;omega);unfold Hid;rw[e];unfold qQ;omega
    clear hw
    go_wp2
    go_ret;exact⟨zo HF.o.symm,rfl⟩
 ·have HF:Hid (zL (qQ ws) left=-1):=zC (by unfold qQ;omega)
  clear hw;go_enter Tryz.func114,Tryz.ntmps114
  go_wp2
  go_ret;exact⟨zo HF.o.symm,rfl⟩
theorem zdB (a a':OA)(cap cap':Nat)(ws:List BA)(w:World)(hw:zG w a ws)(hw':zG w a' ws) :
 Calls Tryz.prog 150 #[.l a ws.length cap,.l a' ws.length cap'] w fun e w'=>e=.returned (.bool true)/\Bw w w':=by
 have hl:=hw.len;unfold maxLen at hl;have hnn:((ws.length:Int) != ws.length)=false:=by simp
 go_enter Tryz.func150,Tryz.ntmps150
 go_wp2
 go_loopw [5] (fun i wr=>∃k:Nat,k<=ws.length/\i=.i k/\∃n,wr=w.drewN n) (fun i _=>ws.length-(intOf i).toNat)
 case atStart=>exact⟨0,Nat.zero_le _,rfl,0,rfl⟩
 case round=>
  obtain⟨k,hk,rfl,nd,rfl⟩:=hrel
  by_cases hlt:k<ws.length
  ·obtain⟨b,off,rfl,hb,hc⟩:=hw.cells (by rintro rfl;simp at hlt)
   obtain⟨b',off',rfl,hb',hc'⟩:=hw'.cells (by rintro rfl;simp at hlt);clear hw hw';have hck:=hc k hlt;have hck':=hc' k hlt;have hltI:(k:Int)<(ws.length:Int):=by omega
   clear hc hc'
   go_wp2
   go_quiet (fail)
   go_wp2
   exact⟨⟨k+1,by omega,by go_num,nd+nq,rfl⟩,by simp[intOf];omega⟩
  ·clear hw hw'
   go_wp2
   go_ret;exact⟨rfl,below_drewN (bRf _ _) nd⟩
theorem ziY (nm:BA)(kd ls ms:Int)(a a':OA)(cap cap':Nat)(ws:List BA)(to:BA)(rl:Int)(mu fx:Bool)(df wg:BA)(w:World)(hw:zG w a ws)(hw':zG w a' ws) :
 Calls Tryz.prog 189 #[.agg #[.s nm,.i kd,.i ls,.i ms,.l a ws.length cap,.s to,.i rl,.bool mu,.bool fx,.s df,.s wg],.agg #[.s nm,.i kd,.i ls,.i ms,.l a' ws.length cap',.s to,.i rl,.bool mu,.bool fx,.s df,.s wg]] w
  fun e w'=>e=.returned (.bool true)/\Bw w w':=by
 go_enter Tryz.func189,Tryz.ntmps189
 go_wp2_with (go_at_call 150;refine(zdB _ _ _ _ _ _ (by exact hw.mono (zw _ _ _)) (by exact hw'.mono (zw _ _ _))).mono ?_;rintro e w1⟨rfl,hb1⟩;have hc1:=(zrI hb1).1;have hz1:=hb1.size;simp only[World.size_alloc]at hz1)
 go_ret;exact⟨rfl,(zw _ _ _).trans (hb1.mono (by simp;omega))⟩
def zaq (nm:BA)(ws:List BA)(to df wg:BA):Nat:=nm.size+qQ ws+to.size+df.size+wg.size
theorem j6 (a:OA)(cap:Nat)(ws:List BA)(left:Int)(w:World)(hw:zG w a ws)(h0:0<=left)(h1:left<=1048576)(h:(qQ ws:Int)<=left) :
 Calls Tryz.prog 114 #[.l a ws.length cap,.i left] w fun e w'=>e=.returned (.i (left-qQ ws))/\w'=w:=by
 refine(zfS a cap ws left w hw h0 h1).mono ?_;rintro e w'⟨rfl,rfl⟩;exact⟨zo (zM h),rfl⟩
theorem zej (a:OA)(cap:Nat)(ws:List BA)(left:Int)(w:World)(hw:zG w a ws)(h0:0<=left)(h1:left<=1048576)(h:¬(qQ ws:Int)<=left) :
 Calls Tryz.prog 114 #[.l a ws.length cap,.i left] w fun e w'=>e=.returned (.i (-1))/\w'=w:=by
 refine(zfS a cap ws left w hw h0 h1).mono ?_;rintro e w'⟨rfl,rfl⟩;exact⟨zo (zC h),rfl⟩
theorem zeH (nm:BA)(kd ls ms:Int)(a:OA)(cap:Nat)(ws:List BA)(to:BA)(rl:Int)(mu fx:Bool)(df wg:BA)(left:Int)(w:World)(hw:zG w a ws)(h0:0<=left)(h1:left<=1048576)
 (hnm:nm.size<=maxLen) (hto:to.size<=maxLen) (hdf:df.size<=maxLen) (hwg:wg.size<=maxLen) :
 Calls Tryz.prog 153 #[.agg #[.s nm,.i kd,.i ls,.i ms,.l a ws.length cap,.s to,.i rl,.bool mu,.bool fx,.s df,.s wg],.i left] w fun e w'=>e=.returned (.i (zL (zaq nm ws to df wg) left))/\Bw w w':=by
 unfold maxLen at hnm hto hdf hwg
 by_cases c1:(nm.size:Int)<=left
 rotate_left
 ·have HF:Hid (zL (zaq nm ws to df wg) left=-1):=zC (by unfold zaq;omega)
  go_enter Tryz.func153,Tryz.ntmps153;go_wp2_with fail
  go_ret;exact⟨zo HF.o.symm,bAl _ _⟩
 by_cases c2:(qQ ws:Int)<=left-nm.size
 rotate_left
 ·have HF:Hid (zL (zaq nm ws to df wg) left=-1):=zC (by unfold zaq;omega)
  go_enter Tryz.func153,Tryz.ntmps153
  go_wp2_with (go_at_call 114;refine(zej _ _ _ _ _ (by exact hw.mono (bAl _ _)) (by omega) (by omega) (by omega)).mono ?_;rintro e w1⟨rfl,rfl⟩)
  go_ret;exact⟨zo HF.o.symm,bAl _ _⟩
 by_cases c3:(to.size:Int)<=left-nm.size-qQ ws
 rotate_left
 ·have HF:Hid (zL (zaq nm ws to df wg) left=-1):=zC (by unfold zaq;omega)
  go_enter Tryz.func153,Tryz.ntmps153
  go_wp2_with (go_at_call 114;refine(j6 _ _ _ _ _ (by exact hw.mono (bAl _ _)) (by omega) (by omega) (by omega)).mono ?_;rintro e w1⟨rfl,rfl⟩)
  go_ret;exact⟨zo HF.o.symm,bAl _ _⟩
 by_cases c4:(df.size:Int)<=left-nm.size-qQ ws-to.size
 rotate_left
 ·have HF:Hid (zL (zaq nm ws to df wg) left=-1):=zC (by unfold zaq;omega)
  go_enter Tryz.func153,Tryz.ntmps153
  go_wp2_with (go_at_call 114;refine(j6 _ _ _ _ _ (by exact hw.mono (bAl _ _)) (by omega) (by omega) (by omega)).mono ?_;rintro e w1⟨rfl,rfl⟩)
  go_ret;exact⟨zo HF.o.symm,bAl _ _⟩
 by_cases c5:(wg.size:Int)<=left-nm.size-qQ ws-to.size-df.size
 rotate_left
 ·have HF:Hid (zL (zaq nm ws to df wg) left=-1):=zC (by unfold zaq;omega)
  go_enter Tryz.func153,Tryz.ntmps153
  go_wp2_with (go_at_call 114;refine(j6 _ _ _ _ _ (by exact hw.mono (bAl _ _)) (by omega) (by omega) (by omega)).mono ?_;rintro e w1⟨rfl,rfl⟩)
  go_ret;exact⟨zo HF.o.symm,bAl _ _⟩
 ·have HF:Hid (zL (zaq nm ws to df wg) left=left-nm.size-qQ ws-to.size-df.size-wg.size):=by
   have e:zL (zaq nm ws to df wg) left=left-zaq nm ws to df wg:=zM (by unfold zaq;omega);unfold Hid;rw[e];unfold zaq;omega
  go_enter Tryz.func153,Tryz.ntmps153
  go_wp2_with (go_at_call 114;refine(j6 _ _ _ _ _ (by exact hw.mono (bAl _ _)) (by omega) (by omega) (by omega)).mono ?_;rintro e w1⟨rfl,rfl⟩)
  go_ret;exact⟨zo HF.o.symm,bAl _ _⟩
theorem zdx (a:OA)(cap:Nat)(ws:List BA)(w:World)(hw:zG w a ws)(hl:ws.length<=1048576) :
 Calls Tryz.prog 129 #[.l a ws.length cap] w fun e w'=>e=.returned (.l (some (aD w.heap.size 0)) ws.length ws.length)/\w'=w.alloc (.cells (jT ws) 9):=by
 have hmk:∀w:World,(Instr.makeSlice 105 (.i ws.length) (.i ws.length)).run Tryz.prog w=.ok (.l (some (aD w.heap.size 0)) ws.length ws.length) (w.alloc (.cells (strCells ws 0) 9)):=by
  intro w;have h:=run_make_row' (P:=Tryz.prog) 105 9 (.s ByteArray.empty) 16 Tryz.underlying105 (by kernel_rfl) rfl .i64 .i64 ws.length (by omega) (by omega) w;rw[zkN]at h;exact h
 go_enter Tryz.func129,Tryz.ntmps129
 go_wp2
 clear hmk
 go_loopw [4] (fun i wr=>∃k:Nat,k<=ws.length/\i=.i k/\wr=w.alloc (.cells (strCells ws k) 9)) (fun i _=>ws.length-(intOf i).toNat)
 case atStart=>exact⟨0,Nat.zero_le _,rfl,rfl⟩
 case round=>
  obtain⟨k,hk,rfl,rfl⟩:=hrel
  by_cases hlt:k<ws.length
  ·obtain⟨b,off,rfl,hb,hc⟩:=hw.cells (by rintro rfl;simp at hlt)
   clear hw;have hck:=hc k hlt;have hold:=znx ws k hlt;have HS:=hid (zmn ws k hlt);clear hc
   go_wp2
   go_roundw
   case rel=>exact⟨k+1,by omega,by go_num,by rw[HS.o]⟩
   case measure=>simp[intOf];omega
  ·have HA:=hid (zlS ws k (by omega))
   clear hw
   go_wp2
   go_ret;exact⟨rfl,by rw[HA.o]⟩
theorem zpe (w:World)(o1 o2 o3 o4:Obj):Bw w ((((w.alloc o1).alloc o2).alloc o3).alloc o4):=
 (((bAl _ _).alloc (by simp) _).alloc (by simp;omega) _).alloc (by simp;omega) _
theorem at4 (w:World)(o1 o2 o3 o4:Obj):((((w.alloc o1).alloc o2).alloc o3).alloc o4).heap[w.heap.size+1+1+1]?=some o4:=by
 have h:=MapKept.heap_alloc (((w.alloc o1).alloc o2).alloc o3) o4
 simpa using h.1
theorem ziI (nm:BA)(kd ls ms:Int)(a:OA)(cap:Nat)(ws:List BA)(to:BA)(rl:Int)(mu fx:Bool)(df wg:BA)(w:World)(hw:zG w a ws)(hl:ws.length<=1048576) :
 Calls Tryz.prog 163 #[.agg #[.s nm,.i kd,.i ls,.i ms,.l a ws.length cap,.s to,.i rl,.bool mu,.bool fx,.s df,.s wg]] w
  fun e w'=>∃bk,e=.returned (.agg #[.s nm,.i kd,.i ls,.i ms,.l (some (aD bk 0)) ws.length ws.length,.s to,.i rl,.bool mu,.bool fx,.s df,.s wg]) /\
   w.heap.size<=bk/\bk<w'.heap.size/\w'.heap[bk]?=some (.cells (jT ws) 9)/\Bw w w':=by
 go_enter Tryz.func163,Tryz.ntmps163
 go_wp2_with (go_at_call 129;refine(zdx _ _ _ _ (by exact hw.mono (((bAl _ _).alloc (by simp) _).alloc (by simp;omega) _)) hl).mono ?_;rintro e w'⟨rfl,rfl⟩)
 refine bodyPost_ret (v:=.agg #[.s nm,.i kd,.i ls,.i ms,.l (some (aD (w.heap.size+1+1+1) 0)) ws.length ws.length,.s to,.i rl,.bool mu,.bool fx,.s df,.s wg]) (by simp[results,Tryz.results163,go_sem]) rfl ⟨w.heap.size+1+1+1,rfl,by omega,by simp,at4 _ _ _ _ _,zpe _ _ _ _ _⟩
def within (n lo hi:Int):Bool:=decide (lo<=n)&&decide (n<=hi)
theorem qR (n lo hi:Int)(w:World) :
 Calls Tryz.prog 41 #[.i n,.i lo,.i hi] w fun e w'=>e=.returned (.bool (within n lo hi))/\w'=w:=by
 by_cases h1:lo<=n
 ·by_cases h2:n<=hi
  ·have HF:Hid (within n lo hi=true):=by unfold Hid within;simp[h1,h2]
   go_enter Tryz.func41,Tryz.ntmps41;go_wp2_with fail
   go_ret;exact⟨ze HF.o.symm,rfl⟩
  ·have HF:Hid (within n lo hi=false):=by unfold Hid within;simp[h2]
   go_enter Tryz.func41,Tryz.ntmps41;go_wp2_with fail
   go_ret;exact⟨ze HF.o.symm,rfl⟩
 ·have HF:Hid (within n lo hi=false):=by unfold Hid within;simp[h1]
  go_enter Tryz.func41,Tryz.ntmps41;go_wp2_with fail
  go_ret;exact⟨ze HF.o.symm,rfl⟩
end Go.Proofs.YtcgpjfcocmcodaaGreat
namespace Go.Proofs.YtcgpjfcocmcodaaGreat
open Go.ChangeShapes Go.WideShapes Go.ChangeAt Go.RowKit
theorem Tryz.zeg:Tryz.prog.cellsOf 105=1:=by kernel_rfl
theorem Tryz.zjs:Tryz.prog.cellsOf 197=11:=by kernel_rfl
theorem zoR {H:Type}{enc:TypeId × Value->H}{w:World}{base:Nat}{spare:Nat->Bool}{held:Bool}{fuel:Nat}{cs:List Value}{x:DataW H × List MemPlace}
 (h:DataW.trod enc Tryz.prog w base spare held fuel 197 cs=some x) :
 ∃nm kd ls ms a cap ws to rl mu fx df wg,cs=[.s nm,.i kd,.i ls,.i ms,.l a (List.length ws) cap,.s to,.i rl,.bool mu,.bool fx,.s df,.s wg]/\zG w a ws /\
  nm.size<=maxLen/\to.size<=maxLen/\df.size<=maxLen/\wg.size<=maxLen:=by
 have hlen:cs.length=11:=by
  obtain⟨_,_,_,_,hl,_,_⟩:=DataW.trod_struct Tryz.underlying197 h;rw[hl];exact Tryz.zjs
 match cs,hlen with
 | [c0,c1,c2,c3,c4,c5,c6,c7,c8,c9,c10],_=>
  have hf:=zai Tryz.underlying197 h;obtain⟨_,_,f0⟩:=hf 0 9 0 c0 rfl Tryz.zT rfl;obtain⟨_,_,f1⟩:=hf 1 3 1 c1 rfl Tryz.jX rfl;obtain⟨_,_,f2⟩:=hf 2 3 2 c2 rfl Tryz.jX rfl;obtain⟨_,_,f3⟩:=hf 3 3 3 c3 rfl Tryz.jX rfl;obtain⟨_,_,f4⟩:=hf 4 105 4 c4 rfl Tryz.zeg rfl;obtain⟨_,_,f5⟩:=hf 5 9 5 c5 rfl Tryz.zT rfl;obtain⟨_,_,f6⟩:=hf 6 3 6 c6 rfl Tryz.jX rfl;obtain⟨_,_,f7⟩:=hf 7 4 7 c7 rfl Tryz.zh0 rfl;obtain⟨_,_,f8⟩:=hf 8 4 8 c8 rfl Tryz.zh0 rfl;obtain⟨_,_,f9⟩:=hf 9 9 9 c9 rfl Tryz.zT rfl;obtain⟨_,_,f10⟩:=hf 10 9 10 c10 rfl Tryz.zT rfl;obtain⟨nm,e0,_,s0⟩:=DataW.trod_string Tryz.underlying9 f0;obtain⟨kd,e1,_,_⟩:=DataW.trod_int Tryz.underlying3 f1;obtain⟨ls,e2,_,_⟩:=DataW.trod_int Tryz.underlying3 f2;obtain⟨ms,e3,_,_⟩:=DataW.trod_int Tryz.underlying3 f3;obtain⟨a,cap,ws,e4,hS⟩:=zhO Tryz.underlying105 Tryz.underlying9 Tryz.zT f4;obtain⟨to,e5,_,s5⟩:=DataW.trod_string Tryz.underlying9 f5;obtain⟨rl,e6,_,_⟩:=DataW.trod_int Tryz.underlying3 f6;obtain⟨mu,e7,_⟩:=DataW.trod_bool Tryz.underlying4 f7;obtain⟨fx,e8,_⟩:=DataW.trod_bool Tryz.underlying4 f8;obtain⟨df,e9,_,s9⟩:=DataW.trod_string Tryz.underlying9 f9;obtain⟨wg,e10,_,s10⟩:=DataW.trod_string Tryz.underlying9 f10;simp only[List.cons.injEq,and_true]at e0 e1 e2 e3 e4 e5 e6 e7 e8 e9 e10;subst e0 e1 e2 e3 e4 e5 e6 e7 e8 e9 e10;exact⟨nm,kd,ls,ms,a,cap,ws,to,rl,mu,fx,df,wg,rfl,hS,s0,s5,s9,s10⟩
end Go.Proofs.YtcgpjfcocmcodaaGreat
