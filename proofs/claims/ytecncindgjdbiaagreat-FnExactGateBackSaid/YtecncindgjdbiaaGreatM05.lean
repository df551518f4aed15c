import Derived.Test.YtecncindgjdbiaaGreatM03
import Derived.Test.YtecncindgjdbiaaGreatM04
set_option maxHeartbeats 1000000
namespace Go.Proofs.YtecncindgjdbiaaGreat
open Go.RowKit
structure Mnd where
 kd:BA
 fd:BA
 wh:BA
 wi:BA
 pt:BA
 fr:BA
def Mnd.cells (m:Mnd):AV:=#[.s m.kd,.s m.fd,.s m.wh,.s m.wi,.s m.pt,.s m.fr]
structure Mnd.Small (m:Mnd):Prop where
 kd:m.kd.size<=maxLen
 fd:m.fd.size<=maxLen
 wh:m.wh.size<=maxLen
 wi:m.wi.size<=maxLen
 pt:m.pt.size<=maxLen
 fr:m.fr.size<=maxLen
structure qL (w:World)(a:OA)(ms:List Mnd):Prop where
 len:ms.length<=maxLen
 small:∀i (h:i<ms.length),ms[i].Small
 rows:ms≠[]->∃b off,a=some (aD b off)/\b<w.heap.size/\∀i (h:i<ms.length),∀j,j<6->w.cell? (aD b (off+i*6+j))=ms[i].cells[j]?
theorem qL.mono {w w':World}{a:OA}{ms:List Mnd}(h:qL w a ms)(hl:Bw w w'):qL w' a ms:=
 ⟨h.len,h.small,fun hne=>by
  obtain⟨b,off,ha,hb,hr⟩:=h.rows hne;exact⟨b,off,ha,nLt hb hl.size,fun i hi j hj=>(hl.cell (p:=(aD b (off+i*6+j))) hb).trans (hr i hi j hj)⟩⟩
theorem qL.load {w w':World}{a:OA}{ms:List Mnd}(h:qL w a ms)(hl:Bw w w')(i:Nat)(hi:i<ms.length):∃b off,a=some (aD b off)/\b<w.heap.size /\
 w'.cell? (aD b (off+i*6))=some (.s ms[i].kd)/\w'.cell? (aD b (off+i*6+1))=some (.s ms[i].fd)/\w'.cell? (aD b (off+i*6+2))=some (.s ms[i].wh)/\w'.cell? (aD b (off+i*6+3))=some (.s ms[i].wi)/\w'.cell? (aD b (off+i*6+4))=some (.s ms[i].pt)/\w'.cell? (aD b (off+i*6+5))=some (.s ms[i].fr):=by
 obtain⟨b,off,ha,hb,hr⟩:=h.rows (by rintro rfl;simp at hi);have hc:∀j,j<6->w'.cell? (aD b (off+i*6+j))=ms[i].cells[j]?:=fun j hj=>(hl.cell (p:=(aD b (off+i*6+j))) hb).trans (hr i hi j hj)
 exact⟨b,off,ha,hb,hc 0 (by omega),hc 1 (by omega),hc 2 (by omega),hc 3 (by omega),hc 4 (by omega),hc 5 (by omega)⟩
def qW (s:BA):Int:=if zaj s=true then zgd s else -1
theorem zlb (k:Nat)(h:k<=7):(10:Int) ^ k<=10000000:=by
 have:k=0 \/ k=1 \/ k=2 \/ k=3 \/ k=4 \/ k=5 \/ k=6 \/ k=7:=by omega
 rcases this with h|h|h|h|h|h|h|h <;> subst h <;> decide
theorem zkN (s:BA)(w:World)(h1:1<=s.size)(h7:s.size<=7)(hz:s.size<=1 \/ ¬(s[0].toNat:Int)=48) :
 Calls Tryz.prog 188 #[.s s] w fun e w'=>e=.returned (.i (qW s))/\w'=w:=by
 have HF:Hid (zaj s=za3 s):=zlj s h1 h7 hz
 rcases(show(s.size<=1) \/ (1<s.size/\¬(s[0].toNat:Int)=48) by rcases hz with h|h <;> omega) with hone|⟨hmore,hz0⟩
 all_goals
  clear hz
  try have hz1:((s[0].toNat:Int) == 48)=false:=by simpa using hz0
  try clear hz0
  go_enter Tryz.func188,Tryz.ntmps188
  go_wp2_with (go_at_call 64;refine(zbF _ _ _ _ (by omega) (by omega)).mono ?_;rintro e w'⟨rfl,rfl⟩)
  go_loop [3,4] (fun n i=>∃k:Nat,k<=s.size/\i=.i k/\(s.data.toList.take k).all digit=true/\n=.i (dec (s.data.toList.take k))) (fun _ i=>s.size-(intOf i).toNat)
  case atStart=>exact⟨0,Nat.zero_le _,rfl,rfl,rfl⟩
  case round=>
   obtain⟨k,hk,rfl,hall,rfl⟩:=hrel;have hlen:(s.data.toList.take k).length<=k:=List.length_take_le _ _;obtain⟨hd0,hd1⟩:=zfg _ hall k hlen
   by_cases hlt:k<s.size
   ·have hp:=zlb k (by omega)
    have hd2:dec (s.data.toList.take k)<10000000:=by omega
    clear hp hd1 hlen;have HS:Hid ((s.data.toList.take (k+1)).all digit=(true&&digit s[k])):=by rw[zaP _ s k hlt,hall];rfl
    have HD:Hid (dec (s.data.toList.take (k+1))=dec (s.data.toList.take k)*10+((s[k].toNat:Int)-48)):=by rw[zhm s k hlt];exact zmu _ _
    have HN:Hid (digit s[k]=false->za3 s=false):=fun h=>zb3 digit s k hlt h
    clear hall
    by_cases h48:(s[k].toNat:Int)<48
    ·have HC:Hid (digit s[k]=false):=by simp[digit,Hid];omega
     go_wp2
     go_ret;exact⟨zo (by unfold qW;rw[HF.o,HN.o HC.o];rfl),rfl⟩
    ·by_cases h57:57<(s[k].toNat:Int)
     ·have HC:Hid (digit s[k]=false):=by simp[digit,Hid];omega
      go_wp2
      go_ret;exact⟨zo (by unfold qW;rw[HF.o,HN.o HC.o];rfl),rfl⟩
     ·have HC:Hid (digit s[k]=true):=by simp[digit,Hid];omega
      go_wp2
      go_round
      case rel=>exact⟨k+1,by omega,by go_num,by rw[HS.o,HC.o];rfl,by rw[HD.o];go_num⟩
      case measure=>simp[intOf];omega
   ·have HA:Hid (za3 s=true):=by unfold za3 Hid;rw[<- zao s k (by omega)];exact hall
    have HB:Hid (dec (s.data.toList.take k)=zgd s):=by rw[zao s k (by omega)];rfl
    clear hall hd0 hd1 hlen
    go_wp2
    go_ret;exact⟨zo (by unfold qW;rw[HF.o,HA.o,HB.o];rfl),rfl⟩
theorem zej (s:BA)(w:World)(hs:s.size<=maxLen) :
 Calls Tryz.prog 188 #[.s s] w fun e w'=>e=.returned (.i (qW s))/\w'=w:=by
 unfold maxLen at hs
 by_cases h17:1<=s.size/\s.size<=7
 ·obtain⟨h1,h7⟩:=h17
  by_cases hz:1<s.size/\(s[0].toNat:Int)=48
  ·obtain⟨hm,hz0⟩:=hz
   have HF:Hid (qW s=-1):=by unfold qW Hid;rw[zfH s hm hz0];rfl
   have hz1:((s[0].toNat:Int) == 48)=true:=by simpa using hz0
   clear hz0;go_enter Tryz.func188,Tryz.ntmps188
   go_wp2_with (go_at_call 64;refine(zbF _ _ _ _ (by omega) (by omega)).mono ?_;rintro e w'⟨rfl,rfl⟩)
   go_ret;exact⟨zo HF.o.symm,rfl⟩
  ·exact zkN s w h1 h7 (by omega)
 ·have HF:Hid (qW s=-1):=by unfold qW Hid;rw[zd4 s h17];rfl
  go_enter Tryz.func188,Tryz.ntmps188
  go_wp2_with (go_at_call 64;refine(zdh _ _ _ _ (by omega)).mono ?_;rintro e w'⟨rfl,rfl⟩)
  go_ret;exact⟨zo HF.o.symm,rfl⟩
def within (n lo hi:Int):Bool:=decide (lo<=n)&&decide (n<=hi)
theorem jg (n lo hi:Int)(w:World) :
 Calls Tryz.prog 166 #[.i n,.i lo,.i hi] w fun e w'=>e=.returned (.bool (within n lo hi))/\w'=w:=by
 by_cases h1:lo<=n
 ·by_cases h2:n<=hi
  ·have HF:Hid (within n lo hi=true):=by unfold Hid within;simp[h1,h2]
   go_enter Tryz.func166,Tryz.ntmps166;go_wp2_with fail
   go_ret;exact⟨ze HF.o.symm,rfl⟩
  ·have HF:Hid (within n lo hi=false):=by unfold Hid within;simp[h2]
   go_enter Tryz.func166,Tryz.ntmps166;go_wp2_with fail
   go_ret;exact⟨ze HF.o.symm,rfl⟩
 ·have HF:Hid (within n lo hi=false):=by unfold Hid within;simp[h1]
  go_enter Tryz.func166,Tryz.ntmps166;go_wp2_with fail
  go_ret;exact⟨ze HF.o.symm,rfl⟩
theorem zab (c:UInt8)(w:World) :
 Calls Tryz.prog 151 #[.int .u8 c.toNat] w fun e w'=>e=.returned (.bool (zK c))/\w'=w:=by
 go_enter Tryz.func151,Tryz.ntmps151
 go_wp2
 all_goals
  go_ret;refine⟨ze ?_,rfl⟩;rw[Bool.eq_iff_iff];simp[zK];try omega
end Go.Proofs.YtecncindgjdbiaaGreat
namespace Go.Proofs.YtecncindgjdbiaaGreat
open Go.ChangeShapes Go.WideShapes Go.ChangeAt Go.RowKit
theorem Tryz.zdY:Tryz.prog.cellsOf 106=1:=by kernel_rfl
theorem Tryz.zks:Tryz.prog.cellsOf 192=11:=by kernel_rfl
theorem zoj {H:Type}{enc:TypeId × Value->H}{w:World}{base:Nat}{spare:Nat->Bool}{held:Bool}{fuel:Nat}{cs:List Value}{x:DataW H × List MemPlace}
 (h:DataW.trod enc Tryz.prog w base spare held fuel 192 cs=some x) :
 ∃nm kd ls ms a cap ws to rl mu fx df wg,cs=[.s nm,.i kd,.i ls,.i ms,.l a (List.length ws) cap,.s to,.i rl,.bool mu,.bool fx,.s df,.s wg]/\zF w a ws /\
  nm.size<=maxLen/\to.size<=maxLen/\df.size<=maxLen/\wg.size<=maxLen:=by
 have hlen:cs.length=11:=by
  obtain⟨_,_,_,_,hl,_,_⟩:=DataW.trod_struct Tryz.underlying192 h;rw[hl];exact Tryz.zks
 match cs,hlen with
 | [c0,c1,c2,c3,c4,c5,c6,c7,c8,c9,c10],_=>
  have hf:=zai Tryz.underlying192 h;obtain⟨_,_,f0⟩:=hf 0 9 0 c0 rfl Tryz.zS rfl;obtain⟨_,_,f1⟩:=hf 1 3 1 c1 rfl Tryz.jX rfl;obtain⟨_,_,f2⟩:=hf 2 3 2 c2 rfl Tryz.jX rfl;obtain⟨_,_,f3⟩:=hf 3 3 3 c3 rfl Tryz.jX rfl;obtain⟨_,_,f4⟩:=hf 4 106 4 c4 rfl Tryz.zdY rfl;obtain⟨_,_,f5⟩:=hf 5 9 5 c5 rfl Tryz.zS rfl;obtain⟨_,_,f6⟩:=hf 6 3 6 c6 rfl Tryz.jX rfl;obtain⟨_,_,f7⟩:=hf 7 4 7 c7 rfl Tryz.zhM rfl;obtain⟨_,_,f8⟩:=hf 8 4 8 c8 rfl Tryz.zhM rfl;obtain⟨_,_,f9⟩:=hf 9 9 9 c9 rfl Tryz.zS rfl;obtain⟨_,_,f10⟩:=hf 10 9 10 c10 rfl Tryz.zS rfl;obtain⟨nm,e0,_,s0⟩:=DataW.trod_string Tryz.underlying9 f0;obtain⟨kd,e1,_,_⟩:=DataW.trod_int Tryz.underlying3 f1;obtain⟨ls,e2,_,_⟩:=DataW.trod_int Tryz.underlying3 f2;obtain⟨ms,e3,_,_⟩:=DataW.trod_int Tryz.underlying3 f3;obtain⟨a,cap,ws,e4,hS⟩:=zhK Tryz.underlying106 Tryz.underlying9 Tryz.zS f4;obtain⟨to,e5,_,s5⟩:=DataW.trod_string Tryz.underlying9 f5;obtain⟨rl,e6,_,_⟩:=DataW.trod_int Tryz.underlying3 f6;obtain⟨mu,e7,_⟩:=DataW.trod_bool Tryz.underlying4 f7;obtain⟨fx,e8,_⟩:=DataW.trod_bool Tryz.underlying4 f8;obtain⟨df,e9,_,s9⟩:=DataW.trod_string Tryz.underlying9 f9;obtain⟨wg,e10,_,s10⟩:=DataW.trod_string Tryz.underlying9 f10;simp only[List.cons.injEq,and_true]at e0 e1 e2 e3 e4 e5 e6 e7 e8 e9 e10;subst e0 e1 e2 e3 e4 e5 e6 e7 e8 e9 e10;exact⟨nm,kd,ls,ms,a,cap,ws,to,rl,mu,fx,df,wg,rfl,hS,s0,s5,s9,s10⟩
end Go.Proofs.YtecncindgjdbiaaGreat
namespace Go.Proofs.YtecncindgjdbiaaGreat
open Go.RowKit
def Fld.sz (f:Fld):Nat:=zas f.nm f.ws f.to f.df f.wg
def zhI (fs:List Fld):Nat:=(fs.map Fld.sz).sum
def zaK (fs:List Fld):Nat:=fs.length+zhI fs
def Shp.sz (s:Shp):Nat:=s.kd.size+zaK s.fs
def zhl (ss:List Shp):Nat:=(ss.map Shp.sz).sum
def zaR (ss:List Shp):Nat:=ss.length+zhl ss
theorem ziH (nm:BA)(kd ls ms:Int)(a:OA)(cap:Nat)(ws:List BA)(to:BA)(rl:Int)(mu fx:Bool)(df wg:BA)(left:Int)(w:World)(hw:zF w a ws)(h0:0<=left)(h1:left<=1048576)
 (hnm:nm.size<=maxLen) (hto:to.size<=maxLen) (hdf:df.size<=maxLen) (hwg:wg.size<=maxLen) (h:(zas nm ws to df wg:Int)<=left) :
 Calls Tryz.prog 139 #[.agg #[.s nm,.i kd,.i ls,.i ms,.l a ws.length cap,.s to,.i rl,.bool mu,.bool fx,.s df,.s wg],.i left] w fun e w'=>e=.returned (.i (left-zas nm ws to df wg))/\Bw w w':=by
 refine(zes nm kd ls ms a cap ws to rl mu fx df wg left w hw h0 h1 hnm hto hdf hwg).mono ?_;rintro e w'⟨rfl,hb⟩;exact⟨zo (zM h),hb⟩
theorem zjf (nm:BA)(kd ls ms:Int)(a:OA)(cap:Nat)(ws:List BA)(to:BA)(rl:Int)(mu fx:Bool)(df wg:BA)(left:Int)(w:World)(hw:zF w a ws)(h0:0<=left)(h1:left<=1048576)
 (hnm:nm.size<=maxLen) (hto:to.size<=maxLen) (hdf:df.size<=maxLen) (hwg:wg.size<=maxLen) (h:¬(zas nm ws to df wg:Int)<=left) :
 Calls Tryz.prog 139 #[.agg #[.s nm,.i kd,.i ls,.i ms,.l a ws.length cap,.s to,.i rl,.bool mu,.bool fx,.s df,.s wg],.i left] w fun e w'=>e=.returned (.i (-1))/\Bw w w':=by
 refine(zes nm kd ls ms a cap ws to rl mu fx df wg left w hw h0 h1 hnm hto hdf hwg).mono ?_;rintro e w'⟨rfl,hb⟩;exact⟨zo (zC h),hb⟩
theorem zdS (a:OA)(cap:Nat)(fs:List Fld)(left:Int)(w:World)(hw:yc w a fs)(h0:0<=left)(h1:left<=1048576) :
 Calls Tryz.prog 102 #[.l a fs.length cap,.i left] w fun e w'=>e=.returned (.i (zL (zaK fs) left))/\Bw w w':=by
 have hl:=hw.len;unfold maxLen at hl
 by_cases hfit:(fs.length:Int)<=left
 ·go_enter Tryz.func102,Tryz.ntmps102
  go_wp2_with fail
  go_loopw [1,5] (fun l i wr=>∃k:Nat,k<=fs.length/\i=.i k/\0<=left-fs.length-zhI (fs.take k)/\l=.i (left-fs.length-zhI (fs.take k))/\Bw w wr) (fun _ i _=>fs.length-(intOf i).toNat)
  case atStart=>exact⟨0,Nat.zero_le _,rfl,by simp[zhI];omega,by simp[zhI],bRf _ _⟩
  case round=>
   obtain⟨k,hk,rfl,hpos,rfl,hB⟩:=hrel
   by_cases hlt:k<fs.length
   ·obtain⟨b,off,rfl,hb,hr⟩:=hw.rows (by rintro rfl;simp at hlt)
    obtain⟨wa,wcap,hf0⟩:=hr k hlt;have hf:=hf0.mono hb hB;obtain⟨c0,c1,c2,c3,c4,c5,c6,c7,c8,c9,c10⟩:=hf.load;have hsm:=hf.small;have hst:=hf.strs;have HS:Hid (zhI (fs.take (k+1))=zhI (fs.take k)+fs[k].sz):=za5 Fld.sz fs k hlt;have hle:zhI (fs.take (k+1))<=zhI fs:=zcI Fld.sz fs (k+1);clear hw hr hf0 hf
    by_cases hneg:(zas fs[k].nm fs[k].ws fs[k].to fs[k].df fs[k].wg:Int)<=left-fs.length-zhI (fs.take k)
    ·have HNG:Hid ((zas fs[k].nm fs[k].ws fs[k].to fs[k].df fs[k].wg:Int)<=left-fs.length-zhI (fs.take k)):=hneg
     clear hle;go_wp2_with fail
     refine(ziH _ _ _ _ _ _ _ _ _ _ _ _ _ _ _ hst hpos (by omega) hsm.nm hsm.to hsm.df hsm.wg HNG.o).mono ?_;rintro e w1⟨rfl,hb1⟩;have hB1:=hB.trans (hb1.mono hB.size);clear hb1;go_wp2_with fail
     exact⟨⟨k+1,by omega,by go_num,by rw[HS.o];show 0<=_-((_+zas _ _ _ _ _:Nat):Int);omega,by rw[HS.o];show Value.int _ _=Value.int _ (_-((_+zas _ _ _ _ _:Nat):Int));congr 1;omega,hB1⟩,by simp[intOf];omega⟩
    ·have HF:Hid (zL (zaK fs) left=-1):=zC (by have:=HS.o;unfold zaK;unfold Fld.sz at this;omega)
     have HNG:=hid hneg;clear hneg hle;go_wp2_with fail
     refine(zjf _ _ _ _ _ _ _ _ _ _ _ _ _ _ _ hst hpos (by omega) hsm.nm hsm.to hsm.df hsm.wg (by have:=HNG.o;omega)).mono ?_;rintro e w1⟨rfl,hb1⟩;have hB1:=hB.trans (hb1.mono hB.size);clear hb1;go_wp2_with fail
     go_ret;exact⟨zo HF.o.symm,hB1⟩
   ·have HF:Hid (zL (zaK fs) left=left-fs.length-zhI (fs.take k)):=by
     rw[tOl (by omega)]at hpos ⊢;have e:zL (zaK fs) left=left-zaK fs:=zM (by unfold zaK;omega);unfold Hid;rw[e];unfold zaK;omega
    clear hw
    go_wp2
    go_ret;exact⟨zo HF.o.symm,hB⟩
 ·have HF:Hid (zL (zaK fs) left=-1):=zC (by unfold zaK;omega)
  clear hw;go_enter Tryz.func102,Tryz.ntmps102
  go_wp2
  go_ret;exact⟨zo HF.o.symm,bRf _ _⟩
theorem zht (a:OA)(cap:Nat)(fs:List Fld)(left:Int)(w:World)(hw:yc w a fs)(h0:0<=left)(h1:left<=1048576)(h:(zaK fs:Int)<=left) :
 Calls Tryz.prog 102 #[.l a fs.length cap,.i left] w fun e w'=>e=.returned (.i (left-zaK fs))/\Bw w w':=by
 refine(zdS a cap fs left w hw h0 h1).mono ?_;rintro e w'⟨rfl,hb⟩;exact⟨zo (zM h),hb⟩
theorem ziD (a:OA)(cap:Nat)(fs:List Fld)(left:Int)(w:World)(hw:yc w a fs)(h0:0<=left)(h1:left<=1048576)(h:¬(zaK fs:Int)<=left) :
 Calls Tryz.prog 102 #[.l a fs.length cap,.i left] w fun e w'=>e=.returned (.i (-1))/\Bw w w':=by
 refine(zdS a cap fs left w hw h0 h1).mono ?_;rintro e w'⟨rfl,hb⟩;exact⟨zo (zC h),hb⟩
theorem zez (kd:BA)(a:OA)(cap:Nat)(fs:List Fld)(left:Int)(w:World)(hkd:kd.size<=maxLen)(hw:yc w a fs)(h0:0<=left)(h1:left<=1048576) :
 Calls Tryz.prog 56 #[.agg #[.s kd,.l a fs.length cap],.i left] w fun e w'=>e=.returned (.i (zL (Shp.sz ⟨kd,fs⟩) left))/\Bw w w':=by
 unfold maxLen at hkd
 by_cases c1:(kd.size:Int)<=left
 rotate_left
 ·have HF:Hid (zL (Shp.sz ⟨kd,fs⟩) left=-1):=zC (by unfold Shp.sz;simp only;omega)
  go_enter Tryz.func56,Tryz.ntmps56;go_wp2_with fail
  go_ret;exact⟨zo HF.o.symm,bAl _ _⟩
 by_cases c2:(zaK fs:Int)<=left-kd.size
 ·have HF:Hid (zL (Shp.sz ⟨kd,fs⟩) left=left-kd.size-zaK fs):=by
   have e:zL (Shp.sz ⟨kd,fs⟩) left=left-Shp.sz ⟨kd,fs⟩:=zM (by unfold Shp.sz;simp only;omega);unfold Hid;rw[e];unfold Shp.sz;simp only;omega
  go_enter Tryz.func56,Tryz.ntmps56;go_wp2_with fail
  refine(zht _ _ _ _ _ (hw.mono (bAl _ _)) (by omega) (by omega) (by omega)).mono ?_;rintro e w1⟨rfl,hb1⟩;go_wp2_with fail
  go_ret;exact⟨zo HF.o.symm,(bAl _ _).trans (hb1.mono (by simp))⟩
 ·have HF:Hid (zL (Shp.sz ⟨kd,fs⟩) left=-1):=zC (by unfold Shp.sz;simp only;omega)
  go_enter Tryz.func56,Tryz.ntmps56;go_wp2_with fail
  refine(ziD _ _ _ _ _ (hw.mono (bAl _ _)) (by omega) (by omega) (by omega)).mono ?_;rintro e w1⟨rfl,hb1⟩;go_wp2_with fail
  go_ret;exact⟨zo HF.o.symm,(bAl _ _).trans (hb1.mono (by simp))⟩
theorem ziP (kd:BA)(a:OA)(cap:Nat)(fs:List Fld)(left:Int)(w:World)(hkd:kd.size<=maxLen)(hw:yc w a fs)(h0:0<=left)(h1:left<=1048576)(h:(Shp.sz ⟨kd,fs⟩:Int)<=left) :
 Calls Tryz.prog 56 #[.agg #[.s kd,.l a fs.length cap],.i left] w fun e w'=>e=.returned (.i (left-Shp.sz ⟨kd,fs⟩))/\Bw w w':=by
 refine(zez kd a cap fs left w hkd hw h0 h1).mono ?_;rintro e w'⟨rfl,hb⟩;exact⟨zo (zM h),hb⟩
theorem zj6 (kd:BA)(a:OA)(cap:Nat)(fs:List Fld)(left:Int)(w:World)(hkd:kd.size<=maxLen)(hw:yc w a fs)(h0:0<=left)(h1:left<=1048576)(h:¬(Shp.sz ⟨kd,fs⟩:Int)<=left) :
 Calls Tryz.prog 56 #[.agg #[.s kd,.l a fs.length cap],.i left] w fun e w'=>e=.returned (.i (-1))/\Bw w w':=by
 refine(zez kd a cap fs left w hkd hw h0 h1).mono ?_;rintro e w'⟨rfl,hb⟩;exact⟨zo (zC h),hb⟩
theorem zhn (a:OA)(cap:Nat)(ss:List Shp)(left:Int)(w:World)(hw:yR w a ss)(h0:0<=left)(h1:left<=1048576) :
 Calls Tryz.prog 15 #[.l a ss.length cap,.i left] w fun e w'=>e=.returned (.i (zL (zaR ss) left))/\Bw w w':=by
 have hl:=hw.len;unfold maxLen at hl
 by_cases hfit:(ss.length:Int)<=left
 ·go_enter Tryz.func15,Tryz.ntmps15
  go_wp2_with fail
  go_loopw [1,5] (fun l i wr=>∃k:Nat,k<=ss.length/\i=.i k/\0<=left-ss.length-zhl (ss.take k)/\l=.i (left-ss.length-zhl (ss.take k))/\Bw w wr) (fun _ i _=>ss.length-(intOf i).toNat)
  case atStart=>exact⟨0,Nat.zero_le _,rfl,by simp[zhl];omega,by simp[zhl],bRf _ _⟩
  case round=>
   obtain⟨k,hk,rfl,hpos,rfl,hB⟩:=hrel
   by_cases hlt:k<ss.length
   ·obtain⟨b,off,rfl,hb,hr⟩:=hw.rows (by rintro rfl;simp at hlt)
    obtain⟨fa,fcap,hs0⟩:=hr k hlt;have hs:=hs0.mono hb hB;have hck:=hs.kind;have hcl:=hs.list;have hfl:=hs.zdB;have hsm:=hs.small;have HS:Hid (zhl (ss.take (k+1))=zhl (ss.take k)+Shp.sz ⟨ss[k].kd,ss[k].fs⟩):=za5 Shp.sz ss k hlt;have hle:zhl (ss.take (k+1))<=zhl ss:=zcI Shp.sz ss (k+1);clear hw hr hs0 hs
    by_cases hneg:(Shp.sz ⟨ss[k].kd,ss[k].fs⟩:Int)<=left-ss.length-zhl (ss.take k)
    ·have HNG:Hid ((Shp.sz ⟨ss[k].kd,ss[k].fs⟩:Int)<=left-ss.length-zhl (ss.take k)):=hneg
     clear hle;go_wp2_with fail
     refine(ziP _ _ _ _ _ _ hsm hfl hpos (by omega) HNG.o).mono ?_;rintro e w1⟨rfl,hb1⟩;have hB1:=hB.trans (hb1.mono hB.size);clear hb1;go_wp2_with fail
     exact⟨⟨k+1,by omega,by go_num,by rw[HS.o];omega,by rw[HS.o];congr 1;omega,hB1⟩,by simp[intOf];omega⟩
    ·have HF:Hid (zL (zaR ss) left=-1):=zC (by have:=HS.o;unfold zaR;omega)
     have HNG:=hid hneg;clear hneg hle;go_wp2_with fail
     refine(zj6 _ _ _ _ _ _ hsm hfl hpos (by omega) (by have:=HNG.o;omega)).mono ?_;rintro e w1⟨rfl,hb1⟩;have hB1:=hB.trans (hb1.mono hB.size);clear hb1;go_wp2_with fail
     go_ret;exact⟨zo HF.o.symm,hB1⟩
   ·have HF:Hid (zL (zaR ss) left=left-ss.length-zhl (ss.take k)):=by
     rw[tOl (by omega)]at hpos ⊢;have e:zL (zaR ss) left=left-zaR ss:=zM (by unfold zaR;omega);unfold Hid;rw[e];unfold zaR;omega
    clear hw
    go_wp2
    go_ret;exact⟨zo HF.o.symm,hB⟩
 ·have HF:Hid (zL (zaR ss) left=-1):=zC (by unfold zaR;omega)
  clear hw;go_enter Tryz.func15,Tryz.ntmps15
  go_wp2
  go_ret;exact⟨zo HF.o.symm,bRf _ _⟩
structure zbN (fs:List Fld):Prop where
 small:∀i (h:i<fs.length),fs[i].Small/\fs[i].ws.length<=maxLen/\∀s∈fs[i].ws,s.size<=maxLen
theorem yc.smalls {w:World}{a:OA}{fs:List Fld}(h:yc w a fs):zbN fs:=
 ⟨fun i hi=>by
  obtain⟨b,off,_,_,hr⟩:=h.rows (by rintro rfl;simp at hi);obtain⟨wa,wcap,hf⟩:=hr i hi;exact⟨hf.small,hf.strs.len,hf.strs.small⟩⟩
structure zdF (ss:List Shp):Prop where
 small:∀i (h:i<ss.length),ss[i].kd.size<=maxLen/\ss[i].fs.length<=maxLen/\zbN ss[i].fs
theorem yR.smalls {w:World}{a:OA}{ss:List Shp}(h:yR w a ss):zdF ss:=
 ⟨fun i hi=>by
  obtain⟨b,off,_,_,hr⟩:=h.rows (by rintro rfl;simp at hi);obtain⟨fa,fcap,hs⟩:=hr i hi;exact⟨hs.small,hs.zdB.len,hs.zdB.smalls⟩⟩
end Go.Proofs.YtecncindgjdbiaaGreat
namespace Go.Proofs.YtecncindgjdbiaaGreat
structure Tm where
 nm:BA
 ov:BA
def zbe:Tm:=⟨ByteArray.empty,ByteArray.empty⟩
def yB (ts:List Tm)(v:BA):Bool:=ts.any fun t=>decide (t.nm=v)
def over (ts:List Tm)(v:BA):BA:=((ts.find? fun t=>decide (t.nm=v)).getD zbe).ov
theorem zea (ts:List Tm)(v:BA)(k:Nat)(h:k<ts.length):yB (ts.take (k+1)) v=(yB (ts.take k) v||decide (ts[k].nm=v)):=by
 unfold yB;rw[tSe h,List.any_append];simp
theorem zom (ts:List Tm)(v:BA)(k:Nat)(h:k<ts.length)(e:ts[k].nm=v):yB ts v=true:=by
 unfold yB;rw[List.any_eq_true];exact⟨ts[k],List.getElem_mem h,by simpa using e⟩
theorem zeS (ts:List Tm)(v:BA)(k:Nat)(h:ts.length<=k):yB (ts.take k) v=yB ts v:=by rw[tOl h]
theorem zlD (ts:List Tm)(v:BA)(k:Nat)(h:k<ts.length)(hb:yB (ts.take k) v=false)(e:ts[k].nm=v):over ts v=ts[k].ov:=by
 unfold over
 have hn:(ts.take k).find? (fun s=>decide (s.nm=v))=none:=by
  rw[List.find?_eq_none];intro x hx;unfold yB at hb;rw[List.any_eq_false]at hb;exact hb x hx
 have hf:ts.find? (fun s=>decide (s.nm=v))=some ts[k]:=by
  conv=>lhs;rw[<- List.take_append_drop k ts]
  rw[List.find?_append,hn,List.drop_eq_getElem_cons h,List.find?_cons_of_pos (by simpa using e)];rfl
 rw[hf];rfl
theorem zhE (ts:List Tm)(v:BA)(hb:yB ts v=false):over ts v=ByteArray.empty:=by
 unfold over
 have hn:ts.find? (fun s=>decide (s.nm=v))=none:=by
  rw[List.find?_eq_none];intro x hx;unfold yB at hb;rw[List.any_eq_false]at hb;exact hb x hx
 rw[hn];rfl
def under (ts:List Tm):Nat->BA->BA->Bool
 | 0,a,b=>decide (a=b)
 | n+1,a,b=>decide (a=b)||(decide (¬(over ts a).size=0)&&under ts n (over ts a) b)
theorem zdU (ts:List Tm)(n:Nat)(a b:BA)(h:a=b):under ts n a b=true:=by
 cases n <;> simp[under,h]
theorem zlA (ts:List Tm){a b:BA}(h:¬a=b):under ts 0 a b=false:=by simp[under,h]
theorem zkn (ts:List Tm)(n:Nat){a b:BA}(h:¬a=b)(h0:(over ts a).size=0):under ts (n+1) a b=false:=by simp[under,h,h0]
theorem zmL (ts:List Tm)(n:Nat){a b:BA}(h:¬a=b)(h0:¬(over ts a).size=0):under ts (n+1) a b=under ts n (over ts a) b:=by simp[under,h,h0]
def qE (ts:List Tm)(i:Nat):Bool:=
 zy (ts.getD i zbe).nm&&(decide (i=0)||less (ts.getD (i-1) zbe).nm (ts.getD i zbe).nm)&&((ts.getD i zbe).ov.toList.isEmpty||yB ts (ts.getD i zbe).ov)
def zeZ (ts:List Tm):Nat->BA->BA
 | 0,a=>a
 | n+1,a=>zeZ ts n (over ts a)
def jR (ts:List Tm):Nat->BA->BA
 | 0,a=>a
 | n+1,a=>if a.size=0 then a else jR ts n (over ts a)
def zee (ts:List Tm)(t:Tm):Bool:=decide ((zeZ ts 4 t.ov).size=0)
def zfV (ts:List Tm)(i:Nat):Bool:=zee ts (ts.getD i zbe)
def zdG (ts:List Tm)(i:Nat):Bool:=decide ((jR ts 5 (ts.getD i zbe).nm).size=0)
def zbu (ts:List Tm):Bool:=decide (ts.length<=12)&&(up (qE ts) ts.length&&up (zfV ts) ts.length)
def zbZ (ts:List Tm)(i:Nat):Bool:=qE ts i&&zdG ts i
def zaN (ts:List Tm):Bool:=decide (ts.length<=12)&&up (zbZ ts) ts.length
theorem zcZ {P:Nat->Bool}{n:Nat}:up P n=true↔∀i,i<n->P i=true:=by
 unfold up;rw[List.all_eq_true];simp
theorem zps {ts:List Tm}{i:Nat}(hi:i<ts.length)(h:qE ts i=true):zy ts[i].nm=true:=by
 unfold qE at h;rw[getD_at ts i _ hi]at h;simp only[Bool.and_eq_true]at h;exact h.1.1
theorem zpo {ts:List Tm}{i:Nat}(hi:i+1<ts.length)(h:qE ts (i+1)=true):less ts[i].nm ts[i+1].nm=true:=by
 unfold qE at h;rw[getD_at ts (i+1) _ hi,Nat.add_sub_cancel,getD_at ts i _ (by omega)]at h;simp only[Bool.and_eq_true]at h
 simpa using h.1.2
theorem zof {ts:List Tm}(h:up (qE ts) ts.length=true):∀(j:Nat) (hj:j<ts.length) (i:Nat) (hi:i<j),less (ts[i]'(by omega)).nm ts[j].nm=true:=by
 intro j
 induction j with
 | zero=>intro _ i hi;omega
 | succ j ih=>
  intro hj i hi;have h2:=zpo hj (zhX hj h)
  rcases Nat.lt_or_ge i j with hlt|hge
  ·exact za7 _ _ _ (ih (by omega) i hlt) h2
  ·have e:i=j:=by omega
   subst e;exact h2
theorem over_self {ts:List Tm}(h:up (qE ts) ts.length=true)(i:Nat)(hi:i<ts.length):over ts ts[i].nm=ts[i].ov:=by
 refine zlD ts _ i hi ?_ rfl;unfold yB;rw[List.any_eq_false];intro x hx;obtain⟨k,hk,rfl⟩:=List.mem_iff_getElem.1 hx;have hk':k<i:=by simp at hk;omega
 have h1:=zof h i hi k hk';simp only[List.getElem_take,decide_eq_true_eq];intro e;unfold less at h1;rw[e,zbV]at h1
 cases h1
theorem zn9 {ts:List Tm}(h:up (qE ts) ts.length=true):over ts ByteArray.empty=ByteArray.empty:=by
 apply zhE
 unfold yB;rw[List.any_eq_false];intro x hx;obtain⟨k,hk,rfl⟩:=List.mem_iff_getElem.1 hx;have h1:=zps hk (zhX hk h);simp only[decide_eq_true_eq];intro e;rw[e,zgx _ rfl]at h1
 cases h1
theorem zhV {ts:List Tm}(h:over ts ByteArray.empty=ByteArray.empty):∀n,zeZ ts n ByteArray.empty=ByteArray.empty
 | 0=>rfl
 | n+1=>by unfold zeZ;rw[h];exact zhV h n
theorem zko {ts:List Tm}(h:over ts ByteArray.empty=ByteArray.empty):∀n a,jR ts n a=zeZ ts n a
 | 0,_=>rfl
 | n+1,a=>by
  unfold jR
  by_cases h0:a.size=0
  ·rw[if_pos h0,zdu a h0,zhV h]
  ·rw[if_neg h0,zko h n];rfl
theorem zlz {ts:List Tm}(h:up (qE ts) ts.length=true)(i:Nat)(hi:i<ts.length):zdG ts i=zfV ts i:=by
 unfold zdG zfV zee;rw[getD_at ts i _ hi,zko (zn9 h),show zeZ ts 5 ts[i].nm=zeZ ts 4 (over ts ts[i].nm) from rfl,over_self h i hi]
theorem zlF (ts:List Tm):zbu ts=zaN ts:=by
 unfold zbu zaN
 congr 1
 rw[Bool.eq_iff_iff,Bool.and_eq_true]
 constructor
 ·rintro⟨h1,h2⟩
  rw[zcZ];intro i hi;unfold zbZ;rw[zhX hi h1,zlz h1 i hi,zhX hi h2];rfl
 ·intro h
  rw[zcZ]at h
  have h1:up (qE ts) ts.length=true:=by
   rw[zcZ];intro i hi;have:=h i hi;unfold zbZ at this;rw[Bool.and_eq_true]at this;exact this.1
  refine⟨h1,?_⟩;rw[zcZ];intro i hi;have:=h i hi;unfold zbZ at this;rw[Bool.and_eq_true,zlz h1 i hi]at this;exact this.2
end Go.Proofs.YtecncindgjdbiaaGreat
namespace Go.Proofs.YtecncindgjdbiaaGreat
structure Ob where
 kd:BA
 nm:BA
 tm:BA
 vs:List BA
 en:Bool
 hs:List BA
 vr:Int
abbrev oC (o:Ob)(a a':OA)(c c':Nat):AV:=#[.s o.kd,.s o.nm,.s o.tm,.l a o.vs.length c,.bool o.en,.l a' o.hs.length c',.i o.vr]
abbrev oZ:AV:=#[.s ByteArray.empty,.s ByteArray.empty,.s ByteArray.empty,.l none 0 0,.bool false,.l none 0 0,.i 0]
structure Ob.Small (o:Ob):Prop where
 kd:o.kd.size<=maxLen
 nm:o.nm.size<=maxLen
 tm:o.tm.size<=maxLen
def zaD (f:Fld)(v:BA):Int:=if v.size=0 then (if f.mu then 2 else 0) else if zfx f v then 0 else 3
def zgI (fs:List Fld)(vs:List BA)(i:Nat):Int:=zaD (fs.getD i zbC) (vs.getD i ByteArray.empty)
def za9 (fs:List Fld)(vs:List BA)(i:Nat):Bool:=decide (zgI fs vs i=0)
def jI (fs:List Fld)(vs:List BA):Int × Int:=match (List.range fs.length).find? (fun i=>!za9 fs vs i) with|some i=>(zgI fs vs i,i)|none=>(0,0)
theorem find_range {P:Nat->Bool}{n k:Nat}(hk:k<n)(hu:up P k=true)(hp:P k=false):(List.range n).find? (fun i=>!P i)=some k:=by
 rw[List.find?_eq_some_iff_getElem];refine⟨by simp[hp],k,by simpa using hk,by simp,fun j hj=>?_⟩
 have:=zhX hj hu
 simp[this]
theorem ziw {P:Nat->Bool}{n:Nat}(hu:up P n=true):(List.range n).find? (fun i=>!P i)=none:=by
 rw[List.find?_eq_none];intro x hx
 have:=zhX (List.mem_range.1 hx) hu
 simp[this]
theorem zlk {fs:List Fld}{vs:List BA}{k:Nat}(hk:k<fs.length)(hu:up (za9 fs vs) k=true)(hp:za9 fs vs k=false):jI fs vs=(zgI fs vs k,(k:Int)):=by
 unfold jI;rw[find_range hk hu hp]
theorem zh0 {fs:List Fld}{vs:List BA}(hu:up (za9 fs vs) fs.length=true):jI fs vs=(0,0):=by
 unfold jI;rw[ziw hu]
theorem zjV {fs:List Fld}{vs:List BA}{k:Nat}(h1:k<fs.length)(h2:k<vs.length):zgI fs vs k=zaD fs[k] vs[k]:=by
 unfold zgI;rw[getD_at fs k _ h1,getD_at vs k _ h2]
def qI (o:Ob):Bool:=zy o.nm&&zy o.tm
def qR (o:Ob):Bool:=decide (o.hs.length<=3)&&asc o.hs
def qy (o:Ob):Bool:=decide (0<=o.vr)&&decide (o.vr<=1000000)
def zB (ss:List Shp)(o:Ob):Bool:=zJ ss o.kd&&decide (o.vs.length=(shapeOf ss o.kd).fs.length)
def whole (ss:List Shp)(o:Ob):Bool:=qI o&&qR o&&qy o&&zB ss o
def yC (ss:List Shp)(o:Ob):Int × Int:=if whole ss o=true then jI (shapeOf ss o.kd).fs o.vs else (1,0)
end Go.Proofs.YtecncindgjdbiaaGreat
namespace Go.Proofs.YtecncindgjdbiaaGreat
open Go.RowKit
theorem zat {w:World}{b:Nat}{X:AV}{t:TypeId}(h:w.heap[b]?=some (.cells X t)):∀j,w.cell? (aD b j)=X[j]?:=fun _=>cell_of_block h
theorem zbd {w:World}{b:Nat}{X:AV}{t:TypeId}(h:w.heap[b]?=some (.cells X t)):∀j,w.frozen? (aD b j)=false:=fun _=>zh h
theorem zcG {w w3:World}{b:Nat}{X:AV}{t:TypeId}(HZ:Hid (w.heap[b]?=some (.cells X t)))(hb:Bw w w3):Hid (w3.heap[b]?=some (.cells X t)):=(hb.block b (gES HZ.o).1).trans HZ.o
theorem zdM {w w3:World}{X:AV}{t:TypeId}(hb:Below (w.alloc (.cells X t)).heap.size (w.alloc (.cells X t)) w3):Hid (w3.heap[w.heap.size]?=some (.cells X t)):=(hb.block _ (by simp)).trans (alloc_at _ _)
theorem zbz {w:World}{ob:Obj}{b j:Nat}(h:b<w.heap.size):(w.alloc ob).cell? (aD b j)=w.cell? (aD b j):=World.cell?_alloc_lt _ _ _ h
theorem zba {w:World}{ob:Obj}{b j:Nat}(h:b<w.heap.size):(w.alloc ob).drew.cell? (aD b j)=w.cell? (aD b j):=World.cell?_alloc_lt _ _ _ h
theorem zcF {w w3:World}{X:AV}{t:TypeId}(hb:Below (w.alloc (.cells X t)).drew.heap.size (w.alloc (.cells X t)).drew w3):Hid (w3.heap[w.heap.size]?=some (.cells X t)):=(hb.block _ (by show w.heap.size<(w.alloc (.cells X t)).heap.size;simp)).trans (alloc_at _ _)
theorem zfG {w w3:World}{ob:Obj}(_hb:Below (w.alloc ob).heap.size (w.alloc ob) w3):w.heap.size<(w.alloc ob).heap.size:=by simp
end Go.Proofs.YtecncindgjdbiaaGreat
