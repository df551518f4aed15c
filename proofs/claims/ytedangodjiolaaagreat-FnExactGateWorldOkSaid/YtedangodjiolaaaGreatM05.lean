import Derived.Test.YtedangodjiolaaaGreatM04
set_option maxHeartbeats 1000000
namespace Go.Proofs.YtedangodjiolaaaGreat
open Go.RowKit
structure Mnd where
 kd:BA
 fd:BA
 wh:BA
 wi:BA
 pt:BA
 fr:BA
def Mnd.cells (m:Mnd):AV:=#[.s m.kd,.s m.fd,.s m.wh,.s m.wi,.s m.pt,.s m.fr]
structure Mnd.Small (m:Mnd):Prop where
 kd:m.kd.size<=maxLen
 fd:m.fd.size<=maxLen
 wh:m.wh.size<=maxLen
 wi:m.wi.size<=maxLen
 pt:m.pt.size<=maxLen
 fr:m.fr.size<=maxLen
structure qM (w:World)(a:OA)(ms:List Mnd):Prop where
 len:ms.length<=maxLen
 small:∀i (h:i<ms.length),ms[i].Small
 rows:ms≠[]->∃b off,a=some (aD b off)/\b<w.heap.size/\∀i (h:i<ms.length),∀j,j<6->w.cell? (aD b (off+i*6+j))=ms[i].cells[j]?
theorem qM.mono {w w':World}{a:OA}{ms:List Mnd}(h:qM w a ms)(hl:Bw w w'):qM w' a ms:=
 ⟨h.len,h.small,fun hne=>by
  obtain⟨b,off,ha,hb,hr⟩:=h.rows hne;exact⟨b,off,ha,nLt hb hl.size,fun i hi j hj=>(hl.cell (p:=(aD b (off+i*6+j))) hb).trans (hr i hi j hj)⟩⟩
theorem qM.load {w w':World}{a:OA}{ms:List Mnd}(h:qM w a ms)(hl:Bw w w')(i:Nat)(hi:i<ms.length):∃b off,a=some (aD b off)/\b<w.heap.size /\
 w'.cell? (aD b (off+i*6))=some (.s ms[i].kd)/\w'.cell? (aD b (off+i*6+1))=some (.s ms[i].fd)/\w'.cell? (aD b (off+i*6+2))=some (.s ms[i].wh)/\w'.cell? (aD b (off+i*6+3))=some (.s ms[i].wi)/\w'.cell? (aD b (off+i*6+4))=some (.s ms[i].pt)/\w'.cell? (aD b (off+i*6+5))=some (.s ms[i].fr):=by
 obtain⟨b,off,ha,hb,hr⟩:=h.rows (by rintro rfl;simp at hi);have hc:∀j,j<6->w'.cell? (aD b (off+i*6+j))=ms[i].cells[j]?:=fun j hj=>(hl.cell (p:=(aD b (off+i*6+j))) hb).trans (hr i hi j hj)
 exact⟨b,off,ha,hb,hc 0 (by omega),hc 1 (by omega),hc 2 (by omega),hc 3 (by omega),hc 4 (by omega),hc 5 (by omega)⟩
def within (n lo hi:Int):Bool:=decide (lo<=n)&&decide (n<=hi)
theorem yu (n lo hi:Int)(w:World) :
 Calls Tryz.prog 148 #[.i n,.i lo,.i hi] w fun e w'=>e=.returned (.bool (within n lo hi))/\w'=w:=by
 by_cases h1:lo<=n
 ·by_cases h2:n<=hi
  ·have HF:Hid (within n lo hi=true):=by unfold Hid within;simp[h1,h2]
   go_enter Tryz.func148,Tryz.ntmps148;go_wp2_with fail
   go_ret;exact⟨ze HF.o.symm,rfl⟩
  ·have HF:Hid (within n lo hi=false):=by unfold Hid within;simp[h2]
   go_enter Tryz.func148,Tryz.ntmps148;go_wp2_with fail
   go_ret;exact⟨ze HF.o.symm,rfl⟩
 ·have HF:Hid (within n lo hi=false):=by unfold Hid within;simp[h1]
  go_enter Tryz.func148,Tryz.ntmps148;go_wp2_with fail
  go_ret;exact⟨ze HF.o.symm,rfl⟩
theorem zad (c:UInt8)(w:World) :
 Calls Tryz.prog 89 #[.int .u8 c.toNat] w fun e w'=>e=.returned (.bool (zP c))/\w'=w:=by
 go_enter Tryz.func89,Tryz.ntmps89
 go_wp2
 all_goals
  go_ret;refine⟨ze ?_,rfl⟩;rw[Bool.eq_iff_iff];simp[zP];try omega
def qU (s:BA):Int:=if zan s=true then zfX s else -1
theorem zlb (k:Nat)(h:k<=7):(10:Int) ^ k<=10000000:=by
 have:k=0 \/ k=1 \/ k=2 \/ k=3 \/ k=4 \/ k=5 \/ k=6 \/ k=7:=by omega
 rcases this with h|h|h|h|h|h|h|h <;> subst h <;> decide
theorem zkE (s:BA)(w:World)(h1:1<=s.size)(h7:s.size<=7)(hz:s.size<=1 \/ ¬(s[0].toNat:Int)=48) :
 Calls Tryz.prog 184 #[.s s] w fun e w'=>e=.returned (.i (qU s))/\w'=w:=by
 have HF:Hid (zan s=zbc s):=zk6 s h1 h7 hz
 rcases(show(s.size<=1) \/ (1<s.size/\¬(s[0].toNat:Int)=48) by rcases hz with h|h <;> omega) with hone|⟨hmore,hz0⟩
 all_goals
  clear hz
  try have hz1:((s[0].toNat:Int) == 48)=false:=by simpa using hz0
  try clear hz0
  go_enter Tryz.func184,Tryz.ntmps184
  go_wp2_with (go_at_call 40;refine(zbO _ _ _ _ (by omega) (by omega)).mono ?_;rintro e w'⟨rfl,rfl⟩)
  go_loop [3,4] (fun n i=>∃k:Nat,k<=s.size/\i=.i k/\(s.data.toList.take k).all digit=true/\n=.i (dec (s.data.toList.take k))) (fun _ i=>s.size-(intOf i).toNat)
  case atStart=>exact⟨0,Nat.zero_le _,rfl,rfl,rfl⟩
  case round=>
   obtain⟨k,hk,rfl,hall,rfl⟩:=hrel;have hlen:(s.data.toList.take k).length<=k:=List.length_take_le _ _;obtain⟨hd0,hd1⟩:=zft _ hall k hlen
   by_cases hlt:k<s.size
   ·have hp:=zlb k (by omega)
    have hd2:dec (s.data.toList.take k)<10000000:=by omega
    clear hp hd1 hlen;have HS:Hid ((s.data.toList.take (k+1)).all digit=(true&&digit s[k])):=by rw[za0 _ s k hlt,hall];rfl
    have HD:Hid (dec (s.data.toList.take (k+1))=dec (s.data.toList.take k)*10+((s[k].toNat:Int)-48)):=by rw[zg9 s k hlt];exact znH _ _
    have HN:Hid (digit s[k]=false->zbc s=false):=fun h=>zca digit s k hlt h
    clear hall
    by_cases h48:(s[k].toNat:Int)<48
    ·have HC:Hid (digit s[k]=false):=by simp[digit,Hid];omega
     go_wp2
     go_ret;exact⟨zl (by unfold qU;rw[HF.o,HN.o HC.o];rfl),rfl⟩
    ·by_cases h57:57<(s[k].toNat:Int)
     ·have HC:Hid (digit s[k]=false):=by simp[digit,Hid];omega
      go_wp2
      go_ret;exact⟨zl (by unfold qU;rw[HF.o,HN.o HC.o];rfl),rfl⟩
     ·have HC:Hid (digit s[k]=true):=by simp[digit,Hid];omega
      go_wp2
      go_round
      case rel=>exact⟨k+1,by omega,by go_num,by rw[HS.o,HC.o];rfl,by rw[HD.o];go_num⟩
      case measure=>simp[intOf];omega
   ·have HA:Hid (zbc s=true):=by unfold zbc Hid;rw[<- zaB s k (by omega)];exact hall
    have HB:Hid (dec (s.data.toList.take k)=zfX s):=by rw[zaB s k (by omega)];rfl
    clear hall hd0 hd1 hlen
    go_wp2
    go_ret;exact⟨zl (by unfold qU;rw[HF.o,HA.o,HB.o];rfl),rfl⟩
theorem zd8 (s:BA)(w:World)(hs:s.size<=maxLen) :
 Calls Tryz.prog 184 #[.s s] w fun e w'=>e=.returned (.i (qU s))/\w'=w:=by
 unfold maxLen at hs
 by_cases h17:1<=s.size/\s.size<=7
 ·obtain⟨h1,h7⟩:=h17
  by_cases hz:1<s.size/\(s[0].toNat:Int)=48
  ·obtain⟨hm,hz0⟩:=hz
   have HF:Hid (qU s=-1):=by unfold qU Hid;rw[zfC s hm hz0];rfl
   have hz1:((s[0].toNat:Int) == 48)=true:=by simpa using hz0
   clear hz0;go_enter Tryz.func184,Tryz.ntmps184
   go_wp2_with (go_at_call 40;refine(zbO _ _ _ _ (by omega) (by omega)).mono ?_;rintro e w'⟨rfl,rfl⟩)
   go_ret;exact⟨zl HF.o.symm,rfl⟩
  ·exact zkE s w h1 h7 (by omega)
 ·have HF:Hid (qU s=-1):=by unfold qU Hid;rw[zep s h17];rfl
  go_enter Tryz.func184,Tryz.ntmps184
  go_wp2_with (go_at_call 40;refine(zdm _ _ _ _ (by omega)).mono ?_;rintro e w'⟨rfl,rfl⟩)
  go_ret;exact⟨zl HF.o.symm,rfl⟩
end Go.Proofs.YtedangodjiolaaaGreat
namespace Go.Proofs.YtedangodjiolaaaGreat
open Go.ChangeShapes Go.WideShapes Go.ChangeAt Go.RowKit
theorem Tryz.zbz:Tryz.prog.cellsOf 102=1:=by kernel_rfl
theorem Tryz.zjj:Tryz.prog.cellsOf 194=11:=by kernel_rfl
theorem zoi {H:Type}{enc:TypeId × Value->H}{w:World}{base:Nat}{spare:Nat->Bool}{held:Bool}{fuel:Nat}{cs:List Value}{x:DataW H × List MemPlace}
 (h:DataW.trod enc Tryz.prog w base spare held fuel 194 cs=some x) :
 ∃nm kd ls ms a cap ws to rl mu fx df wg,cs=[.s nm,.i kd,.i ls,.i ms,.l a (List.length ws) cap,.s to,.i rl,.bool mu,.bool fx,.s df,.s wg]/\zK w a ws /\
  nm.size<=maxLen/\to.size<=maxLen/\df.size<=maxLen/\wg.size<=maxLen:=by
 have hlen:cs.length=11:=by
  obtain⟨_,_,_,_,hl,_,_⟩:=DataW.trod_struct Tryz.underlying194 h;rw[hl];exact Tryz.zjj
 match cs,hlen with
 | [c0,c1,c2,c3,c4,c5,c6,c7,c8,c9,c10],_=>
  have hf:=jd Tryz.underlying194 h;obtain⟨_,_,f0⟩:=hf 0 9 0 c0 rfl Tryz.zL rfl;obtain⟨_,_,f1⟩:=hf 1 3 1 c1 rfl Tryz.qY rfl;obtain⟨_,_,f2⟩:=hf 2 3 2 c2 rfl Tryz.qY rfl;obtain⟨_,_,f3⟩:=hf 3 3 3 c3 rfl Tryz.qY rfl;obtain⟨_,_,f4⟩:=hf 4 102 4 c4 rfl Tryz.zbz rfl;obtain⟨_,_,f5⟩:=hf 5 9 5 c5 rfl Tryz.zL rfl;obtain⟨_,_,f6⟩:=hf 6 3 6 c6 rfl Tryz.qY rfl;obtain⟨_,_,f7⟩:=hf 7 4 7 c7 rfl Tryz.zfk rfl;obtain⟨_,_,f8⟩:=hf 8 4 8 c8 rfl Tryz.zfk rfl;obtain⟨_,_,f9⟩:=hf 9 9 9 c9 rfl Tryz.zL rfl;obtain⟨_,_,f10⟩:=hf 10 9 10 c10 rfl Tryz.zL rfl;obtain⟨nm,e0,_,s0⟩:=DataW.trod_string Tryz.underlying9 f0;obtain⟨kd,e1,_,_⟩:=DataW.trod_int Tryz.underlying3 f1;obtain⟨ls,e2,_,_⟩:=DataW.trod_int Tryz.underlying3 f2;obtain⟨ms,e3,_,_⟩:=DataW.trod_int Tryz.underlying3 f3;obtain⟨a,cap,ws,e4,hS⟩:=zd0 Tryz.underlying102 Tryz.underlying9 Tryz.zL f4;obtain⟨to,e5,_,s5⟩:=DataW.trod_string Tryz.underlying9 f5;obtain⟨rl,e6,_,_⟩:=DataW.trod_int Tryz.underlying3 f6;obtain⟨mu,e7,_⟩:=DataW.trod_bool Tryz.underlying4 f7;obtain⟨fx,e8,_⟩:=DataW.trod_bool Tryz.underlying4 f8;obtain⟨df,e9,_,s9⟩:=DataW.trod_string Tryz.underlying9 f9;obtain⟨wg,e10,_,s10⟩:=DataW.trod_string Tryz.underlying9 f10;simp only[List.cons.injEq,and_true]at e0 e1 e2 e3 e4 e5 e6 e7 e8 e9 e10;subst e0 e1 e2 e3 e4 e5 e6 e7 e8 e9 e10;exact⟨nm,kd,ls,ms,a,cap,ws,to,rl,mu,fx,df,wg,rfl,hS,s0,s5,s9,s10⟩
end Go.Proofs.YtedangodjiolaaaGreat
namespace Go.Proofs.YtedangodjiolaaaGreat
open Go.RowKit
def Fld.sz (f:Fld):Nat:=zaC f.nm f.ws f.to f.df f.wg
def zg3 (fs:List Fld):Nat:=(fs.map Fld.sz).sum
def zaP (fs:List Fld):Nat:=fs.length+zg3 fs
def Shp.sz (s:Shp):Nat:=s.kd.size+zaP s.fs
def zg4 (ss:List Shp):Nat:=(ss.map Shp.sz).sum
def zaW (ss:List Shp):Nat:=ss.length+zg4 ss
theorem zir (nm:BA)(kd ls ms:Int)(a:OA)(cap:Nat)(ws:List BA)(to:BA)(rl:Int)(mu fx:Bool)(df wg:BA)(left:Int)(w:World)(hw:zK w a ws)(h0:0<=left)(h1:left<=1048576)
 (hnm:nm.size<=maxLen) (hto:to.size<=maxLen) (hdf:df.size<=maxLen) (hwg:wg.size<=maxLen) (h:(zaC nm ws to df wg:Int)<=left) :
 Calls Tryz.prog 117 #[.agg #[.s nm,.i kd,.i ls,.i ms,.l a ws.length cap,.s to,.i rl,.bool mu,.bool fx,.s df,.s wg],.i left] w fun e w'=>e=.returned (.i (left-zaC nm ws to df wg))/\Bw w w':=by
 refine(zeB nm kd ls ms a cap ws to rl mu fx df wg left w hw h0 h1 hnm hto hdf hwg).mono ?_;rintro e w'⟨rfl,hb⟩;exact⟨zl (zF h),hb⟩
theorem zkh (nm:BA)(kd ls ms:Int)(a:OA)(cap:Nat)(ws:List BA)(to:BA)(rl:Int)(mu fx:Bool)(df wg:BA)(left:Int)(w:World)(hw:zK w a ws)(h0:0<=left)(h1:left<=1048576)
 (hnm:nm.size<=maxLen) (hto:to.size<=maxLen) (hdf:df.size<=maxLen) (hwg:wg.size<=maxLen) (h:¬(zaC nm ws to df wg:Int)<=left) :
 Calls Tryz.prog 117 #[.agg #[.s nm,.i kd,.i ls,.i ms,.l a ws.length cap,.s to,.i rl,.bool mu,.bool fx,.s df,.s wg],.i left] w fun e w'=>e=.returned (.i (-1))/\Bw w w':=by
 refine(zeB nm kd ls ms a cap ws to rl mu fx df wg left w hw h0 h1 hnm hto hdf hwg).mono ?_;rintro e w'⟨rfl,hb⟩;exact⟨zl (zq h),hb⟩
theorem zdN (a:OA)(cap:Nat)(fs:List Fld)(left:Int)(w:World)(hw:yh w a fs)(h0:0<=left)(h1:left<=1048576) :
 Calls Tryz.prog 69 #[.l a fs.length cap,.i left] w fun e w'=>e=.returned (.i (zD (zaP fs) left))/\Bw w w':=by
 have hl:=hw.len;unfold maxLen at hl
 by_cases hfit:(fs.length:Int)<=left
 ·go_enter Tryz.func69,Tryz.ntmps69
  go_wp2_with fail
  go_loopw [1,5] (fun l i wr=>∃k:Nat,k<=fs.length/\i=.i k/\0<=left-fs.length-zg3 (fs.take k)/\l=.i (left-fs.length-zg3 (fs.take k))/\Bw w wr) (fun _ i _=>fs.length-(intOf i).toNat)
  case atStart=>exact⟨0,Nat.zero_le _,rfl,by simp[zg3];omega,by simp[zg3],bRf _ _⟩
  case round=>
   obtain⟨k,hk,rfl,hpos,rfl,hB⟩:=hrel
   by_cases hlt:k<fs.length
   ·obtain⟨b,off,rfl,hb,hr⟩:=hw.rows (by rintro rfl;simp at hlt)
    obtain⟨wa,wcap,hf0⟩:=hr k hlt;have hf:=hf0.mono hb hB;obtain⟨c0,c1,c2,c3,c4,c5,c6,c7,c8,c9,c10⟩:=hf.load;have hsm:=hf.small;have hst:=hf.strs;have HS:Hid (zg3 (fs.take (k+1))=zg3 (fs.take k)+fs[k].sz):=zal Fld.sz fs k hlt;have hle:zg3 (fs.take (k+1))<=zg3 fs:=zbD Fld.sz fs (k+1);clear hw hr hf0 hf
    by_cases hneg:(zaC fs[k].nm fs[k].ws fs[k].to fs[k].df fs[k].wg:Int)<=left-fs.length-zg3 (fs.take k)
    ·have HNG:Hid ((zaC fs[k].nm fs[k].ws fs[k].to fs[k].df fs[k].wg:Int)<=left-fs.length-zg3 (fs.take k)):=hneg
     clear hle;go_wp2_with fail
     refine(zir _ _ _ _ _ _ _ _ _ _ _ _ _ _ _ hst hpos (by omega) hsm.nm hsm.to hsm.df hsm.wg HNG.o).mono ?_;rintro e w1⟨rfl,hb1⟩;have hB1:=hB.trans (hb1.mono hB.size);clear hb1;go_wp2_with fail
     exact⟨⟨k+1,by omega,by go_num,by rw[HS.o];show 0<=_-((_+zaC _ _ _ _ _:Nat):Int);omega,by rw[HS.o];show Value.int _ _=Value.int _ (_-((_+zaC _ _ _ _ _:Nat):Int));congr 1;omega,hB1⟩,by simp[intOf];omega⟩
    ·have HF:Hid (zD (zaP fs) left=-1):=zq (by have:=HS.o;unfold zaP;unfold Fld.sz at this;omega)
     have HNG:=hid hneg;clear hneg hle;go_wp2_with fail
     refine(zkh _ _ _ _ _ _ _ _ _ _ _ _ _ _ _ hst hpos (by omega) hsm.nm hsm.to hsm.df hsm.wg (by have:=HNG.o;omega)).mono ?_;rintro e w1⟨rfl,hb1⟩;have hB1:=hB.trans (hb1.mono hB.size);clear hb1;go_wp2_with fail
     go_ret;exact⟨zl HF.o.symm,hB1⟩
   ·have HF:Hid (zD (zaP fs) left=left-fs.length-zg3 (fs.take k)):=by
     rw[tOl (by omega)]at hpos ⊢;have e:zD (zaP fs) left=left-zaP fs:=zF (by unfold zaP;omega);unfold Hid;rw[e];unfold zaP;omega
    clear hw
    go_wp2
    go_ret;exact⟨zl HF.o.symm,hB⟩
 ·have HF:Hid (zD (zaP fs) left=-1):=zq (by unfold zaP;omega)
  clear hw;go_enter Tryz.func69,Tryz.ntmps69
  go_wp2
  go_ret;exact⟨zl HF.o.symm,bRf _ _⟩
theorem zhl (a:OA)(cap:Nat)(fs:List Fld)(left:Int)(w:World)(hw:yh w a fs)(h0:0<=left)(h1:left<=1048576)(h:(zaP fs:Int)<=left) :
 Calls Tryz.prog 69 #[.l a fs.length cap,.i left] w fun e w'=>e=.returned (.i (left-zaP fs))/\Bw w w':=by
 refine(zdN a cap fs left w hw h0 h1).mono ?_;rintro e w'⟨rfl,hb⟩;exact⟨zl (zF h),hb⟩
theorem zie (a:OA)(cap:Nat)(fs:List Fld)(left:Int)(w:World)(hw:yh w a fs)(h0:0<=left)(h1:left<=1048576)(h:¬(zaP fs:Int)<=left) :
 Calls Tryz.prog 69 #[.l a fs.length cap,.i left] w fun e w'=>e=.returned (.i (-1))/\Bw w w':=by
 refine(zdN a cap fs left w hw h0 h1).mono ?_;rintro e w'⟨rfl,hb⟩;exact⟨zl (zq h),hb⟩
theorem zeu (kd:BA)(a:OA)(cap:Nat)(fs:List Fld)(left:Int)(w:World)(hkd:kd.size<=maxLen)(hw:yh w a fs)(h0:0<=left)(h1:left<=1048576) :
 Calls Tryz.prog 31 #[.agg #[.s kd,.l a fs.length cap],.i left] w fun e w'=>e=.returned (.i (zD (Shp.sz ⟨kd,fs⟩) left))/\Bw w w':=by
 unfold maxLen at hkd
 by_cases c1:(kd.size:Int)<=left
 rotate_left
 ·have HF:Hid (zD (Shp.sz ⟨kd,fs⟩) left=-1):=zq (by unfold Shp.sz;simp only;omega)
  go_enter Tryz.func31,Tryz.ntmps31;go_wp2_with fail
  go_ret;exact⟨zl HF.o.symm,bAl _ _⟩
 by_cases c2:(zaP fs:Int)<=left-kd.size
 ·have HF:Hid (zD (Shp.sz ⟨kd,fs⟩) left=left-kd.size-zaP fs):=by
   have e:zD (Shp.sz ⟨kd,fs⟩) left=left-Shp.sz ⟨kd,fs⟩:=zF (by unfold Shp.sz;simp only;omega);unfold Hid;rw[e];unfold Shp.sz;simp only;omega
  go_enter Tryz.func31,Tryz.ntmps31;go_wp2_with fail
  refine(zhl _ _ _ _ _ (hw.mono (bAl _ _)) (by omega) (by omega) (by omega)).mono ?_;rintro e w1⟨rfl,hb1⟩;go_wp2_with fail
  go_ret;exact⟨zl HF.o.symm,(bAl _ _).trans (hb1.mono (by simp))⟩
 ·have HF:Hid (zD (Shp.sz ⟨kd,fs⟩) left=-1):=zq (by unfold Shp.sz;simp only;omega)
  go_enter Tryz.func31,Tryz.ntmps31;go_wp2_with fail
  refine(zie _ _ _ _ _ (hw.mono (bAl _ _)) (by omega) (by omega) (by omega)).mono ?_;rintro e w1⟨rfl,hb1⟩;go_wp2_with fail
  go_ret;exact⟨zl HF.o.symm,(bAl _ _).trans (hb1.mono (by simp))⟩
theorem ziN (kd:BA)(a:OA)(cap:Nat)(fs:List Fld)(left:Int)(w:World)(hkd:kd.size<=maxLen)(hw:yh w a fs)(h0:0<=left)(h1:left<=1048576)(h:(Shp.sz ⟨kd,fs⟩:Int)<=left) :
 Calls Tryz.prog 31 #[.agg #[.s kd,.l a fs.length cap],.i left] w fun e w'=>e=.returned (.i (left-Shp.sz ⟨kd,fs⟩))/\Bw w w':=by
 refine(zeu kd a cap fs left w hkd hw h0 h1).mono ?_;rintro e w'⟨rfl,hb⟩;exact⟨zl (zF h),hb⟩
theorem zj1 (kd:BA)(a:OA)(cap:Nat)(fs:List Fld)(left:Int)(w:World)(hkd:kd.size<=maxLen)(hw:yh w a fs)(h0:0<=left)(h1:left<=1048576)(h:¬(Shp.sz ⟨kd,fs⟩:Int)<=left) :
 Calls Tryz.prog 31 #[.agg #[.s kd,.l a fs.length cap],.i left] w fun e w'=>e=.returned (.i (-1))/\Bw w w':=by
 refine(zeu kd a cap fs left w hkd hw h0 h1).mono ?_;rintro e w'⟨rfl,hb⟩;exact⟨zl (zq h),hb⟩
theorem zgU (a:OA)(cap:Nat)(ss:List Shp)(left:Int)(w:World)(hw:yM w a ss)(h0:0<=left)(h1:left<=1048576) :
 Calls Tryz.prog 12 #[.l a ss.length cap,.i left] w fun e w'=>e=.returned (.i (zD (zaW ss) left))/\Bw w w':=by
 have hl:=hw.len;unfold maxLen at hl
 by_cases hfit:(ss.length:Int)<=left
 ·go_enter Tryz.func12,Tryz.ntmps12
  go_wp2_with fail
  go_loopw [1,5] (fun l i wr=>∃k:Nat,k<=ss.length/\i=.i k/\0<=left-ss.length-zg4 (ss.take k)/\l=.i (left-ss.length-zg4 (ss.take k))/\Bw w wr) (fun _ i _=>ss.length-(intOf i).toNat)
  case atStart=>exact⟨0,Nat.zero_le _,rfl,by simp[zg4];omega,by simp[zg4],bRf _ _⟩
  case round=>
   obtain⟨k,hk,rfl,hpos,rfl,hB⟩:=hrel
   by_cases hlt:k<ss.length
   ·obtain⟨b,off,rfl,hb,hr⟩:=hw.rows (by rintro rfl;simp at hlt)
    obtain⟨fa,fcap,hs0⟩:=hr k hlt;have hs:=hs0.mono hb hB;have hck:=hs.kind;have hcl:=hs.list;have hfl:=hs.flds;have hsm:=hs.small;have HS:Hid (zg4 (ss.take (k+1))=zg4 (ss.take k)+Shp.sz ⟨ss[k].kd,ss[k].fs⟩):=zal Shp.sz ss k hlt;have hle:zg4 (ss.take (k+1))<=zg4 ss:=zbD Shp.sz ss (k+1);clear hw hr hs0 hs
    by_cases hneg:(Shp.sz ⟨ss[k].kd,ss[k].fs⟩:Int)<=left-ss.length-zg4 (ss.take k)
    ·have HNG:Hid ((Shp.sz ⟨ss[k].kd,ss[k].fs⟩:Int)<=left-ss.length-zg4 (ss.take k)):=hneg
     clear hle;go_wp2_with fail
     refine(ziN _ _ _ _ _ _ hsm hfl hpos (by omega) HNG.o).mono ?_;rintro e w1⟨rfl,hb1⟩;have hB1:=hB.trans (hb1.mono hB.size);clear hb1;go_wp2_with fail
     exact⟨⟨k+1,by omega,by go_num,by rw[HS.o];omega,by rw[HS.o];congr 1;omega,hB1⟩,by simp[intOf];omega⟩
    ·have HF:Hid (zD (zaW ss) left=-1):=zq (by have:=HS.o;unfold zaW;omega)
     have HNG:=hid hneg;clear hneg hle;go_wp2_with fail
     refine(zj1 _ _ _ _ _ _ hsm hfl hpos (by omega) (by have:=HNG.o;omega)).mono ?_;rintro e w1⟨rfl,hb1⟩;have hB1:=hB.trans (hb1.mono hB.size);clear hb1;go_wp2_with fail
     go_ret;exact⟨zl HF.o.symm,hB1⟩
   ·have HF:Hid (zD (zaW ss) left=left-ss.length-zg4 (ss.take k)):=by
     rw[tOl (by omega)]at hpos ⊢;have e:zD (zaW ss) left=left-zaW ss:=zF (by unfold zaW;omega);unfold Hid;rw[e];unfold zaW;omega
    clear hw
    go_wp2
    go_ret;exact⟨zl HF.o.symm,hB⟩
 ·have HF:Hid (zD (zaW ss) left=-1):=zq (by unfold zaW;omega)
  clear hw;go_enter Tryz.func12,Tryz.ntmps12
  go_wp2
  go_ret;exact⟨zl HF.o.symm,bRf _ _⟩
structure zbX (fs:List Fld):Prop where
 small:∀i (h:i<fs.length),fs[i].Small/\fs[i].ws.length<=maxLen/\∀s∈fs[i].ws,s.size<=maxLen
theorem yh.smalls {w:World}{a:OA}{fs:List Fld}(h:yh w a fs):zbX fs:=
 ⟨fun i hi=>by
  obtain⟨b,off,_,_,hr⟩:=h.rows (by rintro rfl;simp at hi);obtain⟨wa,wcap,hf⟩:=hr i hi;exact⟨hf.small,hf.strs.len,hf.strs.small⟩⟩
structure zdP (ss:List Shp):Prop where
 small:∀i (h:i<ss.length),ss[i].kd.size<=maxLen/\ss[i].fs.length<=maxLen/\zbX ss[i].fs
theorem yM.smalls {w:World}{a:OA}{ss:List Shp}(h:yM w a ss):zdP ss:=
 ⟨fun i hi=>by
  obtain⟨b,off,_,_,hr⟩:=h.rows (by rintro rfl;simp at hi);obtain⟨fa,fcap,hs⟩:=hr i hi;exact⟨hs.small,hs.flds.len,hs.flds.smalls⟩⟩
end Go.Proofs.YtedangodjiolaaaGreat
namespace Go.Proofs.YtedangodjiolaaaGreat
structure Tm where
 nm:BA
 ov:BA
def zbs:Tm:=⟨ByteArray.empty,ByteArray.empty⟩
def yg (ts:List Tm)(v:BA):Bool:=ts.any fun t=>decide (t.nm=v)
def over (ts:List Tm)(v:BA):BA:=((ts.find? fun t=>decide (t.nm=v)).getD zbs).ov
theorem zd5 (ts:List Tm)(v:BA)(k:Nat)(h:k<ts.length):yg (ts.take (k+1)) v=(yg (ts.take k) v||decide (ts[k].nm=v)):=by
 unfold yg;rw[tSe h,List.any_append];simp
theorem zn9 (ts:List Tm)(v:BA)(k:Nat)(h:k<ts.length)(e:ts[k].nm=v):yg ts v=true:=by
 unfold yg;rw[List.any_eq_true];exact⟨ts[k],List.getElem_mem h,by simpa using e⟩
theorem ze3 (ts:List Tm)(v:BA)(k:Nat)(h:ts.length<=k):yg (ts.take k) v=yg ts v:=by rw[tOl h]
theorem zlD (ts:List Tm)(v:BA)(k:Nat)(h:k<ts.length)(hb:yg (ts.take k) v=false)(e:ts[k].nm=v):over ts v=ts[k].ov:=by
 unfold over
 have hn:(ts.take k).find? (fun s=>decide (s.nm=v))=none:=by
  rw[List.find?_eq_none];intro x hx;unfold yg at hb;rw[List.any_eq_false]at hb;exact hb x hx
 have hf:ts.find? (fun s=>decide (s.nm=v))=some ts[k]:=by
  conv=>lhs;rw[<- List.take_append_drop k ts]
  rw[List.find?_append,hn,List.drop_eq_getElem_cons h,List.find?_cons_of_pos (by simpa using e)];rfl
 rw[hf];rfl
theorem zhs (ts:List Tm)(v:BA)(hb:yg ts v=false):over ts v=ByteArray.empty:=by
 unfold over
 have hn:ts.find? (fun s=>decide (s.nm=v))=none:=by
  rw[List.find?_eq_none];intro x hx;unfold yg at hb;rw[List.any_eq_false]at hb;exact hb x hx
 rw[hn];rfl
def under (ts:List Tm):Nat->BA->BA->Bool
 | 0,a,b=>decide (a=b)
 | n+1,a,b=>decide (a=b)||(decide (¬(over ts a).size=0)&&under ts n (over ts a) b)
theorem zd3 (ts:List Tm)(n:Nat)(a b:BA)(h:a=b):under ts n a b=true:=by
 cases n <;> simp[under,h]
theorem zk9 (ts:List Tm){a b:BA}(h:¬a=b):under ts 0 a b=false:=by simp[under,h]
theorem zi5 (ts:List Tm)(n:Nat){a b:BA}(h:¬a=b)(h0:(over ts a).size=0):under ts (n+1) a b=false:=by simp[under,h,h0]
theorem znr (ts:List Tm)(n:Nat){a b:BA}(h:¬a=b)(h0:¬(over ts a).size=0):under ts (n+1) a b=under ts n (over ts a) b:=by simp[under,h,h0]
def qF (ts:List Tm)(i:Nat):Bool:=
 zk (ts.getD i zbs).nm&&(decide (i=0)||less (ts.getD (i-1) zbs).nm (ts.getD i zbs).nm)&&((ts.getD i zbs).ov.toList.isEmpty||yg ts (ts.getD i zbs).ov)
def zeK (ts:List Tm):Nat->BA->BA
 | 0,a=>a
 | n+1,a=>zeK ts n (over ts a)
def jZ (ts:List Tm):Nat->BA->BA
 | 0,a=>a
 | n+1,a=>if a.size=0 then a else jZ ts n (over ts a)
def zeg (ts:List Tm)(t:Tm):Bool:=decide ((zeK ts 4 t.ov).size=0)
def zfO (ts:List Tm)(i:Nat):Bool:=zeg ts (ts.getD i zbs)
def zdO (ts:List Tm)(i:Nat):Bool:=decide ((jZ ts 5 (ts.getD i zbs).nm).size=0)
def zbB (ts:List Tm):Bool:=decide (ts.length<=12)&&(up (qF ts) ts.length&&up (zfO ts) ts.length)
def zb9 (ts:List Tm)(i:Nat):Bool:=qF ts i&&zdO ts i
def zaZ (ts:List Tm):Bool:=decide (ts.length<=12)&&up (zb9 ts) ts.length
theorem zcI {P:Nat->Bool}{n:Nat}:up P n=true↔∀i,i<n->P i=true:=by
 unfold up;rw[List.all_eq_true];simp
theorem zpC {ts:List Tm}{i:Nat}(hi:i<ts.length)(h:qF ts i=true):zk ts[i].nm=true:=by
 unfold qF at h;rw[getD_at ts i _ hi]at h;simp only[Bool.and_eq_true]at h;exact h.1.1
theorem zpD {ts:List Tm}{i:Nat}(hi:i+1<ts.length)(h:qF ts (i+1)=true):less ts[i].nm ts[i+1].nm=true:=by
 unfold qF at h;rw[getD_at ts (i+1) _ hi,Nat.add_sub_cancel,getD_at ts i _ (by omega)]at h;simp only[Bool.and_eq_true]at h
 simpa using h.1.2
theorem zoI {ts:List Tm}(h:up (qF ts) ts.length=true):∀(j:Nat) (hj:j<ts.length) (i:Nat) (hi:i<j),less (ts[i]'(by omega)).nm ts[j].nm=true:=by
 intro j
 induction j with
 | zero=>intro _ i hi;omega
 | succ j ih=>
  intro hj i hi;have h2:=zpD hj (zhS hj h)
  rcases Nat.lt_or_ge i j with hlt|hge
  ·exact zbh _ _ _ (ih (by omega) i hlt) h2
  ·have e:i=j:=by omega
   subst e;exact h2
theorem over_self {ts:List Tm}(h:up (qF ts) ts.length=true)(i:Nat)(hi:i<ts.length):over ts ts[i].nm=ts[i].ov:=by
 refine zlD ts _ i hi ?_ rfl;unfold yg;rw[List.any_eq_false];intro x hx;obtain⟨k,hk,rfl⟩:=List.mem_iff_getElem.1 hx;have hk':k<i:=by simp at hk;omega
 have h1:=zoI h i hi k hk';simp only[List.getElem_take,decide_eq_true_eq];intro e;unfold less at h1;rw[e,zbY]at h1
 cases h1
theorem znX {ts:List Tm}(h:up (qF ts) ts.length=true):over ts ByteArray.empty=ByteArray.empty:=by
 apply zhs
 unfold yg;rw[List.any_eq_false];intro x hx;obtain⟨k,hk,rfl⟩:=List.mem_iff_getElem.1 hx;have h1:=zpC hk (zhS hk h);simp only[decide_eq_true_eq];intro e;rw[e,zgg _ rfl]at h1
 cases h1
theorem zhZ {ts:List Tm}(h:over ts ByteArray.empty=ByteArray.empty):∀n,zeK ts n ByteArray.empty=ByteArray.empty
 | 0=>rfl
 | n+1=>by unfold zeK;rw[h];exact zhZ h n
theorem zju {ts:List Tm}(h:over ts ByteArray.empty=ByteArray.empty):∀n a,jZ ts n a=zeK ts n a
 | 0,_=>rfl
 | n+1,a=>by
  unfold jZ
  by_cases h0:a.size=0
  ·rw[if_pos h0,zdp a h0,zhZ h]
  ·rw[if_neg h0,zju h n];rfl
theorem zlv {ts:List Tm}(h:up (qF ts) ts.length=true)(i:Nat)(hi:i<ts.length):zdO ts i=zfO ts i:=by
 unfold zdO zfO zeg;rw[getD_at ts i _ hi,zju (znX h),show zeK ts 5 ts[i].nm=zeK ts 4 (over ts ts[i].nm) from rfl,over_self h i hi]
theorem zl2 (ts:List Tm):zbB ts=zaZ ts:=by
 unfold zbB zaZ
 congr 1
 rw[Bool.eq_iff_iff,Bool.and_eq_true]
 constructor
 ·rintro⟨h1,h2⟩
  rw[zcI];intro i hi;unfold zb9;rw[zhS hi h1,zlv h1 i hi,zhS hi h2];rfl
 ·intro h
  rw[zcI]at h
  have h1:up (qF ts) ts.length=true:=by
   rw[zcI];intro i hi;have:=h i hi;unfold zb9 at this;rw[Bool.and_eq_true]at this;exact this.1
  refine⟨h1,?_⟩;rw[zcI];intro i hi;have:=h i hi;unfold zb9 at this;rw[Bool.and_eq_true,zlv h1 i hi]at this;exact this.2
end Go.Proofs.YtedangodjiolaaaGreat
namespace Go.Proofs.YtedangodjiolaaaGreat
open Go.RowKit
theorem Tryz.zcT:(Tryz.prog.info? 9).map (fun i=>(i.zero,i.size,i.bytes))=some (some (.s ByteArray.empty),1,16):=by kernel_rfl
theorem yj (w:World)(o1 o2:Obj):((w.alloc o1).alloc o2).heap[w.heap.size]?=some o1/\((w.alloc o1).alloc o2).heap[w.heap.size+1]?=some o2:=by
 refine⟨(Below.heap_alloc _ _ _ (by simp)).trans (alloc_at _ _),?_⟩;have h:=alloc_at (w.alloc o1) o2
 simpa using h
end Go.Proofs.YtedangodjiolaaaGreat
namespace Go.Proofs.YtedangodjiolaaaGreat
structure Ob where
 kd:BA
 nm:BA
 tm:BA
 vs:List BA
 en:Bool
 hs:List BA
 vr:Int
abbrev oC (o:Ob)(a a':OA)(c c':Nat):AV:=#[.s o.kd,.s o.nm,.s o.tm,.l a o.vs.length c,.bool o.en,.l a' o.hs.length c',.i o.vr]
abbrev oZ:AV:=#[.s ByteArray.empty,.s ByteArray.empty,.s ByteArray.empty,.l none 0 0,.bool false,.l none 0 0,.i 0]
structure Ob.Small (o:Ob):Prop where
 kd:o.kd.size<=maxLen
 nm:o.nm.size<=maxLen
 tm:o.tm.size<=maxLen
def zaJ (f:Fld)(v:BA):Int:=if v.size=0 then (if f.mu then 2 else 0) else if zfG f v then 0 else 3
def zgR (fs:List Fld)(vs:List BA)(i:Nat):Int:=zaJ (fs.getD i zbS) (vs.getD i ByteArray.empty)
def zbi (fs:List Fld)(vs:List BA)(i:Nat):Bool:=decide (zgR fs vs i=0)
def jU (fs:List Fld)(vs:List BA):Int × Int:=match (List.range fs.length).find? (fun i=>!zbi fs vs i) with|some i=>(zgR fs vs i,i)|none=>(0,0)
theorem find_range {P:Nat->Bool}{n k:Nat}(hk:k<n)(hu:up P k=true)(hp:P k=false):(List.range n).find? (fun i=>!P i)=some k:=by
 rw[List.find?_eq_some_iff_getElem];refine⟨by simp[hp],k,by simpa using hk,by simp,fun j hj=>?_⟩
 have:=zhS hj hu
 simp[this]
theorem zit {P:Nat->Bool}{n:Nat}(hu:up P n=true):(List.range n).find? (fun i=>!P i)=none:=by
 rw[List.find?_eq_none];intro x hx
 have:=zhS (List.mem_range.1 hx) hu
 simp[this]
theorem zk4 {fs:List Fld}{vs:List BA}{k:Nat}(hk:k<fs.length)(hu:up (zbi fs vs) k=true)(hp:zbi fs vs k=false):jU fs vs=(zgR fs vs k,(k:Int)):=by
 unfold jU;rw[find_range hk hu hp]
theorem zhV {fs:List Fld}{vs:List BA}(hu:up (zbi fs vs) fs.length=true):jU fs vs=(0,0):=by
 unfold jU;rw[zit hu]
theorem zjr {fs:List Fld}{vs:List BA}{k:Nat}(h1:k<fs.length)(h2:k<vs.length):zgR fs vs k=zaJ fs[k] vs[k]:=by
 unfold zgR;rw[getD_at fs k _ h1,getD_at vs k _ h2]
def qK (o:Ob):Bool:=zk o.nm&&zk o.tm
def qZ (o:Ob):Bool:=decide (o.hs.length<=3)&&asc o.hs
def qz (o:Ob):Bool:=decide (0<=o.vr)&&decide (o.vr<=1000000)
def zG (ss:List Shp)(o:Ob):Bool:=zC ss o.kd&&decide (o.vs.length=(shapeOf ss o.kd).fs.length)
def whole (ss:List Shp)(o:Ob):Bool:=qK o&&qZ o&&qz o&&zG ss o
def yE (ss:List Shp)(o:Ob):Int × Int:=if whole ss o=true then jU (shapeOf ss o.kd).fs o.vs else (1,0)
end Go.Proofs.YtedangodjiolaaaGreat
namespace Go.Proofs.YtedangodjiolaaaGreat
open Go.RowKit
theorem zh (s:BA)(w:World)(hs:s.size<=maxLen) :
 Calls Tryz.prog 44 #[.s s] w fun e w'=>e=.returned (.bool (zk s))/\w'=w:=by
 unfold maxLen at hs
 by_cases hb:1<=s.size/\s.size<=16
 ·obtain⟨hb1,hb2⟩:=hb
  go_enter Tryz.func44,Tryz.ntmps44
  go_wp2_with (go_at_call 40;refine(zbO _ _ _ _ (by omega) (by omega)).mono ?_;rintro e w'⟨rfl,rfl⟩)
  go_loop [3] (fun i=>∃k:Nat,k<=s.size/\i=.i k/\(s.data.toList.take k).all zP=true) (fun i=>s.size-(intOf i).toNat)
  case atStart=>exact⟨0,Nat.zero_le _,rfl,rfl⟩
  case round=>
   obtain⟨k,hk,rfl,hall⟩:=hrel
   by_cases hlt:k<s.size
   ·have HS:Hid ((s.data.toList.take (k+1)).all zP=(true&&zP s[k])):=by rw[za0 _ s k hlt,hall];rfl
    have HN:=fun h=>zca zP s k hlt h
    have HN':Hid (zP s[k]=false->yY s=false):=HN;clear HN hall
    by_cases hc:zP s[k]=true
    ·go_wp2_with (go_at_call 89;refine(zad _ _).mono ?_;rintro e w'⟨rfl,rfl⟩)
     go_round
     case rel=>exact⟨k+1,by omega,by go_num,by rw[HS.o,hc];rfl⟩
     case measure=>simp[intOf];omega
    ·have hc':zP s[k]=false:=by simpa using hc
     clear hc
     go_wp2_with (go_at_call 89;refine(zad _ _).mono ?_;rintro e w'⟨rfl,rfl⟩)
     go_ret;refine⟨ze ?_,rfl⟩
     simp[zk,HN'.out hc']
   ·have HA:Hid (yY s=true):=by unfold yY Hid;rw[<- zaB s k (by omega)];exact hall
    clear hall
    go_wp2
    go_ret;refine⟨ze ?_,rfl⟩;simp only[zk,HA.o];simp;omega
 ·go_enter Tryz.func44,Tryz.ntmps44
  go_wp2_with (go_at_call 40;refine(zdm _ _ _ _ (by omega)).mono ?_;rintro e w'⟨rfl,rfl⟩)
  go_ret;refine⟨ze ?_,rfl⟩
  simp[zk];omega
theorem j4 (s:BA)(w:World)(hs:s.size<=maxLen) :
 Calls Tryz.prog 167 #[.s s] w fun e w'=>e=.returned (.bool (yY s))/\w'=w:=by
 unfold maxLen at hs;go_enter Tryz.func167,Tryz.ntmps167
 go_wp2
 go_loop [7] (fun i=>∃k:Nat,k<=s.size/\i=.i k/\(s.data.toList.take k).all zP=true) (fun i=>s.size-(intOf i).toNat)
 case atStart=>exact⟨0,Nat.zero_le _,rfl,rfl⟩
 case round=>
  obtain⟨k,hk,rfl,hall⟩:=hrel
  by_cases hlt:k<s.size
  ·have HS:Hid ((s.data.toList.take (k+1)).all zP=(true&&zP s[k])):=by rw[za0 _ s k hlt,hall];rfl
   have HN:Hid (zP s[k]=false->yY s=false):=fun h=>zca zP s k hlt h
   clear hall
   by_cases hd:48<=(s[k].toNat:Int)/\(s[k].toNat:Int)<=57
   ·have HC:Hid (zP s[k]=true):=by simp[zP,Hid];omega
    obtain⟨hd1,hd2⟩:=hd
    go_wp2_with (go_at_call 216;refine(zhU _ _ hd1 hd2).mono ?_;rintro e w'⟨rfl,rfl⟩)
    go_round
    case rel=>exact⟨k+1,by omega,by go_num,by rw[HS.o,HC.o];rfl⟩
    case measure=>simp[intOf];omega
   ·have HD:Hid (¬(48<=(s[k].toNat:Int)/\(s[k].toNat:Int)<=57)):=hd
    clear hd
    by_cases h45:(s[k].toNat:Int)=45
    ·have HC:Hid (zP s[k]=true):=by simp[zP,Hid];omega
     have h45':((s[k].toNat:Int) != 45)=false:=by simp[h45]
     clear h45
     go_wp2_with (go_at_call 216;refine(zc0 _ _ HD.o).mono ?_;rintro e w'⟨rfl,rfl⟩)
     go_round
     case rel=>exact⟨k+1,by omega,by go_num,by rw[HS.o,HC.o];rfl⟩
     case measure=>simp[intOf];omega
    ·have h45':((s[k].toNat:Int) != 45)=true:=by simp[h45]
     by_cases h97:(s[k].toNat:Int)<97
     ·have HC:Hid (zP s[k]=false):=by have:=HD.o;simp[zP,Hid];omega
      clear h45
      go_wp2_with (go_at_call 216;refine(zc0 _ _ HD.o).mono ?_;rintro e w'⟨rfl,rfl⟩)
      go_ret;exact⟨ze (HN.o HC.o).symm,rfl⟩
     ·by_cases h122:122<(s[k].toNat:Int)
      ·have HC:Hid (zP s[k]=false):=by have:=HD.o;simp[zP,Hid];omega
       clear h45
       go_wp2_with (go_at_call 216;refine(zc0 _ _ HD.o).mono ?_;rintro e w'⟨rfl,rfl⟩)
       go_ret;exact⟨ze (HN.o HC.o).symm,rfl⟩
      ·have HC:Hid (zP s[k]=true):=by simp[zP,Hid];omega
       clear h45
       go_wp2_with (go_at_call 216;refine(zc0 _ _ HD.o).mono ?_;rintro e w'⟨rfl,rfl⟩)
       go_round
       case rel=>exact⟨k+1,by omega,by go_num,by rw[HS.o,HC.o];rfl⟩
       case measure=>simp[intOf];omega
  ·have HA:Hid (yY s=true):=by unfold yY Hid;rw[<- zaB s k (by omega)];exact hall
   clear hall
   go_wp2
   go_ret;exact⟨ze HA.o.symm,rfl⟩
theorem zu (s:BA)(w:World)(hs:s.size<=maxLen) :
 Calls Tryz.prog 107 #[.s s] w fun e w'=>e=.returned (.bool (zk s))/\w'=w:=by
 have hs':=hs;unfold maxLen at hs'
 by_cases h0:s.size=0
 ·rw[zdp s h0]
  go_enter Tryz.func107,Tryz.ntmps107
  go_wp2
  go_ret;exact⟨rfl,rfl⟩
 ·have hne:s.toList.isEmpty=false:=by rw[zB];simp[h0]
  by_cases h16:s.size<=16
  ·have HF:Hid (zk s=yY s):=by
    simp only[Hid,zk];rw[decide_eq_true (show 1<=s.size by omega),decide_eq_true h16];simp
   go_enter Tryz.func107,Tryz.ntmps107
   go_wp2_with (go_at_call 167;refine(j4 _ _ hs).mono ?_;rintro e w'⟨rfl,rfl⟩)
   go_ret;exact⟨ze HF.o.symm,rfl⟩
  ·go_enter Tryz.func107,Tryz.ntmps107
   go_wp2_with (go_at_call 167;refine(j4 _ _ hs).mono ?_;rintro e w'⟨rfl,rfl⟩)
   go_ret;refine⟨ze ?_,rfl⟩;simp only[zk];rw[decide_eq_false h16];simp
theorem ql (a:OA)(cap:Nat)(ss:List Shp)(v:BA)(w:World)(hw:yM w a ss) :
 Calls Tryz.prog 141 #[.l a ss.length cap,.s v] w fun e w'=>∃fa fcap,e=.returned (.tuple #[.agg #[.s (shapeOf ss v).kd,.l fa (shapeOf ss v).fs.length fcap],.bool (zC ss v)]) /\
  yh w fa (shapeOf ss v).fs/\Bw w w':=by
 have hl:=hw.len;unfold maxLen at hl;go_enter Tryz.func141,Tryz.ntmps141
 go_wp2
 go_loopw [10] (fun i wr=>∃k:Nat,k<=ss.length/\i=.i k/\zC (ss.take k) v=false/\Below (w.heap.size+1) (w.alloc (.cells #[.s ByteArray.empty,.l none 0 0] 113)) wr) (fun i _=>ss.length-(intOf i).toNat)
 case atStart=>exact⟨0,Nat.zero_le _,rfl,rfl,bRf _ _⟩
 case round=>
  obtain⟨k,hk,rfl,hno,hbl⟩:=hrel;have hsz:w.heap.size<wr.heap.size:=by have:=hbl.size;simp at this;omega
  have hB0:Bw w wr:=(bAl _ _).trans (hbl.mono (by omega));have hX0:wr.cell? (aD w.heap.size 0)=some (.s ByteArray.empty):=(hbl.cell (p:=(aD w.heap.size 0)) (by simp)).trans (by rw[World.cell?_alloc_at _ _ _ _ rfl];rfl);have hX1:wr.cell? (aD w.heap.size 1)=some (.l none 0 0):=(hbl.cell (p:=(aD w.heap.size 1)) (by simp)).trans (by rw[World.cell?_alloc_at _ _ _ _ rfl];rfl);have hF0:wr.frozen? (aD w.heap.size 0)=false:=(hbl.frozen (p:=(aD w.heap.size 0)) (by simp)).trans (by rw[World.frozen?_alloc_at _ _ _ _ rfl]);have hF1:wr.frozen? (aD w.heap.size 1)=false:=(hbl.frozen (p:=(aD w.heap.size 1)) (by simp)).trans (by rw[World.frozen?_alloc_at _ _ _ _ rfl])
  by_cases hlt:k<ss.length
  ·obtain⟨b,off,rfl,hb,hr⟩:=hw.rows (by rintro rfl;simp at hlt)
   obtain⟨fa,fcap,hs⟩:=hr k hlt;have hck:=(hB0.cell (p:=(aD b (off+k*2))) hb).trans hs.kind;have hcl:=(hB0.cell (p:=(aD b (off+k*2+1))) hb).trans hs.list;have hfl:=hs.flds;clear hw hr hs
   by_cases he:ss[k].kd=v
   ·have hbe:(ss[k].kd.toList == v.toList)=true:=by rw[beq_toList];simpa using he
    have HA:Hid (zC ss v=true):=zkn ss v k hlt he;have HB:Hid (shapeOf ss v=ss[k]):=zfS ss v k hlt hno he;clear he hno
    go_wp2
    refine bodyPost_ret (v:=.tuple #[.agg #[.s ss[k].kd,.l fa ss[k].fs.length fcap],.bool true]) (by simp[results,Tryz.results141,go_sem,hX0,hX1,hsz]) rfl ⟨fa,fcap,by rw[HA.o,HB.o],by rw[HB.o];exact hfl,?_⟩;exact((hB0.setCell (Nat.le_refl _) _).setCell (Nat.le_refl _) _).alloc (by simp[World.setCell];omega) _
   ·have hbe:(ss[k].kd.toList == v.toList)=false:=by rw[beq_toList];simpa using he
    have HS:Hid (zC (ss.take (k+1)) v=false):=by unfold Hid;rw[zf4 ss v k hlt,hno,decide_eq_false he];rfl
    clear he hno hX0 hX1 hF0 hF1
    go_wp2
    go_roundw
    case rel=>exact⟨k+1,by omega,by go_num,HS.o,hbl.alloc (by omega) _⟩
    case measure=>simp[intOf];omega
  ·have HA:Hid (zC ss v=false):=by rw[<- zhK ss v k (by omega)];exact hno
   have HB:Hid (shapeOf ss v=zcC):=zlH ss v HA.o;clear hno hw
   go_wp2
   refine bodyPost_ret (v:=.tuple #[.agg #[.s ByteArray.empty,.l none 0 0],.bool false]) (by simp[results,Tryz.results141,go_sem,hX0,hX1];rfl) rfl ⟨none,0,by rw[HA.o,HB.o];rfl,by rw[HB.o];exact⟨by simp[zcC,maxLen],fun h=>absurd rfl h⟩,?_⟩;exact(hB0.setCell (Nat.le_refl _) _).setCell (Nat.le_refl _) _
def zpU (ss:List Shp)(v:BA)(e:Ending):Prop:=
 (zC ss v=false->e=.returned (.i (-1)))/\(zC ss v=true->∃k,∃h:k<ss.length,e=.returned (.i (k:Nat))/\shapeOf ss v=ss[k])
theorem zhJ (a:OA)(cap:Nat)(ss:List Shp)(v:BA)(w:World)(hw:yM w a ss) :
 Calls Tryz.prog 130 #[.l a ss.length cap,.s v] w fun e w'=>zpU ss v e/\w'=w:=by
 have hl:=hw.len;unfold maxLen at hl;go_enter Tryz.func130,Tryz.ntmps130
 go_wp2
 go_loop [5] (fun i=>∃k:Nat,k<=ss.length/\i=.i k/\zC (ss.take k) v=false) (fun i=>ss.length-(intOf i).toNat)
 case atStart=>exact⟨0,Nat.zero_le _,rfl,rfl⟩
 case round=>
  obtain⟨k,hk,rfl,hno⟩:=hrel
  by_cases hlt:k<ss.length
  ·obtain⟨b,off,rfl,hb,hr⟩:=hw.rows (by rintro rfl;simp at hlt)
   obtain⟨fa,fcap,hs⟩:=hr k hlt;have hck:=hs.kind;clear hw hr hs
   by_cases he:ss[k].kd=v
   ·have hbe:(ss[k].kd.toList == v.toList)=true:=by rw[beq_toList];simpa using he
    have HA:Hid (zC ss v=true):=zkn ss v k hlt he;have HB:Hid (shapeOf ss v=ss[k]):=zfS ss v k hlt hno he;clear he hno
    go_wp2
    go_ret;exact⟨⟨fun h=>(by rw[HA.o]at h;cases h),fun _=>⟨k,hlt,rfl,HB.o⟩⟩,rfl⟩
   ·have hbe:(ss[k].kd.toList == v.toList)=false:=by rw[beq_toList];simpa using he
    have HS:Hid (zC (ss.take (k+1)) v=false):=by unfold Hid;rw[zf4 ss v k hlt,hno,decide_eq_false he];rfl
    clear he hno
    go_wp2
    go_round
    case rel=>exact⟨k+1,by omega,by go_num,HS.o⟩
    case measure=>simp[intOf];omega
  ·have HA:Hid (zC ss v=false):=by rw[<- zhK ss v k (by omega)];exact hno
   clear hno hw
   go_wp2
   go_ret;exact⟨⟨fun _=>rfl,fun h=>by rw[HA.o]at h;cases h⟩,rfl⟩
theorem jR (a:OA)(cap:Nat)(ss:List Shp)(v:BA)(w:World)(hw:yM w a ss)(h:zC ss v=false) :
 Calls Tryz.prog 130 #[.l a ss.length cap,.s v] w fun e w'=>e=.returned (.i (-1))/\w'=w:=by
 refine(zhJ a cap ss v w hw).mono ?_;rintro e w'⟨⟨h1,_⟩,rfl⟩;exact⟨h1 h,rfl⟩
theorem yJ (a:OA)(cap:Nat)(ss:List Shp)(v:BA)(w:World)(hw:yM w a ss)(h:zC ss v=true) :
 Calls Tryz.prog 130 #[.l a ss.length cap,.s v] w fun e w'=>∃k,∃h:k<ss.length,e=.returned (.i (k:Nat))/\shapeOf ss v=ss[k]/\w'=w:=by
 refine(zhJ a cap ss v w hw).mono ?_;rintro e w'⟨⟨_,h2⟩,rfl⟩;obtain⟨k,hk,he,hs⟩:=h2 h;exact⟨k,hk,he,hs,rfl⟩
structure zbr (w:World)(r:Nat)(f:Int->Option Int):Prop where
 ex:∃es clock,w.heap[r]?=some (.map es clock)/\(∀x∈es.toList,∃k v,x.key=.i k/\x.val=.i v/\f k=some v)/\(∀k v,f k=some v->∃x∈es.toList,x.key=.i k)/\∀(i j:Nat) (x y:MapEntry),es[i]?=some x->es[j]?=some y->x.key=y.key->i=j
theorem zbr.mono {w w':World}{r:Nat}{f:Int->Option Int}(h:zbr w r f)(hb:w'.heap[r]?=w.heap[r]?):zbr w' r f:=by
 obtain⟨es,clock,h1,h2⟩:=h.ex;exact⟨es,clock,hb.trans h1,h2⟩
theorem zbr.lt {w:World}{r:Nat}{f:Int->Option Int}(h:zbr w r f):r<w.heap.size:=by
 obtain⟨es,clock,h1,_⟩:=h.ex;exact(gES h1).1
theorem zbv (k:Int):MapKept.IsKey (.int .i64) (.i k):=by simp[MapKept.IsKey]
theorem zbr.keys {es:Array MapEntry}{f:Int->Option Int}(h:∀x∈es.toList,∃k v,x.key=.i k/\x.val=.i v/\f k=some v):∀x∈es.toList,MapKept.IsKey (.int .i64) x.key:=by
 intro x hx;obtain⟨k,v,h1,_⟩:=h x hx;rw[h1];exact zbv k
theorem zbr.look {w:World}{r:Nat}{f:Int->Option Int}(h:zbr w r f)(k:Int) :
 (Instr.lookup 312 (.map (some r)) (.i k) true).run Tryz.prog w=.ok (.tuple #[.i ((f k).getD 0),.bool (f k).isSome]) w:=by
 obtain⟨es,clock,hb,h1,h2,h3⟩:=h.ex
 rcases MapKept.findNow_spec (zbv k) es.toList 0 (zbr.keys h1) with⟨g1,g2⟩|⟨j,e,g1,g2,g3⟩
 ·have hn:f k=none:=by
   cases hf:f k with
   | none=>rfl
   | some v=>
    obtain⟨x,hx,hk⟩:=h2 k v hf;exact absurd hk (g2 x hx)
  rw[hn];exact zco Tryz.underlying312 Tryz.underlying3 (.i k) (.i 0) (zbv k) es clock g1 w (by kernel_rfl) r hb
 ·obtain⟨k',v',e1,e2,e3⟩:=h1 e (List.mem_of_getElem? g2)
  rw[g3]at e1
  cases e1
  rw[e3];rw[e2]at g1;exact yU Tryz.underlying312 Tryz.underlying3 (.i k) (.i v') (zbv k) es clock _ g1 w r hb
structure zg1 (r:Nat)(w w':World):Prop where
 os:w'.os=w.os
 tape:w'.tape=w.tape
 output:w'.output=w.output
 size:w'.heap.size=w.heap.size
 out:∀k,k≠r->w'.heap[k]?=w.heap[k]?
theorem zbr.upd {w:World}{r:Nat}{f:Int->Option Int}(h:zbr w r f)(k v:Int) :
 ∃w',(Instr.mapUpdate 312 (.map (some r)) (.i k) (.i v)).run Tryz.prog w=.ok () w'/\zbr w' r (fun q=>if q=k then some v else f q)/\zg1 r w w':=by
 obtain⟨es,clock,hb,h1,h2,h3⟩:=h.ex;have hm:=Tryz.underlying312;have hd:=Tryz.underlying3
 rcases MapKept.findNow_spec (zbv k) es.toList 0 (zbr.keys h1) with⟨g1,g2⟩|⟨j,e,g1,g2,g3⟩
 ·refine⟨{ w with heap:=w.heap.setIfInBounds r (.map (es.push ⟨.i k,.i v,clock⟩) (clock+1)) },?_,⟨_,_,(MapKept.heap_set hb).1,?_,?_,?_⟩,rfl,rfl,rfl,by simp,fun q hq=>(MapKept.heap_set hb).2 q hq⟩
  ·simp[Instr.mapUpdate,run_underlying hm,MapKept.run_getObj_map hb,MapKept.run_checkKey hd (zbv k),MapKept.run_findKey hd g1,MapKept.run_setObj_map _ hb,Result.andThen]
  ·intro x hx
   rw[Array.toList_push,List.mem_append,List.mem_singleton]at hx
   rcases hx with hx|rfl
   ·obtain⟨k',v',e1,e2,e3⟩:=h1 x hx
    refine⟨k',v',e1,e2,?_⟩
    have:k'≠k:=by rintro rfl;exact g2 x hx e1
    simp only[if_neg this];exact e3
   ·exact⟨k,v,rfl,rfl,by simp⟩
  ·intro q u hq
   by_cases e:q=k
   ·subst e
    exact⟨⟨.i q,.i v,clock⟩,by simp,rfl⟩
   ·rw[if_neg e]at hq
    obtain⟨x,hx,hk⟩:=h2 q u hq;exact⟨x,by simp[Array.toList_push];exact Or.inl (by simpa using hx),hk⟩
  ·intro i j' x y hx hy hxy
   rw[Array.getElem?_push]at hx hy
   by_cases e1:i=es.size
   ·by_cases e2:j'=es.size
    ·omega
    ·rw[if_pos e1]at hx
     rw[if_neg e2]at hy;have hm:y∈es.toList:=by rw[<- Array.mem_def];exact Array.mem_of_getElem? hy
     cases hx
     exact absurd hxy.symm (g2 y hm)
   ·by_cases e2:j'=es.size
    ·rw[if_neg e1]at hx
     rw[if_pos e2]at hy;have hm:x∈es.toList:=by rw[<- Array.mem_def];exact Array.mem_of_getElem? hx
     cases hy
     exact absurd hxy (g2 x hm)
    ·rw[if_neg e1]at hx
     rw[if_neg e2]at hy;exact h3 i j' x y hx hy hxy
 ·have hj:es[j]?=some e:=by simpa using g2
  refine⟨{ w with heap:=w.heap.setIfInBounds r (.map (es.modify j fun x=>{ x with key:=.i k,val:=.i v }) clock) },?_,⟨_,_,(MapKept.heap_set hb).1,?_,?_,?_⟩,rfl,rfl,rfl,by simp,fun q hq=>(MapKept.heap_set hb).2 q hq⟩
  ·simp[Instr.mapUpdate,run_underlying hm,MapKept.run_getObj_map hb,MapKept.run_checkKey hd (zbv k),MapKept.run_findKey hd g1,hj,g3,MapKept.run_keyThatStays (zbv k),MapKept.run_setObj_map _ hb,Result.andThen]
  ·intro x hx
   obtain⟨i,hi,rfl⟩:=List.mem_iff_getElem.1 hx;have hi':i<es.size:=by simpa using hi
   simp only[Array.getElem_toList,Array.getElem_modify]
   by_cases e':j=i
   ·subst e'
    simp only[if_true];exact⟨k,v,rfl,rfl,by simp⟩
   ·simp only[if_neg e']
    obtain⟨k',v',e1,e2,e3⟩:=h1 es[i] (by simp)
    have ek:k'≠k:=by
     rintro rfl;exact e' (h3 j i e es[i] hj (Array.getElem?_eq_getElem hi') (g3.trans e1.symm))
    exact⟨k',v',e1,e2,by rw[if_neg ek];exact e3⟩
  ·intro q u hq
   have hj':j<es.size:=(gES hj).1
   by_cases e':q=k
   ·subst e'
    refine⟨(es.modify j fun x=>{ x with key:=.i q,val:=.i v })[j]'(by simpa using hj'),?_,?_⟩
    ·rw[<- Array.mem_def];exact Array.getElem_mem _
    ·rw[Array.getElem_modify];simp
   ·rw[if_neg e']at hq
    obtain⟨x,hx,hk⟩:=h2 q u hq;obtain⟨i,hi,rfl⟩:=List.mem_iff_getElem.1 hx;have hi':i<es.size:=by simpa using hi
    have hij:j≠i:=by
     rintro rfl;rw[Array.getElem_toList]at hk;rw[Array.getElem?_eq_getElem hi']at hj
     cases hj
     rw[g3]at hk
     cases hk
     exact e' rfl
    refine⟨(es.modify j fun x=>{ x with key:=.i k,val:=.i v })[i]'(by simpa using hi'),?_,?_⟩
    ·rw[<- Array.mem_def];exact Array.getElem_mem _
    ·rw[Array.getElem_modify,if_neg hij];simpa using hk
  ·have hkey:∀(i:Nat) (x:MapEntry),(es.modify j fun x=>{ x with key:=.i k,val:=.i v })[i]?=some x->∃y,es[i]?=some y/\x.key=y.key:=by
    intro i x hx;obtain⟨hi,rfl⟩:=gES hx;have hi':i<es.size:=by simpa using hi
    refine⟨es[i],Array.getElem?_eq_getElem hi',?_⟩;rw[Array.getElem_modify]
    by_cases e':j=i
    ·subst e'
     rw[Array.getElem?_eq_getElem hi']at hj
     cases hj
     simp[g3]
    ·rw[if_neg e']
   intro i j' x y hx hy hxy;obtain⟨x',hx',ex⟩:=hkey i x hx;obtain⟨y',hy',ey⟩:=hkey j' y hy;exact h3 i j' x' y' hx' hy' (ex.symm.trans (hxy.trans ey))
theorem ziU {a b:Int}{p q:Bool}(h:a=b)(h2:p=q):Ending.returned (.tuple #[.i a,.bool p])=.returned (.tuple #[.i b,.bool q]):=by rw[h,h2]
def zaG (s:BA):Int:=if zan s=true then zfX s else 0
theorem zka (s:BA)(w:World)(h1:1<=s.size)(h7:s.size<=7)(hz:s.size<=1 \/ ¬(s[0].toNat:Int)=48) :
 Calls Tryz.prog 247 #[.s s] w fun e w'=>e=.returned (.tuple #[.i (zaG s),.bool (zan s)])/\w'=w:=by
 have HF:Hid (zan s=zbc s):=zk6 s h1 h7 hz;have hne:s.toList.isEmpty=false:=by rw[zB];exact decide_eq_false (by omega)
 rcases(show(¬(s[0].toNat:Int)=48) \/ (s.size<=1/\(s[0].toNat:Int)=48) by rcases hz with h|h <;> omega) with hz0|⟨hone,hz0⟩
 all_goals
  clear hz
  first
   | (have hz1:((s[0].toNat:Int) == 48)=true:=by simpa using hz0)
   | (have hz1:((s[0].toNat:Int) == 48)=false:=by simpa using hz0)
  clear hz0;go_enter Tryz.func247,Tryz.ntmps247
  go_wp2
  go_loop [4,25] (fun n i=>∃k:Nat,k<=s.size/\i=.i k/\(s.data.toList.take k).all digit=true/\n=.i (dec (s.data.toList.take k))) (fun _ i=>s.size-(intOf i).toNat)
  case atStart=>exact⟨0,Nat.zero_le _,rfl,rfl,rfl⟩
  case round=>
   obtain⟨k,hk,rfl,hall,rfl⟩:=hrel;have hlen:(s.data.toList.take k).length<=k:=List.length_take_le _ _;obtain⟨hd0,hd1⟩:=zft _ hall k hlen
   by_cases hlt:k<s.size
   ·have hp:=zlb k (by omega)
    have hd2:dec (s.data.toList.take k)<10000000:=by omega
    clear hp hd1 hlen;have HS:Hid ((s.data.toList.take (k+1)).all digit=(true&&digit s[k])):=by rw[za0 _ s k hlt,hall];rfl
    have HD:Hid (dec (s.data.toList.take (k+1))=dec (s.data.toList.take k)*10+((s[k].toNat:Int)-48)):=by rw[zg9 s k hlt];exact znH _ _
    have HN:Hid (digit s[k]=false->zbc s=false):=fun h=>zca digit s k hlt h
    clear hall
    by_cases hd:48<=(s[k].toNat:Int)/\(s[k].toNat:Int)<=57
    ·have HC:Hid (digit s[k]=true):=by simp[digit,Hid];omega
     obtain⟨h48,h57⟩:=hd
     go_wp2_with (go_at_call 216;refine(zhU _ _ h48 h57).mono ?_;rintro e w'⟨rfl,rfl⟩)
     go_round
     case rel=>exact⟨k+1,by omega,by go_num,by rw[HS.o,HC.o];rfl,by rw[HD.o]⟩
     case measure=>simp[intOf];omega
    ·have HC:Hid (digit s[k]=false):=by simp[digit,Hid];omega
     have HDD:Hid (¬(48<=(s[k].toNat:Int)/\(s[k].toNat:Int)<=57)):=hd;clear hd
     go_wp2_with (go_at_call 216;refine(zc0 _ _ HDD.o).mono ?_;rintro e w'⟨rfl,rfl⟩)
     go_ret2
     exact⟨ziU (by unfold zaG;rw[HF.o,HN.o HC.o];rfl) (by rw[HF.o,HN.o HC.o]),rfl⟩
   ·have HA:Hid (zbc s=true):=by unfold zbc Hid;rw[<- zaB s k (by omega)];exact hall
    have HB:Hid (dec (s.data.toList.take k)=zfX s):=by rw[zaB s k (by omega)];rfl
    clear hall hd0 hd1 hlen
    go_wp2
    go_ret2
    exact⟨ziU (by unfold zaG;rw[HF.o,HA.o,HB.o];rfl) (by rw[HF.o,HA.o]),rfl⟩
theorem zdu (s:BA)(w:World)(hs:s.size<=maxLen) :
 Calls Tryz.prog 247 #[.s s] w fun e w'=>e=.returned (.tuple #[.i (zaG s),.bool (zan s)])/\w'=w:=by
 unfold maxLen at hs
 by_cases h0:s.size=0
 ·rw[zdp s h0]
  go_enter Tryz.func247,Tryz.ntmps247
  go_wp2
  go_ret2
  exact⟨rfl,rfl⟩
 have hne:s.toList.isEmpty=false:=by rw[zB];simp[h0]
 by_cases h7:s.size<=7
 ·by_cases hz:1<s.size/\(s[0].toNat:Int)=48
  ·obtain⟨hm,hz0⟩:=hz
   have HF:Hid (zan s=false):=zfC s hm hz0;have hz1:((s[0].toNat:Int) == 48)=true:=by simpa using hz0
   clear hz0;go_enter Tryz.func247,Tryz.ntmps247
   go_wp2
   go_ret2
   exact⟨ziU (by unfold zaG;rw[HF.o];rfl) HF.o.symm,rfl⟩
  ·exact zka s w (by omega) h7 (by omega)
 ·have HF:Hid (zan s=false):=zep s (by omega)
  go_enter Tryz.func247,Tryz.ntmps247
  go_wp2
  go_ret2
  exact⟨ziU (by unfold zaG;rw[HF.o];rfl) HF.o.symm,rfl⟩
theorem yt {w:World}{p:Addr}{v:Value}{b o:Nat}(h:b≠p.block):(w.setCell p v).cell? (aD b o)=w.cell? (aD b o):=by
 unfold World.cell?;rw[Below.heap_setCell _ _ _ _ h]
theorem zhm {w:World}{b g o:Nat}(h:b≠g){v0 v1 v2 v3 v4 v5 v6:Value}:(((((((w.setCell (aD g 0) v0).setCell (aD g 1) v1).setCell (aD g 2) v2).setCell (aD g 3) v3).setCell (aD g 4) v4).setCell (aD g 5) v5).setCell (aD g 6) v6).cell? (aD b o)=w.cell? (aD b o):=by
 rw[yt h,yt h,yt h,yt h,yt h,yt h,yt h]
theorem zk3 {w:World}{b:Nat}{X:AV}{t:TypeId}(h:w.heap[b]?=some (.cells X t)):∀j,w.cell? (aD b j)=X[j]?:=fun _=>cell_of_block h
theorem znQ {w:World}{b:Nat}{X:AV}{t:TypeId}(h:w.heap[b]?=some (.cells X t)):∀j,w.frozen? (aD b j)=false:=fun _=>zm h
end Go.Proofs.YtedangodjiolaaaGreat
namespace Go.Proofs.YtedangodjiolaaaGreat
open Go.ChangeShapes Go.WideShapes Go.ChangeAt Go.RowKit
theorem Tryz.zjm:Tryz.prog.cellsOf 82=2:=by kernel_rfl
theorem Tryz.zm4:Tryz.prog.cellsOf 80=1:=by kernel_rfl
section
variable {H:Type} {enc:TypeId × Value->H} {w:World} {base:Nat} {spare:Nat->Bool} {held:Bool}
theorem zmN {fuel:Nat}{cs:List Value}{x:DataW H × List MemPlace}(h:DataW.trod enc Tryz.prog w base spare held fuel 80 cs=some x) :
 ∃a cap fs,cs=[.l a (List.length fs) cap]/\yh w a fs:=by
 obtain⟨a,len,cap,rfl,hm,hr⟩:=j6 Tryz.underlying80 Tryz.zjj (by omega) h
 rcases Nat.eq_zero_or_pos len with h0|hp
 ·subst h0
  exact⟨a,cap,[],rfl,⟨by simp[maxLen],fun h=>absurd rfl h⟩⟩
 ·obtain⟨b,off,rfl,hb,hrow⟩:=hr hp
  have hf:∀i,i<len->∃f:Fld,∃wa wcap,zeJ w b (off+i*11) f wa wcap:=by
   intro i hi;obtain⟨es,n,y,hel,hcell,hy⟩:=hrow i hi;obtain⟨nm,kd,ls,ms,wa,wcap,ws,to,rl,mu,fx,df,wg,rfl,hS,s0,s5,s9,s10⟩:=zoi hy;refine⟨⟨nm,kd,ls,ms,ws,to,rl,mu,fx,df,wg⟩,wa,wcap,⟨s0,s5,s9,s10⟩,hS,fun j hj=>?_⟩;rw[hcell j hj]
   simp[Fld.cells]
  obtain⟨fs,hl,hfs⟩:=za1 len hf;refine⟨_,cap,fs,by rw[hl],⟨by omega,fun _=>⟨b,off,rfl,hb,fun i hi=>hfs i hi⟩⟩⟩
theorem znW {fuel:Nat}{cs:List Value}{x:DataW H × List MemPlace}(h:DataW.trod enc Tryz.prog w base spare held fuel 82 cs=some x) :
 ∃kd a cap fs,cs=[.s kd,.l a (List.length fs) cap]/\kd.size<=maxLen/\yh w a fs:=by
 have hlen:cs.length=2:=by
  obtain⟨_,_,_,_,hl,_,_⟩:=DataW.trod_struct Tryz.underlying82 h;rw[hl];exact Tryz.zjm
 match cs,hlen with
 | [c0,c1],_=>
  have hf:=jd Tryz.underlying82 h;obtain⟨_,_,f0⟩:=hf 0 9 0 c0 rfl Tryz.zL rfl;obtain⟨_,_,f1⟩:=hf 1 80 1 c1 rfl Tryz.zm4 rfl;obtain⟨kd,e0,_,s0⟩:=DataW.trod_string Tryz.underlying9 f0;obtain⟨a,cap,fs,e1,hF⟩:=zmN f1;simp only[List.cons.injEq,and_true]at e0 e1;subst e0 e1;exact⟨kd,a,cap,fs,rfl,s0,hF⟩
theorem znu {fuel:Nat}{cs:List Value}{x:DataW H × List MemPlace}(h:DataW.trod enc Tryz.prog w base spare held fuel 22 cs=some x) :
 ∃a cap ss,cs=[.l a (List.length ss) cap]/\yM w a ss:=by
 obtain⟨a,len,cap,rfl,hm,hr⟩:=j6 Tryz.underlying22 Tryz.zjm (by omega) h
 rcases Nat.eq_zero_or_pos len with h0|hp
 ·subst h0
  exact⟨a,cap,[],rfl,⟨by simp[maxLen],fun h=>absurd rfl h⟩⟩
 ·obtain⟨b,off,rfl,hb,hrow⟩:=hr hp
  have hf:∀i,i<len->∃s:Shp,∃fa fcap,zln w b (off+i*2) s fa fcap:=by
   intro i hi;obtain⟨es,n,y,hel,hcell,hy⟩:=hrow i hi;obtain⟨kd,fa,fcap,fs,rfl,s0,hF⟩:=znW hy;exact⟨⟨kd,fs⟩,fa,fcap,s0,hF,hcell 0 (by omega),hcell 1 (by omega)⟩
  obtain⟨ss,hl,hss⟩:=za1 len hf;exact⟨_,cap,ss,by rw[hl],⟨by omega,fun _=>⟨b,off,rfl,hb,fun i hi=>hss i hi⟩⟩⟩
end
end Go.Proofs.YtedangodjiolaaaGreat
