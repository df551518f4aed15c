import Derived.Test.YthdfpinbnncghaaGreatM04
set_option maxHeartbeats 1000000
namespace Go.Proofs.YthdfpinbnncghaaGreat
open Go.RowKit
structure Mnd where
 kd:BA
 fd:BA
 wh:BA
 wi:BA
 pt:BA
 fr:BA
def Mnd.cells (m:Mnd):AV:=#[.s m.kd,.s m.fd,.s m.wh,.s m.wi,.s m.pt,.s m.fr]
structure Mnd.Small (m:Mnd):Prop where
 kd:m.kd.size<=maxLen
 fd:m.fd.size<=maxLen
 wh:m.wh.size<=maxLen
 wi:m.wi.size<=maxLen
 pt:m.pt.size<=maxLen
 fr:m.fr.size<=maxLen
structure qZ (w:World)(a:OA)(ms:List Mnd):Prop where
 len:ms.length<=maxLen
 small:∀i (h:i<ms.length),ms[i].Small
 rows:ms≠[]->∃b off,a=some (aD b off)/\b<w.heap.size/\∀i (h:i<ms.length),∀j,j<6->w.cell? (aD b (off+i*6+j))=ms[i].cells[j]?
theorem qZ.mono {w w':World}{a:OA}{ms:List Mnd}(h:qZ w a ms)(hl:Bw w w'):qZ w' a ms:=
 ⟨h.len,h.small,fun hne=>by
  obtain⟨b,off,ha,hb,hr⟩:=h.rows hne;exact⟨b,off,ha,nLt hb hl.size,fun i hi j hj=>(hl.cell (p:=(aD b (off+i*6+j))) hb).trans (hr i hi j hj)⟩⟩
theorem qZ.load {w w':World}{a:OA}{ms:List Mnd}(h:qZ w a ms)(hl:Bw w w')(i:Nat)(hi:i<ms.length):∃b off,a=some (aD b off)/\b<w.heap.size /\
 w'.cell? (aD b (off+i*6))=some (.s ms[i].kd)/\w'.cell? (aD b (off+i*6+1))=some (.s ms[i].fd)/\w'.cell? (aD b (off+i*6+2))=some (.s ms[i].wh)/\w'.cell? (aD b (off+i*6+3))=some (.s ms[i].wi)/\w'.cell? (aD b (off+i*6+4))=some (.s ms[i].pt)/\w'.cell? (aD b (off+i*6+5))=some (.s ms[i].fr):=by
 obtain⟨b,off,ha,hb,hr⟩:=h.rows (by rintro rfl;simp at hi);have hc:∀j,j<6->w'.cell? (aD b (off+i*6+j))=ms[i].cells[j]?:=fun j hj=>(hl.cell (p:=(aD b (off+i*6+j))) hb).trans (hr i hi j hj)
 exact⟨b,off,ha,hb,hc 0 (by omega),hc 1 (by omega),hc 2 (by omega),hc 3 (by omega),hc 4 (by omega),hc 5 (by omega)⟩
def within (n lo hi:Int):Bool:=decide (lo<=n)&&decide (n<=hi)
theorem yU (n lo hi:Int)(w:World) :
 Calls Tryz.prog 158 #[.i n,.i lo,.i hi] w fun e w'=>e=.returned (.bool (within n lo hi))/\w'=w:=by
 by_cases h1:lo<=n
 ·by_cases h2:n<=hi
  ·have HF:Hid (within n lo hi=true):=by unfold Hid within;simp[h1,h2]
   go_enter Tryz.func158,Tryz.ntmps158;go_wp2_with fail
   go_ret;exact⟨ze HF.o.symm,rfl⟩
  ·have HF:Hid (within n lo hi=false):=by unfold Hid within;simp[h2]
   go_enter Tryz.func158,Tryz.ntmps158;go_wp2_with fail
   go_ret;exact⟨ze HF.o.symm,rfl⟩
 ·have HF:Hid (within n lo hi=false):=by unfold Hid within;simp[h1]
  go_enter Tryz.func158,Tryz.ntmps158;go_wp2_with fail
  go_ret;exact⟨ze HF.o.symm,rfl⟩
theorem zam (c:UInt8)(w:World) :
 Calls Tryz.prog 142 #[.int .u8 c.toNat] w fun e w'=>e=.returned (.bool (zN c))/\w'=w:=by
 go_enter Tryz.func142,Tryz.ntmps142
 go_wp2
 all_goals
  go_ret;refine⟨ze ?_,rfl⟩;rw[Bool.eq_iff_iff];simp[zN];try omega
def jg (s:BA):Int:=if zat s=true then zg7 s else -1
theorem zlR (k:Nat)(h:k<=7):(10:Int) ^ k<=10000000:=by
 have:k=0 \/ k=1 \/ k=2 \/ k=3 \/ k=4 \/ k=5 \/ k=6 \/ k=7:=by omega
 rcases this with h|h|h|h|h|h|h|h <;> subst h <;> decide
theorem zlk (s:BA)(w:World)(h1:1<=s.size)(h7:s.size<=7)(hz:s.size<=1 \/ ¬(s[0].toNat:Int)=48) :
 Calls Tryz.prog 193 #[.s s] w fun e w'=>e=.returned (.i (jg s))/\w'=w:=by
 have HF:Hid (zat s=zbf s):=zl7 s h1 h7 hz
 rcases(show(s.size<=1) \/ (1<s.size/\¬(s[0].toNat:Int)=48) by rcases hz with h|h <;> omega) with hone|⟨hmore,hz0⟩
 all_goals
  clear hz
  try have hz1:((s[0].toNat:Int) == 48)=false:=by simpa using hz0
  try clear hz0
  go_enter Tryz.func193,Tryz.ntmps193
  go_wp2_with (go_at_call 57;refine(zbJ _ _ _ _ (by omega) (by omega)).mono ?_;rintro e w'⟨rfl,rfl⟩)
  go_loop [3,4] (fun n i=>∃k:Nat,k<=s.size/\i=.i k/\(s.data.toList.take k).all digit=true/\n=.i (dec (s.data.toList.take k))) (fun _ i=>s.size-(intOf i).toNat)
  case atStart=>exact⟨0,Nat.zero_le _,rfl,rfl,rfl⟩
  case round=>
   obtain⟨k,hk,rfl,hall,rfl⟩:=hrel;have hlen:(s.data.toList.take k).length<=k:=List.length_take_le _ _;obtain⟨hd0,hd1⟩:=zfK _ hall k hlen
   by_cases hlt:k<s.size
   ·have hp:=zlR k (by omega)
    have hd2:dec (s.data.toList.take k)<10000000:=by omega
    clear hp hd1 hlen;have HS:Hid ((s.data.toList.take (k+1)).all digit=(true&&digit s[k])):=by rw[zaY _ s k hlt,hall];rfl
    have HD:Hid (dec (s.data.toList.take (k+1))=dec (s.data.toList.take k)*10+((s[k].toNat:Int)-48)):=by rw[zhs s k hlt];exact znI _ _
    have HN:Hid (digit s[k]=false->zbf s=false):=fun h=>zcp digit s k hlt h
    clear hall
    by_cases h48:(s[k].toNat:Int)<48
    ·have HC:Hid (digit s[k]=false):=by simp[digit,Hid];omega
     go_wp2
     go_ret;exact⟨zk (by unfold jg;rw[HF.o,HN.o HC.o];rfl),rfl⟩
    ·by_cases h57:57<(s[k].toNat:Int)
     ·have HC:Hid (digit s[k]=false):=by simp[digit,Hid];omega
      go_wp2
      go_ret;exact⟨zk (by unfold jg;rw[HF.o,HN.o HC.o];rfl),rfl⟩
     ·have HC:Hid (digit s[k]=true):=by simp[digit,Hid];omega
      go_wp2
      go_round
      case rel=>exact⟨k+1,by omega,by go_num,by rw[HS.o,HC.o];rfl,by rw[HD.o];go_num⟩
      case measure=>simp[intOf];omega
   ·have HA:Hid (zbf s=true):=by unfold zbf Hid;rw[<- zaE s k (by omega)];exact hall
    have HB:Hid (dec (s.data.toList.take k)=zg7 s):=by rw[zaE s k (by omega)];rfl
    clear hall hd0 hd1 hlen
    go_wp2
    go_ret;exact⟨zk (by unfold jg;rw[HF.o,HA.o,HB.o];rfl),rfl⟩
theorem zen (s:BA)(w:World)(hs:s.size<=maxLen) :
 Calls Tryz.prog 193 #[.s s] w fun e w'=>e=.returned (.i (jg s))/\w'=w:=by
 unfold maxLen at hs
 by_cases h17:1<=s.size/\s.size<=7
 ·obtain⟨h1,h7⟩:=h17
  by_cases hz:1<s.size/\(s[0].toNat:Int)=48
  ·obtain⟨hm,hz0⟩:=hz
   have HF:Hid (jg s=-1):=by unfold jg Hid;rw[zfQ s hm hz0];rfl
   have hz1:((s[0].toNat:Int) == 48)=true:=by simpa using hz0
   clear hz0;go_enter Tryz.func193,Tryz.ntmps193
   go_wp2_with (go_at_call 57;refine(zbJ _ _ _ _ (by omega) (by omega)).mono ?_;rintro e w'⟨rfl,rfl⟩)
   go_ret;exact⟨zk HF.o.symm,rfl⟩
  ·exact zlk s w h1 h7 (by omega)
 ·have HF:Hid (jg s=-1):=by unfold jg Hid;rw[zei s h17];rfl
  go_enter Tryz.func193,Tryz.ntmps193
  go_wp2_with (go_at_call 57;refine(zdG _ _ _ _ (by omega)).mono ?_;rintro e w'⟨rfl,rfl⟩)
  go_ret;exact⟨zk HF.o.symm,rfl⟩
end Go.Proofs.YthdfpinbnncghaaGreat
namespace Go.Proofs.YthdfpinbnncghaaGreat
open Go.ChangeShapes Go.WideShapes Go.ChangeAt Go.RowKit
theorem Tryz.zb0:Tryz.prog.cellsOf 110=1:=by kernel_rfl
theorem Tryz.zjP:Tryz.prog.cellsOf 209=11:=by kernel_rfl
theorem zoE {H:Type}{enc:TypeId × Value->H}{w:World}{base:Nat}{spare:Nat->Bool}{held:Bool}{fuel:Nat}{cs:List Value}{x:DataW H × List MemPlace}
 (h:DataW.trod enc Tryz.prog w base spare held fuel 209 cs=some x) :
 ∃nm kd ls ms a cap ws to rl mu fx df wg,cs=[.s nm,.i kd,.i ls,.i ms,.l a (List.length ws) cap,.s to,.i rl,.bool mu,.bool fx,.s df,.s wg]/\zJ w a ws /\
  nm.size<=maxLen/\to.size<=maxLen/\df.size<=maxLen/\wg.size<=maxLen:=by
 have hlen:cs.length=11:=by
  obtain⟨_,_,_,_,hl,_,_⟩:=DataW.trod_struct Tryz.underlying209 h;rw[hl];exact Tryz.zjP
 match cs,hlen with
 | [c0,c1,c2,c3,c4,c5,c6,c7,c8,c9,c10],_=>
  have hf:=jo Tryz.underlying209 h;obtain⟨_,_,f0⟩:=hf 0 9 0 c0 rfl Tryz.zK rfl;obtain⟨_,_,f1⟩:=hf 1 3 1 c1 rfl Tryz.jd rfl;obtain⟨_,_,f2⟩:=hf 2 3 2 c2 rfl Tryz.jd rfl;obtain⟨_,_,f3⟩:=hf 3 3 3 c3 rfl Tryz.jd rfl;obtain⟨_,_,f4⟩:=hf 4 110 4 c4 rfl Tryz.zb0 rfl;obtain⟨_,_,f5⟩:=hf 5 9 5 c5 rfl Tryz.zK rfl;obtain⟨_,_,f6⟩:=hf 6 3 6 c6 rfl Tryz.jd rfl;obtain⟨_,_,f7⟩:=hf 7 4 7 c7 rfl Tryz.zfG rfl;obtain⟨_,_,f8⟩:=hf 8 4 8 c8 rfl Tryz.zfG rfl;obtain⟨_,_,f9⟩:=hf 9 9 9 c9 rfl Tryz.zK rfl;obtain⟨_,_,f10⟩:=hf 10 9 10 c10 rfl Tryz.zK rfl;obtain⟨nm,e0,_,s0⟩:=DataW.trod_string Tryz.underlying9 f0;obtain⟨kd,e1,_,_⟩:=DataW.trod_int Tryz.underlying3 f1;obtain⟨ls,e2,_,_⟩:=DataW.trod_int Tryz.underlying3 f2;obtain⟨ms,e3,_,_⟩:=DataW.trod_int Tryz.underlying3 f3;obtain⟨a,cap,ws,e4,hS⟩:=zeg Tryz.underlying110 Tryz.underlying9 Tryz.zK f4;obtain⟨to,e5,_,s5⟩:=DataW.trod_string Tryz.underlying9 f5;obtain⟨rl,e6,_,_⟩:=DataW.trod_int Tryz.underlying3 f6;obtain⟨mu,e7,_⟩:=DataW.trod_bool Tryz.underlying4 f7;obtain⟨fx,e8,_⟩:=DataW.trod_bool Tryz.underlying4 f8;obtain⟨df,e9,_,s9⟩:=DataW.trod_string Tryz.underlying9 f9;obtain⟨wg,e10,_,s10⟩:=DataW.trod_string Tryz.underlying9 f10;simp only[List.cons.injEq,and_true]at e0 e1 e2 e3 e4 e5 e6 e7 e8 e9 e10;subst e0 e1 e2 e3 e4 e5 e6 e7 e8 e9 e10;exact⟨nm,kd,ls,ms,a,cap,ws,to,rl,mu,fx,df,wg,rfl,hS,s0,s5,s9,s10⟩
end Go.Proofs.YthdfpinbnncghaaGreat
namespace Go.Proofs.YthdfpinbnncghaaGreat
open Go.RowKit
def Fld.sz (f:Fld):Nat:=zaG f.nm f.ws f.to f.df f.wg
def zhp (fs:List Fld):Nat:=(fs.map Fld.sz).sum
def zaU (fs:List Fld):Nat:=fs.length+zhp fs
def Shp.sz (s:Shp):Nat:=s.kd.size+zaU s.fs
def zhI (ss:List Shp):Nat:=(ss.map Shp.sz).sum
def zaR (ss:List Shp):Nat:=ss.length+zhI ss
theorem zi3 (nm:BA)(kd ls ms:Int)(a:OA)(cap:Nat)(ws:List BA)(to:BA)(rl:Int)(mu fx:Bool)(df wg:BA)(left:Int)(w:World)(hw:zJ w a ws)(h0:0<=left)(h1:left<=1048576)
 (hnm:nm.size<=maxLen) (hto:to.size<=maxLen) (hdf:df.size<=maxLen) (hwg:wg.size<=maxLen) (h:(zaG nm ws to df wg:Int)<=left) :
 Calls Tryz.prog 130 #[.agg #[.s nm,.i kd,.i ls,.i ms,.l a ws.length cap,.s to,.i rl,.bool mu,.bool fx,.s df,.s wg],.i left] w fun e w'=>e=.returned (.i (left-zaG nm ws to df wg))/\Bw w w':=by
 refine(zeS nm kd ls ms a cap ws to rl mu fx df wg left w hw h0 h1 hnm hto hdf hwg).mono ?_;rintro e w'⟨rfl,hb⟩;exact⟨zk (zF h),hb⟩
theorem zkQ (nm:BA)(kd ls ms:Int)(a:OA)(cap:Nat)(ws:List BA)(to:BA)(rl:Int)(mu fx:Bool)(df wg:BA)(left:Int)(w:World)(hw:zJ w a ws)(h0:0<=left)(h1:left<=1048576)
 (hnm:nm.size<=maxLen) (hto:to.size<=maxLen) (hdf:df.size<=maxLen) (hwg:wg.size<=maxLen) (h:¬(zaG nm ws to df wg:Int)<=left) :
 Calls Tryz.prog 130 #[.agg #[.s nm,.i kd,.i ls,.i ms,.l a ws.length cap,.s to,.i rl,.bool mu,.bool fx,.s df,.s wg],.i left] w fun e w'=>e=.returned (.i (-1))/\Bw w w':=by
 refine(zeS nm kd ls ms a cap ws to rl mu fx df wg left w hw h0 h1 hnm hto hdf hwg).mono ?_;rintro e w'⟨rfl,hb⟩;exact⟨zk (zq h),hb⟩
theorem zd1 (a:OA)(cap:Nat)(fs:List Fld)(left:Int)(w:World)(hw:yj w a fs)(h0:0<=left)(h1:left<=1048576) :
 Calls Tryz.prog 87 #[.l a fs.length cap,.i left] w fun e w'=>e=.returned (.i (zD (zaU fs) left))/\Bw w w':=by
 have hl:=hw.len;unfold maxLen at hl
 by_cases hfit:(fs.length:Int)<=left
 ·go_enter Tryz.func87,Tryz.ntmps87
  go_wp2_with fail
  go_loopw [1,5] (fun l i wr=>∃k:Nat,k<=fs.length/\i=.i k/\0<=left-fs.length-zhp (fs.take k)/\l=.i (left-fs.length-zhp (fs.take k))/\Bw w wr) (fun _ i _=>fs.length-(intOf i).toNat)
  case atStart=>exact⟨0,Nat.zero_le _,rfl,by simp[zhp];omega,by simp[zhp],bRf _ _⟩
  case round=>
   obtain⟨k,hk,rfl,hpos,rfl,hB⟩:=hrel
   by_cases hlt:k<fs.length
   ·obtain⟨b,off,rfl,hb,hr⟩:=hw.rows (by rintro rfl;simp at hlt)
    obtain⟨wa,wcap,hf0⟩:=hr k hlt;have hf:=hf0.mono hb hB;obtain⟨c0,c1,c2,c3,c4,c5,c6,c7,c8,c9,c10⟩:=hf.load;have hsm:=hf.small;have hst:=hf.strs;have HS:Hid (zhp (fs.take (k+1))=zhp (fs.take k)+fs[k].sz):=zas Fld.sz fs k hlt;have hle:zhp (fs.take (k+1))<=zhp fs:=zbO Fld.sz fs (k+1);clear hw hr hf0 hf
    by_cases hneg:(zaG fs[k].nm fs[k].ws fs[k].to fs[k].df fs[k].wg:Int)<=left-fs.length-zhp (fs.take k)
    ·have HNG:Hid ((zaG fs[k].nm fs[k].ws fs[k].to fs[k].df fs[k].wg:Int)<=left-fs.length-zhp (fs.take k)):=hneg
     clear hle;go_wp2_with fail
     refine(zi3 _ _ _ _ _ _ _ _ _ _ _ _ _ _ _ hst hpos (by omega) hsm.nm hsm.to hsm.df hsm.wg HNG.o).mono ?_;rintro e w1⟨rfl,hb1⟩;have hB1:=hB.trans (hb1.mono hB.size);clear hb1;go_wp2_with fail
     exact⟨⟨k+1,by omega,by go_num,by rw[HS.o];show 0<=_-((_+zaG _ _ _ _ _:Nat):Int);omega,by rw[HS.o];show Value.int _ _=Value.int _ (_-((_+zaG _ _ _ _ _:Nat):Int));congr 1;omega,hB1⟩,by simp[intOf];omega⟩
    ·have HF:Hid (zD (zaU fs) left=-1):=zq (by have:=HS.o;unfold zaU;unfold Fld.sz at this;omega)
     have HNG:=hid hneg;clear hneg hle;go_wp2_with fail
     refine(zkQ _ _ _ _ _ _ _ _ _ _ _ _ _ _ _ hst hpos (by omega) hsm.nm hsm.to hsm.df hsm.wg (by have:=HNG.o;omega)).mono ?_;rintro e w1⟨rfl,hb1⟩;have hB1:=hB.trans (hb1.mono hB.size);clear hb1;go_wp2_with fail
     go_ret;exact⟨zk HF.o.symm,hB1⟩
   ·have HF:Hid (zD (zaU fs) left=left-fs.length-zhp (fs.take k)):=by
     rw[tOl (by omega)]at hpos ⊢;have e:zD (zaU fs) left=left-zaU fs:=zF (by unfold zaU;omega);unfold Hid;rw[e];unfold zaU;omega
    clear hw
    go_wp2
    go_ret;exact⟨zk HF.o.symm,hB⟩
 ·have HF:Hid (zD (zaU fs) left=-1):=zq (by unfold zaU;omega)
  clear hw;go_enter Tryz.func87,Tryz.ntmps87
  go_wp2
  go_ret;exact⟨zk HF.o.symm,bRf _ _⟩
theorem zh7 (a:OA)(cap:Nat)(fs:List Fld)(left:Int)(w:World)(hw:yj w a fs)(h0:0<=left)(h1:left<=1048576)(h:(zaU fs:Int)<=left) :
 Calls Tryz.prog 87 #[.l a fs.length cap,.i left] w fun e w'=>e=.returned (.i (left-zaU fs))/\Bw w w':=by
 refine(zd1 a cap fs left w hw h0 h1).mono ?_;rintro e w'⟨rfl,hb⟩;exact⟨zk (zF h),hb⟩
theorem ziG (a:OA)(cap:Nat)(fs:List Fld)(left:Int)(w:World)(hw:yj w a fs)(h0:0<=left)(h1:left<=1048576)(h:¬(zaU fs:Int)<=left) :
 Calls Tryz.prog 87 #[.l a fs.length cap,.i left] w fun e w'=>e=.returned (.i (-1))/\Bw w w':=by
 refine(zd1 a cap fs left w hw h0 h1).mono ?_;rintro e w'⟨rfl,hb⟩;exact⟨zk (zq h),hb⟩
theorem zeQ (kd:BA)(a:OA)(cap:Nat)(fs:List Fld)(left:Int)(w:World)(hkd:kd.size<=maxLen)(hw:yj w a fs)(h0:0<=left)(h1:left<=1048576) :
 Calls Tryz.prog 48 #[.agg #[.s kd,.l a fs.length cap],.i left] w fun e w'=>e=.returned (.i (zD (Shp.sz ⟨kd,fs⟩) left))/\Bw w w':=by
 unfold maxLen at hkd
 by_cases c1:(kd.size:Int)<=left
 rotate_left
 ·have HF:Hid (zD (Shp.sz ⟨kd,fs⟩) left=-1):=zq (by unfold Shp.sz;simp only;omega)
  go_enter Tryz.func48,Tryz.ntmps48;go_wp2_with fail
  go_ret;exact⟨zk HF.o.symm,bAl _ _⟩
 by_cases c2:(zaU fs:Int)<=left-kd.size
 ·have HF:Hid (zD (Shp.sz ⟨kd,fs⟩) left=left-kd.size-zaU fs):=by
   have e:zD (Shp.sz ⟨kd,fs⟩) left=left-Shp.sz ⟨kd,fs⟩:=zF (by unfold Shp.sz;simp only;omega);unfold Hid;rw[e];unfold Shp.sz;simp only;omega
  go_enter Tryz.func48,Tryz.ntmps48;go_wp2_with fail
  refine(zh7 _ _ _ _ _ (hw.mono (bAl _ _)) (by omega) (by omega) (by omega)).mono ?_;rintro e w1⟨rfl,hb1⟩;go_wp2_with fail
  go_ret;exact⟨zk HF.o.symm,(bAl _ _).trans (hb1.mono (by simp))⟩
 ·have HF:Hid (zD (Shp.sz ⟨kd,fs⟩) left=-1):=zq (by unfold Shp.sz;simp only;omega)
  go_enter Tryz.func48,Tryz.ntmps48;go_wp2_with fail
  refine(ziG _ _ _ _ _ (hw.mono (bAl _ _)) (by omega) (by omega) (by omega)).mono ?_;rintro e w1⟨rfl,hb1⟩;go_wp2_with fail
  go_ret;exact⟨zk HF.o.symm,(bAl _ _).trans (hb1.mono (by simp))⟩
theorem zjl (kd:BA)(a:OA)(cap:Nat)(fs:List Fld)(left:Int)(w:World)(hkd:kd.size<=maxLen)(hw:yj w a fs)(h0:0<=left)(h1:left<=1048576)(h:(Shp.sz ⟨kd,fs⟩:Int)<=left) :
 Calls Tryz.prog 48 #[.agg #[.s kd,.l a fs.length cap],.i left] w fun e w'=>e=.returned (.i (left-Shp.sz ⟨kd,fs⟩))/\Bw w w':=by
 refine(zeQ kd a cap fs left w hkd hw h0 h1).mono ?_;rintro e w'⟨rfl,hb⟩;exact⟨zk (zF h),hb⟩
theorem zkk (kd:BA)(a:OA)(cap:Nat)(fs:List Fld)(left:Int)(w:World)(hkd:kd.size<=maxLen)(hw:yj w a fs)(h0:0<=left)(h1:left<=1048576)(h:¬(Shp.sz ⟨kd,fs⟩:Int)<=left) :
 Calls Tryz.prog 48 #[.agg #[.s kd,.l a fs.length cap],.i left] w fun e w'=>e=.returned (.i (-1))/\Bw w w':=by
 refine(zeQ kd a cap fs left w hkd hw h0 h1).mono ?_;rintro e w'⟨rfl,hb⟩;exact⟨zk (zq h),hb⟩
theorem zh4 (a:OA)(cap:Nat)(ss:List Shp)(left:Int)(w:World)(hw:yR w a ss)(h0:0<=left)(h1:left<=1048576) :
 Calls Tryz.prog 15 #[.l a ss.length cap,.i left] w fun e w'=>e=.returned (.i (zD (zaR ss) left))/\Bw w w':=by
 have hl:=hw.len;unfold maxLen at hl
 by_cases hfit:(ss.length:Int)<=left
 ·go_enter Tryz.func15,Tryz.ntmps15
  go_wp2_with fail
  go_loopw [1,5] (fun l i wr=>∃k:Nat,k<=ss.length/\i=.i k/\0<=left-ss.length-zhI (ss.take k)/\l=.i (left-ss.length-zhI (ss.take k))/\Bw w wr) (fun _ i _=>ss.length-(intOf i).toNat)
  case atStart=>exact⟨0,Nat.zero_le _,rfl,by simp[zhI];omega,by simp[zhI],bRf _ _⟩
  case round=>
   obtain⟨k,hk,rfl,hpos,rfl,hB⟩:=hrel
   by_cases hlt:k<ss.length
   ·obtain⟨b,off,rfl,hb,hr⟩:=hw.rows (by rintro rfl;simp at hlt)
    obtain⟨fa,fcap,hs0⟩:=hr k hlt;have hs:=hs0.mono hb hB;have hck:=hs.kind;have hcl:=hs.list;have hfl:=hs.flds;have hsm:=hs.small;have HS:Hid (zhI (ss.take (k+1))=zhI (ss.take k)+Shp.sz ⟨ss[k].kd,ss[k].fs⟩):=zas Shp.sz ss k hlt;have hle:zhI (ss.take (k+1))<=zhI ss:=zbO Shp.sz ss (k+1);clear hw hr hs0 hs
    by_cases hneg:(Shp.sz ⟨ss[k].kd,ss[k].fs⟩:Int)<=left-ss.length-zhI (ss.take k)
    ·have HNG:Hid ((Shp.sz ⟨ss[k].kd,ss[k].fs⟩:Int)<=left-ss.length-zhI (ss.take k)):=hneg
     clear hle;go_wp2_with fail
     refine(zjl _ _ _ _ _ _ hsm hfl hpos (by omega) HNG.o).mono ?_;rintro e w1⟨rfl,hb1⟩;have hB1:=hB.trans (hb1.mono hB.size);clear hb1;go_wp2_with fail
     exact⟨⟨k+1,by omega,by go_num,by rw[HS.o];omega,by rw[HS.o];congr 1;omega,hB1⟩,by simp[intOf];omega⟩
    ·have HF:Hid (zD (zaR ss) left=-1):=zq (by have:=HS.o;unfold zaR;omega)
     have HNG:=hid hneg;clear hneg hle;go_wp2_with fail
     refine(zkk _ _ _ _ _ _ hsm hfl hpos (by omega) (by have:=HNG.o;omega)).mono ?_;rintro e w1⟨rfl,hb1⟩;have hB1:=hB.trans (hb1.mono hB.size);clear hb1;go_wp2_with fail
     go_ret;exact⟨zk HF.o.symm,hB1⟩
   ·have HF:Hid (zD (zaR ss) left=left-ss.length-zhI (ss.take k)):=by
     rw[tOl (by omega)]at hpos ⊢;have e:zD (zaR ss) left=left-zaR ss:=zF (by unfold zaR;omega);unfold Hid;rw[e];unfold zaR;omega
    clear hw
    go_wp2
    go_ret;exact⟨zk HF.o.symm,hB⟩
 ·have HF:Hid (zD (zaR ss) left=-1):=zq (by unfold zaR;omega)
  clear hw;go_enter Tryz.func15,Tryz.ntmps15
  go_wp2
  go_ret;exact⟨zk HF.o.symm,bRf _ _⟩
structure zcf (fs:List Fld):Prop where
 small:∀i (h:i<fs.length),fs[i].Small/\fs[i].ws.length<=maxLen/\∀s∈fs[i].ws,s.size<=maxLen
theorem yj.smalls {w:World}{a:OA}{fs:List Fld}(h:yj w a fs):zcf fs:=
 ⟨fun i hi=>by
  obtain⟨b,off,_,_,hr⟩:=h.rows (by rintro rfl;simp at hi);obtain⟨wa,wcap,hf⟩:=hr i hi;exact⟨hf.small,hf.strs.len,hf.strs.small⟩⟩
structure zdQ (ss:List Shp):Prop where
 small:∀i (h:i<ss.length),ss[i].kd.size<=maxLen/\ss[i].fs.length<=maxLen/\zcf ss[i].fs
theorem yR.smalls {w:World}{a:OA}{ss:List Shp}(h:yR w a ss):zdQ ss:=
 ⟨fun i hi=>by
  obtain⟨b,off,_,_,hr⟩:=h.rows (by rintro rfl;simp at hi);obtain⟨fa,fcap,hs⟩:=hr i hi;exact⟨hs.small,hs.flds.len,hs.flds.smalls⟩⟩
end Go.Proofs.YthdfpinbnncghaaGreat
namespace Go.Proofs.YthdfpinbnncghaaGreat
structure Tm where
 nm:BA
 ov:BA
def zbA:Tm:=⟨ByteArray.empty,ByteArray.empty⟩
def yD (ts:List Tm)(v:BA):Bool:=ts.any fun t=>decide (t.nm=v)
def over (ts:List Tm)(v:BA):BA:=((ts.find? fun t=>decide (t.nm=v)).getD zbA).ov
theorem zey (ts:List Tm)(v:BA)(k:Nat)(h:k<ts.length):yD (ts.take (k+1)) v=(yD (ts.take k) v||decide (ts[k].nm=v)):=by
 unfold yD;rw[tSe h,List.any_append];simp
theorem zpp (ts:List Tm)(v:BA)(k:Nat)(h:k<ts.length)(e:ts[k].nm=v):yD ts v=true:=by
 unfold yD;rw[List.any_eq_true];exact⟨ts[k],List.getElem_mem h,by simpa using e⟩
theorem zfr (ts:List Tm)(v:BA)(k:Nat)(h:ts.length<=k):yD (ts.take k) v=yD ts v:=by rw[tOl h]
theorem zmZ (ts:List Tm)(v:BA)(k:Nat)(h:k<ts.length)(hb:yD (ts.take k) v=false)(e:ts[k].nm=v):over ts v=ts[k].ov:=by
 unfold over
 have hn:(ts.take k).find? (fun s=>decide (s.nm=v))=none:=by
  rw[List.find?_eq_none];intro x hx;unfold yD at hb;rw[List.any_eq_false]at hb;exact hb x hx
 have hf:ts.find? (fun s=>decide (s.nm=v))=some ts[k]:=by
  conv=>lhs;rw[<- List.take_append_drop k ts]
  rw[List.find?_append,hn,List.drop_eq_getElem_cons h,List.find?_cons_of_pos (by simpa using e)];rfl
 rw[hf];rfl
theorem zhE (ts:List Tm)(v:BA)(hb:yD ts v=false):over ts v=ByteArray.empty:=by
 unfold over
 have hn:ts.find? (fun s=>decide (s.nm=v))=none:=by
  rw[List.find?_eq_none];intro x hx;unfold yD at hb;rw[List.any_eq_false]at hb;exact hb x hx
 rw[hn];rfl
def under (ts:List Tm):Nat->BA->BA->Bool
 | 0,a,b=>decide (a=b)
 | n+1,a,b=>decide (a=b)||(decide (¬(over ts a).size=0)&&under ts n (over ts a) b)
theorem zeD (ts:List Tm)(n:Nat)(a b:BA)(h:a=b):under ts n a b=true:=by
 cases n <;> simp[under,h]
theorem zh1 (ts:List Tm){a b:BA}(h:¬a=b):under ts 0 a b=false:=by simp[under,h]
theorem zf5 (ts:List Tm)(n:Nat){a b:BA}(h:¬a=b)(h0:(over ts a).size=0):under ts (n+1) a b=false:=by simp[under,h,h0]
theorem zm2 (ts:List Tm)(n:Nat){a b:BA}(h:¬a=b)(h0:¬(over ts a).size=0):under ts (n+1) a b=under ts n (over ts a) b:=by simp[under,h,h0]
def qH (ts:List Tm)(i:Nat):Bool:=
 zm (ts.getD i zbA).nm&&(decide (i=0)||less (ts.getD (i-1) zbA).nm (ts.getD i zbA).nm)&&((ts.getD i zbA).ov.toList.isEmpty||yD ts (ts.getD i zbA).ov)
def zfh (ts:List Tm):Nat->BA->BA
 | 0,a=>a
 | n+1,a=>zfh ts n (over ts a)
def zac (ts:List Tm):Nat->BA->BA
 | 0,a=>a
 | n+1,a=>if a.size=0 then a else zac ts n (over ts a)
def zeE (ts:List Tm)(t:Tm):Bool:=decide ((zfh ts 4 t.ov).size=0)
def zf4 (ts:List Tm)(i:Nat):Bool:=zeE ts (ts.getD i zbA)
def zd7 (ts:List Tm)(i:Nat):Bool:=decide ((zac ts 5 (ts.getD i zbA).nm).size=0)
def j6 (ts:List Tm):Bool:=decide (ts.length<=12)&&(up (qH ts) ts.length&&up (zf4 ts) ts.length)
def zcn (ts:List Tm)(i:Nat):Bool:=qH ts i&&zd7 ts i
def za5 (ts:List Tm):Bool:=decide (ts.length<=12)&&up (zcn ts) ts.length
theorem zc3 {P:Nat->Bool}{n:Nat}:up P n=true↔∀i,i<n->P i=true:=by
 unfold up;rw[List.all_eq_true];simp
theorem zqg {ts:List Tm}{i:Nat}(hi:i<ts.length)(h:qH ts i=true):zm ts[i].nm=true:=by
 unfold qH at h;rw[getD_at ts i _ hi]at h;simp only[Bool.and_eq_true]at h;exact h.1.1
theorem zqe {ts:List Tm}{i:Nat}(hi:i+1<ts.length)(h:qH ts (i+1)=true):less ts[i].nm ts[i+1].nm=true:=by
 unfold qH at h;rw[getD_at ts (i+1) _ hi,Nat.add_sub_cancel,getD_at ts i _ (by omega)]at h;simp only[Bool.and_eq_true]at h
 simpa using h.1.2
theorem zoI {ts:List Tm}(h:up (qH ts) ts.length=true):∀(j:Nat) (hj:j<ts.length) (i:Nat) (hi:i<j),less (ts[i]'(by omega)).nm ts[j].nm=true:=by
 intro j
 induction j with
 | zero=>intro _ i hi;omega
 | succ j ih=>
  intro hj i hi;have h2:=zqe hj (zgr hj h)
  rcases Nat.lt_or_ge i j with hlt|hge
  ·exact zbq _ _ _ (ih (by omega) i hlt) h2
  ·have e:i=j:=by omega
   subst e;exact h2
theorem over_self {ts:List Tm}(h:up (qH ts) ts.length=true)(i:Nat)(hi:i<ts.length):over ts ts[i].nm=ts[i].ov:=by
 refine zmZ ts _ i hi ?_ rfl;unfold yD;rw[List.any_eq_false];intro x hx;obtain⟨k,hk,rfl⟩:=List.mem_iff_getElem.1 hx;have hk':k<i:=by simp at hk;omega
 have h1:=zoI h i hi k hk';simp only[List.getElem_take,decide_eq_true_eq];intro e;unfold less at h1;rw[e,zcj]at h1
 cases h1
theorem zjM {ts:List Tm}(h:up (qH ts) ts.length=true):over ts ByteArray.empty=ByteArray.empty:=by
 apply zhE
 unfold yD;rw[List.any_eq_false];intro x hx;obtain⟨k,hk,rfl⟩:=List.mem_iff_getElem.1 hx;have h1:=zqg hk (zgr hk h);simp only[decide_eq_true_eq];intro e;rw[e,zhj _ rfl]at h1
 cases h1
theorem zih {ts:List Tm}(h:over ts ByteArray.empty=ByteArray.empty):∀n,zfh ts n ByteArray.empty=ByteArray.empty
 | 0=>rfl
 | n+1=>by unfold zfh;rw[h];exact zih h n
theorem zjK {ts:List Tm}(h:over ts ByteArray.empty=ByteArray.empty):∀n a,zac ts n a=zfh ts n a
 | 0,_=>rfl
 | n+1,a=>by
  unfold zac
  by_cases h0:a.size=0
  ·rw[if_pos h0,zcq a h0,zih h]
  ·rw[if_neg h0,zjK h n];rfl
theorem zlU {ts:List Tm}(h:up (qH ts) ts.length=true)(i:Nat)(hi:i<ts.length):zd7 ts i=zf4 ts i:=by
 unfold zd7 zf4 zeE;rw[getD_at ts i _ hi,zjK (zjM h),show zfh ts 5 ts[i].nm=zfh ts 4 (over ts ts[i].nm) from rfl,over_self h i hi]
theorem zmd (ts:List Tm):j6 ts=za5 ts:=by
 unfold j6 za5
 congr 1
 rw[Bool.eq_iff_iff,Bool.and_eq_true]
 constructor
 ·rintro⟨h1,h2⟩
  rw[zc3];intro i hi;unfold zcn;rw[zgr hi h1,zlU h1 i hi,zgr hi h2];rfl
 ·intro h
  rw[zc3]at h
  have h1:up (qH ts) ts.length=true:=by
   rw[zc3];intro i hi;have:=h i hi;unfold zcn at this;rw[Bool.and_eq_true]at this;exact this.1
  refine⟨h1,?_⟩;rw[zc3];intro i hi;have:=h i hi;unfold zcn at this;rw[Bool.and_eq_true,zlU h1 i hi]at this;exact this.2
theorem znb {ts:List Tm}(h:up (qH ts) ts.length=true)(n:Nat)(b:BA)(hb:¬b.size=0):under ts n ByteArray.empty b=false:=by
 have hne:¬ByteArray.empty=b:=by rintro rfl;exact hb rfl
 cases n with
 | zero=>exact zh1 ts hne
 | succ n=>exact zf5 ts n hne (by rw[zjM h];rfl)
end Go.Proofs.YthdfpinbnncghaaGreat
namespace Go.Proofs.YthdfpinbnncghaaGreat
open Go.RowKit
theorem Tryz.zdi:(Tryz.prog.info? 9).map (fun i=>(i.zero,i.size,i.bytes))=some (some (.s ByteArray.empty),1,16):=by kernel_rfl
theorem yt (w:World)(o1 o2:Obj):((w.alloc o1).alloc o2).heap[w.heap.size]?=some o1/\((w.alloc o1).alloc o2).heap[w.heap.size+1]?=some o2:=by
 refine⟨(Below.heap_alloc _ _ _ (by simp)).trans (alloc_at _ _),?_⟩;have h:=alloc_at (w.alloc o1) o2
 simpa using h
end Go.Proofs.YthdfpinbnncghaaGreat
namespace Go.Proofs.YthdfpinbnncghaaGreat
structure Ob where
 kd:BA
 nm:BA
 tm:BA
 vs:List BA
 en:Bool
 hs:List BA
 vr:Int
abbrev oC (o:Ob)(a a':OA)(c c':Nat):AV:=#[.s o.kd,.s o.nm,.s o.tm,.l a o.vs.length c,.bool o.en,.l a' o.hs.length c',.i o.vr]
abbrev oZ:AV:=#[.s ByteArray.empty,.s ByteArray.empty,.s ByteArray.empty,.l none 0 0,.bool false,.l none 0 0,.i 0]
structure Ob.Small (o:Ob):Prop where
 kd:o.kd.size<=maxLen
 nm:o.nm.size<=maxLen
 tm:o.tm.size<=maxLen
def zaO (f:Fld)(v:BA):Int:=if v.size=0 then (if f.mu then 2 else 0) else if zfW f v then 0 else 3
def zgq (fs:List Fld)(vs:List BA)(i:Nat):Int:=zaO (fs.getD i zb7) (vs.getD i ByteArray.empty)
def zbo (fs:List Fld)(vs:List BA)(i:Nat):Bool:=decide (zgq fs vs i=0)
def jV (fs:List Fld)(vs:List BA):Int × Int:=match (List.range fs.length).find? (fun i=>!zbo fs vs i) with|some i=>(zgq fs vs i,i)|none=>(0,0)
theorem find_range {P:Nat->Bool}{n k:Nat}(hk:k<n)(hu:up P k=true)(hp:P k=false):(List.range n).find? (fun i=>!P i)=some k:=by
 rw[List.find?_eq_some_iff_getElem];refine⟨by simp[hp],k,by simpa using hk,by simp,fun j hj=>?_⟩
 have:=zgr hj hu
 simp[this]
theorem zi0 {P:Nat->Bool}{n:Nat}(hu:up P n=true):(List.range n).find? (fun i=>!P i)=none:=by
 rw[List.find?_eq_none];intro x hx
 have:=zgr (List.mem_range.1 hx) hu
 simp[this]
theorem zlX {fs:List Fld}{vs:List BA}{k:Nat}(hk:k<fs.length)(hu:up (zbo fs vs) k=true)(hp:zbo fs vs k=false):jV fs vs=(zgq fs vs k,(k:Int)):=by
 unfold jV;rw[find_range hk hu hp]
theorem zit {fs:List Fld}{vs:List BA}(hu:up (zbo fs vs) fs.length=true):jV fs vs=(0,0):=by
 unfold jV;rw[zi0 hu]
theorem zkS {fs:List Fld}{vs:List BA}{k:Nat}(h1:k<fs.length)(h2:k<vs.length):zgq fs vs k=zaO fs[k] vs[k]:=by
 unfold zgq;rw[getD_at fs k _ h1,getD_at vs k _ h2]
def qU (o:Ob):Bool:=zm o.nm&&zm o.tm
def jh (o:Ob):Bool:=decide (o.hs.length<=3)&&asc o.hs
def qG (o:Ob):Bool:=decide (0<=o.vr)&&decide (o.vr<=1000000)
def zH (ss:List Shp)(o:Ob):Bool:=zC ss o.kd&&decide (o.vs.length=(shapeOf ss o.kd).fs.length)
def whole (ss:List Shp)(o:Ob):Bool:=qU o&&jh o&&qG o&&zH ss o
def yI (ss:List Shp)(o:Ob):Int × Int:=if whole ss o=true then jV (shapeOf ss o.kd).fs o.vs else (1,0)
end Go.Proofs.YthdfpinbnncghaaGreat
namespace Go.Proofs.YthdfpinbnncghaaGreat
open Go.RowKit
theorem zi (s:BA)(w:World)(hs:s.size<=maxLen) :
 Calls Tryz.prog 100 #[.s s] w fun e w'=>e=.returned (.bool (zm s))/\w'=w:=by
 unfold maxLen at hs
 by_cases hb:1<=s.size/\s.size<=16
 ·obtain⟨hb1,hb2⟩:=hb
  go_enter Tryz.func100,Tryz.ntmps100
  go_wp2_with (go_at_call 57;refine(zbJ _ _ _ _ (by omega) (by omega)).mono ?_;rintro e w'⟨rfl,rfl⟩)
  go_loop [3] (fun i=>∃k:Nat,k<=s.size/\i=.i k/\(s.data.toList.take k).all zN=true) (fun i=>s.size-(intOf i).toNat)
  case atStart=>exact⟨0,Nat.zero_le _,rfl,rfl⟩
  case round=>
   obtain⟨k,hk,rfl,hall⟩:=hrel
   by_cases hlt:k<s.size
   ·have HS:Hid ((s.data.toList.take (k+1)).all zN=(true&&zN s[k])):=by rw[zaY _ s k hlt,hall];rfl
    have HN:=fun h=>zcp zN s k hlt h
    have HN':Hid (zN s[k]=false->qw s=false):=HN;clear HN hall
    by_cases hc:zN s[k]=true
    ·go_wp2_with (go_at_call 142;refine(zam _ _).mono ?_;rintro e w'⟨rfl,rfl⟩)
     go_round
     case rel=>exact⟨k+1,by omega,by go_num,by rw[HS.o,hc];rfl⟩
     case measure=>simp[intOf];omega
    ·have hc':zN s[k]=false:=by simpa using hc
     clear hc
     go_wp2_with (go_at_call 142;refine(zam _ _).mono ?_;rintro e w'⟨rfl,rfl⟩)
     go_ret;refine⟨ze ?_,rfl⟩
     simp[zm,HN'.out hc']
   ·have HA:Hid (qw s=true):=by unfold qw Hid;rw[<- zaE s k (by omega)];exact hall
    clear hall
    go_wp2
    go_ret;refine⟨ze ?_,rfl⟩;simp only[zm,HA.o];simp;omega
 ·go_enter Tryz.func100,Tryz.ntmps100
  go_wp2_with (go_at_call 57;refine(zdG _ _ _ _ (by omega)).mono ?_;rintro e w'⟨rfl,rfl⟩)
  go_ret;refine⟨ze ?_,rfl⟩
  simp[zm];omega
theorem zaf (s:BA)(w:World)(hs:s.size<=maxLen) :
 Calls Tryz.prog 212 #[.s s] w fun e w'=>e=.returned (.bool (qw s))/\w'=w:=by
 unfold maxLen at hs;go_enter Tryz.func212,Tryz.ntmps212
 go_wp2
 go_loop [7] (fun i=>∃k:Nat,k<=s.size/\i=.i k/\(s.data.toList.take k).all zN=true) (fun i=>s.size-(intOf i).toNat)
 case atStart=>exact⟨0,Nat.zero_le _,rfl,rfl⟩
 case round=>
  obtain⟨k,hk,rfl,hall⟩:=hrel
  by_cases hlt:k<s.size
  ·have HS:Hid ((s.data.toList.take (k+1)).all zN=(true&&zN s[k])):=by rw[zaY _ s k hlt,hall];rfl
   have HN:Hid (zN s[k]=false->qw s=false):=fun h=>zcp zN s k hlt h
   clear hall
   by_cases hd:48<=(s[k].toNat:Int)/\(s[k].toNat:Int)<=57
   ·have HC:Hid (zN s[k]=true):=by simp[zN,Hid];omega
    obtain⟨hd1,hd2⟩:=hd
    go_wp2_with (go_at_call 241;refine(zin _ _ hd1 hd2).mono ?_;rintro e w'⟨rfl,rfl⟩)
    go_round
    case rel=>exact⟨k+1,by omega,by go_num,by rw[HS.o,HC.o];rfl⟩
    case measure=>simp[intOf];omega
   ·have HD:Hid (¬(48<=(s[k].toNat:Int)/\(s[k].toNat:Int)<=57)):=hd
    clear hd
    by_cases h45:(s[k].toNat:Int)=45
    ·have HC:Hid (zN s[k]=true):=by simp[zN,Hid];omega
     have h45':((s[k].toNat:Int) != 45)=false:=by simp[h45]
     clear h45
     go_wp2_with (go_at_call 241;refine(zda _ _ HD.o).mono ?_;rintro e w'⟨rfl,rfl⟩)
     go_round
     case rel=>exact⟨k+1,by omega,by go_num,by rw[HS.o,HC.o];rfl⟩
     case measure=>simp[intOf];omega
    ·have h45':((s[k].toNat:Int) != 45)=true:=by simp[h45]
     by_cases h97:(s[k].toNat:Int)<97
     ·have HC:Hid (zN s[k]=false):=by have:=HD.o;simp[zN,Hid];omega
      clear h45
      go_wp2_with (go_at_call 241;refine(zda _ _ HD.o).mono ?_;rintro e w'⟨rfl,rfl⟩)
      go_ret;exact⟨ze (HN.o HC.o).symm,rfl⟩
     ·by_cases h122:122<(s[k].toNat:Int)
      ·have HC:Hid (zN s[k]=false):=by have:=HD.o;simp[zN,Hid];omega
       clear h45
       go_wp2_with (go_at_call 241;refine(zda _ _ HD.o).mono ?_;rintro e w'⟨rfl,rfl⟩)
       go_ret;exact⟨ze (HN.o HC.o).symm,rfl⟩
      ·have HC:Hid (zN s[k]=true):=by simp[zN,Hid];omega
       clear h45
       go_wp2_with (go_at_call 241;refine(zda _ _ HD.o).mono ?_;rintro e w'⟨rfl,rfl⟩)
       go_round
       case rel=>exact⟨k+1,by omega,by go_num,by rw[HS.o,HC.o];rfl⟩
       case measure=>simp[intOf];omega
  ·have HA:Hid (qw s=true):=by unfold qw Hid;rw[<- zaE s k (by omega)];exact hall
   clear hall
   go_wp2
   go_ret;exact⟨ze HA.o.symm,rfl⟩
theorem zB (s:BA)(w:World)(hs:s.size<=maxLen) :
 Calls Tryz.prog 153 #[.s s] w fun e w'=>e=.returned (.bool (zm s))/\w'=w:=by
 have hs':=hs;unfold maxLen at hs'
 by_cases h0:s.size=0
 ·rw[zcq s h0]
  go_enter Tryz.func153,Tryz.ntmps153
  go_wp2
  go_ret;exact⟨rfl,rfl⟩
 ·have hne:s.toList.isEmpty=false:=by rw[zy];simp[h0]
  by_cases h16:s.size<=16
  ·have HF:Hid (zm s=qw s):=by
    simp only[Hid,zm];rw[decide_eq_true (show 1<=s.size by omega),decide_eq_true h16];simp
   go_enter Tryz.func153,Tryz.ntmps153
   go_wp2_with (go_at_call 212;refine(zaf _ _ hs).mono ?_;rintro e w'⟨rfl,rfl⟩)
   go_ret;exact⟨ze HF.o.symm,rfl⟩
  ·go_enter Tryz.func153,Tryz.ntmps153
   go_wp2_with (go_at_call 212;refine(zaf _ _ hs).mono ?_;rintro e w'⟨rfl,rfl⟩)
   go_ret;refine⟨ze ?_,rfl⟩;simp only[zm];rw[decide_eq_false h16];simp
theorem qB (a:OA)(cap:Nat)(ss:List Shp)(v:BA)(w:World)(hw:yR w a ss) :
 Calls Tryz.prog 150 #[.l a ss.length cap,.s v] w fun e w'=>∃fa fcap,e=.returned (.tuple #[.agg #[.s (shapeOf ss v).kd,.l fa (shapeOf ss v).fs.length fcap],.bool (zC ss v)]) /\
  yj w fa (shapeOf ss v).fs/\Bw w w':=by
 have hl:=hw.len;unfold maxLen at hl;go_enter Tryz.func150,Tryz.ntmps150
 go_wp2
 go_loopw [10] (fun i wr=>∃k:Nat,k<=ss.length/\i=.i k/\zC (ss.take k) v=false/\Below (w.heap.size+1) (w.alloc (.cells #[.s ByteArray.empty,.l none 0 0] 139)) wr) (fun i _=>ss.length-(intOf i).toNat)
 case atStart=>exact⟨0,Nat.zero_le _,rfl,rfl,bRf _ _⟩
 case round=>
  obtain⟨k,hk,rfl,hno,hbl⟩:=hrel;have hsz:w.heap.size<wr.heap.size:=by have:=hbl.size;simp at this;omega
  have hB0:Bw w wr:=(bAl _ _).trans (hbl.mono (by omega));have hX0:wr.cell? (aD w.heap.size 0)=some (.s ByteArray.empty):=(hbl.cell (p:=(aD w.heap.size 0)) (by simp)).trans (by rw[World.cell?_alloc_at _ _ _ _ rfl];rfl);have hX1:wr.cell? (aD w.heap.size 1)=some (.l none 0 0):=(hbl.cell (p:=(aD w.heap.size 1)) (by simp)).trans (by rw[World.cell?_alloc_at _ _ _ _ rfl];rfl);have hF0:wr.frozen? (aD w.heap.size 0)=false:=(hbl.frozen (p:=(aD w.heap.size 0)) (by simp)).trans (by rw[World.frozen?_alloc_at _ _ _ _ rfl]);have hF1:wr.frozen? (aD w.heap.size 1)=false:=(hbl.frozen (p:=(aD w.heap.size 1)) (by simp)).trans (by rw[World.frozen?_alloc_at _ _ _ _ rfl])
  by_cases hlt:k<ss.length
  ·obtain⟨b,off,rfl,hb,hr⟩:=hw.rows (by rintro rfl;simp at hlt)
   obtain⟨fa,fcap,hs⟩:=hr k hlt;have hck:=(hB0.cell (p:=(aD b (off+k*2))) hb).trans hs.kind;have hcl:=(hB0.cell (p:=(aD b (off+k*2+1))) hb).trans hs.list;have hfl:=hs.flds;clear hw hr hs
   by_cases he:ss[k].kd=v
   ·have hbe:(ss[k].kd.toList == v.toList)=true:=by rw[beq_toList];simpa using he
    have HA:Hid (zC ss v=true):=zkM ss v k hlt he;have HB:Hid (shapeOf ss v=ss[k]):=zgh ss v k hlt hno he;clear he hno
    go_wp2
    refine bodyPost_ret (v:=.tuple #[.agg #[.s ss[k].kd,.l fa ss[k].fs.length fcap],.bool true]) (by simp[results,Tryz.results150,go_sem,hX0,hX1,hsz]) rfl ⟨fa,fcap,by rw[HA.o,HB.o],by rw[HB.o];exact hfl,?_⟩;exact((hB0.setCell (Nat.le_refl _) _).setCell (Nat.le_refl _) _).alloc (by simp[World.setCell];omega) _
   ·have hbe:(ss[k].kd.toList == v.toList)=false:=by rw[beq_toList];simpa using he
    have HS:Hid (zC (ss.take (k+1)) v=false):=by unfold Hid;rw[zgt ss v k hlt,hno,decide_eq_false he];rfl
    clear he hno hX0 hX1 hF0 hF1
    go_wp2
    go_roundw
    case rel=>exact⟨k+1,by omega,by go_num,HS.o,hbl.alloc (by omega) _⟩
    case measure=>simp[intOf];omega
  ·have HA:Hid (zC ss v=false):=by rw[<- zif ss v k (by omega)];exact hno
   have HB:Hid (shapeOf ss v=zcS):=zmX ss v HA.o;clear hno hw
   go_wp2
   refine bodyPost_ret (v:=.tuple #[.agg #[.s ByteArray.empty,.l none 0 0],.bool false]) (by simp[results,Tryz.results150,go_sem,hX0,hX1];rfl) rfl ⟨none,0,by rw[HA.o,HB.o];rfl,by rw[HB.o];exact⟨by simp[zcS,maxLen],fun h=>absurd rfl h⟩,?_⟩;exact(hB0.setCell (Nat.le_refl _) _).setCell (Nat.le_refl _) _
def zrL (ss:List Shp)(v:BA)(e:Ending):Prop:=
 (zC ss v=false->e=.returned (.i (-1)))/\(zC ss v=true->∃k,∃h:k<ss.length,e=.returned (.i (k:Nat))/\shapeOf ss v=ss[k])
theorem ziw (a:OA)(cap:Nat)(ss:List Shp)(v:BA)(w:World)(hw:yR w a ss) :
 Calls Tryz.prog 141 #[.l a ss.length cap,.s v] w fun e w'=>zrL ss v e/\w'=w:=by
 have hl:=hw.len;unfold maxLen at hl;go_enter Tryz.func141,Tryz.ntmps141
 go_wp2
 go_loop [5] (fun i=>∃k:Nat,k<=ss.length/\i=.i k/\zC (ss.take k) v=false) (fun i=>ss.length-(intOf i).toNat)
 case atStart=>exact⟨0,Nat.zero_le _,rfl,rfl⟩
 case round=>
  obtain⟨k,hk,rfl,hno⟩:=hrel
  by_cases hlt:k<ss.length
  ·obtain⟨b,off,rfl,hb,hr⟩:=hw.rows (by rintro rfl;simp at hlt)
   obtain⟨fa,fcap,hs⟩:=hr k hlt;have hck:=hs.kind;clear hw hr hs
   by_cases he:ss[k].kd=v
   ·have hbe:(ss[k].kd.toList == v.toList)=true:=by rw[beq_toList];simpa using he
    have HA:Hid (zC ss v=true):=zkM ss v k hlt he;have HB:Hid (shapeOf ss v=ss[k]):=zgh ss v k hlt hno he;clear he hno
    go_wp2
    go_ret;exact⟨⟨fun h=>(by rw[HA.o]at h;cases h),fun _=>⟨k,hlt,rfl,HB.o⟩⟩,rfl⟩
   ·have hbe:(ss[k].kd.toList == v.toList)=false:=by rw[beq_toList];simpa using he
    have HS:Hid (zC (ss.take (k+1)) v=false):=by unfold Hid;rw[zgt ss v k hlt,hno,decide_eq_false he];rfl
    clear he hno
    go_wp2
    go_round
    case rel=>exact⟨k+1,by omega,by go_num,HS.o⟩
    case measure=>simp[intOf];omega
  ·have HA:Hid (zC ss v=false):=by rw[<- zif ss v k (by omega)];exact hno
   clear hno hw
   go_wp2
   go_ret;exact⟨⟨fun _=>rfl,fun h=>by rw[HA.o]at h;cases h⟩,rfl⟩
theorem jW (a:OA)(cap:Nat)(ss:List Shp)(v:BA)(w:World)(hw:yR w a ss)(h:zC ss v=false) :
 Calls Tryz.prog 141 #[.l a ss.length cap,.s v] w fun e w'=>e=.returned (.i (-1))/\w'=w:=by
 refine(ziw a cap ss v w hw).mono ?_;rintro e w'⟨⟨h1,_⟩,rfl⟩;exact⟨h1 h,rfl⟩
theorem yN (a:OA)(cap:Nat)(ss:List Shp)(v:BA)(w:World)(hw:yR w a ss)(h:zC ss v=true) :
 Calls Tryz.prog 141 #[.l a ss.length cap,.s v] w fun e w'=>∃k,∃h:k<ss.length,e=.returned (.i (k:Nat))/\shapeOf ss v=ss[k]/\w'=w:=by
 refine(ziw a cap ss v w hw).mono ?_;rintro e w'⟨⟨_,h2⟩,rfl⟩;obtain⟨k,hk,he,hs⟩:=h2 h;exact⟨k,hk,he,hs,rfl⟩
structure zbu (w:World)(r:Nat)(f:Int->Option Int):Prop where
 ex:∃es clock,w.heap[r]?=some (.map es clock)/\(∀x∈es.toList,∃k v,x.key=.i k/\x.val=.i v/\f k=some v)/\(∀k v,f k=some v->∃x∈es.toList,x.key=.i k)/\∀(i j:Nat) (x y:MapEntry),es[i]?=some x->es[j]?=some y->x.key=y.key->i=j
theorem zbu.mono {w w':World}{r:Nat}{f:Int->Option Int}(h:zbu w r f)(hb:w'.heap[r]?=w.heap[r]?):zbu w' r f:=by
 obtain⟨es,clock,h1,h2⟩:=h.ex;exact⟨es,clock,hb.trans h1,h2⟩
theorem zbu.lt {w:World}{r:Nat}{f:Int->Option Int}(h:zbu w r f):r<w.heap.size:=by
 obtain⟨es,clock,h1,_⟩:=h.ex;exact(gES h1).1
theorem zbF (k:Int):MapKept.IsKey (.int .i64) (.i k):=by simp[MapKept.IsKey]
theorem zbu.keys {es:Array MapEntry}{f:Int->Option Int}(h:∀x∈es.toList,∃k v,x.key=.i k/\x.val=.i v/\f k=some v):∀x∈es.toList,MapKept.IsKey (.int .i64) x.key:=by
 intro x hx;obtain⟨k,v,h1,_⟩:=h x hx;rw[h1];exact zbF k
theorem zbu.look {w:World}{r:Nat}{f:Int->Option Int}(h:zbu w r f)(k:Int) :
 (Instr.lookup 323 (.map (some r)) (.i k) true).run Tryz.prog w=.ok (.tuple #[.i ((f k).getD 0),.bool (f k).isSome]) w:=by
 obtain⟨es,clock,hb,h1,h2,h3⟩:=h.ex
 rcases MapKept.findNow_spec (zbF k) es.toList 0 (zbu.keys h1) with⟨g1,g2⟩|⟨j,e,g1,g2,g3⟩
 ·have hn:f k=none:=by
   cases hf:f k with
   | none=>rfl
   | some v=>
    obtain⟨x,hx,hk⟩:=h2 k v hf;exact absurd hk (g2 x hx)
  rw[hn];exact zcF Tryz.underlying323 Tryz.underlying3 (.i k) (.i 0) (zbF k) es clock g1 w (by kernel_rfl) r hb
 ·obtain⟨k',v',e1,e2,e3⟩:=h1 e (List.mem_of_getElem? g2)
  rw[g3]at e1
  cases e1
  rw[e3];rw[e2]at g1;exact y7 Tryz.underlying323 Tryz.underlying3 (.i k) (.i v') (zbF k) es clock _ g1 w r hb
structure zhY (r:Nat)(w w':World):Prop where
 os:w'.os=w.os
 tape:w'.tape=w.tape
 output:w'.output=w.output
 size:w'.heap.size=w.heap.size
 out:∀k,k≠r->w'.heap[k]?=w.heap[k]?
theorem zbu.upd {w:World}{r:Nat}{f:Int->Option Int}(h:zbu w r f)(k v:Int) :
 ∃w',(Instr.mapUpdate 323 (.map (some r)) (.i k) (.i v)).run Tryz.prog w=.ok () w'/\zbu w' r (fun q=>if q=k then some v else f q)/\zhY r w w':=by
 obtain⟨es,clock,hb,h1,h2,h3⟩:=h.ex;have hm:=Tryz.underlying323;have hd:=Tryz.underlying3
 rcases MapKept.findNow_spec (zbF k) es.toList 0 (zbu.keys h1) with⟨g1,g2⟩|⟨j,e,g1,g2,g3⟩
 ·refine⟨{ w with heap:=w.heap.setIfInBounds r (.map (es.push ⟨.i k,.i v,clock⟩) (clock+1)) },?_,⟨_,_,(MapKept.heap_set hb).1,?_,?_,?_⟩,rfl,rfl,rfl,by simp,fun q hq=>(MapKept.heap_set hb).2 q hq⟩
  ·simp[Instr.mapUpdate,run_underlying hm,MapKept.run_getObj_map hb,MapKept.run_checkKey hd (zbF k),MapKept.run_findKey hd g1,MapKept.run_setObj_map _ hb,Result.andThen]
  ·intro x hx
   rw[Array.toList_push,List.mem_append,List.mem_singleton]at hx
   rcases hx with hx|rfl
   ·obtain⟨k',v',e1,e2,e3⟩:=h1 x hx
    refine⟨k',v',e1,e2,?_⟩
    have:k'≠k:=by rintro rfl;exact g2 x hx e1
    simp only[if_neg this];exact e3
   ·exact⟨k,v,rfl,rfl,by simp⟩
  ·intro q u hq
   by_cases e:q=k
   ·subst e
    exact⟨⟨.i q,.i v,clock⟩,by simp,rfl⟩
   ·rw[if_neg e]at hq
    obtain⟨x,hx,hk⟩:=h2 q u hq;exact⟨x,by simp[Array.toList_push];exact Or.inl (by simpa using hx),hk⟩
  ·intro i j' x y hx hy hxy
   rw[Array.getElem?_push]at hx hy
   by_cases e1:i=es.size
   ·by_cases e2:j'=es.size
    ·omega
    ·rw[if_pos e1]at hx
     rw[if_neg e2]at hy;have hm:y∈es.toList:=by rw[<- Array.mem_def];exact Array.mem_of_getElem? hy
     cases hx
     exact absurd hxy.symm (g2 y hm)
   ·by_cases e2:j'=es.size
    ·rw[if_neg e1]at hx
     rw[if_pos e2]at hy;have hm:x∈es.toList:=by rw[<- Array.mem_def];exact Array.mem_of_getElem? hx
     cases hy
     exact absurd hxy (g2 x hm)
    ·rw[if_neg e1]at hx
     rw[if_neg e2]at hy;exact h3 i j' x y hx hy hxy
 ·have hj:es[j]?=some e:=by simpa using g2
  refine⟨{ w with heap:=w.heap.setIfInBounds r (.map (es.modify j fun x=>{ x with key:=.i k,val:=.i v }) clock) },?_,⟨_,_,(MapKept.heap_set hb).1,?_,?_,?_⟩,rfl,rfl,rfl,by simp,fun q hq=>(MapKept.heap_set hb).2 q hq⟩
  ·simp[Instr.mapUpdate,run_underlying hm,MapKept.run_getObj_map hb,MapKept.run_checkKey hd (zbF k),MapKept.run_findKey hd g1,hj,g3,MapKept.run_keyThatStays (zbF k),MapKept.run_setObj_map _ hb,Result.andThen]
  ·intro x hx
   obtain⟨i,hi,rfl⟩:=List.mem_iff_getElem.1 hx;have hi':i<es.size:=by simpa using hi
   simp only[Array.getElem_toList,Array.getElem_modify]
   by_cases e':j=i
   ·subst e'
    simp only[if_true];exact⟨k,v,rfl,rfl,by simp⟩
   ·simp only[if_neg e']
    obtain⟨k',v',e1,e2,e3⟩:=h1 es[i] (by simp)
    have ek:k'≠k:=by
     rintro rfl;exact e' (h3 j i e es[i] hj (Array.getElem?_eq_getElem hi') (g3.trans e1.symm))
    exact⟨k',v',e1,e2,by rw[if_neg ek];exact e3⟩
  ·intro q u hq
   have hj':j<es.size:=(gES hj).1
   by_cases e':q=k
   ·subst e'
    refine⟨(es.modify j fun x=>{ x with key:=.i q,val:=.i v })[j]'(by simpa using hj'),?_,?_⟩
    ·rw[<- Array.mem_def];exact Array.getElem_mem _
    ·rw[Array.getElem_modify];simp
   ·rw[if_neg e']at hq
    obtain⟨x,hx,hk⟩:=h2 q u hq;obtain⟨i,hi,rfl⟩:=List.mem_iff_getElem.1 hx;have hi':i<es.size:=by simpa using hi
    have hij:j≠i:=by
     rintro rfl;rw[Array.getElem_toList]at hk;rw[Array.getElem?_eq_getElem hi']at hj
     cases hj
     rw[g3]at hk
     cases hk
     exact e' rfl
    refine⟨(es.modify j fun x=>{ x with key:=.i k,val:=.i v })[i]'(by simpa using hi'),?_,?_⟩
    ·rw[<- Array.mem_def];exact Array.getElem_mem _
    ·rw[Array.getElem_modify,if_neg hij];simpa using hk
  ·have hkey:∀(i:Nat) (x:MapEntry),(es.modify j fun x=>{ x with key:=.i k,val:=.i v })[i]?=some x->∃y,es[i]?=some y/\x.key=y.key:=by
    intro i x hx;obtain⟨hi,rfl⟩:=gES hx;have hi':i<es.size:=by simpa using hi
    refine⟨es[i],Array.getElem?_eq_getElem hi',?_⟩;rw[Array.getElem_modify]
    by_cases e':j=i
    ·subst e'
     rw[Array.getElem?_eq_getElem hi']at hj
     cases hj
     simp[g3]
    ·rw[if_neg e']
   intro i j' x y hx hy hxy;obtain⟨x',hx',ex⟩:=hkey i x hx;obtain⟨y',hy',ey⟩:=hkey j' y hy;exact h3 i j' x' y' hx' hy' (ex.symm.trans (hxy.trans ey))
theorem zjB {a b:Int}{p q:Bool}(h:a=b)(h2:p=q):Ending.returned (.tuple #[.i a,.bool p])=.returned (.tuple #[.i b,.bool q]):=by rw[h,h2]
def zaJ (s:BA):Int:=if zat s=true then zg7 s else 0
theorem zkP (s:BA)(w:World)(h1:1<=s.size)(h7:s.size<=7)(hz:s.size<=1 \/ ¬(s[0].toNat:Int)=48) :
 Calls Tryz.prog 262 #[.s s] w fun e w'=>e=.returned (.tuple #[.i (zaJ s),.bool (zat s)])/\w'=w:=by
 have HF:Hid (zat s=zbf s):=zl7 s h1 h7 hz;have hne:s.toList.isEmpty=false:=by rw[zy];exact decide_eq_false (by omega)
 rcases(show(¬(s[0].toNat:Int)=48) \/ (s.size<=1/\(s[0].toNat:Int)=48) by rcases hz with h|h <;> omega) with hz0|⟨hone,hz0⟩
 all_goals
  clear hz
  first
   | (have hz1:((s[0].toNat:Int) == 48)=true:=by simpa using hz0)
   | (have hz1:((s[0].toNat:Int) == 48)=false:=by simpa using hz0)
  clear hz0;go_enter Tryz.func262,Tryz.ntmps262
  go_wp2
  go_loop [4,25] (fun n i=>∃k:Nat,k<=s.size/\i=.i k/\(s.data.toList.take k).all digit=true/\n=.i (dec (s.data.toList.take k))) (fun _ i=>s.size-(intOf i).toNat)
  case atStart=>exact⟨0,Nat.zero_le _,rfl,rfl,rfl⟩
  case round=>
   obtain⟨k,hk,rfl,hall,rfl⟩:=hrel;have hlen:(s.data.toList.take k).length<=k:=List.length_take_le _ _;obtain⟨hd0,hd1⟩:=zfK _ hall k hlen
   by_cases hlt:k<s.size
   ·have hp:=zlR k (by omega)
    have hd2:dec (s.data.toList.take k)<10000000:=by omega
    clear hp hd1 hlen;have HS:Hid ((s.data.toList.take (k+1)).all digit=(true&&digit s[k])):=by rw[zaY _ s k hlt,hall];rfl
    have HD:Hid (dec (s.data.toList.take (k+1))=dec (s.data.toList.take k)*10+((s[k].toNat:Int)-48)):=by rw[zhs s k hlt];exact znI _ _
    have HN:Hid (digit s[k]=false->zbf s=false):=fun h=>zcp digit s k hlt h
    clear hall
    by_cases hd:48<=(s[k].toNat:Int)/\(s[k].toNat:Int)<=57
    ·have HC:Hid (digit s[k]=true):=by simp[digit,Hid];omega
     obtain⟨h48,h57⟩:=hd
     go_wp2_with (go_at_call 241;refine(zin _ _ h48 h57).mono ?_;rintro e w'⟨rfl,rfl⟩)
     go_round
     case rel=>exact⟨k+1,by omega,by go_num,by rw[HS.o,HC.o];rfl,by rw[HD.o]⟩
     case measure=>simp[intOf];omega
    ·have HC:Hid (digit s[k]=false):=by simp[digit,Hid];omega
     have HDD:Hid (¬(48<=(s[k].toNat:Int)/\(s[k].toNat:Int)<=57)):=hd;clear hd
     go_wp2_with (go_at_call 241;refine(zda _ _ HDD.o).mono ?_;rintro e w'⟨rfl,rfl⟩)
     go_ret2
     exact⟨zjB (by unfold zaJ;rw[HF.o,HN.o HC.o];rfl) (by rw[HF.o,HN.o HC.o]),rfl⟩
   ·have HA:Hid (zbf s=true):=by unfold zbf Hid;rw[<- zaE s k (by omega)];exact hall
    have HB:Hid (dec (s.data.toList.take k)=zg7 s):=by rw[zaE s k (by omega)];rfl
    clear hall hd0 hd1 hlen
    go_wp2
    go_ret2
    exact⟨zjB (by unfold zaJ;rw[HF.o,HA.o,HB.o];rfl) (by rw[HF.o,HA.o]),rfl⟩
theorem zdL (s:BA)(w:World)(hs:s.size<=maxLen) :
 Calls Tryz.prog 262 #[.s s] w fun e w'=>e=.returned (.tuple #[.i (zaJ s),.bool (zat s)])/\w'=w:=by
 unfold maxLen at hs
 by_cases h0:s.size=0
 ·rw[zcq s h0]
  go_enter Tryz.func262,Tryz.ntmps262
  go_wp2
  go_ret2
  exact⟨rfl,rfl⟩
 have hne:s.toList.isEmpty=false:=by rw[zy];simp[h0]
 by_cases h7:s.size<=7
 ·by_cases hz:1<s.size/\(s[0].toNat:Int)=48
  ·obtain⟨hm,hz0⟩:=hz
   have HF:Hid (zat s=false):=zfQ s hm hz0;have hz1:((s[0].toNat:Int) == 48)=true:=by simpa using hz0
   clear hz0;go_enter Tryz.func262,Tryz.ntmps262
   go_wp2
   go_ret2
   exact⟨zjB (by unfold zaJ;rw[HF.o];rfl) HF.o.symm,rfl⟩
  ·exact zkP s w (by omega) h7 (by omega)
 ·have HF:Hid (zat s=false):=zei s (by omega)
  go_enter Tryz.func262,Tryz.ntmps262
  go_wp2
  go_ret2
  exact⟨zjB (by unfold zaJ;rw[HF.o];rfl) HF.o.symm,rfl⟩
theorem yu {w:World}{p:Addr}{v:Value}{b o:Nat}(h:b≠p.block):(w.setCell p v).cell? (aD b o)=w.cell? (aD b o):=by
 unfold World.cell?;rw[Below.heap_setCell _ _ _ _ h]
theorem zh3 {w:World}{b g o:Nat}(h:b≠g){v0 v1 v2 v3 v4 v5 v6:Value}:(((((((w.setCell (aD g 0) v0).setCell (aD g 1) v1).setCell (aD g 2) v2).setCell (aD g 3) v3).setCell (aD g 4) v4).setCell (aD g 5) v5).setCell (aD g 6) v6).cell? (aD b o)=w.cell? (aD b o):=by
 rw[yu h,yu h,yu h,yu h,yu h,yu h,yu h]
theorem zl1 {w:World}{b:Nat}{X:AV}{t:TypeId}(h:w.heap[b]?=some (.cells X t)):∀j,w.cell? (aD b j)=X[j]?:=fun _=>cell_of_block h
theorem zpE {w:World}{b:Nat}{X:AV}{t:TypeId}(h:w.heap[b]?=some (.cells X t)):∀j,w.frozen? (aD b j)=false:=fun _=>zl h
end Go.Proofs.YthdfpinbnncghaaGreat
namespace Go.Proofs.YthdfpinbnncghaaGreat
open Go.ChangeShapes Go.WideShapes Go.ChangeAt Go.RowKit
theorem Tryz.zkx:Tryz.prog.cellsOf 102=2:=by kernel_rfl
theorem Tryz.znk:Tryz.prog.cellsOf 100=1:=by kernel_rfl
section
variable {H:Type} {enc:TypeId × Value->H} {w:World} {base:Nat} {spare:Nat->Bool} {held:Bool}
theorem zov {fuel:Nat}{cs:List Value}{x:DataW H × List MemPlace}(h:DataW.trod enc Tryz.prog w base spare held fuel 100 cs=some x) :
 ∃a cap fs,cs=[.l a (List.length fs) cap]/\yj w a fs:=by
 obtain⟨a,len,cap,rfl,hm,hr⟩:=zad Tryz.underlying100 Tryz.zjP (by omega) h
 rcases Nat.eq_zero_or_pos len with h0|hp
 ·subst h0
  exact⟨a,cap,[],rfl,⟨by simp[maxLen],fun h=>absurd rfl h⟩⟩
 ·obtain⟨b,off,rfl,hb,hrow⟩:=hr hp
  have hf:∀i,i<len->∃f:Fld,∃wa wcap,zeX w b (off+i*11) f wa wcap:=by
   intro i hi;obtain⟨es,n,y,hel,hcell,hy⟩:=hrow i hi;obtain⟨nm,kd,ls,ms,wa,wcap,ws,to,rl,mu,fx,df,wg,rfl,hS,s0,s5,s9,s10⟩:=zoE hy;refine⟨⟨nm,kd,ls,ms,ws,to,rl,mu,fx,df,wg⟩,wa,wcap,⟨s0,s5,s9,s10⟩,hS,fun j hj=>?_⟩;rw[hcell j hj]
   simp[Fld.cells]
  obtain⟨fs,hl,hfs⟩:=za9 len hf;refine⟨_,cap,fs,by rw[hl],⟨by omega,fun _=>⟨b,off,rfl,hb,fun i hi=>hfs i hi⟩⟩⟩
theorem zoA {fuel:Nat}{cs:List Value}{x:DataW H × List MemPlace}(h:DataW.trod enc Tryz.prog w base spare held fuel 102 cs=some x) :
 ∃kd a cap fs,cs=[.s kd,.l a (List.length fs) cap]/\kd.size<=maxLen/\yj w a fs:=by
 have hlen:cs.length=2:=by
  obtain⟨_,_,_,_,hl,_,_⟩:=DataW.trod_struct Tryz.underlying102 h;rw[hl];exact Tryz.zkx
 match cs,hlen with
 | [c0,c1],_=>
  have hf:=jo Tryz.underlying102 h;obtain⟨_,_,f0⟩:=hf 0 9 0 c0 rfl Tryz.zK rfl;obtain⟨_,_,f1⟩:=hf 1 100 1 c1 rfl Tryz.znk rfl;obtain⟨kd,e0,_,s0⟩:=DataW.trod_string Tryz.underlying9 f0;obtain⟨a,cap,fs,e1,hF⟩:=zov f1;simp only[List.cons.injEq,and_true]at e0 e1;subst e0 e1;exact⟨kd,a,cap,fs,rfl,s0,hF⟩
theorem zn9 {fuel:Nat}{cs:List Value}{x:DataW H × List MemPlace}(h:DataW.trod enc Tryz.prog w base spare held fuel 22 cs=some x) :
 ∃a cap ss,cs=[.l a (List.length ss) cap]/\yR w a ss:=by
 obtain⟨a,len,cap,rfl,hm,hr⟩:=zad Tryz.underlying22 Tryz.zkx (by omega) h
 rcases Nat.eq_zero_or_pos len with h0|hp
 ·subst h0
  exact⟨a,cap,[],rfl,⟨by simp[maxLen],fun h=>absurd rfl h⟩⟩
 ·obtain⟨b,off,rfl,hb,hrow⟩:=hr hp
  have hf:∀i,i<len->∃s:Shp,∃fa fcap,zl2 w b (off+i*2) s fa fcap:=by
   intro i hi;obtain⟨es,n,y,hel,hcell,hy⟩:=hrow i hi;obtain⟨kd,fa,fcap,fs,rfl,s0,hF⟩:=zoA hy;exact⟨⟨kd,fs⟩,fa,fcap,s0,hF,hcell 0 (by omega),hcell 1 (by omega)⟩
  obtain⟨ss,hl,hss⟩:=za9 len hf;exact⟨_,cap,ss,by rw[hl],⟨by omega,fun _=>⟨b,off,rfl,hb,fun i hi=>hss i hi⟩⟩⟩
end
end Go.Proofs.YthdfpinbnncghaaGreat
