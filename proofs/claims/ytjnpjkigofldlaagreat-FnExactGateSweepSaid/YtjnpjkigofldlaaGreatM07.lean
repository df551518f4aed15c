import Derived.Deep.QuietTactic
import Derived.BigQuiet
import Derived.Test.YtjnpjkigofldlaaGreatM04
set_option maxHeartbeats 1000000
namespace Go.Proofs.YtjnpjkigofldlaaGreat
open Go.RowKit
def zcw (ws:List BA):Nat:=(ws.map ByteArray.size).sum
def qN (ws:List BA):Nat:=ws.length+zcw ws
theorem zq6 (ws:List BA)(k:Nat)(h:k<ws.length):zcw (ws.take (k+1))=zcw (ws.take k)+ws[k].size:=by
 unfold zcw;rw[tSe h,List.map_append,List.sum_append];simp
theorem ztL (ws:List BA)(k:Nat):zcw (ws.take k)<=zcw ws:=by
 unfold zcw
 conv=>rhs;rw[<- List.take_append_drop k ws]
 rw[List.map_append,List.sum_append];omega
theorem zsk (ws:List BA)(k:Nat)(h:ws.length<=k):zcw (ws.take k)=zcw ws:=by rw[tOl h]
theorem zgh (a:OA)(cap:Nat)(ws:List BA)(left:Int)(w:World)(hw:zD w a ws)(h0:0<=left)(h1:left<=1048576) :
 Calls Tryz.prog 111 #[.l a ws.length cap,.i left] w fun e w'=>e=.returned (.i (zJ (qN ws) left))/\w'=w:=by
 have hl:=hw.len;unfold maxLen at hl
 by_cases hfit:(ws.length:Int)<=left
 ·go_in
  go_wp2
  go_loop [1,5] (fun l i=>∃k:Nat,k<=ws.length/\i=.i k/\0<=left-ws.length-zcw (ws.take k)/\l=.i (left-ws.length-zcw (ws.take k))) (fun _ i=>ws.length-(intOf i).toNat)
  case atStart=>exact⟨0,Nat.zero_le _,rfl,by simp[zcw];omega,by simp[zcw]⟩
  case round=>
   obtain⟨k,hk,rfl,hpos,rfl⟩:=hrel
   by_cases hlt:k<ws.length
   ·obtain⟨b,off,rfl,hb,hc⟩:=hw.cells (by rintro rfl;simp at hlt)
    have hsm:=hw.small _ (List.getElem_mem hlt);unfold maxLen at hsm;clear hw;have hck:=hc k hlt;have HS:Hid (zcw (ws.take (k+1))=zcw (ws.take k)+ws[k].size):=zq6 ws k hlt;have hle:=ztL ws (k+1);clear hc
    by_cases hneg:left-ws.length-zcw (ws.take k)-ws[k].size<0
    ·have HF:Hid (zJ (qN ws) left=-1):=zy (by have:=HS.o;unfold qN;omega)
     clear hle
     go_wp2
     go_ret;exact⟨zm HF.o.symm,rfl⟩
    ·clear hle
     go_wp2
     go_round
     case rel=>exact⟨k+1,by omega,by go_num,by rw[HS.o];omega,by rw[HS.o];go_num⟩
     case measure=>simp[intOf];omega
   ·have HF:Hid (zJ (qN ws) left=left-ws.length-zcw (ws.take k)):=by
     rw[zsk ws k (by omega)]at hpos ⊢;have e:zJ (qN ws) left=left-qN ws:=zN (by unfold qN;omega);unfold Hid;rw[e];unfold qN;omega
    clear hw
    go_wp2
    go_ret;exact⟨zm HF.o.symm,rfl⟩
 ·have HF:Hid (zJ (qN ws) left=-1):=zy (by unfold qN;omega)
  clear hw;go_in
  go_wp2
  go_ret;exact⟨zm HF.o.symm,rfl⟩
theorem zdR (a a':OA)(cap cap':Nat)(ws:List BA)(w:World)(hw:zD w a ws)(hw':zD w a' ws) :
 Calls Tryz.prog 151 #[.l a ws.length cap,.l a' ws.length cap'] w fun e w'=>e=.returned (.bool true)/\Bw w w':=by
 have hl:=hw.len;unfold maxLen at hl;have hnn:((ws.length:Int) != ws.length)=false:=by simp
 go_in
 go_wp2
 go_loopw [5] (fun i wr=>∃k:Nat,k<=ws.length/\i=.i k/\∃n,wr=w.drewN n) (fun i _=>ws.length-(intOf i).toNat)
 case atStart=>exact⟨0,Nat.zero_le _,rfl,0,rfl⟩
 case round=>
  obtain⟨k,hk,rfl,nd,rfl⟩:=hrel
  by_cases hlt:k<ws.length
  ·obtain⟨b,off,rfl,hb,hc⟩:=hw.cells (by rintro rfl;simp at hlt)
   obtain⟨b',off',rfl,hb',hc'⟩:=hw'.cells (by rintro rfl;simp at hlt);clear hw hw';have hck:=hc k hlt;have hck':=hc' k hlt;have hltI:(k:Int)<(ws.length:Int):=by omega
   clear hc hc'
   go_wp2
   go_quiet (fail)
   go_wp2
   exact⟨⟨k+1,by omega,by go_num,nd+nq,rfl⟩,by simp[intOf];omega⟩
  ·clear hw hw'
   go_wp2
   go_ret;exact⟨rfl,below_drewN (bRf _ _) nd⟩
theorem zjZ (nm:BA)(kd ls ms:Int)(a a':OA)(cap cap':Nat)(ws:List BA)(to:BA)(rl:Int)(mu fx:Bool)(df wg:BA)(w:World)(hw:zD w a ws)(hw':zD w a' ws) :
 Calls Tryz.prog 201 #[.agg #[.s nm,.i kd,.i ls,.i ms,.l a ws.length cap,.s to,.i rl,.bool mu,.bool fx,.s df,.s wg],.agg #[.s nm,.i kd,.i ls,.i ms,.l a' ws.length cap',.s to,.i rl,.bool mu,.bool fx,.s df,.s wg]] w
  fun e w'=>e=.returned (.bool true)/\Bw w w':=by
 go_in
 go_wp2_with (go_at_call 151;refine(zdR _ _ _ _ _ _ (by exact hw.mono (zo _ _ _)) (by exact hw'.mono (zo _ _ _))).mono ?_;rintro e w1⟨rfl,hb1⟩;have hc1:=(zui hb1).1;have hz1:=hb1.size;simp only[World.size_alloc]at hz1)
 go_ret;exact⟨rfl,(zo _ _ _).trans (hb1.mono (by simp;omega))⟩
def zaA (nm:BA)(ws:List BA)(to df wg:BA):Nat:=nm.size+qN ws+to.size+df.size+wg.size
theorem zaa (a:OA)(cap:Nat)(ws:List BA)(left:Int)(w:World)(hw:zD w a ws)(h0:0<=left)(h1:left<=1048576)(h:(qN ws:Int)<=left) :
 Calls Tryz.prog 111 #[.l a ws.length cap,.i left] w fun e w'=>e=.returned (.i (left-qN ws))/\w'=w:=by
 refine(zgh a cap ws left w hw h0 h1).mono ?_;rintro e w'⟨rfl,rfl⟩;exact⟨zm (zN h),rfl⟩
theorem zen (a:OA)(cap:Nat)(ws:List BA)(left:Int)(w:World)(hw:zD w a ws)(h0:0<=left)(h1:left<=1048576)(h:¬(qN ws:Int)<=left) :
 Calls Tryz.prog 111 #[.l a ws.length cap,.i left] w fun e w'=>e=.returned (.i (-1))/\w'=w:=by
 refine(zgh a cap ws left w hw h0 h1).mono ?_;rintro e w'⟨rfl,rfl⟩;exact⟨zm (zy h),rfl⟩
theorem ze3 (nm:BA)(kd ls ms:Int)(a:OA)(cap:Nat)(ws:List BA)(to:BA)(rl:Int)(mu fx:Bool)(df wg:BA)(left:Int)(w:World)(hw:zD w a ws)(h0:0<=left)(h1:left<=1048576)
 (hnm:nm.size<=maxLen) (hto:to.size<=maxLen) (hdf:df.size<=maxLen) (hwg:wg.size<=maxLen) :
 Calls Tryz.prog 154 #[.agg #[.s nm,.i kd,.i ls,.i ms,.l a ws.length cap,.s to,.i rl,.bool mu,.bool fx,.s df,.s wg],.i left] w fun e w'=>e=.returned (.i (zJ (zaA nm ws to df wg) left))/\Bw w w':=by
 unfold maxLen at hnm hto hdf hwg
 by_cases c1:(nm.size:Int)<=left
 rotate_left
 ·have HF:Hid (zJ (zaA nm ws to df wg) left=-1):=zy (by unfold zaA;omega)
  go_in;go_wp2
  go_ret;exact⟨zm HF.o.symm,bAl _ _⟩
 by_cases c2:(qN ws:Int)<=left-nm.size
 rotate_left
 ·have HF:Hid (zJ (zaA nm ws to df wg) left=-1):=zy (by unfold zaA;omega)
  go_in
  go_wp2_with (go_at_call 111;refine(zen _ _ _ _ _ (by exact hw.mono (bAl _ _)) (by omega) (by omega) (by omega)).mono ?_;rintro e w1⟨rfl,rfl⟩)
  go_ret;exact⟨zm HF.o.symm,bAl _ _⟩
 by_cases c3:(to.size:Int)<=left-nm.size-qN ws
 rotate_left
 ·have HF:Hid (zJ (zaA nm ws to df wg) left=-1):=zy (by unfold zaA;omega)
  go_in
  go_wp2_with (go_at_call 111;refine(zaa _ _ _ _ _ (by exact hw.mono (bAl _ _)) (by omega) (by omega) (by omega)).mono ?_;rintro e w1⟨rfl,rfl⟩)
  go_ret;exact⟨zm HF.o.symm,bAl _ _⟩
 by_cases c4:(df.size:Int)<=left-nm.size-qN ws-to.size
 rotate_left
 ·have HF:Hid (zJ (zaA nm ws to df wg) left=-1):=zy (by unfold zaA;omega)
  go_in
  go_wp2_with (go_at_call 111;refine(zaa _ _ _ _ _ (by exact hw.mono (bAl _ _)) (by omega) (by omega) (by omega)).mono ?_;rintro e w1⟨rfl,rfl⟩)
  go_ret;exact⟨zm HF.o.symm,bAl _ _⟩
 by_cases c5:(wg.size:Int)<=left-nm.size-qN ws-to.size-df.size
 rotate_left
 ·have HF:Hid (zJ (zaA nm ws to df wg) left=-1):=zy (by unfold zaA;omega)
  go_in
  go_wp2_with (go_at_call 111;refine(zaa _ _ _ _ _ (by exact hw.mono (bAl _ _)) (by omega) (by omega) (by omega)).mono ?_;rintro e w1⟨rfl,rfl⟩)
  go_ret;exact⟨zm HF.o.symm,bAl _ _⟩
 ·have HF:Hid (zJ (zaA nm ws to df wg) left=left-nm.size-qN ws-to.size-df.size-wg.size):=by
   have e:zJ (zaA nm ws to df wg) left=left-zaA nm ws to df wg:=zN (by unfold zaA;omega);unfold Hid;rw[e];unfold zaA;omega
  go_in
  go_wp2_with (go_at_call 111;refine(zaa _ _ _ _ _ (by exact hw.mono (bAl _ _)) (by omega) (by omega) (by omega)).mono ?_;rintro e w1⟨rfl,rfl⟩)
  go_ret;exact⟨zm HF.o.symm,bAl _ _⟩
def Fld.sz (f:Fld):Nat:=zaA f.nm f.ws f.to f.df f.wg
def zik (fs:List Fld):Nat:=(fs.map Fld.sz).sum
def zaS (fs:List Fld):Nat:=fs.length+zik fs
def Shp.sz (s:Shp):Nat:=s.kd.size+zaS s.fs
def ziK (ss:List Shp):Nat:=(ss.map Shp.sz).sum
def zaU (ss:List Shp):Nat:=ss.length+ziK ss
theorem zjT (nm:BA)(kd ls ms:Int)(a:OA)(cap:Nat)(ws:List BA)(to:BA)(rl:Int)(mu fx:Bool)(df wg:BA)(left:Int)(w:World)(hw:zD w a ws)(h0:0<=left)(h1:left<=1048576)
 (hnm:nm.size<=maxLen) (hto:to.size<=maxLen) (hdf:df.size<=maxLen) (hwg:wg.size<=maxLen) (h:(zaA nm ws to df wg:Int)<=left) :
 Calls Tryz.prog 154 #[.agg #[.s nm,.i kd,.i ls,.i ms,.l a ws.length cap,.s to,.i rl,.bool mu,.bool fx,.s df,.s wg],.i left] w fun e w'=>e=.returned (.i (left-zaA nm ws to df wg))/\Bw w w':=by
 refine(ze3 nm kd ls ms a cap ws to rl mu fx df wg left w hw h0 h1 hnm hto hdf hwg).mono ?_;rintro e w'⟨rfl,hb⟩;exact⟨zm (zN h),hb⟩
theorem zlo (nm:BA)(kd ls ms:Int)(a:OA)(cap:Nat)(ws:List BA)(to:BA)(rl:Int)(mu fx:Bool)(df wg:BA)(left:Int)(w:World)(hw:zD w a ws)(h0:0<=left)(h1:left<=1048576)
 (hnm:nm.size<=maxLen) (hto:to.size<=maxLen) (hdf:df.size<=maxLen) (hwg:wg.size<=maxLen) (h:¬(zaA nm ws to df wg:Int)<=left) :
 Calls Tryz.prog 154 #[.agg #[.s nm,.i kd,.i ls,.i ms,.l a ws.length cap,.s to,.i rl,.bool mu,.bool fx,.s df,.s wg],.i left] w fun e w'=>e=.returned (.i (-1))/\Bw w w':=by
 refine(ze3 nm kd ls ms a cap ws to rl mu fx df wg left w hw h0 h1 hnm hto hdf hwg).mono ?_;rintro e w'⟨rfl,hb⟩;exact⟨zm (zy h),hb⟩
theorem zd8 (a:OA)(cap:Nat)(fs:List Fld)(left:Int)(w:World)(hw:yw w a fs)(h0:0<=left)(h1:left<=1048576) :
 Calls Tryz.prog 110 #[.l a fs.length cap,.i left] w fun e w'=>e=.returned (.i (zJ (zaS fs) left))/\Bw w w':=by
 have hl:=hw.len;unfold maxLen at hl
 by_cases hfit:(fs.length:Int)<=left
 ·go_in
  go_wp2
  go_loopw [1,5] (fun l i wr=>∃k:Nat,k<=fs.length/\i=.i k/\0<=left-fs.length-zik (fs.take k)/\l=.i (left-fs.length-zik (fs.take k))/\Bw w wr) (fun _ i _=>fs.length-(intOf i).toNat)
  case atStart=>exact⟨0,Nat.zero_le _,rfl,by simp[zik];omega,by simp[zik],bRf _ _⟩
  case round=>
   obtain⟨k,hk,rfl,hpos,rfl,hB⟩:=hrel
   by_cases hlt:k<fs.length
   ·obtain⟨b,off,rfl,hb,hr⟩:=hw.rows (by rintro rfl;simp at hlt)
    obtain⟨wa,wcap,hf0⟩:=hr k hlt;have hf:=hf0.mono hb hB;obtain⟨c0,c1,c2,c3,c4,c5,c6,c7,c8,c9,c10⟩:=hf.load;have hsm:=hf.small;have hst:=hf.strs;have HS:Hid (zik (fs.take (k+1))=zik (fs.take k)+fs[k].sz):=za6 Fld.sz fs k hlt;have hle:zik (fs.take (k+1))<=zik fs:=zc5 Fld.sz fs (k+1);clear hw hr hf0 hf
    by_cases hneg:(zaA fs[k].nm fs[k].ws fs[k].to fs[k].df fs[k].wg:Int)<=left-fs.length-zik (fs.take k)
    ·have HNG:Hid ((zaA fs[k].nm fs[k].ws fs[k].to fs[k].df fs[k].wg:Int)<=left-fs.length-zik (fs.take k)):=hneg
     clear hle;go_wp2_with fail
     refine(zjT _ _ _ _ _ _ _ _ _ _ _ _ _ _ _ hst hpos (by omega) hsm.nm hsm.to hsm.df hsm.wg HNG.o).mono ?_;rintro e w1⟨rfl,hb1⟩;have hB1:=hB.trans (hb1.mono hB.size);clear hb1;go_wp2
     exact⟨⟨k+1,by omega,by go_num,by rw[HS.o];show 0<=_-((_+zaA _ _ _ _ _:Nat):Int);omega,by rw[HS.o];show Value.int _ _=Value.int _ (_-((_+zaA _ _ _ _ _:Nat):Int));congr 1;omega,hB1⟩,by simp[intOf];omega⟩
    ·have HF:Hid (zJ (zaS fs) left=-1):=zy (by have:=HS.o;unfold zaS;unfold Fld.sz at this;omega)
     have HNG:=hid hneg;clear hneg hle;go_wp2_with fail
     refine(zlo _ _ _ _ _ _ _ _ _ _ _ _ _ _ _ hst hpos (by omega) hsm.nm hsm.to hsm.df hsm.wg (by have:=HNG.o;omega)).mono ?_;rintro e w1⟨rfl,hb1⟩;have hB1:=hB.trans (hb1.mono hB.size);clear hb1;go_wp2
     go_ret;exact⟨zm HF.o.symm,hB1⟩
   ·have HF:Hid (zJ (zaS fs) left=left-fs.length-zik (fs.take k)):=by
     rw[tOl (by omega)]at hpos ⊢;have e:zJ (zaS fs) left=left-zaS fs:=zN (by unfold zaS;omega);unfold Hid;rw[e];unfold zaS;omega
    clear hw
    go_wp2
    go_ret;exact⟨zm HF.o.symm,hB⟩
 ·have HF:Hid (zJ (zaS fs) left=-1):=zy (by unfold zaS;omega)
  clear hw;go_in
  go_wp2
  go_ret;exact⟨zm HF.o.symm,bRf _ _⟩
theorem zhW (a:OA)(cap:Nat)(fs:List Fld)(left:Int)(w:World)(hw:yw w a fs)(h0:0<=left)(h1:left<=1048576)(h:(zaS fs:Int)<=left) :
 Calls Tryz.prog 110 #[.l a fs.length cap,.i left] w fun e w'=>e=.returned (.i (left-zaS fs))/\Bw w w':=by
 refine(zd8 a cap fs left w hw h0 h1).mono ?_;rintro e w'⟨rfl,hb⟩;exact⟨zm (zN h),hb⟩
theorem zj0 (a:OA)(cap:Nat)(fs:List Fld)(left:Int)(w:World)(hw:yw w a fs)(h0:0<=left)(h1:left<=1048576)(h:¬(zaS fs:Int)<=left) :
 Calls Tryz.prog 110 #[.l a fs.length cap,.i left] w fun e w'=>e=.returned (.i (-1))/\Bw w w':=by
 refine(zd8 a cap fs left w hw h0 h1).mono ?_;rintro e w'⟨rfl,hb⟩;exact⟨zm (zy h),hb⟩
theorem zeX (kd:BA)(a:OA)(cap:Nat)(fs:List Fld)(left:Int)(w:World)(hkd:kd.size<=maxLen)(hw:yw w a fs)(h0:0<=left)(h1:left<=1048576) :
 Calls Tryz.prog 55 #[.agg #[.s kd,.l a fs.length cap],.i left] w fun e w'=>e=.returned (.i (zJ (Shp.sz ⟨kd,fs⟩) left))/\Bw w w':=by
 unfold maxLen at hkd
 by_cases c1:(kd.size:Int)<=left
 rotate_left
 ·have HF:Hid (zJ (Shp.sz ⟨kd,fs⟩) left=-1):=zy (by unfold Shp.sz;simp only;omega)
  go_in;go_wp2
  go_ret;exact⟨zm HF.o.symm,bAl _ _⟩
 by_cases c2:(zaS fs:Int)<=left-kd.size
 ·have HF:Hid (zJ (Shp.sz ⟨kd,fs⟩) left=left-kd.size-zaS fs):=by
   have e:zJ (Shp.sz ⟨kd,fs⟩) left=left-Shp.sz ⟨kd,fs⟩:=zN (by unfold Shp.sz;simp only;omega);unfold Hid;rw[e];unfold Shp.sz;simp only;omega
  go_in;go_wp2_with fail
  refine(zhW _ _ _ _ _ (hw.mono (bAl _ _)) (by omega) (by omega) (by omega)).mono ?_;rintro e w1⟨rfl,hb1⟩;go_wp2
  go_ret;exact⟨zm HF.o.symm,(bAl _ _).trans (hb1.mono (by simp))⟩
 ·have HF:Hid (zJ (Shp.sz ⟨kd,fs⟩) left=-1):=zy (by unfold Shp.sz;simp only;omega)
  go_in;go_wp2_with fail
  refine(zj0 _ _ _ _ _ (hw.mono (bAl _ _)) (by omega) (by omega) (by omega)).mono ?_;rintro e w1⟨rfl,hb1⟩;go_wp2
  go_ret;exact⟨zm HF.o.symm,(bAl _ _).trans (hb1.mono (by simp))⟩
theorem zjU (kd:BA)(a:OA)(cap:Nat)(fs:List Fld)(left:Int)(w:World)(hkd:kd.size<=maxLen)(hw:yw w a fs)(h0:0<=left)(h1:left<=1048576)(h:(Shp.sz ⟨kd,fs⟩:Int)<=left) :
 Calls Tryz.prog 55 #[.agg #[.s kd,.l a fs.length cap],.i left] w fun e w'=>e=.returned (.i (left-Shp.sz ⟨kd,fs⟩))/\Bw w w':=by
 refine(zeX kd a cap fs left w hkd hw h0 h1).mono ?_;rintro e w'⟨rfl,hb⟩;exact⟨zm (zN h),hb⟩
theorem zkG (kd:BA)(a:OA)(cap:Nat)(fs:List Fld)(left:Int)(w:World)(hkd:kd.size<=maxLen)(hw:yw w a fs)(h0:0<=left)(h1:left<=1048576)(h:¬(Shp.sz ⟨kd,fs⟩:Int)<=left) :
 Calls Tryz.prog 55 #[.agg #[.s kd,.l a fs.length cap],.i left] w fun e w'=>e=.returned (.i (-1))/\Bw w w':=by
 refine(zeX kd a cap fs left w hkd hw h0 h1).mono ?_;rintro e w'⟨rfl,hb⟩;exact⟨zm (zy h),hb⟩
theorem zim (a:OA)(cap:Nat)(ss:List Shp)(left:Int)(w:World)(hw:yU w a ss)(h0:0<=left)(h1:left<=1048576) :
 Calls Tryz.prog 15 #[.l a ss.length cap,.i left] w fun e w'=>e=.returned (.i (zJ (zaU ss) left))/\Bw w w':=by
 have hl:=hw.len;unfold maxLen at hl
 by_cases hfit:(ss.length:Int)<=left
 ·go_in
  go_wp2
  go_loopw [1,5] (fun l i wr=>∃k:Nat,k<=ss.length/\i=.i k/\0<=left-ss.length-ziK (ss.take k)/\l=.i (left-ss.length-ziK (ss.take k))/\Bw w wr) (fun _ i _=>ss.length-(intOf i).toNat)
  case atStart=>exact⟨0,Nat.zero_le _,rfl,by simp[ziK];omega,by simp[ziK],bRf _ _⟩
  case round=>
   obtain⟨k,hk,rfl,hpos,rfl,hB⟩:=hrel
   by_cases hlt:k<ss.length
   ·obtain⟨b,off,rfl,hb,hr⟩:=hw.rows (by rintro rfl;simp at hlt)
    obtain⟨fa,fcap,hs0⟩:=hr k hlt;have hs:=hs0.mono hb hB;have hck:=hs.kind;have hcl:=hs.list;have hfl:=hs.zdE;have hsm:=hs.small;have HS:Hid (ziK (ss.take (k+1))=ziK (ss.take k)+Shp.sz ⟨ss[k].kd,ss[k].fs⟩):=za6 Shp.sz ss k hlt;have hle:ziK (ss.take (k+1))<=ziK ss:=zc5 Shp.sz ss (k+1);clear hw hr hs0 hs
    by_cases hneg:(Shp.sz ⟨ss[k].kd,ss[k].fs⟩:Int)<=left-ss.length-ziK (ss.take k)
    ·have HNG:Hid ((Shp.sz ⟨ss[k].kd,ss[k].fs⟩:Int)<=left-ss.length-ziK (ss.take k)):=hneg
     clear hle;go_wp2_with fail
     refine(zjU _ _ _ _ _ _ hsm hfl hpos (by omega) HNG.o).mono ?_;rintro e w1⟨rfl,hb1⟩;have hB1:=hB.trans (hb1.mono hB.size);clear hb1;go_wp2
     exact⟨⟨k+1,by omega,by go_num,by rw[HS.o];omega,by rw[HS.o];congr 1;omega,hB1⟩,by simp[intOf];omega⟩
    ·have HF:Hid (zJ (zaU ss) left=-1):=zy (by have:=HS.o;unfold zaU;omega)
     have HNG:=hid hneg;clear hneg hle;go_wp2_with fail
     refine(zkG _ _ _ _ _ _ hsm hfl hpos (by omega) (by have:=HNG.o;omega)).mono ?_;rintro e w1⟨rfl,hb1⟩;have hB1:=hB.trans (hb1.mono hB.size);clear hb1;go_wp2
     go_ret;exact⟨zm HF.o.symm,hB1⟩
   ·have HF:Hid (zJ (zaU ss) left=left-ss.length-ziK (ss.take k)):=by
     rw[tOl (by omega)]at hpos ⊢;have e:zJ (zaU ss) left=left-zaU ss:=zN (by unfold zaU;omega);unfold Hid;rw[e];unfold zaU;omega
    clear hw
    go_wp2
    go_ret;exact⟨zm HF.o.symm,hB⟩
 ·have HF:Hid (zJ (zaU ss) left=-1):=zy (by unfold zaU;omega)
  clear hw;go_in
  go_wp2
  go_ret;exact⟨zm HF.o.symm,bRf _ _⟩
end Go.Proofs.YtjnpjkigofldlaaGreat
