import Derived.Test.YtbfgkhgmnfghgaaGreatM05
set_option maxHeartbeats 1000000
namespace Go.Proofs.YtbfgkhgmnfghgaaGreat
open Go.RowKit
theorem zjr {a b:Int}{p q:Bool}(h:a=b)(h2:p=q):Ending.returned (.tuple #[.i a,.bool p])=.returned (.tuple #[.i b,.bool q]):=by rw[h,h2]
def zaA (s:BA):Int:=if zao s=true then zgm s else 0
theorem zj5 (s:BA)(w:World)(h1:1<=s.size)(h7:s.size<=7)(hz:s.size<=1 \/ ¬(s[0].toNat:Int)=48) :
 Calls Tryz.prog 242 #[.s s] w fun e w'=>e=.returned (.tuple #[.i (zaA s),.bool (zao s)])/\w'=w:=by
 have HF:Hid (zao s=za7 s):=zlH s h1 h7 hz;have hne:s.toList.isEmpty=false:=by rw[zy];exact decide_eq_false (by omega)
 rcases(show(¬(s[0].toNat:Int)=48) \/ (s.size<=1/\(s[0].toNat:Int)=48) by rcases hz with h|h <;> omega) with hz0|⟨hone,hz0⟩
 all_goals
  clear hz
  first
   | (have hz1:((s[0].toNat:Int) == 48)=true:=by simpa using hz0)
   | (have hz1:((s[0].toNat:Int) == 48)=false:=by simpa using hz0)
  clear hz0;go_enter Tryz.func242,Tryz.ntmps242
  go_wp2
  go_loop [4,25] (fun n i=>∃k:Nat,k<=s.size/\i=.i k/\(s.data.toList.take k).all digit=true/\n=.i (dec (s.data.toList.take k))) (fun _ i=>s.size-(intOf i).toNat)
  case atStart=>exact⟨0,Nat.zero_le _,rfl,rfl,rfl⟩
  case round=>
   obtain⟨k,hk,rfl,hall,rfl⟩:=hrel;have hlen:(s.data.toList.take k).length<=k:=List.length_take_le _ _;obtain⟨hd0,hd1⟩:=zfC _ hall k hlen
   by_cases hlt:k<s.size
   ·have hp:=zlF k (by omega)
    have hd2:dec (s.data.toList.take k)<10000000:=by omega
    clear hp hd1 hlen;have HS:Hid ((s.data.toList.take (k+1)).all digit=(true&&digit s[k])):=by rw[zaT _ s k hlt,hall];rfl
    have HD:Hid (dec (s.data.toList.take (k+1))=dec (s.data.toList.take k)*10+((s[k].toNat:Int)-48)):=by rw[zh8 s k hlt];exact znE _ _
    have HN:Hid (digit s[k]=false->za7 s=false):=fun h=>zcg digit s k hlt h
    clear hall
    by_cases hd:48<=(s[k].toNat:Int)/\(s[k].toNat:Int)<=57
    ·have HC:Hid (digit s[k]=true):=by simp[digit,Hid];omega
     obtain⟨h48,h57⟩:=hd
     go_wp2_with (go_at_call 182;refine(ziy _ _ h48 h57).mono ?_;rintro e w'⟨rfl,rfl⟩)
     go_round
     case rel=>exact⟨k+1,by omega,by go_num,by rw[HS.o,HC.o];rfl,by rw[HD.o]⟩
     case measure=>simp[intOf];omega
    ·have HC:Hid (digit s[k]=false):=by simp[digit,Hid];omega
     have HDD:Hid (¬(48<=(s[k].toNat:Int)/\(s[k].toNat:Int)<=57)):=hd;clear hd
     go_wp2_with (go_at_call 182;refine(zdb _ _ HDD.o).mono ?_;rintro e w'⟨rfl,rfl⟩)
     go_ret2
     exact⟨zjr (by unfold zaA;rw[HF.o,HN.o HC.o];rfl) (by rw[HF.o,HN.o HC.o]),rfl⟩
   ·have HA:Hid (za7 s=true):=by unfold za7 Hid;rw[<- zaw s k (by omega)];exact hall
    have HB:Hid (dec (s.data.toList.take k)=zgm s):=by rw[zaw s k (by omega)];rfl
    clear hall hd0 hd1 hlen
    go_wp2
    go_ret2
    exact⟨zjr (by unfold zaA;rw[HF.o,HA.o,HB.o];rfl) (by rw[HF.o,HA.o]),rfl⟩
theorem zdH (s:BA)(w:World)(hs:s.size<=maxLen) :
 Calls Tryz.prog 242 #[.s s] w fun e w'=>e=.returned (.tuple #[.i (zaA s),.bool (zao s)])/\w'=w:=by
 unfold maxLen at hs
 by_cases h0:s.size=0
 ·rw[zdI s h0]
  go_enter Tryz.func242,Tryz.ntmps242
  go_wp2
  go_ret2
  exact⟨rfl,rfl⟩
 have hne:s.toList.isEmpty=false:=by rw[zy];simp[h0]
 by_cases h7:s.size<=7
 ·by_cases hz:1<s.size/\(s[0].toNat:Int)=48
  ·obtain⟨hm,hz0⟩:=hz
   have HF:Hid (zao s=false):=zfJ s hm hz0;have hz1:((s[0].toNat:Int) == 48)=true:=by simpa using hz0
   clear hz0;go_enter Tryz.func242,Tryz.ntmps242
   go_wp2
   go_ret2
   exact⟨zjr (by unfold zaA;rw[HF.o];rfl) HF.o.symm,rfl⟩
  ·exact zj5 s w (by omega) h7 (by omega)
 ·have HF:Hid (zao s=false):=zew s (by omega)
  go_enter Tryz.func242,Tryz.ntmps242
  go_wp2
  go_ret2
  exact⟨zjr (by unfold zaA;rw[HF.o];rfl) HF.o.symm,rfl⟩
def zru (ss:List Shp)(v:BA)(e:Ending):Prop:=
 (zJ ss v=false->e=.returned (.i (-1)))/\(zJ ss v=true->∃k,∃h:k<ss.length,e=.returned (.i (k:Nat))/\shapeOf ss v=ss[k])
theorem ziv (a:OA)(cap:Nat)(ss:List Shp)(v:BA)(w:World)(hw:yX w a ss) :
 Calls Tryz.prog 151 #[.l a ss.length cap,.s v] w fun e w'=>zru ss v e/\w'=w:=by
 have hl:=hw.len;unfold maxLen at hl;go_enter Tryz.func151,Tryz.ntmps151
 go_wp2
 go_loop [5] (fun i=>∃k:Nat,k<=ss.length/\i=.i k/\zJ (ss.take k) v=false) (fun i=>ss.length-(intOf i).toNat)
 case atStart=>exact⟨0,Nat.zero_le _,rfl,rfl⟩
 case round=>
  obtain⟨k,hk,rfl,hno⟩:=hrel
  by_cases hlt:k<ss.length
  ·obtain⟨b,off,rfl,hb,hr⟩:=hw.rows (by rintro rfl;simp at hlt)
   obtain⟨fa,fcap,hs⟩:=hr k hlt;have hck:=hs.kind;clear hw hr hs
   by_cases he:ss[k].kd=v
   ·have hbe:(ss[k].kd.toList == v.toList)=true:=by rw[beq_toList];simpa using he
    have HA:Hid (zJ ss v=true):=zjD ss v k hlt he;have HB:Hid (shapeOf ss v=ss[k]):=zgd ss v k hlt hno he;clear he hno
    go_wp2
    go_ret;exact⟨⟨fun h=>(by rw[HA.o]at h;cases h),fun _=>⟨k,hlt,rfl,HB.o⟩⟩,rfl⟩
   ·have hbe:(ss[k].kd.toList == v.toList)=false:=by rw[beq_toList];simpa using he
    have HS:Hid (zJ (ss.take (k+1)) v=false):=by unfold Hid;rw[zgH ss v k hlt,hno,decide_eq_false he];rfl
    clear he hno
    go_wp2
    go_round
    case rel=>exact⟨k+1,by omega,by go_num,HS.o⟩
    case measure=>simp[intOf];omega
  ·have HA:Hid (zJ ss v=false):=by rw[<- zim ss v k (by omega)];exact hno
   clear hno hw
   go_wp2
   go_ret;exact⟨⟨fun _=>rfl,fun h=>by rw[HA.o]at h;cases h⟩,rfl⟩
theorem zeA (a:OA)(cap:Nat)(ss:List Shp)(v:BA)(w:World)(hw:yX w a ss)(h:zJ ss v=false) :
 Calls Tryz.prog 151 #[.l a ss.length cap,.s v] w fun e w'=>e=.returned (.i (-1))/\w'=w:=by
 refine(ziv a cap ss v w hw).mono ?_;rintro e w'⟨⟨h1,_⟩,rfl⟩;exact⟨h1 h,rfl⟩
theorem jZ (a:OA)(cap:Nat)(ss:List Shp)(v:BA)(w:World)(hw:yX w a ss)(h:zJ ss v=true) :
 Calls Tryz.prog 151 #[.l a ss.length cap,.s v] w fun e w'=>∃k,∃h:k<ss.length,e=.returned (.i (k:Nat))/\shapeOf ss v=ss[k]/\w'=w:=by
 refine(ziv a cap ss v w hw).mono ?_;rintro e w'⟨⟨_,h2⟩,rfl⟩;obtain⟨k,hk,he,hs⟩:=h2 h;exact⟨k,hk,he,hs,rfl⟩
end Go.Proofs.YtbfgkhgmnfghgaaGreat
namespace Go.Proofs.YtbfgkhgmnfghgaaGreat
structure Ob where
 kd:BA
 nm:BA
 tm:BA
 vs:List BA
 en:Bool
 hs:List BA
 vr:Int
abbrev oC (o:Ob)(a a':OA)(c c':Nat):AV:=#[.s o.kd,.s o.nm,.s o.tm,.l a o.vs.length c,.bool o.en,.l a' o.hs.length c',.i o.vr]
abbrev oZ:AV:=#[.s ByteArray.empty,.s ByteArray.empty,.s ByteArray.empty,.l none 0 0,.bool false,.l none 0 0,.i 0]
def Ob.cells (o:Ob)(a:OA)(cap:Nat)(a':OA)(cap':Nat):AV:=
 #[.s o.kd, .s o.nm, .s o.tm, .l a o.vs.length cap, .bool o.en, .l a' o.hs.length cap', .i o.vr]
structure Ob.Small (o:Ob):Prop where
 kd:o.kd.size<=maxLen
 nm:o.nm.size<=maxLen
 tm:o.tm.size<=maxLen
def zaE (f:Fld)(v:BA):Int:=if v.size=0 then (if f.mu then 2 else 0) else if zfU f v then 0 else 3
def zg5 (fs:List Fld)(vs:List BA)(i:Nat):Int:=zaE (fs.getD i zbR) (vs.getD i ByteArray.empty)
def zbh (fs:List Fld)(vs:List BA)(i:Nat):Bool:=decide (zg5 fs vs i=0)
def jI (fs:List Fld)(vs:List BA):Int × Int:=match (List.range fs.length).find? (fun i=>!zbh fs vs i) with|some i=>(zg5 fs vs i,i)|none=>(0,0)
theorem find_range {P:Nat->Bool}{n k:Nat}(hk:k<n)(hu:up P k=true)(hp:P k=false):(List.range n).find? (fun i=>!P i)=some k:=by
 rw[List.find?_eq_some_iff_getElem];refine⟨by simp[hp],k,by simpa using hk,by simp,fun j hj=>?_⟩
 have:=zih hj hu
 simp[this]
theorem zi7 {P:Nat->Bool}{n:Nat}(hu:up P n=true):(List.range n).find? (fun i=>!P i)=none:=by
 rw[List.find?_eq_none];intro x hx
 have:=zih (List.mem_range.1 hx) hu
 simp[this]
theorem zlM {fs:List Fld}{vs:List BA}{k:Nat}(hk:k<fs.length)(hu:up (zbh fs vs) k=true)(hp:zbh fs vs k=false):jI fs vs=(zg5 fs vs k,(k:Int)):=by
 unfold jI;rw[find_range hk hu hp]
theorem zir {fs:List Fld}{vs:List BA}(hu:up (zbh fs vs) fs.length=true):jI fs vs=(0,0):=by
 unfold jI;rw[zi7 hu]
theorem zjK {fs:List Fld}{vs:List BA}{k:Nat}(h1:k<fs.length)(h2:k<vs.length):zg5 fs vs k=zaE fs[k] vs[k]:=by
 unfold zg5;rw[getD_at fs k _ h1,getD_at vs k _ h2]
def qK (o:Ob):Bool:=zx o.nm&&zx o.tm
def qX (o:Ob):Bool:=decide (o.hs.length<=3)&&asc o.hs
def qA (o:Ob):Bool:=decide (0<=o.vr)&&decide (o.vr<=1000000)
def zB (ss:List Shp)(o:Ob):Bool:=zJ ss o.kd&&decide (o.vs.length=(shapeOf ss o.kd).fs.length)
def whole (ss:List Shp)(o:Ob):Bool:=qK o&&qX o&&qA o&&zB ss o
def yD (ss:List Shp)(o:Ob):Int × Int:=if whole ss o=true then jI (shapeOf ss o.kd).fs o.vs else (1,0)
end Go.Proofs.YtbfgkhgmnfghgaaGreat
namespace Go.Proofs.YtbfgkhgmnfghgaaGreat
open Go.RowKit
theorem yh {w:World}{p:Addr}{v:Value}{b o:Nat}(h:b≠p.block):(w.setCell p v).cell? (aD b o)=w.cell? (aD b o):=by
 unfold World.cell?;rw[Below.heap_setCell _ _ _ _ h]
theorem zb6 {w:World}{b g o:Nat}(h:b≠g){v0 v1 v2 v3 v4 v5 v6:Value}:(((((((w.setCell (aD g 0) v0).setCell (aD g 1) v1).setCell (aD g 2) v2).setCell (aD g 3) v3).setCell (aD g 4) v4).setCell (aD g 5) v5).setCell (aD g 6) v6).cell? (aD b o)=w.cell? (aD b o):=by
 rw[yh h,yh h,yh h,yh h,yh h,yh h,yh h]
def Fld.sz (f:Fld):Nat:=zav f.nm f.ws f.to f.df f.wg
def zhE (fs:List Fld):Nat:=(fs.map Fld.sz).sum
def zaS (fs:List Fld):Nat:=fs.length+zhE fs
def Shp.sz (s:Shp):Nat:=s.kd.size+zaS s.fs
def zhG (ss:List Shp):Nat:=(ss.map Shp.sz).sum
def zaO (ss:List Shp):Nat:=ss.length+zhG ss
theorem ziL (nm:BA)(kd ls ms:Int)(a:OA)(cap:Nat)(ws:List BA)(to:BA)(rl:Int)(mu fx:Bool)(df wg:BA)(left:Int)(w:World)(hw:zG w a ws)(h0:0<=left)(h1:left<=1048576)
 (hnm:nm.size<=maxLen) (hto:to.size<=maxLen) (hdf:df.size<=maxLen) (hwg:wg.size<=maxLen) (h:(zav nm ws to df wg:Int)<=left) :
 Calls Tryz.prog 141 #[.agg #[.s nm,.i kd,.i ls,.i ms,.l a ws.length cap,.s to,.i rl,.bool mu,.bool fx,.s df,.s wg],.i left] w fun e w'=>e=.returned (.i (left-zav nm ws to df wg))/\Bw w w':=by
 refine(zeQ nm kd ls ms a cap ws to rl mu fx df wg left w hw h0 h1 hnm hto hdf hwg).mono ?_;rintro e w'⟨rfl,hb⟩;exact⟨zq (zM h),hb⟩
theorem zkC (nm:BA)(kd ls ms:Int)(a:OA)(cap:Nat)(ws:List BA)(to:BA)(rl:Int)(mu fx:Bool)(df wg:BA)(left:Int)(w:World)(hw:zG w a ws)(h0:0<=left)(h1:left<=1048576)
 (hnm:nm.size<=maxLen) (hto:to.size<=maxLen) (hdf:df.size<=maxLen) (hwg:wg.size<=maxLen) (h:¬(zav nm ws to df wg:Int)<=left) :
 Calls Tryz.prog 141 #[.agg #[.s nm,.i kd,.i ls,.i ms,.l a ws.length cap,.s to,.i rl,.bool mu,.bool fx,.s df,.s wg],.i left] w fun e w'=>e=.returned (.i (-1))/\Bw w w':=by
 refine(zeQ nm kd ls ms a cap ws to rl mu fx df wg left w hw h0 h1 hnm hto hdf hwg).mono ?_;rintro e w'⟨rfl,hb⟩;exact⟨zq (zC h),hb⟩
theorem zd5 (a:OA)(cap:Nat)(fs:List Fld)(left:Int)(w:World)(hw:yc w a fs)(h0:0<=left)(h1:left<=1048576) :
 Calls Tryz.prog 103 #[.l a fs.length cap,.i left] w fun e w'=>e=.returned (.i (zL (zaS fs) left))/\Bw w w':=by
 have hl:=hw.len;unfold maxLen at hl
 by_cases hfit:(fs.length:Int)<=left
 ·go_enter Tryz.func103,Tryz.ntmps103
  go_wp2_with fail
  go_loopw [1,5] (fun l i wr=>∃k:Nat,k<=fs.length/\i=.i k/\0<=left-fs.length-zhE (fs.take k)/\l=.i (left-fs.length-zhE (fs.take k))/\Bw w wr) (fun _ i _=>fs.length-(intOf i).toNat)
  case atStart=>exact⟨0,Nat.zero_le _,rfl,by simp[zhE];omega,by simp[zhE],bRf _ _⟩
  case round=>
   obtain⟨k,hk,rfl,hpos,rfl,hB⟩:=hrel
   by_cases hlt:k<fs.length
   ·obtain⟨b,off,rfl,hb,hr⟩:=hw.rows (by rintro rfl;simp at hlt)
    obtain⟨wa,wcap,hf0⟩:=hr k hlt;have hf:=hf0.mono hb hB;obtain⟨c0,c1,c2,c3,c4,c5,c6,c7,c8,c9,c10⟩:=hf.load;have hsm:=hf.small;have hst:=hf.strs;have HS:Hid (zhE (fs.take (k+1))=zhE (fs.take k)+fs[k].sz):=zbb Fld.sz fs k hlt;have hle:zhE (fs.take (k+1))<=zhE fs:=zdk Fld.sz fs (k+1);clear hw hr hf0 hf
    by_cases hneg:(zav fs[k].nm fs[k].ws fs[k].to fs[k].df fs[k].wg:Int)<=left-fs.length-zhE (fs.take k)
    ·have HNG:Hid ((zav fs[k].nm fs[k].ws fs[k].to fs[k].df fs[k].wg:Int)<=left-fs.length-zhE (fs.take k)):=hneg
     clear hle;go_wp2_with fail
     refine(ziL _ _ _ _ _ _ _ _ _ _ _ _ _ _ _ hst hpos (by omega) hsm.nm hsm.to hsm.df hsm.wg HNG.o).mono ?_;rintro e w1⟨rfl,hb1⟩;have hB1:=hB.trans (hb1.mono hB.size);clear hb1;go_wp2_with fail
     exact⟨⟨k+1,by omega,by go_num,by rw[HS.o];show 0<=_-((_+zav _ _ _ _ _:Nat):Int);omega,by rw[HS.o];show Value.int _ _=Value.int _ (_-((_+zav _ _ _ _ _:Nat):Int));congr 1;omega,hB1⟩,by simp[intOf];omega⟩
    ·have HF:Hid (zL (zaS fs) left=-1):=zC (by have:=HS.o;unfold zaS;unfold Fld.sz at this;omega)
     have HNG:=hid hneg;clear hneg hle;go_wp2_with fail
     refine(zkC _ _ _ _ _ _ _ _ _ _ _ _ _ _ _ hst hpos (by omega) hsm.nm hsm.to hsm.df hsm.wg (by have:=HNG.o;omega)).mono ?_;rintro e w1⟨rfl,hb1⟩;have hB1:=hB.trans (hb1.mono hB.size);clear hb1;go_wp2_with fail
     go_ret;exact⟨zq HF.o.symm,hB1⟩
   ·have HF:Hid (zL (zaS fs) left=left-fs.length-zhE (fs.take k)):=by
     rw[tOl (by omega)]at hpos ⊢;have e:zL (zaS fs) left=left-zaS fs:=zM (by unfold zaS;omega);unfold Hid;rw[e];unfold zaS;omega
    clear hw
    go_wp2
    go_ret;exact⟨zq HF.o.symm,hB⟩
 ·have HF:Hid (zL (zaS fs) left=-1):=zC (by unfold zaS;omega)
  clear hw;go_enter Tryz.func103,Tryz.ntmps103
  go_wp2
  go_ret;exact⟨zq HF.o.symm,bRf _ _⟩
theorem zh9 (a:OA)(cap:Nat)(fs:List Fld)(left:Int)(w:World)(hw:yc w a fs)(h0:0<=left)(h1:left<=1048576)(h:(zaS fs:Int)<=left) :
 Calls Tryz.prog 103 #[.l a fs.length cap,.i left] w fun e w'=>e=.returned (.i (left-zaS fs))/\Bw w w':=by
 refine(zd5 a cap fs left w hw h0 h1).mono ?_;rintro e w'⟨rfl,hb⟩;exact⟨zq (zM h),hb⟩
theorem zi8 (a:OA)(cap:Nat)(fs:List Fld)(left:Int)(w:World)(hw:yc w a fs)(h0:0<=left)(h1:left<=1048576)(h:¬(zaS fs:Int)<=left) :
 Calls Tryz.prog 103 #[.l a fs.length cap,.i left] w fun e w'=>e=.returned (.i (-1))/\Bw w w':=by
 refine(zd5 a cap fs left w hw h0 h1).mono ?_;rintro e w'⟨rfl,hb⟩;exact⟨zq (zC h),hb⟩
theorem zeM (kd:BA)(a:OA)(cap:Nat)(fs:List Fld)(left:Int)(w:World)(hkd:kd.size<=maxLen)(hw:yc w a fs)(h0:0<=left)(h1:left<=1048576) :
 Calls Tryz.prog 57 #[.agg #[.s kd,.l a fs.length cap],.i left] w fun e w'=>e=.returned (.i (zL (Shp.sz ⟨kd,fs⟩) left))/\Bw w w':=by
 unfold maxLen at hkd
 by_cases c1:(kd.size:Int)<=left
 rotate_left
 ·have HF:Hid (zL (Shp.sz ⟨kd,fs⟩) left=-1):=zC (by unfold Shp.sz;simp only;omega)
  go_enter Tryz.func57,Tryz.ntmps57;go_wp2_with fail
  go_ret;exact⟨zq HF.o.symm,bAl _ _⟩
 by_cases c2:(zaS fs:Int)<=left-kd.size
 ·have HF:Hid (zL (Shp.sz ⟨kd,fs⟩) left=left-kd.size-zaS fs):=by
   have e:zL (Shp.sz ⟨kd,fs⟩) left=left-Shp.sz ⟨kd,fs⟩:=zM (by unfold Shp.sz;simp only;omega);unfold Hid;rw[e];unfold Shp.sz;simp only;omega
  go_enter Tryz.func57,Tryz.ntmps57;go_wp2_with fail
  refine(zh9 _ _ _ _ _ (hw.mono (bAl _ _)) (by omega) (by omega) (by omega)).mono ?_;rintro e w1⟨rfl,hb1⟩;go_wp2_with fail
  go_ret;exact⟨zq HF.o.symm,(bAl _ _).trans (hb1.mono (by simp))⟩
 ·have HF:Hid (zL (Shp.sz ⟨kd,fs⟩) left=-1):=zC (by unfold Shp.sz;simp only;omega)
  go_enter Tryz.func57,Tryz.ntmps57;go_wp2_with fail
  refine(zi8 _ _ _ _ _ (hw.mono (bAl _ _)) (by omega) (by omega) (by omega)).mono ?_;rintro e w1⟨rfl,hb1⟩;go_wp2_with fail
  go_ret;exact⟨zq HF.o.symm,(bAl _ _).trans (hb1.mono (by simp))⟩
theorem ziV (kd:BA)(a:OA)(cap:Nat)(fs:List Fld)(left:Int)(w:World)(hkd:kd.size<=maxLen)(hw:yc w a fs)(h0:0<=left)(h1:left<=1048576)(h:(Shp.sz ⟨kd,fs⟩:Int)<=left) :
 Calls Tryz.prog 57 #[.agg #[.s kd,.l a fs.length cap],.i left] w fun e w'=>e=.returned (.i (left-Shp.sz ⟨kd,fs⟩))/\Bw w w':=by
 refine(zeM kd a cap fs left w hkd hw h0 h1).mono ?_;rintro e w'⟨rfl,hb⟩;exact⟨zq (zM h),hb⟩
theorem zkA (kd:BA)(a:OA)(cap:Nat)(fs:List Fld)(left:Int)(w:World)(hkd:kd.size<=maxLen)(hw:yc w a fs)(h0:0<=left)(h1:left<=1048576)(h:¬(Shp.sz ⟨kd,fs⟩:Int)<=left) :
 Calls Tryz.prog 57 #[.agg #[.s kd,.l a fs.length cap],.i left] w fun e w'=>e=.returned (.i (-1))/\Bw w w':=by
 refine(zeM kd a cap fs left w hkd hw h0 h1).mono ?_;rintro e w'⟨rfl,hb⟩;exact⟨zq (zC h),hb⟩
theorem zh1 (a:OA)(cap:Nat)(ss:List Shp)(left:Int)(w:World)(hw:yX w a ss)(h0:0<=left)(h1:left<=1048576) :
 Calls Tryz.prog 15 #[.l a ss.length cap,.i left] w fun e w'=>e=.returned (.i (zL (zaO ss) left))/\Bw w w':=by
 have hl:=hw.len;unfold maxLen at hl
 by_cases hfit:(ss.length:Int)<=left
 ·go_enter Tryz.func15,Tryz.ntmps15
  go_wp2_with fail
  go_loopw [1,5] (fun l i wr=>∃k:Nat,k<=ss.length/\i=.i k/\0<=left-ss.length-zhG (ss.take k)/\l=.i (left-ss.length-zhG (ss.take k))/\Bw w wr) (fun _ i _=>ss.length-(intOf i).toNat)
  case atStart=>exact⟨0,Nat.zero_le _,rfl,by simp[zhG];omega,by simp[zhG],bRf _ _⟩
  case round=>
   obtain⟨k,hk,rfl,hpos,rfl,hB⟩:=hrel
   by_cases hlt:k<ss.length
   ·obtain⟨b,off,rfl,hb,hr⟩:=hw.rows (by rintro rfl;simp at hlt)
    obtain⟨fa,fcap,hs0⟩:=hr k hlt;have hs:=hs0.mono hb hB;have hck:=hs.kind;have hcl:=hs.list;have hfl:=hs.zdS;have hsm:=hs.small;have HS:Hid (zhG (ss.take (k+1))=zhG (ss.take k)+Shp.sz ⟨ss[k].kd,ss[k].fs⟩):=zbb Shp.sz ss k hlt;have hle:zhG (ss.take (k+1))<=zhG ss:=zdk Shp.sz ss (k+1);clear hw hr hs0 hs
    by_cases hneg:(Shp.sz ⟨ss[k].kd,ss[k].fs⟩:Int)<=left-ss.length-zhG (ss.take k)
    ·have HNG:Hid ((Shp.sz ⟨ss[k].kd,ss[k].fs⟩:Int)<=left-ss.length-zhG (ss.take k)):=hneg
     clear hle;go_wp2_with fail
     refine(ziV _ _ _ _ _ _ hsm hfl hpos (by omega) HNG.o).mono ?_;rintro e w1⟨rfl,hb1⟩;have hB1:=hB.trans (hb1.mono hB.size);clear hb1;go_wp2_with fail
     exact⟨⟨k+1,by omega,by go_num,by rw[HS.o];omega,by rw[HS.o];congr 1;omega,hB1⟩,by simp[intOf];omega⟩
    ·have HF:Hid (zL (zaO ss) left=-1):=zC (by have:=HS.o;unfold zaO;omega)
     have HNG:=hid hneg;clear hneg hle;go_wp2_with fail
     refine(zkA _ _ _ _ _ _ hsm hfl hpos (by omega) (by have:=HNG.o;omega)).mono ?_;rintro e w1⟨rfl,hb1⟩;have hB1:=hB.trans (hb1.mono hB.size);clear hb1;go_wp2_with fail
     go_ret;exact⟨zq HF.o.symm,hB1⟩
   ·have HF:Hid (zL (zaO ss) left=left-ss.length-zhG (ss.take k)):=by
     rw[tOl (by omega)]at hpos ⊢;have e:zL (zaO ss) left=left-zaO ss:=zM (by unfold zaO;omega);unfold Hid;rw[e];unfold zaO;omega
    clear hw
    go_wp2
    go_ret;exact⟨zq HF.o.symm,hB⟩
 ·have HF:Hid (zL (zaO ss) left=-1):=zC (by unfold zaO;omega)
  clear hw;go_enter Tryz.func15,Tryz.ntmps15
  go_wp2
  go_ret;exact⟨zq HF.o.symm,bRf _ _⟩
end Go.Proofs.YtbfgkhgmnfghgaaGreat
namespace Go.Proofs.YtbfgkhgmnfghgaaGreat
structure Tm where
 nm:BA
 ov:BA
def zbi:Tm:=⟨ByteArray.empty,ByteArray.empty⟩
def yC (ts:List Tm)(v:BA):Bool:=ts.any fun t=>decide (t.nm=v)
def over (ts:List Tm)(v:BA):BA:=((ts.find? fun t=>decide (t.nm=v)).getD zbi).ov
theorem zet (ts:List Tm)(v:BA)(k:Nat)(h:k<ts.length):yC (ts.take (k+1)) v=(yC (ts.take k) v||decide (ts[k].nm=v)):=by
 unfold yC;rw[tSe h,List.any_append];simp
theorem zo2 (ts:List Tm)(v:BA)(k:Nat)(h:k<ts.length)(e:ts[k].nm=v):yC ts v=true:=by
 unfold yC;rw[List.any_eq_true];exact⟨ts[k],List.getElem_mem h,by simpa using e⟩
theorem ze7 (ts:List Tm)(v:BA)(k:Nat)(h:ts.length<=k):yC (ts.take k) v=yC ts v:=by rw[tOl h]
theorem zl5 (ts:List Tm)(v:BA)(k:Nat)(h:k<ts.length)(hb:yC (ts.take k) v=false)(e:ts[k].nm=v):over ts v=ts[k].ov:=by
 unfold over
 have hn:(ts.take k).find? (fun s=>decide (s.nm=v))=none:=by
  rw[List.find?_eq_none];intro x hx;unfold yC at hb;rw[List.any_eq_false]at hb;exact hb x hx
 have hf:ts.find? (fun s=>decide (s.nm=v))=some ts[k]:=by
  conv=>lhs;rw[<- List.take_append_drop k ts]
  rw[List.find?_append,hn,List.drop_eq_getElem_cons h,List.find?_cons_of_pos (by simpa using e)];rfl
 rw[hf];rfl
theorem zh6 (ts:List Tm)(v:BA)(hb:yC ts v=false):over ts v=ByteArray.empty:=by
 unfold over
 have hn:ts.find? (fun s=>decide (s.nm=v))=none:=by
  rw[List.find?_eq_none];intro x hx;unfold yC at hb;rw[List.any_eq_false]at hb;exact hb x hx
 rw[hn];rfl
def under (ts:List Tm):Nat->BA->BA->Bool
 | 0,a,b=>decide (a=b)
 | n+1,a,b=>decide (a=b)||(decide (¬(over ts a).size=0)&&under ts n (over ts a) b)
theorem zeE (ts:List Tm)(n:Nat)(a b:BA)(h:a=b):under ts n a b=true:=by
 cases n <;> simp[under,h]
theorem zlP (ts:List Tm){a b:BA}(h:¬a=b):under ts 0 a b=false:=by simp[under,h]
theorem zkB (ts:List Tm)(n:Nat){a b:BA}(h:¬a=b)(h0:(over ts a).size=0):under ts (n+1) a b=false:=by simp[under,h,h0]
theorem zn6 (ts:List Tm)(n:Nat){a b:BA}(h:¬a=b)(h0:¬(over ts a).size=0):under ts (n+1) a b=under ts n (over ts a) b:=by simp[under,h,h0]
def qH (ts:List Tm)(i:Nat):Bool:=
 zx (ts.getD i zbi).nm&&(decide (i=0)||less (ts.getD (i-1) zbi).nm (ts.getD i zbi).nm)&&((ts.getD i zbi).ov.toList.isEmpty||yC ts (ts.getD i zbi).ov)
def ze9 (ts:List Tm):Nat->BA->BA
 | 0,a=>a
 | n+1,a=>ze9 ts n (over ts a)
def jV (ts:List Tm):Nat->BA->BA
 | 0,a=>a
 | n+1,a=>if a.size=0 then a else jV ts n (over ts a)
def zee (ts:List Tm)(t:Tm):Bool:=decide ((ze9 ts 4 t.ov).size=0)
def zf5 (ts:List Tm)(i:Nat):Bool:=zee ts (ts.getD i zbi)
def zdX (ts:List Tm)(i:Nat):Bool:=decide ((jV ts 5 (ts.getD i zbi).nm).size=0)
def zbB (ts:List Tm):Bool:=decide (ts.length<=12)&&(up (qH ts) ts.length&&up (zf5 ts) ts.length)
def zca (ts:List Tm)(i:Nat):Bool:=qH ts i&&zdX ts i
def zaK (ts:List Tm):Bool:=decide (ts.length<=12)&&up (zca ts) ts.length
theorem zdh {P:Nat->Bool}{n:Nat}:up P n=true↔∀i,i<n->P i=true:=by
 unfold up;rw[List.all_eq_true];simp
theorem zpW {ts:List Tm}{i:Nat}(hi:i<ts.length)(h:qH ts i=true):zx ts[i].nm=true:=by
 unfold qH at h;rw[getD_at ts i _ hi]at h;simp only[Bool.and_eq_true]at h;exact h.1.1
theorem zp7 {ts:List Tm}{i:Nat}(hi:i+1<ts.length)(h:qH ts (i+1)=true):less ts[i].nm ts[i+1].nm=true:=by
 unfold qH at h;rw[getD_at ts (i+1) _ hi,Nat.add_sub_cancel,getD_at ts i _ (by omega)]at h;simp only[Bool.and_eq_true]at h
 simpa using h.1.2
theorem zoK {ts:List Tm}(h:up (qH ts) ts.length=true):∀(j:Nat) (hj:j<ts.length) (i:Nat) (hi:i<j),less (ts[i]'(by omega)).nm ts[j].nm=true:=by
 intro j
 induction j with
 | zero=>intro _ i hi;omega
 | succ j ih=>
  intro hj i hi;have h2:=zp7 hj (zih hj h)
  rcases Nat.lt_or_ge i j with hlt|hge
  ·exact zbe _ _ _ (ih (by omega) i hlt) h2
  ·have e:i=j:=by omega
   subst e;exact h2
theorem over_self {ts:List Tm}(h:up (qH ts) ts.length=true)(i:Nat)(hi:i<ts.length):over ts ts[i].nm=ts[i].ov:=by
 refine zl5 ts _ i hi ?_ rfl;unfold yC;rw[List.any_eq_false];intro x hx;obtain⟨k,hk,rfl⟩:=List.mem_iff_getElem.1 hx;have hk':k<i:=by simp at hk;omega
 have h1:=zoK h i hi k hk';simp only[List.getElem_take,decide_eq_true_eq];intro e;unfold less at h1;rw[e,zb2]at h1
 cases h1
theorem zoy {ts:List Tm}(h:up (qH ts) ts.length=true):over ts ByteArray.empty=ByteArray.empty:=by
 apply zh6
 unfold yC;rw[List.any_eq_false];intro x hx;obtain⟨k,hk,rfl⟩:=List.mem_iff_getElem.1 hx;have h1:=zpW hk (zih hk h);simp only[decide_eq_true_eq];intro e;rw[e,zgX _ rfl]at h1
 cases h1
theorem zin {ts:List Tm}(h:over ts ByteArray.empty=ByteArray.empty):∀n,ze9 ts n ByteArray.empty=ByteArray.empty
 | 0=>rfl
 | n+1=>by unfold ze9;rw[h];exact zin h n
theorem zj7 {ts:List Tm}(h:over ts ByteArray.empty=ByteArray.empty):∀n a,jV ts n a=ze9 ts n a
 | 0,_=>rfl
 | n+1,a=>by
  unfold jV
  by_cases h0:a.size=0
  ·rw[if_pos h0,zdI a h0,zin h]
  ·rw[if_neg h0,zj7 h n];rfl
theorem zlN {ts:List Tm}(h:up (qH ts) ts.length=true)(i:Nat)(hi:i<ts.length):zdX ts i=zf5 ts i:=by
 unfold zdX zf5 zee;rw[getD_at ts i _ hi,zj7 (zoy h),show ze9 ts 5 ts[i].nm=ze9 ts 4 (over ts ts[i].nm) from rfl,over_self h i hi]
theorem zmw (ts:List Tm):zbB ts=zaK ts:=by
 unfold zbB zaK
 congr 1
 rw[Bool.eq_iff_iff,Bool.and_eq_true]
 constructor
 ·rintro⟨h1,h2⟩
  rw[zdh];intro i hi;unfold zca;rw[zih hi h1,zlN h1 i hi,zih hi h2];rfl
 ·intro h
  rw[zdh]at h
  have h1:up (qH ts) ts.length=true:=by
   rw[zdh];intro i hi;have:=h i hi;unfold zca at this;rw[Bool.and_eq_true]at this;exact this.1
  refine⟨h1,?_⟩;rw[zdh];intro i hi;have:=h i hi;unfold zca at this;rw[Bool.and_eq_true,zlN h1 i hi]at this;exact this.2
end Go.Proofs.YtbfgkhgmnfghgaaGreat
namespace Go.Proofs.YtbfgkhgmnfghgaaGreat
open Go.RowKit
theorem zae {w:World}{b:Nat}{X:AV}{t:TypeId}(h:w.heap[b]?=some (.cells X t)):∀j,w.cell? (aD b j)=X[j]?:=fun _=>cell_of_block h
theorem zbm {w:World}{b:Nat}{X:AV}{t:TypeId}(h:w.heap[b]?=some (.cells X t)):∀j,w.frozen? (aD b j)=false:=fun _=>zf h
theorem zcU {w w3:World}{b:Nat}{X:AV}{t:TypeId}(HZ:Hid (w.heap[b]?=some (.cells X t)))(hb:Bw w w3):Hid (w3.heap[b]?=some (.cells X t)):=(hb.block b (gES HZ.o).1).trans HZ.o
theorem zd3 {w w3:World}{X:AV}{t:TypeId}(hb:Below (w.alloc (.cells X t)).heap.size (w.alloc (.cells X t)) w3):Hid (w3.heap[w.heap.size]?=some (.cells X t)):=(hb.block _ (by simp)).trans (alloc_at _ _)
theorem zbJ {w:World}{ob:Obj}{b j:Nat}(h:b<w.heap.size):(w.alloc ob).cell? (aD b j)=w.cell? (aD b j):=World.cell?_alloc_lt _ _ _ h
theorem zbd {w:World}{ob:Obj}{b j:Nat}(h:b<w.heap.size):(w.alloc ob).drew.cell? (aD b j)=w.cell? (aD b j):=World.cell?_alloc_lt _ _ _ h
theorem zcS {w w3:World}{X:AV}{t:TypeId}(hb:Below (w.alloc (.cells X t)).drew.heap.size (w.alloc (.cells X t)).drew w3):Hid (w3.heap[w.heap.size]?=some (.cells X t)):=(hb.block _ (by show w.heap.size<(w.alloc (.cells X t)).heap.size;simp)).trans (alloc_at _ _)
theorem zfS {w w3:World}{ob:Obj}(_hb:Below (w.alloc ob).heap.size (w.alloc ob) w3):w.heap.size<(w.alloc ob).heap.size:=by simp
end Go.Proofs.YtbfgkhgmnfghgaaGreat
namespace Go.Proofs.YtbfgkhgmnfghgaaGreat
open Go.ChangeShapes Go.WideShapes Go.ChangeAt Go.RowKit
theorem Tryz.zjv:Tryz.prog.cellsOf 100=2:=by kernel_rfl
theorem Tryz.znJ:Tryz.prog.cellsOf 98=1:=by kernel_rfl
section
variable {H:Type} {enc:TypeId × Value->H} {w:World} {base:Nat} {spare:Nat->Bool} {held:Bool}
theorem zn0 {fuel:Nat}{cs:List Value}{x:DataW H × List MemPlace}(h:DataW.trod enc Tryz.prog w base spare held fuel 98 cs=some x) :
 ∃a cap fs,cs=[.l a (List.length fs) cap]/\yc w a fs:=by
 obtain⟨a,len,cap,rfl,hm,hr⟩:=za1 Tryz.underlying98 Tryz.zjT (by omega) h
 rcases Nat.eq_zero_or_pos len with h0|hp
 ·subst h0
  exact⟨a,cap,[],rfl,⟨by simp[maxLen],fun h=>absurd rfl h⟩⟩
 ·obtain⟨b,off,rfl,hb,hrow⟩:=hr hp
  have hf:∀i,i<len->∃f:Fld,∃wa wcap,ze8 w b (off+i*11) f wa wcap:=by
   intro i hi;obtain⟨es,n,y,hel,hcell,hy⟩:=hrow i hi;obtain⟨nm,kd,ls,ms,wa,wcap,ws,to,rl,mu,fx,df,wg,rfl,hS,s0,s5,s9,s10⟩:=zoI hy;refine⟨⟨nm,kd,ls,ms,ws,to,rl,mu,fx,df,wg⟩,wa,wcap,⟨s0,s5,s9,s10⟩,hS,fun j hj=>?_⟩;rw[hcell j hj]
   simp[Fld.cells]
  obtain⟨fs,hl,hfs⟩:=zcd len hf;refine⟨_,cap,fs,by rw[hl],⟨by omega,fun _=>⟨b,off,rfl,hb,fun i hi=>hfs i hi⟩⟩⟩
theorem zo8 {fuel:Nat}{cs:List Value}{x:DataW H × List MemPlace}(h:DataW.trod enc Tryz.prog w base spare held fuel 100 cs=some x) :
 ∃kd a cap fs,cs=[.s kd,.l a (List.length fs) cap]/\kd.size<=maxLen/\yc w a fs:=by
 have hlen:cs.length=2:=by
  obtain⟨_,_,_,_,hl,_,_⟩:=DataW.trod_struct Tryz.underlying100 h;rw[hl];exact Tryz.zjv
 match cs,hlen with
 | [c0,c1],_=>
  have hf:=zaf Tryz.underlying100 h;obtain⟨_,_,f0⟩:=hf 0 9 0 c0 rfl Tryz.zT rfl;obtain⟨_,_,f1⟩:=hf 1 98 1 c1 rfl Tryz.znJ rfl;obtain⟨kd,e0,_,s0⟩:=DataW.trod_string Tryz.underlying9 f0;obtain⟨a,cap,fs,e1,hF⟩:=zn0 f1;simp only[List.cons.injEq,and_true]at e0 e1;subst e0 e1;exact⟨kd,a,cap,fs,rfl,s0,hF⟩
theorem zoa {fuel:Nat}{cs:List Value}{x:DataW H × List MemPlace}(h:DataW.trod enc Tryz.prog w base spare held fuel 22 cs=some x) :
 ∃a cap ss,cs=[.l a (List.length ss) cap]/\yX w a ss:=by
 obtain⟨a,len,cap,rfl,hm,hr⟩:=za1 Tryz.underlying22 Tryz.zjv (by omega) h
 rcases Nat.eq_zero_or_pos len with h0|hp
 ·subst h0
  exact⟨a,cap,[],rfl,⟨by simp[maxLen],fun h=>absurd rfl h⟩⟩
 ·obtain⟨b,off,rfl,hb,hrow⟩:=hr hp
  have hf:∀i,i<len->∃s:Shp,∃fa fcap,zlR w b (off+i*2) s fa fcap:=by
   intro i hi;obtain⟨es,n,y,hel,hcell,hy⟩:=hrow i hi;obtain⟨kd,fa,fcap,fs,rfl,s0,hF⟩:=zo8 hy;exact⟨⟨kd,fs⟩,fa,fcap,s0,hF,hcell 0 (by omega),hcell 1 (by omega)⟩
  obtain⟨ss,hl,hss⟩:=zcd len hf;exact⟨_,cap,ss,by rw[hl],⟨by omega,fun _=>⟨b,off,rfl,hb,fun i hi=>hss i hi⟩⟩⟩
end
end Go.Proofs.YtbfgkhgmnfghgaaGreat
