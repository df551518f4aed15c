import Derived.Test.YtkficnallnpjnaaGreatM06
set_option maxHeartbeats 1000000
namespace Go.Proofs.YtkficnallnpjnaaGreat
open Go.RowKit
theorem qI (a:Option Addr)(cap:Nat)(ss:List Shp)(v:ByteArray)(w:World)(hw:yT w a ss) :
 Calls Tryz.prog 151 #[.slice a ss.length cap,.string v] w fun e w'=>∃fa fcap,e=.returned (.tuple #[.agg #[.string (shapeOf ss v).kd,.slice fa (shapeOf ss v).fs.length fcap],.bool (zJ ss v)]) /\
  yc w fa (shapeOf ss v).fs/\Below w.heap.size w w':=by
 have hl:=hw.len;unfold maxLen at hl;go_enter Tryz.func151,Tryz.ntmps151
 go_wp2
 go_loopw [10] (fun i wr=>∃k:Nat,k<=ss.length/\i=.int .i64 k/\zJ (ss.take k) v=false/\Below (w.heap.size+1) (w.alloc (.cells #[.string ByteArray.empty,.slice none 0 0] 128)) wr) (fun i _=>ss.length-(intOf i).toNat)
 case atStart=>exact⟨0,Nat.zero_le _,rfl,rfl,bRf _ _⟩
 case round=>
  obtain⟨k,hk,rfl,hno,hbl⟩:=hrel;have hsz:w.heap.size<wr.heap.size:=by have:=hbl.size;simp at this;omega
  have hB0:Below w.heap.size w wr:=(bAl _ _).trans (hbl.mono (by omega));have hX0:wr.cell? ⟨w.heap.size,0,none⟩=some (.string ByteArray.empty):=(hbl.cell (p:=⟨w.heap.size,0,none⟩) (by simp)).trans (by rw[World.cell?_alloc_at _ _ _ _ rfl];rfl);have hX1:wr.cell? ⟨w.heap.size,1,none⟩=some (.slice none 0 0):=(hbl.cell (p:=⟨w.heap.size,1,none⟩) (by simp)).trans (by rw[World.cell?_alloc_at _ _ _ _ rfl];rfl);have hF0:wr.frozen? ⟨w.heap.size,0,none⟩=false:=(hbl.frozen (p:=⟨w.heap.size,0,none⟩) (by simp)).trans (by rw[World.frozen?_alloc_at _ _ _ _ rfl]);have hF1:wr.frozen? ⟨w.heap.size,1,none⟩=false:=(hbl.frozen (p:=⟨w.heap.size,1,none⟩) (by simp)).trans (by rw[World.frozen?_alloc_at _ _ _ _ rfl])
  by_cases hlt:k<ss.length
  ·obtain⟨b,off,rfl,hb,hr⟩:=hw.rows (by rintro rfl;simp at hlt)
   obtain⟨fa,fcap,hs⟩:=hr k hlt;have hck:=(hB0.cell (p:=⟨b,off+k*2,none⟩) hb).trans hs.kind;have hcl:=(hB0.cell (p:=⟨b,off+k*2+1,none⟩) hb).trans hs.list;have hfl:=hs.zdy;clear hw hr hs
   by_cases he:ss[k].kd=v
   ·have hbe:(ss[k].kd.toList == v.toList)=true:=by rw[beq_toList];simpa using he
    have HA:Hid (zJ ss v=true):=zjk ss v k hlt he;have HB:Hid (shapeOf ss v=ss[k]):=zfR ss v k hlt hno he;clear he hno
    go_wp2
    refine bodyPost_ret (v:=.tuple #[.agg #[.string ss[k].kd,.slice fa ss[k].fs.length fcap],.bool true]) (by simp[results,Tryz.results151,go_sem,hX0,hX1,hsz]) rfl ⟨fa,fcap,by rw[HA.out,HB.out],by rw[HB.out];exact hfl,?_⟩;exact((hB0.setCell (Nat.le_refl _) _).setCell (Nat.le_refl _) _).alloc (by simp[World.setCell];omega) _
   ·have hbe:(ss[k].kd.toList == v.toList)=false:=by rw[beq_toList];simpa using he
    have HS:Hid (zJ (ss.take (k+1)) v=false):=by unfold Hid;rw[zgw ss v k hlt,hno,decide_eq_false he];rfl
    clear he hno hX0 hX1 hF0 hF1
    go_wp2
    go_roundw
    case rel=>exact⟨k+1,by omega,by go_num,HS.out,hbl.alloc (by omega) _⟩
    case measure=>simp[intOf];omega
  ·have HA:Hid (zJ ss v=false):=by rw[<- zhZ ss v k (by omega)];exact hno
   have HB:Hid (shapeOf ss v=zct):=zlM ss v HA.out;clear hno hw
   go_wp2
   refine bodyPost_ret (v:=.tuple #[.agg #[.string ByteArray.empty,.slice none 0 0],.bool false]) (by simp[results,Tryz.results151,go_sem,hX0,hX1];rfl) rfl ⟨none,0,by rw[HA.out,HB.out];rfl,by rw[HB.out];exact⟨by simp[zct,maxLen],fun h=>absurd rfl h⟩,?_⟩;exact(hB0.setCell (Nat.le_refl _) _).setCell (Nat.le_refl _) _
theorem zk (s:ByteArray)(w:World)(hs:s.size<=maxLen) :
 Calls Tryz.prog 109 #[.string s] w fun e w'=>e=.returned (.bool (zA s))/\w'=w:=by
 unfold maxLen at hs
 by_cases hb:1<=s.size/\s.size<=16
 ·obtain⟨hb1,hb2⟩:=hb
  go_enter Tryz.func109,Tryz.ntmps109
  go_wp2_with (go_at_call 61;refine(zbz _ _ _ _ (by omega) (by omega)).mono ?_;rintro e w'⟨rfl,rfl⟩)
  go_loop [3] (fun i=>∃k:Nat,k<=s.size/\i=.int .i64 k/\(s.data.toList.take k).all zK=true) (fun i=>s.size-(intOf i).toNat)
  case atStart=>exact⟨0,Nat.zero_le _,rfl,rfl⟩
  case round=>
   obtain⟨k,hk,rfl,hall⟩:=hrel
   by_cases hlt:k<s.size
   ·have HS:Hid ((s.data.toList.take (k+1)).all zK=(true&&zK s[k])):=by rw[zaJ _ s k hlt,hall];rfl
    have HN:=fun h=>zb3 zK s k hlt h
    have HN':Hid (zK s[k]=false->yV s=false):=HN;clear HN hall
    by_cases hc:zK s[k]=true
    ·go_wp2_with (go_at_call 144;refine(j6 _ _).mono ?_;rintro e w'⟨rfl,rfl⟩)
     go_round
     case rel=>exact⟨k+1,by omega,by go_num,by rw[HS.out,hc];rfl⟩
     case measure=>simp[intOf];omega
    ·have hc':zK s[k]=false:=by simpa using hc
     clear hc
     go_wp2_with (go_at_call 144;refine(j6 _ _).mono ?_;rintro e w'⟨rfl,rfl⟩)
     go_ret;refine⟨ze ?_,rfl⟩
     simp[zA,HN'.out hc']
   ·have HA:Hid (yV s=true):=by unfold yV Hid;rw[<- zar s k (by omega)];exact hall
    clear hall
    go_wp2
    go_ret;refine⟨ze ?_,rfl⟩;simp only[zA,HA.out];simp;omega
 ·go_enter Tryz.func109,Tryz.ntmps109
  go_wp2_with (go_at_call 61;refine(zc7 _ _ _ _ (by omega)).mono ?_;rintro e w'⟨rfl,rfl⟩)
  go_ret;refine⟨ze ?_,rfl⟩
  simp[zA];omega
theorem jS (s:ByteArray)(w:World)(hs:s.size<=maxLen) :
 Calls Tryz.prog 197 #[.string s] w fun e w'=>e=.returned (.bool (yV s))/\w'=w:=by
 unfold maxLen at hs;go_enter Tryz.func197,Tryz.ntmps197
 go_wp2
 go_loop [7] (fun i=>∃k:Nat,k<=s.size/\i=.int .i64 k/\(s.data.toList.take k).all zK=true) (fun i=>s.size-(intOf i).toNat)
 case atStart=>exact⟨0,Nat.zero_le _,rfl,rfl⟩
 case round=>
  obtain⟨k,hk,rfl,hall⟩:=hrel
  by_cases hlt:k<s.size
  ·have HS:Hid ((s.data.toList.take (k+1)).all zK=(true&&zK s[k])):=by rw[zaJ _ s k hlt,hall];rfl
   have HN:Hid (zK s[k]=false->yV s=false):=fun h=>zb3 zK s k hlt h
   clear hall
   by_cases hd:48<=(s[k].toNat:Int)/\(s[k].toNat:Int)<=57
   ·have HC:Hid (zK s[k]=true):=by simp[zK,Hid];omega
    obtain⟨hd1,hd2⟩:=hd
    go_wp2_with (go_at_call 215;refine(zh3 _ _ hd1 hd2).mono ?_;rintro e w'⟨rfl,rfl⟩)
    go_round
    case rel=>exact⟨k+1,by omega,by go_num,by rw[HS.out,HC.out];rfl⟩
    case measure=>simp[intOf];omega
   ·have HD:Hid (¬(48<=(s[k].toNat:Int)/\(s[k].toNat:Int)<=57)):=hd
    clear hd
    by_cases h45:(s[k].toNat:Int)=45
    ·have HC:Hid (zK s[k]=true):=by simp[zK,Hid];omega
     have h45':((s[k].toNat:Int) != 45)=false:=by simp[h45]
     clear h45
     go_wp2_with (go_at_call 215;refine(zcZ _ _ HD.out).mono ?_;rintro e w'⟨rfl,rfl⟩)
     go_round
     case rel=>exact⟨k+1,by omega,by go_num,by rw[HS.out,HC.out];rfl⟩
     case measure=>simp[intOf];omega
    ·have h45':((s[k].toNat:Int) != 45)=true:=by simp[h45]
     by_cases h97:(s[k].toNat:Int)<97
     ·have HC:Hid (zK s[k]=false):=by have:=HD.out;simp[zK,Hid];omega
      clear h45
      go_wp2_with (go_at_call 215;refine(zcZ _ _ HD.out).mono ?_;rintro e w'⟨rfl,rfl⟩)
      go_ret;exact⟨ze (HN.out HC.out).symm,rfl⟩
     ·by_cases h122:122<(s[k].toNat:Int)
      ·have HC:Hid (zK s[k]=false):=by have:=HD.out;simp[zK,Hid];omega
       clear h45
       go_wp2_with (go_at_call 215;refine(zcZ _ _ HD.out).mono ?_;rintro e w'⟨rfl,rfl⟩)
       go_ret;exact⟨ze (HN.out HC.out).symm,rfl⟩
      ·have HC:Hid (zK s[k]=true):=by simp[zK,Hid];omega
       clear h45
       go_wp2_with (go_at_call 215;refine(zcZ _ _ HD.out).mono ?_;rintro e w'⟨rfl,rfl⟩)
       go_round
       case rel=>exact⟨k+1,by omega,by go_num,by rw[HS.out,HC.out];rfl⟩
       case measure=>simp[intOf];omega
  ·have HA:Hid (yV s=true):=by unfold yV Hid;rw[<- zar s k (by omega)];exact hall
   clear hall
   go_wp2
   go_ret;exact⟨ze HA.out.symm,rfl⟩
theorem zH (s:ByteArray)(w:World)(hs:s.size<=maxLen) :
 Calls Tryz.prog 154 #[.string s] w fun e w'=>e=.returned (.bool (zA s))/\w'=w:=by
 have hs':=hs;unfold maxLen at hs'
 by_cases h0:s.size=0
 ·rw[zdn s h0]
  go_enter Tryz.func154,Tryz.ntmps154
  go_wp2
  go_ret;exact⟨rfl,rfl⟩
 ·have hne:s.toList.isEmpty=false:=by rw[zx];simp[h0]
  by_cases h16:s.size<=16
  ·have HF:Hid (zA s=yV s):=by
    simp only[Hid,zA];rw[decide_eq_true (show 1<=s.size by omega),decide_eq_true h16];simp
   go_enter Tryz.func154,Tryz.ntmps154
   go_wp2_with (go_at_call 197;refine(jS _ _ hs).mono ?_;rintro e w'⟨rfl,rfl⟩)
   go_ret;exact⟨ze HF.out.symm,rfl⟩
  ·go_enter Tryz.func154,Tryz.ntmps154
   go_wp2_with (go_at_call 197;refine(jS _ _ hs).mono ?_;rintro e w'⟨rfl,rfl⟩)
   go_ret;refine⟨ze ?_,rfl⟩;simp only[zA];rw[decide_eq_false h16];simp
def Fld.sz (f:Fld):Nat:=zaq f.nm f.ws f.to f.df f.wg
def zhK (fs:List Fld):Nat:=(fs.map Fld.sz).sum
def zaM (fs:List Fld):Nat:=fs.length+zhK fs
def Shp.sz (s:Shp):Nat:=s.kd.size+zaM s.fs
def zhN (ss:List Shp):Nat:=(ss.map Shp.sz).sum
def zaI (ss:List Shp):Nat:=ss.length+zhN ss
theorem ziJ (nm:ByteArray)(kd ls ms:Int)(a:Option Addr)(cap:Nat)(ws:List ByteArray)(to:ByteArray)(rl:Int)(mu fx:Bool)(df wg:ByteArray)(left:Int)(w:World)(hw:zF w a ws)(h0:0<=left)(h1:left<=1048576)
 (hnm:nm.size<=maxLen) (hto:to.size<=maxLen) (hdf:df.size<=maxLen) (hwg:wg.size<=maxLen) (h:(zaq nm ws to df wg:Int)<=left) :
 Calls Tryz.prog 132 #[.agg #[.string nm,.int .i64 kd,.int .i64 ls,.int .i64 ms,.slice a ws.length cap,.string to,.int .i64 rl,.bool mu,.bool fx,.string df,.string wg],.int .i64 left] w fun e w'=>e=.returned (.int .i64 (left-zaq nm ws to df wg))/\Below w.heap.size w w':=by
 refine(zep nm kd ls ms a cap ws to rl mu fx df wg left w hw h0 h1 hnm hto hdf hwg).mono ?_;rintro e w'⟨rfl,hb⟩;exact⟨zo (zM h),hb⟩
theorem zkp (nm:ByteArray)(kd ls ms:Int)(a:Option Addr)(cap:Nat)(ws:List ByteArray)(to:ByteArray)(rl:Int)(mu fx:Bool)(df wg:ByteArray)(left:Int)(w:World)(hw:zF w a ws)(h0:0<=left)(h1:left<=1048576)
 (hnm:nm.size<=maxLen) (hto:to.size<=maxLen) (hdf:df.size<=maxLen) (hwg:wg.size<=maxLen) (h:¬(zaq nm ws to df wg:Int)<=left) :
 Calls Tryz.prog 132 #[.agg #[.string nm,.int .i64 kd,.int .i64 ls,.int .i64 ms,.slice a ws.length cap,.string to,.int .i64 rl,.bool mu,.bool fx,.string df,.string wg],.int .i64 left] w fun e w'=>e=.returned (.int .i64 (-1))/\Below w.heap.size w w':=by
 refine(zep nm kd ls ms a cap ws to rl mu fx df wg left w hw h0 h1 hnm hto hdf hwg).mono ?_;rintro e w'⟨rfl,hb⟩;exact⟨zo (zC h),hb⟩
theorem zdE (a:Option Addr)(cap:Nat)(fs:List Fld)(left:Int)(w:World)(hw:yc w a fs)(h0:0<=left)(h1:left<=1048576) :
 Calls Tryz.prog 97 #[.slice a fs.length cap,.int .i64 left] w fun e w'=>e=.returned (.int .i64 (zL (zaM fs) left))/\Below w.heap.size w w':=by
 have hl:=hw.len;unfold maxLen at hl
 by_cases hfit:(fs.length:Int)<=left
 ·go_enter Tryz.func97,Tryz.ntmps97
  go_wp2_with fail
  go_loopw [1,5] (fun l i wr=>∃k:Nat,k<=fs.length/\i=.int .i64 k/\0<=left-fs.length-zhK (fs.take k)/\l=.int .i64 (left-fs.length-zhK (fs.take k))/\Below w.heap.size w wr) (fun _ i _=>fs.length-(intOf i).toNat)
  case atStart=>exact⟨0,Nat.zero_le _,rfl,by simp[zhK];omega,by simp[zhK],bRf _ _⟩
  case round=>
   obtain⟨k,hk,rfl,hpos,rfl,hB⟩:=hrel
   by_cases hlt:k<fs.length
   ·obtain⟨b,off,rfl,hb,hr⟩:=hw.rows (by rintro rfl;simp at hlt)
    obtain⟨wa,wcap,hf0⟩:=hr k hlt;have hf:=hf0.mono hb hB;obtain⟨c0,c1,c2,c3,c4,c5,c6,c7,c8,c9,c10⟩:=hf.load;have hsm:=hf.small;have hst:=hf.strs;have HS:Hid (zhK (fs.take (k+1))=zhK (fs.take k)+fs[k].sz):=za8 Fld.sz fs k hlt;have hle:zhK (fs.take (k+1))<=zhK fs:=zcW Fld.sz fs (k+1);clear hw hr hf0 hf
    by_cases hneg:(zaq fs[k].nm fs[k].ws fs[k].to fs[k].df fs[k].wg:Int)<=left-fs.length-zhK (fs.take k)
    ·have HNG:Hid ((zaq fs[k].nm fs[k].ws fs[k].to fs[k].df fs[k].wg:Int)<=left-fs.length-zhK (fs.take k)):=hneg
     clear hle;go_wp2_with fail
     refine(ziJ _ _ _ _ _ _ _ _ _ _ _ _ _ _ _ hst hpos (by omega) hsm.nm hsm.to hsm.df hsm.wg HNG.out).mono ?_;rintro e w1⟨rfl,hb1⟩;have hB1:=hB.trans (hb1.mono hB.size);clear hb1;go_wp2_with fail
     exact⟨⟨k+1,by omega,by go_num,by rw[HS.out];show 0<=_-((_+zaq _ _ _ _ _:Nat):Int);omega,by rw[HS.out];show Value.int _ _=Value.int _ (_-((_+zaq _ _ _ _ _:Nat):Int));congr 1;omega,hB1⟩,by simp[intOf];omega⟩
    ·have HF:Hid (zL (zaM fs) left=-1):=zC (by have:=HS.out;unfold zaM;unfold Fld.sz at this;omega)
     have HNG:=hid hneg;clear hneg hle;go_wp2_with fail
     refine(zkp _ _ _ _ _ _ _ _ _ _ _ _ _ _ _ hst hpos (by omega) hsm.nm hsm.to hsm.df hsm.wg (by have:=HNG.out;omega)).mono ?_;rintro e w1⟨rfl,hb1⟩;have hB1:=hB.trans (hb1.mono hB.size);clear hb1;go_wp2_with fail
     go_ret;exact⟨zo HF.out.symm,hB1⟩
   ·have HF:Hid (zL (zaM fs) left=left-fs.length-zhK (fs.take k)):=by
     rw[tOl (by omega)]at hpos ⊢;have e:zL (zaM fs) left=left-zaM fs:=zM (by unfold zaM;omega);unfold Hid;rw[e];unfold zaM;omega
    clear hw
    go_wp2
    go_ret;exact⟨zo HF.out.symm,hB⟩
 ·have HF:Hid (zL (zaM fs) left=-1):=zC (by unfold zaM;omega)
  clear hw;go_enter Tryz.func97,Tryz.ntmps97
  go_wp2
  go_ret;exact⟨zo HF.out.symm,bRf _ _⟩
theorem zhe (a:Option Addr)(cap:Nat)(fs:List Fld)(left:Int)(w:World)(hw:yc w a fs)(h0:0<=left)(h1:left<=1048576)(h:(zaM fs:Int)<=left) :
 Calls Tryz.prog 97 #[.slice a fs.length cap,.int .i64 left] w fun e w'=>e=.returned (.int .i64 (left-zaM fs))/\Below w.heap.size w w':=by
 refine(zdE a cap fs left w hw h0 h1).mono ?_;rintro e w'⟨rfl,hb⟩;exact⟨zo (zM h),hb⟩
theorem zif (a:Option Addr)(cap:Nat)(fs:List Fld)(left:Int)(w:World)(hw:yc w a fs)(h0:0<=left)(h1:left<=1048576)(h:¬(zaM fs:Int)<=left) :
 Calls Tryz.prog 97 #[.slice a fs.length cap,.int .i64 left] w fun e w'=>e=.returned (.int .i64 (-1))/\Below w.heap.size w w':=by
 refine(zdE a cap fs left w hw h0 h1).mono ?_;rintro e w'⟨rfl,hb⟩;exact⟨zo (zC h),hb⟩
theorem zes (kd:ByteArray)(a:Option Addr)(cap:Nat)(fs:List Fld)(left:Int)(w:World)(hkd:kd.size<=maxLen)(hw:yc w a fs)(h0:0<=left)(h1:left<=1048576) :
 Calls Tryz.prog 53 #[.agg #[.string kd,.slice a fs.length cap],.int .i64 left] w fun e w'=>e=.returned (.int .i64 (zL (Shp.sz ⟨kd,fs⟩) left))/\Below w.heap.size w w':=by
 unfold maxLen at hkd
 by_cases c1:(kd.size:Int)<=left
 rotate_left
 ·have HF:Hid (zL (Shp.sz ⟨kd,fs⟩) left=-1):=zC (by unfold Shp.sz;simp only;omega)
  go_enter Tryz.func53,Tryz.ntmps53;go_wp2_with fail
  go_ret;exact⟨zo HF.out.symm,bAl _ _⟩
 by_cases c2:(zaM fs:Int)<=left-kd.size
 ·have HF:Hid (zL (Shp.sz ⟨kd,fs⟩) left=left-kd.size-zaM fs):=by
   have e:zL (Shp.sz ⟨kd,fs⟩) left=left-Shp.sz ⟨kd,fs⟩:=zM (by unfold Shp.sz;simp only;omega);unfold Hid;rw[e];unfold Shp.sz;simp only;omega
  go_enter Tryz.func53,Tryz.ntmps53;go_wp2_with fail
  refine(zhe _ _ _ _ _ (hw.mono (bAl _ _)) (by omega) (by omega) (by omega)).mono ?_;rintro e w1⟨rfl,hb1⟩;go_wp2_with fail
  go_ret;exact⟨zo HF.out.symm,(bAl _ _).trans (hb1.mono (by simp))⟩
 ·have HF:Hid (zL (Shp.sz ⟨kd,fs⟩) left=-1):=zC (by unfold Shp.sz;simp only;omega)
  go_enter Tryz.func53,Tryz.ntmps53;go_wp2_with fail
  refine(zif _ _ _ _ _ (hw.mono (bAl _ _)) (by omega) (by omega) (by omega)).mono ?_;rintro e w1⟨rfl,hb1⟩;go_wp2_with fail
  go_ret;exact⟨zo HF.out.symm,(bAl _ _).trans (hb1.mono (by simp))⟩
theorem ziG (kd:ByteArray)(a:Option Addr)(cap:Nat)(fs:List Fld)(left:Int)(w:World)(hkd:kd.size<=maxLen)(hw:yc w a fs)(h0:0<=left)(h1:left<=1048576)(h:(Shp.sz ⟨kd,fs⟩:Int)<=left) :
 Calls Tryz.prog 53 #[.agg #[.string kd,.slice a fs.length cap],.int .i64 left] w fun e w'=>e=.returned (.int .i64 (left-Shp.sz ⟨kd,fs⟩))/\Below w.heap.size w w':=by
 refine(zes kd a cap fs left w hkd hw h0 h1).mono ?_;rintro e w'⟨rfl,hb⟩;exact⟨zo (zM h),hb⟩
theorem zkb (kd:ByteArray)(a:Option Addr)(cap:Nat)(fs:List Fld)(left:Int)(w:World)(hkd:kd.size<=maxLen)(hw:yc w a fs)(h0:0<=left)(h1:left<=1048576)(h:¬(Shp.sz ⟨kd,fs⟩:Int)<=left) :
 Calls Tryz.prog 53 #[.agg #[.string kd,.slice a fs.length cap],.int .i64 left] w fun e w'=>e=.returned (.int .i64 (-1))/\Below w.heap.size w w':=by
 refine(zes kd a cap fs left w hkd hw h0 h1).mono ?_;rintro e w'⟨rfl,hb⟩;exact⟨zo (zC h),hb⟩
theorem zhA (a:Option Addr)(cap:Nat)(ss:List Shp)(left:Int)(w:World)(hw:yT w a ss)(h0:0<=left)(h1:left<=1048576) :
 Calls Tryz.prog 15 #[.slice a ss.length cap,.int .i64 left] w fun e w'=>e=.returned (.int .i64 (zL (zaI ss) left))/\Below w.heap.size w w':=by
 have hl:=hw.len;unfold maxLen at hl
 by_cases hfit:(ss.length:Int)<=left
 ·go_enter Tryz.func15,Tryz.ntmps15
  go_wp2_with fail
  go_loopw [1,5] (fun l i wr=>∃k:Nat,k<=ss.length/\i=.int .i64 k/\0<=left-ss.length-zhN (ss.take k)/\l=.int .i64 (left-ss.length-zhN (ss.take k))/\Below w.heap.size w wr) (fun _ i _=>ss.length-(intOf i).toNat)
  case atStart=>exact⟨0,Nat.zero_le _,rfl,by simp[zhN];omega,by simp[zhN],bRf _ _⟩
  case round=>
   obtain⟨k,hk,rfl,hpos,rfl,hB⟩:=hrel
   by_cases hlt:k<ss.length
   ·obtain⟨b,off,rfl,hb,hr⟩:=hw.rows (by rintro rfl;simp at hlt)
    obtain⟨fa,fcap,hs0⟩:=hr k hlt;have hs:=hs0.mono hb hB;have hck:=hs.kind;have hcl:=hs.list;have hfl:=hs.zdy;have hsm:=hs.small;have HS:Hid (zhN (ss.take (k+1))=zhN (ss.take k)+Shp.sz ⟨ss[k].kd,ss[k].fs⟩):=za8 Shp.sz ss k hlt;have hle:zhN (ss.take (k+1))<=zhN ss:=zcW Shp.sz ss (k+1);clear hw hr hs0 hs
    by_cases hneg:(Shp.sz ⟨ss[k].kd,ss[k].fs⟩:Int)<=left-ss.length-zhN (ss.take k)
    ·have HNG:Hid ((Shp.sz ⟨ss[k].kd,ss[k].fs⟩:Int)<=left-ss.length-zhN (ss.take k)):=hneg
     clear hle;go_wp2_with fail
     refine(ziG _ _ _ _ _ _ hsm hfl hpos (by omega) HNG.out).mono ?_;rintro e w1⟨rfl,hb1⟩;have hB1:=hB.trans (hb1.mono hB.size);clear hb1;go_wp2_with fail
     exact⟨⟨k+1,by omega,by go_num,by rw[HS.out];omega,by rw[HS.out];congr 1;omega,hB1⟩,by simp[intOf];omega⟩
    ·have HF:Hid (zL (zaI ss) left=-1):=zC (by have:=HS.out;unfold zaI;omega)
     have HNG:=hid hneg;clear hneg hle;go_wp2_with fail
     refine(zkb _ _ _ _ _ _ hsm hfl hpos (by omega) (by have:=HNG.out;omega)).mono ?_;rintro e w1⟨rfl,hb1⟩;have hB1:=hB.trans (hb1.mono hB.size);clear hb1;go_wp2_with fail
     go_ret;exact⟨zo HF.out.symm,hB1⟩
   ·have HF:Hid (zL (zaI ss) left=left-ss.length-zhN (ss.take k)):=by
     rw[tOl (by omega)]at hpos ⊢;have e:zL (zaI ss) left=left-zaI ss:=zM (by unfold zaI;omega);unfold Hid;rw[e];unfold zaI;omega
    clear hw
    go_wp2
    go_ret;exact⟨zo HF.out.symm,hB⟩
 ·have HF:Hid (zL (zaI ss) left=-1):=zC (by unfold zaI;omega)
  clear hw;go_enter Tryz.func15,Tryz.ntmps15
  go_wp2
  go_ret;exact⟨zo HF.out.symm,bRf _ _⟩
theorem ziY {a b:Int}{p q:Bool}(h:a=b)(h2:p=q):Ending.returned (.tuple #[.int .i64 a,.bool p])=.returned (.tuple #[.int .i64 b,.bool q]):=by rw[h,h2]
def zay (s:ByteArray):Int:=if zak s=true then zgN s else 0
theorem zju (s:ByteArray)(w:World)(h1:1<=s.size)(h7:s.size<=7)(hz:s.size<=1 \/ ¬(s[0].toNat:Int)=48) :
 Calls Tryz.prog 232 #[.string s] w fun e w'=>e=.returned (.tuple #[.int .i64 (zay s),.bool (zak s)])/\w'=w:=by
 have HF:Hid (zak s=za2 s):=zlh s h1 h7 hz;have hne:s.toList.isEmpty=false:=by rw[zx];exact decide_eq_false (by omega)
 rcases(show(¬(s[0].toNat:Int)=48) \/ (s.size<=1/\(s[0].toNat:Int)=48) by rcases hz with h|h <;> omega) with hz0|⟨hone,hz0⟩
 all_goals
  clear hz
  first
   | (have hz1:((s[0].toNat:Int) == 48)=true:=by simpa using hz0)
   | (have hz1:((s[0].toNat:Int) == 48)=false:=by simpa using hz0)
  clear hz0;go_enter Tryz.func232,Tryz.ntmps232
  go_wp2
  go_loop [4,25] (fun n i=>∃k:Nat,k<=s.size/\i=.int .i64 k/\(s.data.toList.take k).all digit=true/\n=.int .i64 (dec (s.data.toList.take k))) (fun _ i=>s.size-(intOf i).toNat)
  case atStart=>exact⟨0,Nat.zero_le _,rfl,rfl,rfl⟩
  case round=>
   obtain⟨k,hk,rfl,hall,rfl⟩:=hrel;have hlen:(s.data.toList.take k).length<=k:=List.length_take_le _ _;obtain⟨hd0,hd1⟩:=zfh _ hall k hlen
   by_cases hlt:k<s.size
   ·have hp:=zly k (by omega)
    have hd2:dec (s.data.toList.take k)<10000000:=by omega
    clear hp hd1 hlen;have HS:Hid ((s.data.toList.take (k+1)).all digit=(true&&digit s[k])):=by rw[zaJ _ s k hlt,hall];rfl
    have HD:Hid (dec (s.data.toList.take (k+1))=dec (s.data.toList.take k)*10+((s[k].toNat:Int)-48)):=by rw[zhi s k hlt];exact zm8 _ _
    have HN:Hid (digit s[k]=false->za2 s=false):=fun h=>zb3 digit s k hlt h
    clear hall
    by_cases hd:48<=(s[k].toNat:Int)/\(s[k].toNat:Int)<=57
    ·have HC:Hid (digit s[k]=true):=by simp[digit,Hid];omega
     obtain⟨h48,h57⟩:=hd
     go_wp2_with (go_at_call 215;refine(zh3 _ _ h48 h57).mono ?_;rintro e w'⟨rfl,rfl⟩)
     go_round
     case rel=>exact⟨k+1,by omega,by go_num,by rw[HS.out,HC.out];rfl,by rw[HD.out]⟩
     case measure=>simp[intOf];omega
    ·have HC:Hid (digit s[k]=false):=by simp[digit,Hid];omega
     have HDD:Hid (¬(48<=(s[k].toNat:Int)/\(s[k].toNat:Int)<=57)):=hd;clear hd
     go_wp2_with (go_at_call 215;refine(zcZ _ _ HDD.out).mono ?_;rintro e w'⟨rfl,rfl⟩)
     go_ret2
     exact⟨ziY (by unfold zay;rw[HF.out,HN.out HC.out];rfl) (by rw[HF.out,HN.out HC.out]),rfl⟩
   ·have HA:Hid (za2 s=true):=by unfold za2 Hid;rw[<- zar s k (by omega)];exact hall
    have HB:Hid (dec (s.data.toList.take k)=zgN s):=by rw[zar s k (by omega)];rfl
    clear hall hd0 hd1 hlen
    go_wp2
    go_ret2
    exact⟨ziY (by unfold zay;rw[HF.out,HA.out,HB.out];rfl) (by rw[HF.out,HA.out]),rfl⟩
theorem zdr (s:ByteArray)(w:World)(hs:s.size<=maxLen) :
 Calls Tryz.prog 232 #[.string s] w fun e w'=>e=.returned (.tuple #[.int .i64 (zay s),.bool (zak s)])/\w'=w:=by
 unfold maxLen at hs
 by_cases h0:s.size=0
 ·rw[zdn s h0]
  go_enter Tryz.func232,Tryz.ntmps232
  go_wp2
  go_ret2
  exact⟨rfl,rfl⟩
 have hne:s.toList.isEmpty=false:=by rw[zx];simp[h0]
 by_cases h7:s.size<=7
 ·by_cases hz:1<s.size/\(s[0].toNat:Int)=48
  ·obtain⟨hm,hz0⟩:=hz
   have HF:Hid (zak s=false):=zft s hm hz0;have hz1:((s[0].toNat:Int) == 48)=true:=by simpa using hz0
   clear hz0;go_enter Tryz.func232,Tryz.ntmps232
   go_wp2
   go_ret2
   exact⟨ziY (by unfold zay;rw[HF.out];rfl) HF.out.symm,rfl⟩
  ·exact zju s w (by omega) h7 (by omega)
 ·have HF:Hid (zak s=false):=zef s (by omega)
  go_enter Tryz.func232,Tryz.ntmps232
  go_wp2
  go_ret2
  exact⟨ziY (by unfold zay;rw[HF.out];rfl) HF.out.symm,rfl⟩
def zqv (ss:List Shp)(v:ByteArray)(e:Ending):Prop:=
 (zJ ss v=false->e=.returned (.int .i64 (-1)))/\(zJ ss v=true->∃k,∃h:k<ss.length,e=.returned (.int .i64 (k:Nat))/\shapeOf ss v=ss[k])
theorem zie (a:Option Addr)(cap:Nat)(ss:List Shp)(v:ByteArray)(w:World)(hw:yT w a ss) :
 Calls Tryz.prog 143 #[.slice a ss.length cap,.string v] w fun e w'=>zqv ss v e/\w'=w:=by
 have hl:=hw.len;unfold maxLen at hl;go_enter Tryz.func143,Tryz.ntmps143
 go_wp2
 go_loop [5] (fun i=>∃k:Nat,k<=ss.length/\i=.int .i64 k/\zJ (ss.take k) v=false) (fun i=>ss.length-(intOf i).toNat)
 case atStart=>exact⟨0,Nat.zero_le _,rfl,rfl⟩
 case round=>
  obtain⟨k,hk,rfl,hno⟩:=hrel
  by_cases hlt:k<ss.length
  ·obtain⟨b,off,rfl,hb,hr⟩:=hw.rows (by rintro rfl;simp at hlt)
   obtain⟨fa,fcap,hs⟩:=hr k hlt;have hck:=hs.kind;clear hw hr hs
   by_cases he:ss[k].kd=v
   ·have hbe:(ss[k].kd.toList == v.toList)=true:=by rw[beq_toList];simpa using he
    have HA:Hid (zJ ss v=true):=zjk ss v k hlt he;have HB:Hid (shapeOf ss v=ss[k]):=zfR ss v k hlt hno he;clear he hno
    go_wp2
    go_ret;exact⟨⟨fun h=>(by rw[HA.out]at h;cases h),fun _=>⟨k,hlt,rfl,HB.out⟩⟩,rfl⟩
   ·have hbe:(ss[k].kd.toList == v.toList)=false:=by rw[beq_toList];simpa using he
    have HS:Hid (zJ (ss.take (k+1)) v=false):=by unfold Hid;rw[zgw ss v k hlt,hno,decide_eq_false he];rfl
    clear he hno
    go_wp2
    go_round
    case rel=>exact⟨k+1,by omega,by go_num,HS.out⟩
    case measure=>simp[intOf];omega
  ·have HA:Hid (zJ ss v=false):=by rw[<- zhZ ss v k (by omega)];exact hno
   clear hno hw
   go_wp2
   go_ret;exact⟨⟨fun _=>rfl,fun h=>by rw[HA.out]at h;cases h⟩,rfl⟩
theorem zed (a:Option Addr)(cap:Nat)(ss:List Shp)(v:ByteArray)(w:World)(hw:yT w a ss)(h:zJ ss v=false) :
 Calls Tryz.prog 143 #[.slice a ss.length cap,.string v] w fun e w'=>e=.returned (.int .i64 (-1))/\w'=w:=by
 refine(zie a cap ss v w hw).mono ?_;rintro e w'⟨⟨h1,_⟩,rfl⟩;exact⟨h1 h,rfl⟩
theorem jV (a:Option Addr)(cap:Nat)(ss:List Shp)(v:ByteArray)(w:World)(hw:yT w a ss)(h:zJ ss v=true) :
 Calls Tryz.prog 143 #[.slice a ss.length cap,.string v] w fun e w'=>∃k,∃h:k<ss.length,e=.returned (.int .i64 (k:Nat))/\shapeOf ss v=ss[k]/\w'=w:=by
 refine(zie a cap ss v w hw).mono ?_;rintro e w'⟨⟨_,h2⟩,rfl⟩;obtain⟨k,hk,he,hs⟩:=h2 h;exact⟨k,hk,he,hs,rfl⟩
end Go.Proofs.YtkficnallnpjnaaGreat
