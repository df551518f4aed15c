import Derived.Test.YtnapmdofidgliaaGreatM05
set_option maxHeartbeats 2000000
namespace Go.Proofs.YtnapmdofidgliaaGreat
open Go.RowKit
def Fld.sz (f:Fld):Nat:=zay f.nm f.ws f.to f.df f.wg
def zhf (fs:List Fld):Nat:=(fs.map Fld.sz).sum
def zaV (fs:List Fld):Nat:=fs.length+zhf fs
def Shp.sz (s:Shp):Nat:=s.kd.size+zaV s.fs
def zhj (ss:List Shp):Nat:=(ss.map Shp.sz).sum
def zaT (ss:List Shp):Nat:=ss.length+zhj ss
theorem ziB (nm:ByteArray)(kd ls ms:Int)(a:Option Addr)(cap:Nat)(ws:List ByteArray)(to:ByteArray)(rl:Int)(mu fx:Bool)(df wg:ByteArray)(left:Int)(w:World)(hw:zD w a ws)(h0:0<=left)(h1:left<=1048576)
 (hnm:nm.size<=maxLen) (hto:to.size<=maxLen) (hdf:df.size<=maxLen) (hwg:wg.size<=maxLen) (h:(zay nm ws to df wg:Int)<=left) :
 Calls Tryz.prog 127 #[.agg #[.string nm,.int .i64 kd,.int .i64 ls,.int .i64 ms,.slice a ws.length cap,.string to,.int .i64 rl,.bool mu,.bool fx,.string df,.string wg],.int .i64 left] w fun e w'=>e=.returned (.int .i64 (left-zay nm ws to df wg))/\Below w.heap.size w w':=by
 refine(zeA nm kd ls ms a cap ws to rl mu fx df wg left w hw h0 h1 hnm hto hdf hwg).mono ?_;rintro e w'⟨rfl,hb⟩;exact⟨zo (zL h),hb⟩
theorem zjb (nm:ByteArray)(kd ls ms:Int)(a:Option Addr)(cap:Nat)(ws:List ByteArray)(to:ByteArray)(rl:Int)(mu fx:Bool)(df wg:ByteArray)(left:Int)(w:World)(hw:zD w a ws)(h0:0<=left)(h1:left<=1048576)
 (hnm:nm.size<=maxLen) (hto:to.size<=maxLen) (hdf:df.size<=maxLen) (hwg:wg.size<=maxLen) (h:¬(zay nm ws to df wg:Int)<=left) :
 Calls Tryz.prog 127 #[.agg #[.string nm,.int .i64 kd,.int .i64 ls,.int .i64 ms,.slice a ws.length cap,.string to,.int .i64 rl,.bool mu,.bool fx,.string df,.string wg],.int .i64 left] w fun e w'=>e=.returned (.int .i64 (-1))/\Below w.heap.size w w':=by
 refine(zeA nm kd ls ms a cap ws to rl mu fx df wg left w hw h0 h1 hnm hto hdf hwg).mono ?_;rintro e w'⟨rfl,hb⟩;exact⟨zo (zC h),hb⟩
theorem zdE (a:Option Addr)(cap:Nat)(fs:List Fld)(left:Int)(w:World)(hw:zY w a fs)(h0:0<=left)(h1:left<=1048576) :
 Calls Tryz.prog 93 #[.slice a fs.length cap,.int .i64 left] w fun e w'=>e=.returned (.int .i64 (zK (zaV fs) left))/\Below w.heap.size w w':=by
 have hl:=hw.len;unfold maxLen at hl
 by_cases hfit:(fs.length:Int)<=left
 ·go_enter Tryz.func93,Tryz.ntmps93
  go_wp2_with fail
  go_loopw [1,5] (fun l i wr=>∃k:Nat,k<=fs.length/\i=.int .i64 k/\0<=left-fs.length-zhf (fs.take k)/\l=.int .i64 (left-fs.length-zhf (fs.take k))/\Below w.heap.size w wr) (fun _ i _=>fs.length-(intOf i).toNat)
  case atStart=>exact⟨0,Nat.zero_le _,rfl,by simp[zhf];omega,by simp[zhf],bRf _ _⟩
  case round=>
   obtain⟨k,hk,rfl,hpos,rfl,hB⟩:=hrel
   by_cases hlt:k<fs.length
   ·obtain⟨b,off,rfl,hb,hr⟩:=hw.rows (by rintro rfl;simp at hlt)
    obtain⟨wa,wcap,hf0⟩:=hr k hlt;have hf:=hf0.mono hb hB;obtain⟨c0,c1,c2,c3,c4,c5,c6,c7,c8,c9,c10⟩:=hf.load;have hsm:=hf.small;have hst:=hf.strs;have HS:Hid (zhf (fs.take (k+1))=zhf (fs.take k)+fs[k].sz):=zbd Fld.sz fs k hlt;have hle:zhf (fs.take (k+1))<=zhf fs:=zcY Fld.sz fs (k+1);clear hw hr hf0 hf
    by_cases hneg:(zay fs[k].nm fs[k].ws fs[k].to fs[k].df fs[k].wg:Int)<=left-fs.length-zhf (fs.take k)
    ·have HNG:Hid ((zay fs[k].nm fs[k].ws fs[k].to fs[k].df fs[k].wg:Int)<=left-fs.length-zhf (fs.take k)):=hneg
     clear hle;go_wp2_with fail
     refine(ziB _ _ _ _ _ _ _ _ _ _ _ _ _ _ _ hst hpos (by omega) hsm.nm hsm.to hsm.df hsm.wg HNG.out).mono ?_;rintro e w1⟨rfl,hb1⟩;have hB1:=hB.trans (hb1.mono hB.size);clear hb1;go_wp2_with fail
     exact⟨⟨k+1,by omega,by go_num,by rw[HS.out];show 0<=_-((_+zay _ _ _ _ _:Nat):Int);omega,by rw[HS.out];show Value.int _ _=Value.int _ (_-((_+zay _ _ _ _ _:Nat):Int));congr 1;omega,hB1⟩,by simp[intOf];omega⟩
    ·have HF:Hid (zK (zaV fs) left=-1):=zC (by have:=HS.out;unfold zaV;unfold Fld.sz at this;omega)
     have HNG:=hid hneg;clear hneg hle;go_wp2_with fail
     refine(zjb _ _ _ _ _ _ _ _ _ _ _ _ _ _ _ hst hpos (by omega) hsm.nm hsm.to hsm.df hsm.wg (by have:=HNG.out;omega)).mono ?_;rintro e w1⟨rfl,hb1⟩;have hB1:=hB.trans (hb1.mono hB.size);clear hb1;go_wp2_with fail
     go_ret;exact⟨zo HF.out.symm,hB1⟩
   ·have HF:Hid (zK (zaV fs) left=left-fs.length-zhf (fs.take k)):=by
     rw[tOl (by omega)]at hpos ⊢;have e:zK (zaV fs) left=left-zaV fs:=zL (by unfold zaV;omega);unfold Hid;rw[e];unfold zaV;omega
    clear hw
    go_wp2
    go_ret;exact⟨zo HF.out.symm,hB⟩
 ·have HF:Hid (zK (zaV fs) left=-1):=zC (by unfold zaV;omega)
  clear hw;go_enter Tryz.func93,Tryz.ntmps93
  go_wp2
  go_ret;exact⟨zo HF.out.symm,bRf _ _⟩
theorem zhS (a:Option Addr)(cap:Nat)(fs:List Fld)(left:Int)(w:World)(hw:zY w a fs)(h0:0<=left)(h1:left<=1048576)(h:(zaV fs:Int)<=left) :
 Calls Tryz.prog 93 #[.slice a fs.length cap,.int .i64 left] w fun e w'=>e=.returned (.int .i64 (left-zaV fs))/\Below w.heap.size w w':=by
 refine(zdE a cap fs left w hw h0 h1).mono ?_;rintro e w'⟨rfl,hb⟩;exact⟨zo (zL h),hb⟩
theorem ziR (a:Option Addr)(cap:Nat)(fs:List Fld)(left:Int)(w:World)(hw:zY w a fs)(h0:0<=left)(h1:left<=1048576)(h:¬(zaV fs:Int)<=left) :
 Calls Tryz.prog 93 #[.slice a fs.length cap,.int .i64 left] w fun e w'=>e=.returned (.int .i64 (-1))/\Below w.heap.size w w':=by
 refine(zdE a cap fs left w hw h0 h1).mono ?_;rintro e w'⟨rfl,hb⟩;exact⟨zo (zC h),hb⟩
theorem zey (kd:ByteArray)(a:Option Addr)(cap:Nat)(fs:List Fld)(left:Int)(w:World)(hkd:kd.size<=maxLen)(hw:zY w a fs)(h0:0<=left)(h1:left<=1048576) :
 Calls Tryz.prog 53 #[.agg #[.string kd,.slice a fs.length cap],.int .i64 left] w fun e w'=>e=.returned (.int .i64 (zK (Shp.sz ⟨kd,fs⟩) left))/\Below w.heap.size w w':=by
 unfold maxLen at hkd
 by_cases c1:(kd.size:Int)<=left
 rotate_left
 ·have HF:Hid (zK (Shp.sz ⟨kd,fs⟩) left=-1):=zC (by unfold Shp.sz;simp only;omega)
  go_enter Tryz.func53,Tryz.ntmps53;go_wp2_with fail
  go_ret;exact⟨zo HF.out.symm,bAl _ _⟩
 by_cases c2:(zaV fs:Int)<=left-kd.size
 ·have HF:Hid (zK (Shp.sz ⟨kd,fs⟩) left=left-kd.size-zaV fs):=by
   have e:zK (Shp.sz ⟨kd,fs⟩) left=left-Shp.sz ⟨kd,fs⟩:=zL (by unfold Shp.sz;simp only;omega);unfold Hid;rw[e];unfold Shp.sz;simp only;omega
  go_enter Tryz.func53,Tryz.ntmps53;go_wp2_with fail
  refine(zhS _ _ _ _ _ (hw.mono (bAl _ _)) (by omega) (by omega) (by omega)).mono ?_;rintro e w1⟨rfl,hb1⟩;go_wp2_with fail
  go_ret;exact⟨zo HF.out.symm,(bAl _ _).trans (hb1.mono (by simp))⟩
 ·have HF:Hid (zK (Shp.sz ⟨kd,fs⟩) left=-1):=zC (by unfold Shp.sz;simp only;omega)
  go_enter Tryz.func53,Tryz.ntmps53;go_wp2_with fail
  refine(ziR _ _ _ _ _ (hw.mono (bAl _ _)) (by omega) (by omega) (by omega)).mono ?_;rintro e w1⟨rfl,hb1⟩;go_wp2_with fail
  go_ret;exact⟨zo HF.out.symm,(bAl _ _).trans (hb1.mono (by simp))⟩
theorem ziy (kd:ByteArray)(a:Option Addr)(cap:Nat)(fs:List Fld)(left:Int)(w:World)(hkd:kd.size<=maxLen)(hw:zY w a fs)(h0:0<=left)(h1:left<=1048576)(h:(Shp.sz ⟨kd,fs⟩:Int)<=left) :
 Calls Tryz.prog 53 #[.agg #[.string kd,.slice a fs.length cap],.int .i64 left] w fun e w'=>e=.returned (.int .i64 (left-Shp.sz ⟨kd,fs⟩))/\Below w.heap.size w w':=by
 refine(zey kd a cap fs left w hkd hw h0 h1).mono ?_;rintro e w'⟨rfl,hb⟩;exact⟨zo (zL h),hb⟩
theorem zjS (kd:ByteArray)(a:Option Addr)(cap:Nat)(fs:List Fld)(left:Int)(w:World)(hkd:kd.size<=maxLen)(hw:zY w a fs)(h0:0<=left)(h1:left<=1048576)(h:¬(Shp.sz ⟨kd,fs⟩:Int)<=left) :
 Calls Tryz.prog 53 #[.agg #[.string kd,.slice a fs.length cap],.int .i64 left] w fun e w'=>e=.returned (.int .i64 (-1))/\Below w.heap.size w w':=by
 refine(zey kd a cap fs left w hkd hw h0 h1).mono ?_;rintro e w'⟨rfl,hb⟩;exact⟨zo (zC h),hb⟩
theorem zht (a:Option Addr)(cap:Nat)(ss:List Shp)(left:Int)(w:World)(hw:yU w a ss)(h0:0<=left)(h1:left<=1048576) :
 Calls Tryz.prog 17 #[.slice a ss.length cap,.int .i64 left] w fun e w'=>e=.returned (.int .i64 (zK (zaT ss) left))/\Below w.heap.size w w':=by
 have hl:=hw.len;unfold maxLen at hl
 by_cases hfit:(ss.length:Int)<=left
 ·go_enter Tryz.func17,Tryz.ntmps17
  go_wp2_with fail
  go_loopw [1,5] (fun l i wr=>∃k:Nat,k<=ss.length/\i=.int .i64 k/\0<=left-ss.length-zhj (ss.take k)/\l=.int .i64 (left-ss.length-zhj (ss.take k))/\Below w.heap.size w wr) (fun _ i _=>ss.length-(intOf i).toNat)
  case atStart=>exact⟨0,Nat.zero_le _,rfl,by simp[zhj];omega,by simp[zhj],bRf _ _⟩
  case round=>
   obtain⟨k,hk,rfl,hpos,rfl,hB⟩:=hrel
   by_cases hlt:k<ss.length
   ·obtain⟨b,off,rfl,hb,hr⟩:=hw.rows (by rintro rfl;simp at hlt)
    obtain⟨fa,fcap,hs0⟩:=hr k hlt;have hs:=hs0.mono hb hB;have hck:=hs.kind;have hcl:=hs.list;have hfl:=hs.zdk;have hsm:=hs.small;have HS:Hid (zhj (ss.take (k+1))=zhj (ss.take k)+Shp.sz ⟨ss[k].kd,ss[k].fs⟩):=zbd Shp.sz ss k hlt;have hle:zhj (ss.take (k+1))<=zhj ss:=zcY Shp.sz ss (k+1);clear hw hr hs0 hs
    by_cases hneg:(Shp.sz ⟨ss[k].kd,ss[k].fs⟩:Int)<=left-ss.length-zhj (ss.take k)
    ·have HNG:Hid ((Shp.sz ⟨ss[k].kd,ss[k].fs⟩:Int)<=left-ss.length-zhj (ss.take k)):=hneg
     clear hle;go_wp2_with fail
     refine(ziy _ _ _ _ _ _ hsm hfl hpos (by omega) HNG.out).mono ?_;rintro e w1⟨rfl,hb1⟩;have hB1:=hB.trans (hb1.mono hB.size);clear hb1;go_wp2_with fail
     exact⟨⟨k+1,by omega,by go_num,by rw[HS.out];omega,by rw[HS.out];congr 1;omega,hB1⟩,by simp[intOf];omega⟩
    ·have HF:Hid (zK (zaT ss) left=-1):=zC (by have:=HS.out;unfold zaT;omega)
     have HNG:=hid hneg;clear hneg hle;go_wp2_with fail
     refine(zjS _ _ _ _ _ _ hsm hfl hpos (by omega) (by have:=HNG.out;omega)).mono ?_;rintro e w1⟨rfl,hb1⟩;have hB1:=hB.trans (hb1.mono hB.size);clear hb1;go_wp2_with fail
     go_ret;exact⟨zo HF.out.symm,hB1⟩
   ·have HF:Hid (zK (zaT ss) left=left-ss.length-zhj (ss.take k)):=by
     rw[tOl (by omega)]at hpos ⊢;have e:zK (zaT ss) left=left-zaT ss:=zL (by unfold zaT;omega);unfold Hid;rw[e];unfold zaT;omega
    clear hw
    go_wp2
    go_ret;exact⟨zo HF.out.symm,hB⟩
 ·have HF:Hid (zK (zaT ss) left=-1):=zC (by unfold zaT;omega)
  clear hw;go_enter Tryz.func17,Tryz.ntmps17
  go_wp2
  go_ret;exact⟨zo HF.out.symm,bRf _ _⟩
structure qF (lo:Nat)(w:World)(bo:Nat)(fs:List Fld)(k:Nat):Prop where
 low:lo<=bo
 rows:∃C,w.heap[bo]?=some (.cells C 128)/\C.size=fs.length*11 /\
  ∀i (h:i<fs.length),i<k->∃bk,lo<=bk/\bk≠bo/\w.heap[bk]?=some (.cells (jY fs[i].ws) 9)/\∀j,j<11->C[i*11+j]?=(fs[i].cells (some ⟨bk,0,none⟩) fs[i].ws.length)[j]?
structure zca (fs:List Fld):Prop where
 small:∀i (h:i<fs.length),fs[i].Small/\fs[i].ws.length<=maxLen/\∀s∈fs[i].ws,s.size<=maxLen
theorem zY.smalls {w:World}{a:Option Addr}{fs:List Fld}(h:zY w a fs):zca fs:=
 ⟨fun i hi=>by
  obtain⟨b,off,_,_,hr⟩:=h.rows (by rintro rfl;simp at hi);obtain⟨wa,wcap,hf⟩:=hr i hi;exact⟨hf.small,hf.strs.len,hf.strs.small⟩⟩
theorem qF.at {lo:Nat}{w:World}{bo:Nat}{fs:List Fld}(h:qF lo w bo fs fs.length)(hs:zca fs)(hl:fs.length<=maxLen):zY w (some ⟨bo,0,none⟩) fs:=by
 obtain⟨C,hC,hsz,hr⟩:=h.rows;refine⟨hl,fun _=>⟨bo,0,rfl,(gES hC).1,fun i hi=>?_⟩⟩;obtain⟨bk,_,_,hk,hc⟩:=hr i hi hi;obtain⟨s1,s2,s3⟩:=hs.small i hi;refine⟨some ⟨bk,0,none⟩,fs[i].ws.length,s1,zdL hk s2 s3,fun j hj=>?_⟩;rw[cell_of_block hC,Nat.zero_add];exact hc j hj
theorem qF.later {lo:Nat}{w w':World}{bo:Nat}{fs:List Fld}{k:Nat}(h:qF lo w bo fs k)(hb:Below w.heap.size w w'):qF lo w' bo fs k:=by
 obtain⟨C,hC,hsz,hr⟩:=h.rows;refine⟨h.low,C,(hb.block bo (gES hC).1).trans hC,hsz,fun i hi hk=>?_⟩;obtain⟨bk,h1,h2,h3,h4⟩:=hr i hi hk;exact⟨bk,h1,h2,(hb.block bk (gES h3).1).trans h3,h4⟩
theorem qF.put {lo:Nat}{w:World}{bo:Nat}{fs:List Fld}{k:Nat}(h:qF lo w bo fs k)(hk:k<fs.length)(bk:Nat)(h1:lo<=bk)(h2:bk≠bo)(h3:w.heap[bk]?=some (.cells (jY fs[k].ws) 9)) :
 qF lo (znG w bo (k*11) (.string fs[k].nm) (.int .i64 fs[k].kd) (.int .i64 fs[k].ls) (.int .i64 fs[k].ms) (.slice (some ⟨bk,0,none⟩) fs[k].ws.length fs[k].ws.length) (.string fs[k].to) (.int .i64 fs[k].rl) (.bool fs[k].mu) (.bool fs[k].fx) (.string fs[k].df) (.string fs[k].wg)) bo fs (k+1):=by
 obtain⟨C,hC,hsz,hr⟩:=h.rows;refine⟨h.low,_,znc hC _ _ _ _ _ _ _ _ _ _ _,by rw[zoS];exact hsz,fun i hi hik=>?_⟩
 rcases Nat.lt_or_ge i k with hlt|hge
 ·obtain⟨bi,g1,g2,g3,g4⟩:=hr i hi hlt
  refine⟨bi,g1,g2,by rw[zhW _ _ _ _ g2];exact g3,fun j hj=>?_⟩;rw[zpM _ _ _ _ _ _ _ _ _ _ _ _ _ _ (by omega)];exact g4 j hj
 ·have e:i=k:=by omega
  subst e;refine⟨bk,h1,h2,by rw[zhW _ _ _ _ h2];exact h3,fun j hj=>?_⟩;rw[zqc _ _ _ _ _ _ _ _ _ _ _ _ _ _ hj (by omega)]
  rfl
def zpa:Array Value:=#[.string ByteArray.empty,.int .i64 0,.int .i64 0,.int .i64 0,.slice none 0 0,.string ByteArray.empty,.int .i64 0,.bool false,.bool false,.string ByteArray.empty,.string ByteArray.empty]
def zmT (n:Nat):Array Value:=madeCells zpa (n*11)
theorem zhe (a:Option Addr)(cap:Nat)(fs:List Fld)(w:World)(hw:zY w a fs)(hl:fs.length<=1048576)(hls:∀i (h:i<fs.length),fs[i].ws.length<=1048576) :
 Calls Tryz.prog 111 #[.slice a fs.length cap] w fun e w'=>e=.returned (.slice (some ⟨w.heap.size,0,none⟩) fs.length fs.length)/\qF w.heap.size w' w.heap.size fs fs.length/\Below w.heap.size w w':=by
 have hmk:∀w:World,(Instr.makeSlice 124 (.int .i64 fs.length) (.int .i64 fs.length)).run Tryz.prog w=.ok (.slice (some ⟨w.heap.size,0,none⟩) fs.length fs.length) (w.alloc (.cells (zmT fs.length) 128)):=
  fun w=>jI (P:=Tryz.prog) 124 128 (.agg zpa) 11 128 Tryz.underlying124 (by kernel_rfl) fs.length (by omega) (by omega) w
 go_enter Tryz.func111,Tryz.ntmps111;go_wp2_with fail
 clear hmk
 go_loopw [4] (fun i wr=>∃k:Nat,k<=fs.length/\i=.int .i64 k/\qF w.heap.size wr w.heap.size fs k/\Below w.heap.size w wr) (fun i _=>fs.length-(intOf i).toNat)
 case atStart=>exact⟨0,Nat.zero_le _,rfl,⟨Nat.le_refl _,zmT fs.length,(MapKept.heap_alloc w _).1,size_madeCells _ _,fun i _ h=>absurd h (by omega)⟩,bAl _ _⟩
 case round=>
  obtain⟨k,hk,rfl,hown,hB⟩:=hrel
  by_cases hlt:k<fs.length
  ·obtain⟨b,off,rfl,hb,hr⟩:=hw.rows (by rintro rfl;simp at hlt)
   obtain⟨wa,wcap,hf0⟩:=hr k hlt;have hf:=hf0.mono hb hB;obtain⟨c0,c1,c2,c3,c4,c5,c6,c7,c8,c9,c10⟩:=hf.load;have hst:=hf.strs;have HLS:Hid (fs[k].ws.length<=1048576):=hls k hlt;have hltI:(k:Int)<(fs.length:Int):=by omega
   clear hw hr hf0 hf;go_wp2_with fail
   refine(zi2 _ _ _ _ _ _ _ _ _ _ _ _ _ _ hst HLS.out).mono ?_;rintro e w1⟨bk,rfl,hlo,hhi,hbk,hb1⟩;have hB1:=hB.trans (hb1.mono hB.size);have hown1:=hown.later hb1;obtain⟨C,hC,hsz,_⟩:=hown1.rows;have hfz:∀o,w1.frozen? ⟨w.heap.size,o,none⟩=false:=fun o=>zh hC
   have hex:∀o,o<fs.length*11->∃v,w1.cell? ⟨w.heap.size,o,none⟩=some v:=fun o ho=>⟨C[o]'(by omega),by rw[cell_of_block hC];exact Array.getElem?_eq_getElem (by omega)⟩
   obtain⟨v0,hv0⟩:=hex (k*11) (by omega);obtain⟨v1,hv1⟩:=hex (k*11+1) (by omega);obtain⟨v2,hv2⟩:=hex (k*11+2) (by omega);obtain⟨v3,hv3⟩:=hex (k*11+3) (by omega);obtain⟨v4,hv4⟩:=hex (k*11+4) (by omega);obtain⟨v5,hv5⟩:=hex (k*11+5) (by omega);obtain⟨v6,hv6⟩:=hex (k*11+6) (by omega);obtain⟨v7,hv7⟩:=hex (k*11+7) (by omega);obtain⟨v8,hv8⟩:=hex (k*11+8) (by omega);obtain⟨v9,hv9⟩:=hex (k*11+9) (by omega);obtain⟨v10,hv10⟩:=hex (k*11+10) (by omega);clear hex hC hsz c0 c1 c2 c3 c4 c5 c6 c7 c8 c9 c10
   have hbo:w.heap.size<wr.heap.size:=by
    obtain⟨C',hC',_⟩:=hown.rows;exact(gES hC').1
   go_wp2_with fail
   exact⟨⟨k+1,by omega,by go_num,hown1.put hlt bk (by omega) (by omega) hbk,zmK hB1 (Nat.le_refl _) _ _ _ _ _ _ _ _ _ _ _ _⟩,by simp[intOf];omega⟩
  ·have HF:Hid (qF w.heap.size wr w.heap.size fs fs.length):=by
    have e:k=fs.length:=by omega
    subst e;exact hown
   clear hw hown;go_wp2_with fail
   go_ret;exact⟨rfl,HF.out,hB⟩
structure jU (lo:Nat)(w:World)(bo:Nat)(ss:List Shp)(k:Nat):Prop where
 low:lo<=bo
 rows:∃C,w.heap[bo]?=some (.cells C 131)/\C.size=ss.length*2 /\
  ∀i (h:i<ss.length),i<k->∃bf,lo<=bf/\bo<bf/\qF (bo+1) w bf ss[i].fs ss[i].fs.length/\C[i*2]?=some (.string ss[i].kd)/\C[i*2+1]?=some (.slice (some ⟨bf,0,none⟩) ss[i].fs.length ss[i].fs.length)
structure zdU (ss:List Shp):Prop where
 small:∀i (h:i<ss.length),ss[i].kd.size<=maxLen/\ss[i].fs.length<=maxLen/\zca ss[i].fs
theorem yU.smalls {w:World}{a:Option Addr}{ss:List Shp}(h:yU w a ss):zdU ss:=
 ⟨fun i hi=>by
  obtain⟨b,off,_,_,hr⟩:=h.rows (by rintro rfl;simp at hi);obtain⟨fa,fcap,hs⟩:=hr i hi;exact⟨hs.small,hs.zdk.len,hs.zdk.smalls⟩⟩
theorem jU.at {lo:Nat}{w:World}{bo:Nat}{ss:List Shp}(h:jU lo w bo ss ss.length)(hs:zdU ss)(hl:ss.length<=maxLen):yU w (some ⟨bo,0,none⟩) ss:=by
 obtain⟨C,hC,hsz,hr⟩:=h.rows;refine⟨hl,fun _=>⟨bo,0,rfl,(gES hC).1,fun i hi=>?_⟩⟩;obtain⟨bf,_,_,hf,h1,h2⟩:=hr i hi hi;obtain⟨s1,s2,s3⟩:=hs.small i hi;refine⟨some ⟨bf,0,none⟩,ss[i].fs.length,s1,hf.at s3 s2,?_,?_⟩
 ·rw[cell_of_block hC,Nat.zero_add];exact h1
 ·rw[cell_of_block hC,Nat.zero_add];exact h2
theorem jU.later {lo:Nat}{w w':World}{bo:Nat}{ss:List Shp}{k:Nat}(h:jU lo w bo ss k)(hb:Below w.heap.size w w'):jU lo w' bo ss k:=by
 obtain⟨C,hC,hsz,hr⟩:=h.rows;refine⟨h.low,C,(hb.block bo (gES hC).1).trans hC,hsz,fun i hi hk=>?_⟩;obtain⟨bf,h1,h2,h3,h4⟩:=hr i hi hk;exact⟨bf,h1,h2,h3.later hb,h4⟩
theorem qF.setCell {lo:Nat}{w:World}{bf:Nat}{fs:List Fld}{k:Nat}(h:qF lo w bf fs k){p:Addr}(hp:p.block<lo)(v:Value):qF lo (w.setCell p v) bf fs k:=by
 obtain⟨C,hC,hsz,hr⟩:=h.rows;have hl:=h.low;refine⟨h.low,C,by rw[Below.heap_setCell _ _ _ _ (by omega)];exact hC,hsz,fun i hi hk=>?_⟩;obtain⟨bk,h1,h2,h3,h4⟩:=hr i hi hk;exact⟨bk,h1,h2,by rw[Below.heap_setCell _ _ _ _ (by omega)];exact h3,h4⟩
theorem qF.weaken {lo lo':Nat}{w:World}{bf:Nat}{fs:List Fld}{k:Nat}(h:qF lo w bf fs k)(hl:lo'<=lo):qF lo' w bf fs k:=by
 obtain⟨C,hC,hsz,hr⟩:=h.rows;refine⟨Nat.le_trans hl h.low,C,hC,hsz,fun i hi hk=>?_⟩;obtain⟨bk,h1,h2⟩:=hr i hi hk;exact⟨bk,Nat.le_trans hl h1,h2⟩
theorem jU.put {lo:Nat}{w:World}{bo:Nat}{ss:List Shp}{k:Nat}(h:jU lo w bo ss k)(hk:k<ss.length)(bf:Nat)(h1:bo<bf)(h3:qF (bo+1) w bf ss[k].fs ss[k].fs.length) :
 jU lo ((w.setCell ⟨bo,k*2,none⟩ (.string ss[k].kd)).setCell ⟨bo,k*2+1,none⟩ (.slice (some ⟨bf,0,none⟩) ss[k].fs.length ss[k].fs.length)) bo ss (k+1):=by
 obtain⟨C,hC,hsz,hr⟩:=h.rows;have hl:=h.low;refine⟨h.low,_,zk (zk hC _) _,by simp[hsz],fun i hi hik=>?_⟩
 rcases Nat.lt_or_ge i k with hlt|hge
 ·obtain⟨bi,g1,g2,g3,g4,g5⟩:=hr i hi hlt
  refine⟨bi,g1,g2,(g3.setCell (by simp) _).setCell (by simp) _,?_,?_⟩
  ·rw[Array.getElem?_setIfInBounds,if_neg (by omega),Array.getElem?_setIfInBounds,if_neg (by omega)];exact g4
  ·rw[Array.getElem?_setIfInBounds,if_neg (by omega),Array.getElem?_setIfInBounds,if_neg (by omega)];exact g5
 ·have e:i=k:=by omega
  subst e;refine⟨bf,by omega,h1,(h3.setCell (by simp) _).setCell (by simp) _,?_,?_⟩
  ·rw[Array.getElem?_setIfInBounds,if_neg (by omega),Array.getElem?_setIfInBounds,if_pos rfl,if_pos (by omega)]
  ·rw[Array.getElem?_setIfInBounds,if_pos rfl,if_pos (by simp;omega)]
theorem ziW (kd:ByteArray)(a:Option Addr)(cap:Nat)(fs:List Fld)(w:World)(hw:zY w a fs)(hl:fs.length<=1048576)(hls:∀i (h:i<fs.length),fs[i].ws.length<=1048576) :
 Calls Tryz.prog 67 #[.agg #[.string kd,.slice a fs.length cap]] w fun e w'=>∃bf,e=.returned (.agg #[.string kd,.slice (some ⟨bf,0,none⟩) fs.length fs.length])/\qF w.heap.size w' bf fs fs.length/\Below w.heap.size w w':=by
 go_enter Tryz.func67,Tryz.ntmps67;go_wp2_with fail
 refine(zhe _ _ _ _ (hw.mono (((bAl _ _).alloc (by simp) _).alloc (by simp;omega) _)) hl hls).mono ?_;rintro e w1⟨rfl,hown,hb1⟩;have qr0:w1.cell? ⟨w.heap.size+1,0,none⟩=some (.string { data:=#[] }):=(hb1.cell (p:=⟨w.heap.size+1,0,none⟩) (by simp)).trans (by simp[World.cell?_alloc_at,World.cell?_alloc_past]);have fr0:w1.frozen? ⟨w.heap.size+1,0,none⟩=false:=(hb1.frozen (p:=⟨w.heap.size+1,0,none⟩) (by simp)).trans (by simp[World.frozen?_alloc_at,World.frozen?_alloc_past]);have qr1:w1.cell? ⟨w.heap.size+1,1,none⟩=some (.slice none 0 0):=(hb1.cell (p:=⟨w.heap.size+1,1,none⟩) (by simp)).trans (by simp[World.cell?_alloc_at,World.cell?_alloc_past]);have fr1:w1.frozen? ⟨w.heap.size+1,1,none⟩=false:=(hb1.frozen (p:=⟨w.heap.size+1,1,none⟩) (by simp)).trans (by simp[World.frozen?_alloc_at,World.frozen?_alloc_past]);have qo0:w1.cell? ⟨w.heap.size+1+1,0,none⟩=some (.string kd):=(hb1.cell (p:=⟨w.heap.size+1+1,0,none⟩) (by simp)).trans (by simp[World.cell?_alloc_at]);have fo0:w1.frozen? ⟨w.heap.size+1+1,0,none⟩=false:=(hb1.frozen (p:=⟨w.heap.size+1+1,0,none⟩) (by simp)).trans (by simp[World.frozen?_alloc_at]);have qo1:w1.cell? ⟨w.heap.size+1+1,1,none⟩=some (.slice none 0 0):=(hb1.cell (p:=⟨w.heap.size+1+1,1,none⟩) (by simp)).trans (by simp[World.cell?_alloc_at]);have fo1:w1.frozen? ⟨w.heap.size+1+1,1,none⟩=false:=(hb1.frozen (p:=⟨w.heap.size+1+1,1,none⟩) (by simp)).trans (by simp[World.frozen?_alloc_at]);have hz1:w.heap.size+1+1<w1.heap.size:=by have:=hb1.size;simp at this;omega
 go_wp2_with fail
 have hsz:(((w.alloc (.cells #[.string kd,.slice a fs.length cap] 98)).alloc (.cells #[.string { data:=#[] },.slice none 0 0] 131)).alloc (.cells #[.string kd,.slice none 0 0] 131)).heap.size=w.heap.size+1+1+1:=by simp
 have hB1:Below w.heap.size w w1:=(((bAl _ _).alloc (by simp) _).alloc (by simp;omega) _).trans (hb1.mono (by simp;omega));rw[hsz]at hown;refine bodyPost_ret (v:=.agg #[.string kd,.slice (some ⟨w.heap.size+1+1+1,0,none⟩) fs.length fs.length]) (by simp[results,Tryz.results67,go_sem,qr0,qr1]) rfl ⟨w.heap.size+1+1+1,rfl,?_,?_⟩
 ·exact(((hown.setCell (by simp) _).setCell (by simp) _).setCell (by simp) _).weaken (by omega)
 ·exact((hB1.setCell (by simp;omega) _).setCell (by simp) _).setCell (by simp) _
def zpk:Array Value:=#[.string ByteArray.empty,.slice none 0 0]
def zm9 (n:Nat):Array Value:=madeCells zpk (n*2)
theorem zhB (a:Option Addr)(cap:Nat)(ss:List Shp)(w:World)(hw:yU w a ss)(hl:ss.length<=1048576)(hls:∀i (h:i<ss.length),ss[i].fs.length<=1048576/\∀j (h':j<ss[i].fs.length),ss[i].fs[j].ws.length<=1048576) :
 Calls Tryz.prog 29 #[.slice a ss.length cap] w fun e w'=>e=.returned (.slice (some ⟨w.heap.size,0,none⟩) ss.length ss.length)/\jU w.heap.size w' w.heap.size ss ss.length/\Below w.heap.size w w':=by
 have hmk:∀w:World,(Instr.makeSlice 37 (.int .i64 ss.length) (.int .i64 ss.length)).run Tryz.prog w=.ok (.slice (some ⟨w.heap.size,0,none⟩) ss.length ss.length) (w.alloc (.cells (zm9 ss.length) 131)):=
  fun w=>jI (P:=Tryz.prog) 37 131 (.agg zpk) 2 40 Tryz.underlying37 (by kernel_rfl) ss.length (by omega) (by omega) w
 go_enter Tryz.func29,Tryz.ntmps29;go_wp2_with fail
 clear hmk
 go_loopw [4] (fun i wr=>∃k:Nat,k<=ss.length/\i=.int .i64 k/\jU w.heap.size wr w.heap.size ss k/\Below w.heap.size w wr) (fun i _=>ss.length-(intOf i).toNat)
 case atStart=>exact⟨0,Nat.zero_le _,rfl,⟨Nat.le_refl _,zm9 ss.length,(MapKept.heap_alloc w _).1,size_madeCells _ _,fun i _ h=>absurd h (by omega)⟩,bAl _ _⟩
 case round=>
  obtain⟨k,hk,rfl,hown,hB⟩:=hrel
  by_cases hlt:k<ss.length
  ·obtain⟨b,off,rfl,hb,hr⟩:=hw.rows (by rintro rfl;simp at hlt)
   obtain⟨fa,fcap,hs0⟩:=hr k hlt;have hs:=hs0.mono hb hB;have hck:=hs.kind;have hcl:=hs.list;have hfl:=hs.zdk;have HLS:=hls k hlt;have HLS':Hid (ss[k].fs.length<=1048576/\∀j (h':j<ss[k].fs.length),ss[k].fs[j].ws.length<=1048576):=HLS;have hltI:(k:Int)<(ss.length:Int):=by omega
   clear hw hr hs0 hs HLS;go_wp2_with fail
   refine(ziW _ _ _ _ _ hfl HLS'.out.1 HLS'.out.2).mono ?_;rintro e w1⟨bf,rfl,hof,hb1⟩;have hB1:=hB.trans (hb1.mono hB.size);have hown1:=hown.later hb1
   have hbo:w.heap.size<wr.heap.size:=by
    obtain⟨C',hC',_⟩:=hown.rows;exact(gES hC').1
   obtain⟨C,hC,hsz,_⟩:=hown1.rows;have hfz:∀o,w1.frozen? ⟨w.heap.size,o,none⟩=false:=fun o=>zh hC
   have hex:∀o,o<ss.length*2->∃v,w1.cell? ⟨w.heap.size,o,none⟩=some v:=fun o ho=>⟨C[o]'(by omega),by rw[cell_of_block hC];exact Array.getElem?_eq_getElem (by omega)⟩
   obtain⟨v0,hv0⟩:=hex (k*2) (by omega);obtain⟨v1,hv1⟩:=hex (k*2+1) (by omega);clear hex hC hsz hck hcl;have hlow:=hof.low;go_wp2_with fail
   exact⟨⟨k+1,by omega,by go_num,hown1.put hlt bf (by omega) (hof.weaken (by omega)),(hB1.setCell (Nat.le_refl _) _).setCell (Nat.le_refl _) _⟩,by simp[intOf];omega⟩
  ·have HF:Hid (jU w.heap.size wr w.heap.size ss ss.length):=by
    have e:k=ss.length:=by omega
    subst e;exact hown
   clear hw hown;go_wp2_with fail
   go_ret;exact⟨rfl,HF.out,hB⟩
structure zbq (w:World)(r:Nat)(f:Int->Option Int):Prop where
 ex:∃es clock,w.heap[r]?=some (.map es clock)/\(∀x∈es.toList,∃k v,x.key=.int .i64 k/\x.val=.int .i64 v/\f k=some v)/\(∀k v,f k=some v->∃x∈es.toList,x.key=.int .i64 k)/\∀(i j:Nat) (x y:MapEntry),es[i]?=some x->es[j]?=some y->x.key=y.key->i=j
theorem zbq.mono {w w':World}{r:Nat}{f:Int->Option Int}(h:zbq w r f)(hb:w'.heap[r]?=w.heap[r]?):zbq w' r f:=by
 obtain⟨es,clock,h1,h2⟩:=h.ex;exact⟨es,clock,hb.trans h1,h2⟩
theorem zbq.lt {w:World}{r:Nat}{f:Int->Option Int}(h:zbq w r f):r<w.heap.size:=by
 obtain⟨es,clock,h1,_⟩:=h.ex;exact(gES h1).1
theorem zbz (k:Int):MapKept.IsKey (.int .i64) (.int .i64 k):=by simp[MapKept.IsKey]
theorem zbq.keys {es:Array MapEntry}{f:Int->Option Int}(h:∀x∈es.toList,∃k v,x.key=.int .i64 k/\x.val=.int .i64 v/\f k=some v):∀x∈es.toList,MapKept.IsKey (.int .i64) x.key:=by
 intro x hx;obtain⟨k,v,h1,_⟩:=h x hx;rw[h1];exact zbz k
theorem zbq.look {w:World}{r:Nat}{f:Int->Option Int}(h:zbq w r f)(k:Int) :
 (Instr.lookup 268 (.map (some r)) (.int .i64 k) true).run Tryz.prog w=.ok (.tuple #[.int .i64 ((f k).getD 0),.bool (f k).isSome]) w:=by
 obtain⟨es,clock,hb,h1,h2,h3⟩:=h.ex
 rcases MapKept.findNow_spec (zbz k) es.toList 0 (zbq.keys h1) with⟨g1,g2⟩|⟨j,e,g1,g2,g3⟩
 ·have hn:f k=none:=by
   cases hf:f k with
   | none=>rfl
   | some v=>
    obtain⟨x,hx,hk⟩:=h2 k v hf;exact absurd hk (g2 x hx)
  rw[hn];exact zcu Tryz.underlying268 Tryz.underlying3 (.int .i64 k) (.int .i64 0) (zbz k) es clock g1 w (by kernel_rfl) r hb
 ·obtain⟨k',v',e1,e2,e3⟩:=h1 e (List.mem_of_getElem? g2)
  rw[g3]at e1
  cases e1
  rw[e3];rw[e2]at g1;exact yT Tryz.underlying268 Tryz.underlying3 (.int .i64 k) (.int .i64 v') (zbz k) es clock _ g1 w r hb
structure zbT (r:Nat)(w w':World):Prop where
 os:w'.os=w.os
 tape:w'.tape=w.tape
 output:w'.output=w.output
 size:w'.heap.size=w.heap.size
 out:∀k,k≠r->w'.heap[k]?=w.heap[k]?
theorem zbq.upd {w:World}{r:Nat}{f:Int->Option Int}(h:zbq w r f)(k v:Int) :
 ∃w',(Instr.mapUpdate 268 (.map (some r)) (.int .i64 k) (.int .i64 v)).run Tryz.prog w=.ok () w'/\zbq w' r (fun q=>if q=k then some v else f q)/\zbT r w w':=by
 obtain⟨es,clock,hb,h1,h2,h3⟩:=h.ex;have hm:=Tryz.underlying268;have hd:=Tryz.underlying3
 rcases MapKept.findNow_spec (zbz k) es.toList 0 (zbq.keys h1) with⟨g1,g2⟩|⟨j,e,g1,g2,g3⟩
 ·refine⟨{ w with heap:=w.heap.setIfInBounds r (.map (es.push ⟨.int .i64 k,.int .i64 v,clock⟩) (clock+1)) },?_,⟨_,_,(MapKept.heap_set hb).1,?_,?_,?_⟩,rfl,rfl,rfl,by simp,fun q hq=>(MapKept.heap_set hb).2 q hq⟩
  ·simp[Instr.mapUpdate,run_underlying hm,MapKept.run_getObj_map hb,MapKept.run_checkKey hd (zbz k),MapKept.run_findKey hd g1,MapKept.run_setObj_map _ hb,Result.andThen]
  ·intro x hx
   rw[Array.toList_push,List.mem_append,List.mem_singleton]at hx
   rcases hx with hx|rfl
   ·obtain⟨k',v',e1,e2,e3⟩:=h1 x hx
    refine⟨k',v',e1,e2,?_⟩
    have:k'≠k:=by rintro rfl;exact g2 x hx e1
    simp only[if_neg this];exact e3
   ·exact⟨k,v,rfl,rfl,by simp⟩
  ·intro q u hq
   by_cases e:q=k
   ·subst e
    exact⟨⟨.int .i64 q,.int .i64 v,clock⟩,by simp,rfl⟩
   ·rw[if_neg e]at hq
    obtain⟨x,hx,hk⟩:=h2 q u hq;exact⟨x,by simp[Array.toList_push];exact Or.inl (by simpa using hx),hk⟩
  ·intro i j' x y hx hy hxy
   rw[Array.getElem?_push]at hx hy
   by_cases e1:i=es.size
   ·by_cases e2:j'=es.size
    ·omega
    ·rw[if_pos e1]at hx
     rw[if_neg e2]at hy;have hm:y∈es.toList:=by rw[<- Array.mem_def];exact Array.mem_of_getElem? hy
     cases hx
     exact absurd hxy.symm (g2 y hm)
   ·by_cases e2:j'=es.size
    ·rw[if_neg e1]at hx
     rw[if_pos e2]at hy;have hm:x∈es.toList:=by rw[<- Array.mem_def];exact Array.mem_of_getElem? hx
     cases hy
     exact absurd hxy (g2 x hm)
    ·rw[if_neg e1]at hx
     rw[if_neg e2]at hy;exact h3 i j' x y hx hy hxy
 ·have hj:es[j]?=some e:=by simpa using g2
  refine⟨{ w with heap:=w.heap.setIfInBounds r (.map (es.modify j fun x=>{ x with key:=.int .i64 k,val:=.int .i64 v }) clock) },?_,⟨_,_,(MapKept.heap_set hb).1,?_,?_,?_⟩,rfl,rfl,rfl,by simp,fun q hq=>(MapKept.heap_set hb).2 q hq⟩
  ·simp[Instr.mapUpdate,run_underlying hm,MapKept.run_getObj_map hb,MapKept.run_checkKey hd (zbz k),MapKept.run_findKey hd g1,hj,g3,MapKept.run_keyThatStays (zbz k),MapKept.run_setObj_map _ hb,Result.andThen]
  ·intro x hx
   obtain⟨i,hi,rfl⟩:=List.mem_iff_getElem.1 hx;have hi':i<es.size:=by simpa using hi
   simp only[Array.getElem_toList,Array.getElem_modify]
   by_cases e':j=i
   ·subst e'
    simp only[if_true];exact⟨k,v,rfl,rfl,by simp⟩
   ·simp only[if_neg e']
    obtain⟨k',v',e1,e2,e3⟩:=h1 es[i] (by simp)
    have ek:k'≠k:=by
     rintro rfl;exact e' (h3 j i e es[i] hj (Array.getElem?_eq_getElem hi') (g3.trans e1.symm))
    exact⟨k',v',e1,e2,by rw[if_neg ek];exact e3⟩
  ·intro q u hq
   have hj':j<es.size:=(gES hj).1
   by_cases e':q=k
   ·subst e'
    refine⟨(es.modify j fun x=>{ x with key:=.int .i64 q,val:=.int .i64 v })[j]'(by simpa using hj'),?_,?_⟩
    ·rw[<- Array.mem_def];exact Array.getElem_mem _
    ·rw[Array.getElem_modify];simp
   ·rw[if_neg e']at hq
    obtain⟨x,hx,hk⟩:=h2 q u hq;obtain⟨i,hi,rfl⟩:=List.mem_iff_getElem.1 hx;have hi':i<es.size:=by simpa using hi
    have hij:j≠i:=by
     rintro rfl;rw[Array.getElem_toList]at hk;rw[Array.getElem?_eq_getElem hi']at hj
     cases hj
     rw[g3]at hk
     cases hk
     exact e' rfl
    refine⟨(es.modify j fun x=>{ x with key:=.int .i64 k,val:=.int .i64 v })[i]'(by simpa using hi'),?_,?_⟩
    ·rw[<- Array.mem_def];exact Array.getElem_mem _
    ·rw[Array.getElem_modify,if_neg hij];simpa using hk
  ·have hkey:∀(i:Nat) (x:MapEntry),(es.modify j fun x=>{ x with key:=.int .i64 k,val:=.int .i64 v })[i]?=some x->∃y,es[i]?=some y/\x.key=y.key:=by
    intro i x hx;obtain⟨hi,rfl⟩:=gES hx;have hi':i<es.size:=by simpa using hi
    refine⟨es[i],Array.getElem?_eq_getElem hi',?_⟩;rw[Array.getElem_modify]
    by_cases e':j=i
    ·subst e'
     rw[Array.getElem?_eq_getElem hi']at hj
     cases hj
     simp[g3]
    ·rw[if_neg e']
   intro i j' x y hx hy hxy;obtain⟨x',hx',ex⟩:=hkey i x hx;obtain⟨y',hy',ey⟩:=hkey j' y hy;exact h3 i j' x' y' hx' hy' (ex.symm.trans (hxy.trans ey))
theorem Tryz.zc1:(Tryz.prog.info? 9).map (fun i=>(i.zero,i.size,i.bytes))=some (some (.string ByteArray.empty),1,16):=by kernel_rfl
theorem zT (w:World)(o1 o2:Obj):((w.alloc o1).alloc o2).heap[w.heap.size]?=some o1/\((w.alloc o1).alloc o2).heap[w.heap.size+1]?=some o2:=by
 refine⟨(Below.heap_alloc _ _ _ (by simp)).trans (alloc_at _ _),?_⟩;have h:=alloc_at (w.alloc o1) o2
 simpa using h
theorem qJ (a:Option Addr)(cap:Nat)(ss:List Shp)(v:ByteArray)(w:World)(hw:yU w a ss) :
 Calls Tryz.prog 122 #[.slice a ss.length cap,.string v] w fun e w'=>∃fa fcap,e=.returned (.tuple #[.agg #[.string (shapeOf ss v).kd,.slice fa (shapeOf ss v).fs.length fcap],.bool (zG ss v)]) /\
  zY w fa (shapeOf ss v).fs/\Below w.heap.size w w':=by
 have hl:=hw.len;unfold maxLen at hl;go_enter Tryz.func122,Tryz.ntmps122
 go_wp2
 go_loopw [10] (fun i wr=>∃k:Nat,k<=ss.length/\i=.int .i64 k/\zG (ss.take k) v=false/\Below (w.heap.size+1) (w.alloc (.cells #[.string ByteArray.empty,.slice none 0 0] 131)) wr) (fun i _=>ss.length-(intOf i).toNat)
 case atStart=>exact⟨0,Nat.zero_le _,rfl,rfl,bRf _ _⟩
 case round=>
  obtain⟨k,hk,rfl,hno,hbl⟩:=hrel;have hsz:w.heap.size<wr.heap.size:=by have:=hbl.size;simp at this;omega
  have hB0:Below w.heap.size w wr:=(bAl _ _).trans (hbl.mono (by omega));have hX0:wr.cell? ⟨w.heap.size,0,none⟩=some (.string ByteArray.empty):=(hbl.cell (p:=⟨w.heap.size,0,none⟩) (by simp)).trans (by rw[World.cell?_alloc_at _ _ _ _ rfl];rfl);have hX1:wr.cell? ⟨w.heap.size,1,none⟩=some (.slice none 0 0):=(hbl.cell (p:=⟨w.heap.size,1,none⟩) (by simp)).trans (by rw[World.cell?_alloc_at _ _ _ _ rfl];rfl);have hF0:wr.frozen? ⟨w.heap.size,0,none⟩=false:=(hbl.frozen (p:=⟨w.heap.size,0,none⟩) (by simp)).trans (by rw[World.frozen?_alloc_at _ _ _ _ rfl]);have hF1:wr.frozen? ⟨w.heap.size,1,none⟩=false:=(hbl.frozen (p:=⟨w.heap.size,1,none⟩) (by simp)).trans (by rw[World.frozen?_alloc_at _ _ _ _ rfl])
  by_cases hlt:k<ss.length
  ·obtain⟨b,off,rfl,hb,hr⟩:=hw.rows (by rintro rfl;simp at hlt)
   obtain⟨fa,fcap,hs⟩:=hr k hlt;have hck:=(hB0.cell (p:=⟨b,off+k*2,none⟩) hb).trans hs.kind;have hcl:=(hB0.cell (p:=⟨b,off+k*2+1,none⟩) hb).trans hs.list;have hfl:=hs.zdk;clear hw hr hs
   by_cases he:ss[k].kd=v
   ·have hbe:(ss[k].kd.toList == v.toList)=true:=by rw[beq_toList];simpa using he
    have HA:Hid (zG ss v=true):=zfY ss v k hlt he;have HB:Hid (shapeOf ss v=ss[k]):=zef ss v k hlt hno he;clear he hno
    go_wp2
    refine bodyPost_ret (v:=.tuple #[.agg #[.string ss[k].kd,.slice fa ss[k].fs.length fcap],.bool true]) (by simp[results,Tryz.results122,go_sem,hX0,hX1,hsz]) rfl ⟨fa,fcap,by rw[HA.out,HB.out],by rw[HB.out];exact hfl,?_⟩;exact((hB0.setCell (Nat.le_refl _) _).setCell (Nat.le_refl _) _).alloc (by simp[World.setCell];omega) _
   ·have hbe:(ss[k].kd.toList == v.toList)=false:=by rw[beq_toList];simpa using he
    have HS:Hid (zG (ss.take (k+1)) v=false):=by unfold Hid;rw[zd5 ss v k hlt,hno,decide_eq_false he];rfl
    clear he hno hX0 hX1 hF0 hF1
    go_wp2
    go_roundw
    case rel=>exact⟨k+1,by omega,by go_num,HS.out,hbl.alloc (by omega) _⟩
    case measure=>simp[intOf];omega
  ·have HA:Hid (zG ss v=false):=by rw[<- ze2 ss v k (by omega)];exact hno
   have HB:Hid (shapeOf ss v=zbk):=zei ss v HA.out;clear hno hw
   go_wp2
   refine bodyPost_ret (v:=.tuple #[.agg #[.string ByteArray.empty,.slice none 0 0],.bool false]) (by simp[results,Tryz.results122,go_sem,hX0,hX1];rfl) rfl ⟨none,0,by rw[HA.out,HB.out];rfl,by rw[HB.out];exact⟨by simp[zbk,maxLen],fun h=>absurd rfl h⟩,?_⟩;exact(hB0.setCell (Nat.le_refl _) _).setCell (Nat.le_refl _) _
end Go.Proofs.YtnapmdofidgliaaGreat
