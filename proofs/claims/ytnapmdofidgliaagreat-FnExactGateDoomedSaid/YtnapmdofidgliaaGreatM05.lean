import Derived.Test.YtnapmdofidgliaaGreatM04
import Derived.Deep.QuietTactic
import Derived.BigQuiet
set_option maxHeartbeats 1000000
namespace Go.Proofs.YtnapmdofidgliaaGreat
open Go.RowKit
structure Mnd where
 kd:ByteArray
 fd:ByteArray
 wh:ByteArray
 wi:ByteArray
 pt:ByteArray
 fr:ByteArray
def Mnd.cells (m:Mnd):Array Value:=#[.string m.kd,.string m.fd,.string m.wh,.string m.wi,.string m.pt,.string m.fr]
structure Mnd.Small (m:Mnd):Prop where
 kd:m.kd.size<=maxLen
 fd:m.fd.size<=maxLen
 wh:m.wh.size<=maxLen
 wi:m.wi.size<=maxLen
 pt:m.pt.size<=maxLen
 fr:m.fr.size<=maxLen
structure qN (w:World)(a:Option Addr)(ms:List Mnd):Prop where
 len:ms.length<=maxLen
 small:∀i (h:i<ms.length),ms[i].Small
 rows:ms≠[]->∃b off,a=some ⟨b,off,none⟩/\b<w.heap.size/\∀i (h:i<ms.length),∀j,j<6->w.cell? ⟨b,off+i*6+j,none⟩=ms[i].cells[j]?
theorem qN.mono {w w':World}{a:Option Addr}{ms:List Mnd}(h:qN w a ms)(hl:Below w.heap.size w w'):qN w' a ms:=
 ⟨h.len,h.small,fun hne=>by
  obtain⟨b,off,ha,hb,hr⟩:=h.rows hne;exact⟨b,off,ha,nLt hb hl.size,fun i hi j hj=>(hl.cell (p:=⟨b,off+i*6+j,none⟩) hb).trans (hr i hi j hj)⟩⟩
theorem qN.load {w w':World}{a:Option Addr}{ms:List Mnd}(h:qN w a ms)(hl:Below w.heap.size w w')(i:Nat)(hi:i<ms.length):∃b off,a=some ⟨b,off,none⟩/\b<w.heap.size /\
 w'.cell? ⟨b,off+i*6,none⟩=some (.string ms[i].kd)/\w'.cell? ⟨b,off+i*6+1,none⟩=some (.string ms[i].fd)/\w'.cell? ⟨b,off+i*6+2,none⟩=some (.string ms[i].wh)/\w'.cell? ⟨b,off+i*6+3,none⟩=some (.string ms[i].wi)/\w'.cell? ⟨b,off+i*6+4,none⟩=some (.string ms[i].pt)/\w'.cell? ⟨b,off+i*6+5,none⟩=some (.string ms[i].fr):=by
 obtain⟨b,off,ha,hb,hr⟩:=h.rows (by rintro rfl;simp at hi);have hc:∀j,j<6->w'.cell? ⟨b,off+i*6+j,none⟩=ms[i].cells[j]?:=fun j hj=>(hl.cell (p:=⟨b,off+i*6+j,none⟩) hb).trans (hr i hi j hj)
 exact⟨b,off,ha,hb,hc 0 (by omega),hc 1 (by omega),hc 2 (by omega),hc 3 (by omega),hc 4 (by omega),hc 5 (by omega)⟩
def zcn (ws:List ByteArray):Nat:=(ws.map ByteArray.size).sum
def qX (ws:List ByteArray):Nat:=ws.length+zcn ws
theorem zov (ws:List ByteArray)(k:Nat)(h:k<ws.length):zcn (ws.take (k+1))=zcn (ws.take k)+ws[k].size:=by
 unfold zcn;rw[tSe h,List.map_append,List.sum_append];simp
theorem zqp (ws:List ByteArray)(k:Nat):zcn (ws.take k)<=zcn ws:=by
 unfold zcn
 conv=>rhs;rw[<- List.take_append_drop k ws]
 rw[List.map_append,List.sum_append];omega
theorem zpq (ws:List ByteArray)(k:Nat)(h:ws.length<=k):zcn (ws.take k)=zcn ws:=by rw[tOl h]
theorem zfR (a:Option Addr)(cap:Nat)(ws:List ByteArray)(left:Int)(w:World)(hw:zD w a ws)(h0:0<=left)(h1:left<=1048576) :
 Calls Tryz.prog 94 #[.slice a ws.length cap,.int .i64 left] w fun e w'=>e=.returned (.int .i64 (zK (qX ws) left))/\w'=w:=by
 have hl:=hw.len;unfold maxLen at hl
 by_cases hfit:(ws.length:Int)<=left
 ·go_enter Tryz.func94,Tryz.ntmps94
  go_wp2
  go_loop [1,5] (fun l i=>∃k:Nat,k<=ws.length/\i=.int .i64 k/\0<=left-ws.length-zcn (ws.take k)/\l=.int .i64 (left-ws.length-zcn (ws.take k))) (fun _ i=>ws.length-(intOf i).toNat)
  case atStart=>exact⟨0,Nat.zero_le _,rfl,by simp[zcn];omega,by simp[zcn]⟩
  case round=>
   obtain⟨k,hk,rfl,hpos,rfl⟩:=hrel
   by_cases hlt:k<ws.length
   ·obtain⟨b,off,rfl,hb,hc⟩:=hw.cells (by rintro rfl;simp at hlt)
    have hsm:=hw.small _ (List.getElem_mem hlt);unfold maxLen at hsm;clear hw;have hck:=hc k hlt;have HS:Hid (zcn (ws.take (k+1))=zcn (ws.take k)+ws[k].size):=zov ws k hlt;have hle:=zqp ws (k+1);clear hc
    by_cases hneg:left-ws.length-zcn (ws.take k)-ws[k].size<0
    ·have HF:Hid (zK (qX ws) left=-1):=zC (by have:=HS.out;unfold qX;omega)
     clear hle
     go_wp2
     go_ret;exact⟨zo HF.out.symm,rfl⟩
    ·clear hle
     go_wp2
     go_round
     case rel=>exact⟨k+1,by omega,by go_num,by rw[HS.out];omega,by rw[HS.out];go_num⟩
     case measure=>simp[intOf];omega
   ·have HF:Hid (zK (qX ws) left=left-ws.length-zcn (ws.take k)):=by
     rw[zpq ws k (by omega)]at hpos ⊢;have e:zK (qX ws) left=left-qX ws:=zL (by unfold qX;omega);unfold Hid;rw[e];unfold qX;omega
    clear hw
    go_wp2
    go_ret;exact⟨zo HF.out.symm,rfl⟩
 ·have HF:Hid (zK (qX ws) left=-1):=zC (by unfold qX;omega)
  clear hw;go_enter Tryz.func94,Tryz.ntmps94
  go_wp2
  go_ret;exact⟨zo HF.out.symm,rfl⟩
theorem zdp (a a':Option Addr)(cap cap':Nat)(ws:List ByteArray)(w:World)(hw:zD w a ws)(hw':zD w a' ws) :
 Calls Tryz.prog 125 #[.slice a ws.length cap,.slice a' ws.length cap'] w fun e w'=>e=.returned (.bool true)/\Below w.heap.size w w':=by
 have hl:=hw.len;unfold maxLen at hl;have hnn:((ws.length:Int) != ws.length)=false:=by simp
 go_enter Tryz.func125,Tryz.ntmps125
 go_wp2
 go_loopw [5] (fun i wr=>∃k:Nat,k<=ws.length/\i=.int .i64 k/\∃n,wr=w.drewN n) (fun i _=>ws.length-(intOf i).toNat)
 case atStart=>exact⟨0,Nat.zero_le _,rfl,0,rfl⟩
 case round=>
  obtain⟨k,hk,rfl,nd,rfl⟩:=hrel
  by_cases hlt:k<ws.length
  ·obtain⟨b,off,rfl,hb,hc⟩:=hw.cells (by rintro rfl;simp at hlt)
   obtain⟨b',off',rfl,hb',hc'⟩:=hw'.cells (by rintro rfl;simp at hlt);clear hw hw';have hck:=hc k hlt;have hck':=hc' k hlt;have hltI:(k:Int)<(ws.length:Int):=by omega
   clear hc hc'
   go_wp2
   go_quiet (fail)
   go_wp2
   exact⟨⟨k+1,by omega,by go_num,nd+nq,rfl⟩,by simp[intOf];omega⟩
  ·clear hw hw'
   go_wp2
   go_ret;exact⟨rfl,below_drewN (bRf _ _) nd⟩
theorem zix (nm:ByteArray)(kd ls ms:Int)(a a':Option Addr)(cap cap':Nat)(ws:List ByteArray)(to:ByteArray)(rl:Int)(mu fx:Bool)(df wg:ByteArray)(w:World)(hw:zD w a ws)(hw':zD w a' ws) :
 Calls Tryz.prog 169 #[.agg #[.string nm,.int .i64 kd,.int .i64 ls,.int .i64 ms,.slice a ws.length cap,.string to,.int .i64 rl,.bool mu,.bool fx,.string df,.string wg],.agg #[.string nm,.int .i64 kd,.int .i64 ls,.int .i64 ms,.slice a' ws.length cap',.string to,.int .i64 rl,.bool mu,.bool fx,.string df,.string wg]] w
  fun e w'=>e=.returned (.bool true)/\Below w.heap.size w w':=by
 go_enter Tryz.func169,Tryz.ntmps169
 go_wp2_with (go_at_call 125;refine(zdp _ _ _ _ _ _ (by exact hw.mono (zw _ _ _)) (by exact hw'.mono (zw _ _ _))).mono ?_;rintro e w1⟨rfl,hb1⟩;have hc1:=(zrc hb1).1;have hz1:=hb1.size;simp only[World.size_alloc]at hz1)
 go_ret;exact⟨rfl,(zw _ _ _).trans (hb1.mono (by simp;omega))⟩
def zay (nm:ByteArray)(ws:List ByteArray)(to df wg:ByteArray):Nat:=nm.size+qX ws+to.size+df.size+wg.size
theorem zac (a:Option Addr)(cap:Nat)(ws:List ByteArray)(left:Int)(w:World)(hw:zD w a ws)(h0:0<=left)(h1:left<=1048576)(h:(qX ws:Int)<=left) :
 Calls Tryz.prog 94 #[.slice a ws.length cap,.int .i64 left] w fun e w'=>e=.returned (.int .i64 (left-qX ws))/\w'=w:=by
 refine(zfR a cap ws left w hw h0 h1).mono ?_;rintro e w'⟨rfl,rfl⟩;exact⟨zo (zL h),rfl⟩
theorem zee (a:Option Addr)(cap:Nat)(ws:List ByteArray)(left:Int)(w:World)(hw:zD w a ws)(h0:0<=left)(h1:left<=1048576)(h:¬(qX ws:Int)<=left) :
 Calls Tryz.prog 94 #[.slice a ws.length cap,.int .i64 left] w fun e w'=>e=.returned (.int .i64 (-1))/\w'=w:=by
 refine(zfR a cap ws left w hw h0 h1).mono ?_;rintro e w'⟨rfl,rfl⟩;exact⟨zo (zC h),rfl⟩
theorem zeA (nm:ByteArray)(kd ls ms:Int)(a:Option Addr)(cap:Nat)(ws:List ByteArray)(to:ByteArray)(rl:Int)(mu fx:Bool)(df wg:ByteArray)(left:Int)(w:World)(hw:zD w a ws)(h0:0<=left)(h1:left<=1048576)
 (hnm:nm.size<=maxLen) (hto:to.size<=maxLen) (hdf:df.size<=maxLen) (hwg:wg.size<=maxLen) :
 Calls Tryz.prog 127 #[.agg #[.string nm,.int .i64 kd,.int .i64 ls,.int .i64 ms,.slice a ws.length cap,.string to,.int .i64 rl,.bool mu,.bool fx,.string df,.string wg],.int .i64 left] w fun e w'=>e=.returned (.int .i64 (zK (zay nm ws to df wg) left))/\Below w.heap.size w w':=by
 unfold maxLen at hnm hto hdf hwg
 by_cases c1:(nm.size:Int)<=left
 rotate_left
 ·have HF:Hid (zK (zay nm ws to df wg) left=-1):=zC (by unfold zay;omega)
  go_enter Tryz.func127,Tryz.ntmps127;go_wp2_with fail
  go_ret;exact⟨zo HF.out.symm,bAl _ _⟩
 by_cases c2:(qX ws:Int)<=left-nm.size
 rotate_left
 ·have HF:Hid (zK (zay nm ws to df wg) left=-1):=zC (by unfold zay;omega)
  go_enter Tryz.func127,Tryz.ntmps127
  go_wp2_with (go_at_call 94;refine(zee _ _ _ _ _ (by exact hw.mono (bAl _ _)) (by omega) (by omega) (by omega)).mono ?_;rintro e w1⟨rfl,rfl⟩)
  go_ret;exact⟨zo HF.out.symm,bAl _ _⟩
 by_cases c3:(to.size:Int)<=left-nm.size-qX ws
 rotate_left
 ·have HF:Hid (zK (zay nm ws to df wg) left=-1):=zC (by unfold zay;omega)
  go_enter Tryz.func127,Tryz.ntmps127
  go_wp2_with (go_at_call 94;refine(zac _ _ _ _ _ (by exact hw.mono (bAl _ _)) (by omega) (by omega) (by omega)).mono ?_;rintro e w1⟨rfl,rfl⟩)
  go_ret;exact⟨zo HF.out.symm,bAl _ _⟩
 by_cases c4:(df.size:Int)<=left-nm.size-qX ws-to.size
 rotate_left
 ·have HF:Hid (zK (zay nm ws to df wg) left=-1):=zC (by unfold zay;omega)
  go_enter Tryz.func127,Tryz.ntmps127
  go_wp2_with (go_at_call 94;refine(zac _ _ _ _ _ (by exact hw.mono (bAl _ _)) (by omega) (by omega) (by omega)).mono ?_;rintro e w1⟨rfl,rfl⟩)
  go_ret;exact⟨zo HF.out.symm,bAl _ _⟩
 by_cases c5:(wg.size:Int)<=left-nm.size-qX ws-to.size-df.size
 rotate_left
 ·have HF:Hid (zK (zay nm ws to df wg) left=-1):=zC (by unfold zay;omega)
  go_enter Tryz.func127,Tryz.ntmps127
  go_wp2_with (go_at_call 94;refine(zac _ _ _ _ _ (by exact hw.mono (bAl _ _)) (by omega) (by omega) (by omega)).mono ?_;rintro e w1⟨rfl,rfl⟩)
  go_ret;exact⟨zo HF.out.symm,bAl _ _⟩
 ·have HF:Hid (zK (zay nm ws to df wg) left=left-nm.size-qX ws-to.size-df.size-wg.size):=by
   have e:zK (zay nm ws to df wg) left=left-zay nm ws to df wg:=zL (by unfold zay;omega);unfold Hid;rw[e];unfold zay;omega
  go_enter Tryz.func127,Tryz.ntmps127
  go_wp2_with (go_at_call 94;refine(zac _ _ _ _ _ (by exact hw.mono (bAl _ _)) (by omega) (by omega) (by omega)).mono ?_;rintro e w1⟨rfl,rfl⟩)
  go_ret;exact⟨zo HF.out.symm,bAl _ _⟩
theorem zeC.load {w:World}{b off:Nat}{f:Fld}{a:Option Addr}{cap:Nat}(h:zeC w b off f a cap) :
 w.cell? ⟨b,off,none⟩=some (.string f.nm)/\w.cell? ⟨b,off+1,none⟩=some (.int .i64 f.kd)/\w.cell? ⟨b,off+2,none⟩=some (.int .i64 f.ls)/\w.cell? ⟨b,off+3,none⟩=some (.int .i64 f.ms) /\
 w.cell? ⟨b,off+4,none⟩=some (.slice a f.ws.length cap)/\w.cell? ⟨b,off+5,none⟩=some (.string f.to)/\w.cell? ⟨b,off+6,none⟩=some (.int .i64 f.rl)/\w.cell? ⟨b,off+7,none⟩=some (.bool f.mu) /\
 w.cell? ⟨b,off+8,none⟩=some (.bool f.fx)/\w.cell? ⟨b,off+9,none⟩=some (.string f.df)/\w.cell? ⟨b,off+10,none⟩=some (.string f.wg):=
 ⟨h.cell 0 (by omega),h.cell 1 (by omega),h.cell 2 (by omega),h.cell 3 (by omega),h.cell 4 (by omega),h.cell 5 (by omega),h.cell 6 (by omega),h.cell 7 (by omega),h.cell 8 (by omega),h.cell 9 (by omega),h.cell 10 (by omega)⟩
end Go.Proofs.YtnapmdofidgliaaGreat
namespace Go.Proofs.YtnapmdofidgliaaGreat
def up (P:Nat->Bool)(n:Nat):Bool:=(List.range n).all P
theorem q9 (P:Nat->Bool)(n:Nat):up P (n+1)=(up P n&&P n):=by simp[up,List.range_succ,List.all_append]
theorem zaP {P:Nat->Bool}{k n:Nat}(h:k<n)(hk:P k=false):up P n=false:=by
 unfold up;rw[List.all_eq_false];exact⟨k,List.mem_range.2 h,by simp[hk]⟩
theorem zfz {P:Nat->Bool}{k n:Nat}(h:k<n)(hu:up P n=true):P k=true:=by
 unfold up at hu;rw[List.all_eq_true]at hu;exact hu k (List.mem_range.2 h)
def less (a b:ByteArray):Bool:=Op.bytesLess a.toList b.toList
def zdM (ws:List ByteArray)(i:Nat):Bool:=zB (ws.getD i ByteArray.empty)&&(decide (i=0)||less (ws.getD (i-1) ByteArray.empty) (ws.getD i ByteArray.empty))
def asc (ws:List ByteArray):Bool:=up (zdM ws) ws.length
theorem getD_at {α:Type}(l:List α)(i:Nat)(d:α)(h:i<l.length):l.getD i d=l[i]:=by
 rw[List.getD_eq_getElem?_getD,List.getElem?_eq_getElem h];rfl
theorem zj2 {ws:List ByteArray}{k:Nat}(h:k<ws.length)(hn:zB ws[k]=false):zdM ws k=false:=by
 unfold zdM;rw[getD_at ws k _ h,hn];rfl
theorem zic {ws:List ByteArray}(h:0<ws.length)(hn:zB ws[0]=true):zdM ws 0=true:=by
 unfold zdM;rw[getD_at ws 0 _ h,hn];rfl
theorem zd6 {ws:List ByteArray}{k:Nat}(h:k+1<ws.length)(hn:zB ws[k+1]=true):zdM ws (k+1)=less ws[k] ws[k+1]:=by
 unfold zdM;rw[getD_at ws (k+1) _ h,Nat.add_sub_cancel,getD_at ws k _ (by omega),hn];simp
def yO (kd ls ms:Int)(n:Nat)(to:ByteArray)(rl:Int)(wg:ByteArray):Bool:=
 if kd=1 then decide (n=0)&&to.toList.isEmpty&&decide (rl=0)
 else if kd=2 then decide (ls=0)&&decide (ms=0)&&to.toList.isEmpty&&decide (rl=0)&&wg.toList.isEmpty
 else if kd=3 then decide (n=0)&&to.toList.isEmpty&&decide (rl=0)&&wg.toList.isEmpty
 else if kd=4 then decide (ls=0)&&decide (ms=0)&&decide (n=0)&&wg.toList.isEmpty
 else false
def jF (ls ms lo hi:Int):Bool:=decide (lo<=ls)&&decide (ls<=ms)&&decide (ms<=hi)
def zG (ss:List Shp)(k:ByteArray):Bool:=ss.any fun s=>decide (s.kd=k)
def zZ (ss:List Shp)(f:Fld):Bool:=
 if f.kd=1 then jF f.ls f.ms 0 1000000&&(f.wg.toList.isEmpty||zB f.wg)
 else if f.kd=2 then decide (1<=f.ws.length)&&decide (f.ws.length<=6)&&asc f.ws
 else if f.kd=3 then jF f.ls f.ms 1 40
 else if f.kd=4 then zG ss f.to&&(decide (1<=f.rl)&&decide (f.rl<=3))&&f.df.toList.isEmpty&&(decide (f.rl≠2)||!f.mu)
 else false
def bare (f:Fld):Bool:=yO f.kd f.ls f.ms f.ws.length f.to f.rl f.wg
def ze1 (f:Fld)(v:ByteArray):Bool:=fits f.kd f.ls f.ms f.ws v
def zrg (f:Fld):Bool:=f.df.toList.isEmpty||ze1 f f.df
def yI (ss:List Shp)(f:Fld):Bool:=bare f&&zZ ss f&&zrg f
def zbk:Shp:=⟨ByteArray.empty,[]⟩
def shapeOf (ss:List Shp)(k:ByteArray):Shp:=(ss.find? fun s=>decide (s.kd=k)).getD zbk
theorem zd5 (ss:List Shp)(v:ByteArray)(k:Nat)(h:k<ss.length):zG (ss.take (k+1)) v=(zG (ss.take k) v||decide (ss[k].kd=v)):=by
 unfold zG;rw[tSe h,List.any_append];simp
theorem zfY (ss:List Shp)(v:ByteArray)(k:Nat)(h:k<ss.length)(e:ss[k].kd=v):zG ss v=true:=by
 unfold zG;rw[List.any_eq_true];exact⟨ss[k],List.getElem_mem h,by simpa using e⟩
theorem ze2 (ss:List Shp)(v:ByteArray)(k:Nat)(h:ss.length<=k):zG (ss.take k) v=zG ss v:=by rw[tOl h]
theorem zef (ss:List Shp)(v:ByteArray)(k:Nat)(h:k<ss.length)(hb:zG (ss.take k) v=false)(e:ss[k].kd=v):shapeOf ss v=ss[k]:=by
 unfold shapeOf
 have hn:(ss.take k).find? (fun s=>decide (s.kd=v))=none:=by
  rw[List.find?_eq_none];intro x hx;unfold zG at hb;rw[List.any_eq_false]at hb;exact hb x hx
 conv=>lhs;rw[<- List.take_append_drop k ss]
 rw[List.find?_append,hn,List.drop_eq_getElem_cons h,List.find?_cons_of_pos (by simpa using e)];rfl
theorem zei (ss:List Shp)(v:ByteArray)(hb:zG ss v=false):shapeOf ss v=zbk:=by
 unfold shapeOf
 have hn:ss.find? (fun s=>decide (s.kd=v))=none:=by
  rw[List.find?_eq_none];intro x hx;unfold zG at hb;rw[List.any_eq_false]at hb;exact hb x hx
 rw[hn];rfl
def hasName (fs:List Fld)(v:ByteArray):Bool:=fs.any fun f=>decide (f.nm=v)
def zR (fs:List Fld)(v:ByteArray):Int:=match fs.findIdx? (fun f=>decide (f.nm=v)) with|some i=>i|none=>-1
theorem zd8 (fs:List Fld)(v:ByteArray)(k:Nat)(h:k<fs.length):hasName (fs.take (k+1)) v=(hasName (fs.take k) v||decide (fs[k].nm=v)):=by
 unfold hasName;rw[tSe h,List.any_append];simp
theorem zia (fs:List Fld)(v:ByteArray)(k:Nat)(h:fs.length<=k):hasName (fs.take k) v=hasName fs v:=by rw[tOl h]
theorem zer (fs:List Fld)(v:ByteArray)(k:Nat)(h:k<fs.length)(hb:hasName (fs.take k) v=false)(e:fs[k].nm=v):zR fs v=k:=by
 unfold zR
 have hf:fs.findIdx? (fun f=>decide (f.nm=v))=some k:=by
  rw[List.findIdx?_eq_some_iff_getElem];refine⟨h,by simpa using e,fun j hj=>?_⟩;unfold hasName at hb;rw[List.any_eq_false]at hb
  have hm:fs[j]∈fs.take k:=by
   rw[List.mem_iff_getElem];exact⟨j,by simp;omega,by simp⟩
  exact hb _ hm
 rw[hf]
theorem zgW (fs:List Fld)(v:ByteArray)(hb:hasName fs v=false):zR fs v=-1:=by
 unfold zR
 have hf:fs.findIdx? (fun f=>decide (f.nm=v))=none:=by
  rw[List.findIdx?_eq_none_iff];intro x hx;unfold hasName at hb;rw[List.any_eq_false]at hb
  simpa using hb x hx
 rw[hf]
theorem zkt (fs:List Fld)(v:ByteArray)(k:Nat)(h:k<fs.length)(hh:hasName (fs.take k) v=true):∃j,j<k/\zR fs v=j:=by
 unfold hasName at hh;rw[List.any_eq_true]at hh;obtain⟨x,hx,he⟩:=hh;obtain⟨j,hj,rfl⟩:=List.mem_iff_getElem.1 hx;have hjk:j<k:=by simp at hj;omega
 have hjl:j<fs.length:=by omega
 have hv:fs[j].nm=v:=by simpa using he
 cases hf:fs.findIdx? (fun f=>decide (f.nm=v)) with
 | none=>
  rw[List.findIdx?_eq_none_iff]at hf
  have:=hf fs[j] (List.getElem_mem hjl)
  simp[hv]at this
 | some i=>
  refine⟨i,?_,by unfold zR;rw[hf]⟩;rw[List.findIdx?_eq_some_iff_getElem]at hf;obtain⟨hi,_,hmin⟩:=hf
  rcases Nat.lt_or_ge i k with h1|h1
  ·exact h1
  ·exfalso
   have:=hmin j (by omega)
   simp[hv]at this
def zbO:Fld:=⟨ByteArray.empty,0,0,0,[],ByteArray.empty,0,false,false,ByteArray.empty,ByteArray.empty⟩
def ze4 (ss:List Shp)(fs:List Fld)(i:Nat):Bool:=
 zB (fs.getD i zbO).nm&&!hasName (fs.take i) (fs.getD i zbO).nm&&yI ss (fs.getD i zbO)
def yZ (ss:List Shp)(fs:List Fld):Bool:=decide (fs.length<=6)&&up (ze4 ss fs) fs.length
theorem zgK (ss:List Shp)(fs:List Fld)(i:Nat)(h:i<fs.length):ze4 ss fs i=(zB fs[i].nm&&!hasName (fs.take i) fs[i].nm&&yI ss fs[i]):=by
 unfold ze4;rw[getD_at fs i _ h]
def yX (ss:List Shp)(i:Nat):Bool:=
 zB (ss.getD i zbk).kd&&(decide (i=0)||less (ss.getD (i-1) zbk).kd (ss.getD i zbk).kd)&&yZ ss (ss.getD i zbk).fs
def zN (ss:List Shp):Bool:=decide (ss.length<=6)&&up (yX ss) ss.length
theorem zfE (ss:List Shp)(h:0<ss.length):yX ss 0=(zB ss[0].kd&&yZ ss ss[0].fs):=by
 unfold yX;rw[getD_at ss 0 _ h];simp
theorem zgx (ss:List Shp)(k:Nat)(h:k+1<ss.length):yX ss (k+1)=(zB ss[k+1].kd&&less ss[k].kd ss[k+1].kd&&yZ ss ss[k+1].fs):=by
 unfold yX;rw[getD_at ss (k+1) _ h,Nat.add_sub_cancel,getD_at ss k _ (by omega)];simp
theorem zb2:∀x:List UInt8,Op.bytesLess x x=false
 | []=>rfl
 | a :: x=>by
  simp only[Op.bytesLess,Bool.or_eq_false_iff,decide_eq_false_iff_not,Bool.and_eq_false_iff];exact⟨fun h=>by simp at h,Or.inr (zb2 x)⟩
theorem zbh:∀x y z:List UInt8,Op.bytesLess x y=true->Op.bytesLess y z=true->Op.bytesLess x z=true
 | _,[],_,h,_=>by simp[Op.bytesLess]at h
 | [],_ :: _,[],_,h=>by simp[Op.bytesLess]at h
 | [],_ :: _,_ :: _,_,_=>rfl
 | _ :: _,_ :: _,[],_,h=>by simp[Op.bytesLess]at h
 | a :: x,b :: y,c :: z,h,k=>by
  simp only[Op.bytesLess,Bool.or_eq_true,decide_eq_true_eq,Bool.and_eq_true,beq_iff_eq]at h k ⊢
  rcases h with h|⟨rfl,h⟩
  ·rcases k with k|⟨rfl,k⟩
   ·exact Or.inl (UInt8.lt_trans h k)
   ·exact Or.inl h
  ·rcases k with k|⟨rfl,k⟩
   ·exact Or.inl k
   ·exact Or.inr ⟨rfl,zbh x y z h k⟩
end Go.Proofs.YtnapmdofidgliaaGreat
namespace Go.Proofs.YtnapmdofidgliaaGreat
open Go.RowKit
theorem zk {w:World}{b o:Nat}{C:Array Value}{t:TypeId}(h:w.heap[b]?=some (.cells C t))(v:Value):(w.setCell ⟨b,o,none⟩ v).heap[b]?=some (.cells (C.setIfInBounds o v) t):=by
 simp[World.setCell,Array.getElem?_modify,h]
theorem cell_of_block {w:World}{b o:Nat}{C:Array Value}{t:TypeId}(h:w.heap[b]?=some (.cells C t)):w.cell? ⟨b,o,none⟩=C[o]?:=by simp[World.cell?,h]
theorem zh {w:World}{b o:Nat}{C:Array Value}{t:TypeId}(h:w.heap[b]?=some (.cells C t)):w.frozen? ⟨b,o,none⟩=false:=by simp[World.frozen?,h]
def znG (w:World)(b o:Nat)(v0 v1 v2 v3 v4 v5 v6 v7 v8 v9 v10:Value):World:=((((((((((w.setCell ⟨b,o,none⟩ v0).setCell ⟨b,o+1,none⟩ v1).setCell ⟨b,o+2,none⟩ v2).setCell ⟨b,o+3,none⟩ v3).setCell ⟨b,o+4,none⟩ v4).setCell ⟨b,o+5,none⟩ v5).setCell ⟨b,o+6,none⟩ v6).setCell ⟨b,o+7,none⟩ v7).setCell ⟨b,o+8,none⟩ v8).setCell ⟨b,o+9,none⟩ v9).setCell ⟨b,o+10,none⟩ v10
def zj7 (C:Array Value)(o:Nat)(v0 v1 v2 v3 v4 v5 v6 v7 v8 v9 v10:Value):Array Value:=((((((((((C.setIfInBounds o v0).setIfInBounds (o+1) v1).setIfInBounds (o+2) v2).setIfInBounds (o+3) v3).setIfInBounds (o+4) v4).setIfInBounds (o+5) v5).setIfInBounds (o+6) v6).setIfInBounds (o+7) v7).setIfInBounds (o+8) v8).setIfInBounds (o+9) v9).setIfInBounds (o+10) v10
theorem znc {w:World}{b o:Nat}{C:Array Value}{t:TypeId}(h:w.heap[b]?=some (.cells C t))(v0 v1 v2 v3 v4 v5 v6 v7 v8 v9 v10:Value):(znG w b o v0 v1 v2 v3 v4 v5 v6 v7 v8 v9 v10).heap[b]?=some (.cells (zj7 C o v0 v1 v2 v3 v4 v5 v6 v7 v8 v9 v10) t):=
 zk (zk (zk (zk (zk (zk (zk (zk (zk (zk (zk h v0) v1) v2) v3) v4) v5) v6) v7) v8) v9) v10
theorem zmK {B:Nat}{a w:World}(h:Below B a w){b:Nat}(hb:B<=b)(o:Nat)(v0 v1 v2 v3 v4 v5 v6 v7 v8 v9 v10:Value):Below B a (znG w b o v0 v1 v2 v3 v4 v5 v6 v7 v8 v9 v10):=
 ((((((((((h.setCell hb v0).setCell hb v1).setCell hb v2).setCell hb v3).setCell hb v4).setCell hb v5).setCell hb v6).setCell hb v7).setCell hb v8).setCell hb v9).setCell hb v10
theorem zhW (w:World)(b o b':Nat)(hb:b'≠b)(v0 v1 v2 v3 v4 v5 v6 v7 v8 v9 v10:Value):(znG w b o v0 v1 v2 v3 v4 v5 v6 v7 v8 v9 v10).heap[b']?=w.heap[b']?:=by
 unfold znG
 iterate 11 rw[Below.heap_setCell _ _ _ _ hb]
theorem zoS (C:Array Value)(o:Nat)(v0 v1 v2 v3 v4 v5 v6 v7 v8 v9 v10:Value):(zj7 C o v0 v1 v2 v3 v4 v5 v6 v7 v8 v9 v10).size=C.size:=by simp[zj7]
theorem zpM (C:Array Value)(o i:Nat)(v0 v1 v2 v3 v4 v5 v6 v7 v8 v9 v10:Value)(h:i<o \/ o+11<=i):(zj7 C o v0 v1 v2 v3 v4 v5 v6 v7 v8 v9 v10)[i]?=C[i]?:=by
 unfold zj7
 iterate 11 rw[Array.getElem?_setIfInBounds,if_neg (by omega)]
theorem zqc (C:Array Value)(o j:Nat)(v0 v1 v2 v3 v4 v5 v6 v7 v8 v9 v10:Value)(hj:j<11)(ho:o+11<=C.size):(zj7 C o v0 v1 v2 v3 v4 v5 v6 v7 v8 v9 v10)[o+j]?=(#[v0,v1,v2,v3,v4,v5,v6,v7,v8,v9,v10]:Array Value)[j]?:=by
 have hc:j=0 \/ j=1 \/ j=2 \/ j=3 \/ j=4 \/ j=5 \/ j=6 \/ j=7 \/ j=8 \/ j=9 \/ j=10:=by omega
 unfold zj7
 rcases hc with h|h|h|h|h|h|h|h|h|h|h <;> subst h <;> simp[Array.getElem?_setIfInBounds] <;> omega
theorem zdz (a:Option Addr)(cap:Nat)(ws:List ByteArray)(w:World)(hw:zD w a ws)(hl:ws.length<=1048576) :
 Calls Tryz.prog 112 #[.slice a ws.length cap] w fun e w'=>e=.returned (.slice (some ⟨w.heap.size,0,none⟩) ws.length ws.length)/\w'=w.alloc (.cells (jY ws) 9):=by
 have hmk:∀w:World,(Instr.makeSlice 106 (.int .i64 ws.length) (.int .i64 ws.length)).run Tryz.prog w=.ok (.slice (some ⟨w.heap.size,0,none⟩) ws.length ws.length) (w.alloc (.cells (strCells ws 0) 9)):=by
  intro w;have h:=run_make_row' (P:=Tryz.prog) 106 9 (.string ByteArray.empty) 16 Tryz.underlying106 (by kernel_rfl) rfl .i64 .i64 ws.length (by omega) (by omega) w;rw[zk4]at h;exact h
 go_enter Tryz.func112,Tryz.ntmps112
 go_wp2
 clear hmk
 go_loopw [4] (fun i wr=>∃k:Nat,k<=ws.length/\i=.int .i64 k/\wr=w.alloc (.cells (strCells ws k) 9)) (fun i _=>ws.length-(intOf i).toNat)
 case atStart=>exact⟨0,Nat.zero_le _,rfl,rfl⟩
 case round=>
  obtain⟨k,hk,rfl,rfl⟩:=hrel
  by_cases hlt:k<ws.length
  ·obtain⟨b,off,rfl,hb,hc⟩:=hw.cells (by rintro rfl;simp at hlt)
   clear hw;have hck:=hc k hlt;have hold:=znr ws k hlt;have HS:=hid (zlN ws k hlt);clear hc
   go_wp2
   go_roundw
   case rel=>exact⟨k+1,by omega,by go_num,by rw[HS.out]⟩
   case measure=>simp[intOf];omega
  ·have HA:=hid (zlX ws k (by omega))
   clear hw
   go_wp2
   go_ret;exact⟨rfl,by rw[HA.out]⟩
theorem zl8 (w:World)(o1 o2 o3 o4:Obj):Below w.heap.size w ((((w.alloc o1).alloc o2).alloc o3).alloc o4):=
 (((bAl _ _).alloc (by simp) _).alloc (by simp;omega) _).alloc (by simp;omega) _
theorem at4 (w:World)(o1 o2 o3 o4:Obj):((((w.alloc o1).alloc o2).alloc o3).alloc o4).heap[w.heap.size+1+1+1]?=some o4:=by
 have h:=MapKept.heap_alloc (((w.alloc o1).alloc o2).alloc o3) o4
 simpa using h.1
theorem zi2 (nm:ByteArray)(kd ls ms:Int)(a:Option Addr)(cap:Nat)(ws:List ByteArray)(to:ByteArray)(rl:Int)(mu fx:Bool)(df wg:ByteArray)(w:World)(hw:zD w a ws)(hl:ws.length<=1048576) :
 Calls Tryz.prog 141 #[.agg #[.string nm,.int .i64 kd,.int .i64 ls,.int .i64 ms,.slice a ws.length cap,.string to,.int .i64 rl,.bool mu,.bool fx,.string df,.string wg]] w
  fun e w'=>∃bk,e=.returned (.agg #[.string nm,.int .i64 kd,.int .i64 ls,.int .i64 ms,.slice (some ⟨bk,0,none⟩) ws.length ws.length,.string to,.int .i64 rl,.bool mu,.bool fx,.string df,.string wg]) /\
   w.heap.size<=bk/\bk<w'.heap.size/\w'.heap[bk]?=some (.cells (jY ws) 9)/\Below w.heap.size w w':=by
 go_enter Tryz.func141,Tryz.ntmps141
 go_wp2_with (go_at_call 112;refine(zdz _ _ _ _ (by exact hw.mono (((bAl _ _).alloc (by simp) _).alloc (by simp;omega) _)) hl).mono ?_;rintro e w'⟨rfl,rfl⟩)
 refine bodyPost_ret (v:=.agg #[.string nm,.int .i64 kd,.int .i64 ls,.int .i64 ms,.slice (some ⟨w.heap.size+1+1+1,0,none⟩) ws.length ws.length,.string to,.int .i64 rl,.bool mu,.bool fx,.string df,.string wg]) (by simp[results,Tryz.results141,go_sem]) rfl ⟨w.heap.size+1+1+1,rfl,by omega,by simp,at4 _ _ _ _ _,zl8 _ _ _ _ _⟩
theorem zaf (c:UInt8)(w:World) :
 Calls Tryz.prog 138 #[.int .u8 c.toNat] w fun e w'=>e=.returned (.bool (zJ c))/\w'=w:=by
 go_enter Tryz.func138,Tryz.ntmps138
 go_wp2
 all_goals
  go_ret;refine⟨ze ?_,rfl⟩;rw[Bool.eq_iff_iff];simp[zJ];try omega
def qZ (s:ByteArray):Int:=if zao s=true then zgM s else -1
theorem zk6 (k:Nat)(h:k<=7):(10:Int) ^ k<=10000000:=by
 have:k=0 \/ k=1 \/ k=2 \/ k=3 \/ k=4 \/ k=5 \/ k=6 \/ k=7:=by omega
 rcases this with h|h|h|h|h|h|h|h <;> subst h <;> decide
theorem zkR (s:ByteArray)(w:World)(h1:1<=s.size)(h7:s.size<=7)(hz:s.size<=1 \/ ¬(s[0].toNat:Int)=48) :
 Calls Tryz.prog 175 #[.string s] w fun e w'=>e=.returned (.int .i64 (qZ s))/\w'=w:=by
 have HF:Hid (zao s=zbb s):=zk8 s h1 h7 hz
 rcases(show(s.size<=1) \/ (1<s.size/\¬(s[0].toNat:Int)=48) by rcases hz with h|h <;> omega) with hone|⟨hmore,hz0⟩
 all_goals
  clear hz
  try have hz1:((s[0].toNat:Int) == 48)=false:=by simpa using hz0
  try clear hz0
  go_enter Tryz.func175,Tryz.ntmps175
  go_wp2_with (go_at_call 61;refine(zbf _ _ _ _ (by omega) (by omega)).mono ?_;rintro e w'⟨rfl,rfl⟩)
  go_loop [3,4] (fun n i=>∃k:Nat,k<=s.size/\i=.int .i64 k/\(s.data.toList.take k).all digit=true/\n=.int .i64 (dec (s.data.toList.take k))) (fun _ i=>s.size-(intOf i).toNat)
  case atStart=>exact⟨0,Nat.zero_le _,rfl,rfl,rfl⟩
  case round=>
   obtain⟨k,hk,rfl,hall,rfl⟩:=hrel;have hlen:(s.data.toList.take k).length<=k:=List.length_take_le _ _;obtain⟨hd0,hd1⟩:=zfs _ hall k hlen
   by_cases hlt:k<s.size
   ·have hp:=zk6 k (by omega)
    have hd2:dec (s.data.toList.take k)<10000000:=by omega
    clear hp hd1 hlen;have HS:Hid ((s.data.toList.take (k+1)).all digit=(true&&digit s[k])):=by rw[zaR _ s k hlt,hall];rfl
    have HD:Hid (dec (s.data.toList.take (k+1))=dec (s.data.toList.take k)*10+((s[k].toNat:Int)-48)):=by rw[zhU s k hlt];exact znB _ _
    have HN:Hid (digit s[k]=false->zbb s=false):=fun h=>zce digit s k hlt h
    clear hall
    by_cases h48:(s[k].toNat:Int)<48
    ·have HC:Hid (digit s[k]=false):=by simp[digit,Hid];omega
     go_wp2
     go_ret;exact⟨zo (by unfold qZ;rw[HF.out,HN.out HC.out];rfl),rfl⟩
    ·by_cases h57:57<(s[k].toNat:Int)
     ·have HC:Hid (digit s[k]=false):=by simp[digit,Hid];omega
      go_wp2
      go_ret;exact⟨zo (by unfold qZ;rw[HF.out,HN.out HC.out];rfl),rfl⟩
     ·have HC:Hid (digit s[k]=true):=by simp[digit,Hid];omega
      go_wp2
      go_round
      case rel=>exact⟨k+1,by omega,by go_num,by rw[HS.out,HC.out];rfl,by rw[HD.out];go_num⟩
      case measure=>simp[intOf];omega
   ·have HA:Hid (zbb s=true):=by unfold zbb Hid;rw[<- zaA s k (by omega)];exact hall
    have HB:Hid (dec (s.data.toList.take k)=zgM s):=by rw[zaA s k (by omega)];rfl
    clear hall hd0 hd1 hlen
    go_wp2
    go_ret;exact⟨zo (by unfold qZ;rw[HF.out,HA.out,HB.out];rfl),rfl⟩
theorem zeu (s:ByteArray)(w:World)(hs:s.size<=maxLen) :
 Calls Tryz.prog 175 #[.string s] w fun e w'=>e=.returned (.int .i64 (qZ s))/\w'=w:=by
 unfold maxLen at hs
 by_cases h17:1<=s.size/\s.size<=7
 ·obtain⟨h1,h7⟩:=h17
  by_cases hz:1<s.size/\(s[0].toNat:Int)=48
  ·obtain⟨hm,hz0⟩:=hz
   have HF:Hid (qZ s=-1):=by unfold qZ Hid;rw[zfM s hm hz0];rfl
   have hz1:((s[0].toNat:Int) == 48)=true:=by simpa using hz0
   clear hz0;go_enter Tryz.func175,Tryz.ntmps175
   go_wp2_with (go_at_call 61;refine(zbf _ _ _ _ (by omega) (by omega)).mono ?_;rintro e w'⟨rfl,rfl⟩)
   go_ret;exact⟨zo HF.out.symm,rfl⟩
  ·exact zkR s w h1 h7 (by omega)
 ·have HF:Hid (qZ s=-1):=by unfold qZ Hid;rw[zd9 s h17];rfl
  go_enter Tryz.func175,Tryz.ntmps175
  go_wp2_with (go_at_call 61;refine(zdc _ _ _ _ (by omega)).mono ?_;rintro e w'⟨rfl,rfl⟩)
  go_ret;exact⟨zo HF.out.symm,rfl⟩
def within (n lo hi:Int):Bool:=decide (lo<=n)&&decide (n<=hi)
theorem jg (n lo hi:Int)(w:World) :
 Calls Tryz.prog 152 #[.int .i64 n,.int .i64 lo,.int .i64 hi] w fun e w'=>e=.returned (.bool (within n lo hi))/\w'=w:=by
 by_cases h1:lo<=n
 ·by_cases h2:n<=hi
  ·have HF:Hid (within n lo hi=true):=by unfold Hid within;simp[h1,h2]
   go_enter Tryz.func152,Tryz.ntmps152;go_wp2_with fail
   go_ret;exact⟨ze HF.out.symm,rfl⟩
  ·have HF:Hid (within n lo hi=false):=by unfold Hid within;simp[h2]
   go_enter Tryz.func152,Tryz.ntmps152;go_wp2_with fail
   go_ret;exact⟨ze HF.out.symm,rfl⟩
 ·have HF:Hid (within n lo hi=false):=by unfold Hid within;simp[h1]
  go_enter Tryz.func152,Tryz.ntmps152;go_wp2_with fail
  go_ret;exact⟨ze HF.out.symm,rfl⟩
end Go.Proofs.YtnapmdofidgliaaGreat
namespace Go.Proofs.YtnapmdofidgliaaGreat
open Go.ChangeShapes Go.WideShapes Go.ChangeAt Go.RowKit
theorem Tryz.zek:Tryz.prog.cellsOf 106=1:=by kernel_rfl
theorem Tryz.zjT:Tryz.prog.cellsOf 197=11:=by kernel_rfl
theorem zoC {H:Type}{enc:TypeId × Value->H}{w:World}{base:Nat}{spare:Nat->Bool}{held:Bool}{fuel:Nat}{cs:List Value}{x:DataW H × List MemPlace}
 (h:DataW.trod enc Tryz.prog w base spare held fuel 197 cs=some x) :
 ∃nm kd ls ms a cap ws to rl mu fx df wg,cs=[.string nm,.int .i64 kd,.int .i64 ls,.int .i64 ms,.slice a (List.length ws) cap,.string to,.int .i64 rl,.bool mu,.bool fx,.string df,.string wg]/\zD w a ws /\
  nm.size<=maxLen/\to.size<=maxLen/\df.size<=maxLen/\wg.size<=maxLen:=by
 have hlen:cs.length=11:=by
  obtain⟨_,_,_,_,hl,_,_⟩:=DataW.trod_struct Tryz.underlying197 h;rw[hl];exact Tryz.zjT
 match cs,hlen with
 | [c0,c1,c2,c3,c4,c5,c6,c7,c8,c9,c10],_=>
  have hf:=zak Tryz.underlying197 h;obtain⟨_,_,f0⟩:=hf 0 9 0 c0 rfl Tryz.zW rfl;obtain⟨_,_,f1⟩:=hf 1 3 1 c1 rfl Tryz.j3 rfl;obtain⟨_,_,f2⟩:=hf 2 3 2 c2 rfl Tryz.j3 rfl;obtain⟨_,_,f3⟩:=hf 3 3 3 c3 rfl Tryz.j3 rfl;obtain⟨_,_,f4⟩:=hf 4 106 4 c4 rfl Tryz.zek rfl;obtain⟨_,_,f5⟩:=hf 5 9 5 c5 rfl Tryz.zW rfl;obtain⟨_,_,f6⟩:=hf 6 3 6 c6 rfl Tryz.j3 rfl;obtain⟨_,_,f7⟩:=hf 7 4 7 c7 rfl Tryz.zhJ rfl;obtain⟨_,_,f8⟩:=hf 8 4 8 c8 rfl Tryz.zhJ rfl;obtain⟨_,_,f9⟩:=hf 9 9 9 c9 rfl Tryz.zW rfl;obtain⟨_,_,f10⟩:=hf 10 9 10 c10 rfl Tryz.zW rfl;obtain⟨nm,e0,_,s0⟩:=DataW.trod_string Tryz.underlying9 f0;obtain⟨kd,e1,_,_⟩:=DataW.trod_int Tryz.underlying3 f1;obtain⟨ls,e2,_,_⟩:=DataW.trod_int Tryz.underlying3 f2;obtain⟨ms,e3,_,_⟩:=DataW.trod_int Tryz.underlying3 f3;obtain⟨a,cap,ws,e4,hS⟩:=zhz Tryz.underlying106 Tryz.underlying9 Tryz.zW f4;obtain⟨to,e5,_,s5⟩:=DataW.trod_string Tryz.underlying9 f5;obtain⟨rl,e6,_,_⟩:=DataW.trod_int Tryz.underlying3 f6;obtain⟨mu,e7,_⟩:=DataW.trod_bool Tryz.underlying4 f7;obtain⟨fx,e8,_⟩:=DataW.trod_bool Tryz.underlying4 f8;obtain⟨df,e9,_,s9⟩:=DataW.trod_string Tryz.underlying9 f9;obtain⟨wg,e10,_,s10⟩:=DataW.trod_string Tryz.underlying9 f10;simp only[List.cons.injEq,and_true]at e0 e1 e2 e3 e4 e5 e6 e7 e8 e9 e10;subst e0 e1 e2 e3 e4 e5 e6 e7 e8 e9 e10;exact⟨nm,kd,ls,ms,a,cap,ws,to,rl,mu,fx,df,wg,rfl,hS,s0,s5,s9,s10⟩
end Go.Proofs.YtnapmdofidgliaaGreat
