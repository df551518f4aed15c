import Derived.Test.YtecncindgjdbiaaGreatM02
import Derived.Deep.QuietTactic
import Derived.BigQuiet
set_option maxHeartbeats 1000000
namespace Go.Proofs.YtecncindgjdbiaaGreat
open Go.RowKit
def zci (ws:List BA):Nat:=(ws.map ByteArray.size).sum
def qX (ws:List BA):Nat:=ws.length+zci ws
theorem znR (ws:List BA)(k:Nat)(h:k<ws.length):zci (ws.take (k+1))=zci (ws.take k)+ws[k].size:=by
 unfold zci;rw[tSe h,List.map_append,List.sum_append];simp
theorem zqK (ws:List BA)(k:Nat):zci (ws.take k)<=zci ws:=by
 unfold zci
 conv=>rhs;rw[<- List.take_append_drop k ws]
 rw[List.map_append,List.sum_append];omega
theorem zpB (ws:List BA)(k:Nat)(h:ws.length<=k):zci (ws.take k)=zci ws:=by rw[tOl h]
theorem zfA (a:OA)(cap:Nat)(ws:List BA)(left:Int)(w:World)(hw:zF w a ws)(h0:0<=left)(h1:left<=1048576) :
 Calls Tryz.prog 103 #[.l a ws.length cap,.i left] w fun e w'=>e=.returned (.i (zL (qX ws) left))/\w'=w:=by
 have hl:=hw.len;unfold maxLen at hl
 by_cases hfit:(ws.length:Int)<=left
 ·go_enter Tryz.func103,Tryz.ntmps103
  go_wp2
  go_loop [1,5] (fun l i=>∃k:Nat,k<=ws.length/\i=.i k/\0<=left-ws.length-zci (ws.take k)/\l=.i (left-ws.length-zci (ws.take k))) (fun _ i=>ws.length-(intOf i).toNat)
  case atStart=>exact⟨0,Nat.zero_le _,rfl,by simp[zci];omega,by simp[zci]⟩
  case round=>
   obtain⟨k,hk,rfl,hpos,rfl⟩:=hrel
   by_cases hlt:k<ws.length
   ·obtain⟨b,off,rfl,hb,hc⟩:=hw.cells (by rintro rfl;simp at hlt)
    have hsm:=hw.small _ (List.getElem_mem hlt);unfold maxLen at hsm;clear hw;have hck:=hc k hlt;have HS:Hid (zci (ws.take (k+1))=zci (ws.take k)+ws[k].size):=znR ws k hlt;have hle:=zqK ws (k+1);clear hc
    by_cases hneg:left-ws.length-zci (ws.take k)-ws[k].size<0
    ·have HF:Hid (zL (qX ws) left=-1):=zC (by have:=HS.o;unfold qX;omega)
     clear hle
     go_wp2
     go_ret;exact⟨zo HF.o.symm,rfl⟩
    ·clear hle
     go_wp2
     go_round
     case rel=>exact⟨k+1,by omega,by go_num,by rw[HS.o];omega,by rw[HS.o];go_num⟩
     case measure=>simp[intOf];omega
   ·have HF:Hid (zL (qX ws) left=left-ws.length-zci (ws.take k)):=by
     rw[zpB ws k (by omega)]at hpos ⊢;have e:zL (qX ws) left=left-qX ws:=zM (by unfold qX;omega);unfold Hid;rw[e];unfold qX;omega
    clear hw
    go_wp2
    go_ret;exact⟨zo HF.o.symm,rfl⟩
 ·have HF:Hid (zL (qX ws) left=-1):=zC (by unfold qX;omega)
  clear hw;go_enter Tryz.func103,Tryz.ntmps103
  go_wp2
  go_ret;exact⟨zo HF.o.symm,rfl⟩
theorem zdo (a a':OA)(cap cap':Nat)(ws:List BA)(w:World)(hw:zF w a ws)(hw':zF w a' ws) :
 Calls Tryz.prog 136 #[.l a ws.length cap,.l a' ws.length cap'] w fun e w'=>e=.returned (.bool true)/\Bw w w':=by
 have hl:=hw.len;unfold maxLen at hl;have hnn:((ws.length:Int) != ws.length)=false:=by simp
 go_enter Tryz.func136,Tryz.ntmps136
 go_wp2
 go_loopw [5] (fun i wr=>∃k:Nat,k<=ws.length/\i=.i k/\∃n,wr=w.drewN n) (fun i _=>ws.length-(intOf i).toNat)
 case atStart=>exact⟨0,Nat.zero_le _,rfl,0,rfl⟩
 case round=>
  obtain⟨k,hk,rfl,nd,rfl⟩:=hrel
  by_cases hlt:k<ws.length
  ·obtain⟨b,off,rfl,hb,hc⟩:=hw.cells (by rintro rfl;simp at hlt)
   obtain⟨b',off',rfl,hb',hc'⟩:=hw'.cells (by rintro rfl;simp at hlt);clear hw hw';have hck:=hc k hlt;have hck':=hc' k hlt;have hltI:(k:Int)<(ws.length:Int):=by omega
   clear hc hc'
   go_wp2
   go_quiet (fail)
   go_wp2
   exact⟨⟨k+1,by omega,by go_num,nd+nq,rfl⟩,by simp[intOf];omega⟩
  ·clear hw hw'
   go_wp2
   go_ret;exact⟨rfl,below_drewN (bRf _ _) nd⟩
theorem ziM (nm:BA)(kd ls ms:Int)(a a':OA)(cap cap':Nat)(ws:List BA)(to:BA)(rl:Int)(mu fx:Bool)(df wg:BA)(w:World)(hw:zF w a ws)(hw':zF w a' ws) :
 Calls Tryz.prog 182 #[.agg #[.s nm,.i kd,.i ls,.i ms,.l a ws.length cap,.s to,.i rl,.bool mu,.bool fx,.s df,.s wg],.agg #[.s nm,.i kd,.i ls,.i ms,.l a' ws.length cap',.s to,.i rl,.bool mu,.bool fx,.s df,.s wg]] w
  fun e w'=>e=.returned (.bool true)/\Bw w w':=by
 go_enter Tryz.func182,Tryz.ntmps182
 go_wp2_with (go_at_call 136;refine(zdo _ _ _ _ _ _ (by exact hw.mono (zw _ _ _)) (by exact hw'.mono (zw _ _ _))).mono ?_;rintro e w1⟨rfl,hb1⟩;have hc1:=(zrj hb1).1;have hz1:=hb1.size;simp only[World.size_alloc]at hz1)
 go_ret;exact⟨rfl,(zw _ _ _).trans (hb1.mono (by simp;omega))⟩
def zas (nm:BA)(ws:List BA)(to df wg:BA):Nat:=nm.size+qX ws+to.size+df.size+wg.size
theorem zaa (a:OA)(cap:Nat)(ws:List BA)(left:Int)(w:World)(hw:zF w a ws)(h0:0<=left)(h1:left<=1048576)(h:(qX ws:Int)<=left) :
 Calls Tryz.prog 103 #[.l a ws.length cap,.i left] w fun e w'=>e=.returned (.i (left-qX ws))/\w'=w:=by
 refine(zfA a cap ws left w hw h0 h1).mono ?_;rintro e w'⟨rfl,rfl⟩;exact⟨zo (zM h),rfl⟩
theorem zeh (a:OA)(cap:Nat)(ws:List BA)(left:Int)(w:World)(hw:zF w a ws)(h0:0<=left)(h1:left<=1048576)(h:¬(qX ws:Int)<=left) :
 Calls Tryz.prog 103 #[.l a ws.length cap,.i left] w fun e w'=>e=.returned (.i (-1))/\w'=w:=by
 refine(zfA a cap ws left w hw h0 h1).mono ?_;rintro e w'⟨rfl,rfl⟩;exact⟨zo (zC h),rfl⟩
theorem zes (nm:BA)(kd ls ms:Int)(a:OA)(cap:Nat)(ws:List BA)(to:BA)(rl:Int)(mu fx:Bool)(df wg:BA)(left:Int)(w:World)(hw:zF w a ws)(h0:0<=left)(h1:left<=1048576)
 (hnm:nm.size<=maxLen) (hto:to.size<=maxLen) (hdf:df.size<=maxLen) (hwg:wg.size<=maxLen) :
 Calls Tryz.prog 139 #[.agg #[.s nm,.i kd,.i ls,.i ms,.l a ws.length cap,.s to,.i rl,.bool mu,.bool fx,.s df,.s wg],.i left] w fun e w'=>e=.returned (.i (zL (zas nm ws to df wg) left))/\Bw w w':=by
 unfold maxLen at hnm hto hdf hwg
 by_cases c1:(nm.size:Int)<=left
 rotate_left
 ·have HF:Hid (zL (zas nm ws to df wg) left=-1):=zC (by unfold zas;omega)
  go_enter Tryz.func139,Tryz.ntmps139;go_wp2_with fail
  go_ret;exact⟨zo HF.o.symm,bAl _ _⟩
 by_cases c2:(qX ws:Int)<=left-nm.size
 rotate_left
 ·have HF:Hid (zL (zas nm ws to df wg) left=-1):=zC (by unfold zas;omega)
  go_enter Tryz.func139,Tryz.ntmps139
  go_wp2_with (go_at_call 103;refine(zeh _ _ _ _ _ (by exact hw.mono (bAl _ _)) (by omega) (by omega) (by omega)).mono ?_;rintro e w1⟨rfl,rfl⟩)
  go_ret;exact⟨zo HF.o.symm,bAl _ _⟩
 by_cases c3:(to.size:Int)<=left-nm.size-qX ws
 rotate_left
 ·have HF:Hid (zL (zas nm ws to df wg) left=-1):=zC (by unfold zas;omega)
  go_enter Tryz.func139,Tryz.ntmps139
  go_wp2_with (go_at_call 103;refine(zaa _ _ _ _ _ (by exact hw.mono (bAl _ _)) (by omega) (by omega) (by omega)).mono ?_;rintro e w1⟨rfl,rfl⟩)
  go_ret;exact⟨zo HF.o.symm,bAl _ _⟩
 by_cases c4:(df.size:Int)<=left-nm.size-qX ws-to.size
 rotate_left
 ·have HF:Hid (zL (zas nm ws to df wg) left=-1):=zC (by unfold zas;omega)
  go_enter Tryz.func139,Tryz.ntmps139
  go_wp2_with (go_at_call 103;refine(zaa _ _ _ _ _ (by exact hw.mono (bAl _ _)) (by omega) (by omega) (by omega)).mono ?_;rintro e w1⟨rfl,rfl⟩)
  go_ret;exact⟨zo HF.o.symm,bAl _ _⟩
 by_cases c5:(wg.size:Int)<=left-nm.size-qX ws-to.size-df.size
 rotate_left
 ·have HF:Hid (zL (zas nm ws to df wg) left=-1):=zC (by unfold zas;omega)
  go_enter Tryz.func139,Tryz.ntmps139
  go_wp2_with (go_at_call 103;refine(zaa _ _ _ _ _ (by exact hw.mono (bAl _ _)) (by omega) (by omega) (by omega)).mono ?_;rintro e w1⟨rfl,rfl⟩)
  go_ret;exact⟨zo HF.o.symm,bAl _ _⟩
 ·have HF:Hid (zL (zas nm ws to df wg) left=left-nm.size-qX ws-to.size-df.size-wg.size):=by
   have e:zL (zas nm ws to df wg) left=left-zas nm ws to df wg:=zM (by unfold zas;omega);unfold Hid;rw[e];unfold zas;omega
  go_enter Tryz.func139,Tryz.ntmps139
  go_wp2_with (go_at_call 103;refine(zaa _ _ _ _ _ (by exact hw.mono (bAl _ _)) (by omega) (by omega) (by omega)).mono ?_;rintro e w1⟨rfl,rfl⟩)
  go_ret;exact⟨zo HF.o.symm,bAl _ _⟩
theorem ze5.load {w:World}{b off:Nat}{f:Fld}{a:OA}{cap:Nat}(h:ze5 w b off f a cap) :
 w.cell? (aD b off)=some (.s f.nm)/\w.cell? (aD b (off+1))=some (.i f.kd)/\w.cell? (aD b (off+2))=some (.i f.ls)/\w.cell? (aD b (off+3))=some (.i f.ms) /\
 w.cell? (aD b (off+4))=some (.l a f.ws.length cap)/\w.cell? (aD b (off+5))=some (.s f.to)/\w.cell? (aD b (off+6))=some (.i f.rl)/\w.cell? (aD b (off+7))=some (.bool f.mu) /\
 w.cell? (aD b (off+8))=some (.bool f.fx)/\w.cell? (aD b (off+9))=some (.s f.df)/\w.cell? (aD b (off+10))=some (.s f.wg):=
 ⟨h.cell 0 (by omega),h.cell 1 (by omega),h.cell 2 (by omega),h.cell 3 (by omega),h.cell 4 (by omega),h.cell 5 (by omega),h.cell 6 (by omega),h.cell 7 (by omega),h.cell 8 (by omega),h.cell 9 (by omega),h.cell 10 (by omega)⟩
end Go.Proofs.YtecncindgjdbiaaGreat
namespace Go.Proofs.YtecncindgjdbiaaGreat
def up (P:Nat->Bool)(n:Nat):Bool:=(List.range n).all P
theorem q8 (P:Nat->Bool)(n:Nat):up P (n+1)=(up P n&&P n):=by simp[up,List.range_succ,List.all_append]
theorem zaH {P:Nat->Bool}{k n:Nat}(h:k<n)(hk:P k=false):up P n=false:=by
 unfold up;rw[List.all_eq_false];exact⟨k,List.mem_range.2 h,by simp[hk]⟩
theorem zhX {P:Nat->Bool}{k n:Nat}(h:k<n)(hu:up P n=true):P k=true:=by
 unfold up at hu;rw[List.all_eq_true]at hu;exact hu k (List.mem_range.2 h)
def less (a b:BA):Bool:=Op.bytesLess a.toList b.toList
def zdR (ws:List BA)(i:Nat):Bool:=zy (ws.getD i ByteArray.empty)&&(decide (i=0)||less (ws.getD (i-1) ByteArray.empty) (ws.getD i ByteArray.empty))
def asc (ws:List BA):Bool:=up (zdR ws) ws.length
theorem getD_at {α:Type}(l:List α)(i:Nat)(d:α)(h:i<l.length):l.getD i d=l[i]:=by
 rw[List.getD_eq_getElem?_getD,List.getElem?_eq_getElem h];rfl
theorem zjc {ws:List BA}{k:Nat}(h:k<ws.length)(hn:zy ws[k]=false):zdR ws k=false:=by
 unfold zdR;rw[getD_at ws k _ h,hn];rfl
theorem zic {ws:List BA}(h:0<ws.length)(hn:zy ws[0]=true):zdR ws 0=true:=by
 unfold zdR;rw[getD_at ws 0 _ h,hn];rfl
theorem zdZ {ws:List BA}{k:Nat}(h:k+1<ws.length)(hn:zy ws[k+1]=true):zdR ws (k+1)=less ws[k] ws[k+1]:=by
 unfold zdR;rw[getD_at ws (k+1) _ h,Nat.add_sub_cancel,getD_at ws k _ (by omega),hn];simp
def yK (kd ls ms:Int)(n:Nat)(to:BA)(rl:Int)(wg:BA):Bool:=
 if kd=1 then decide (n=0)&&to.toList.isEmpty&&decide (rl=0)
 else if kd=2 then decide (ls=0)&&decide (ms=0)&&to.toList.isEmpty&&decide (rl=0)&&wg.toList.isEmpty
 else if kd=3 then decide (n=0)&&to.toList.isEmpty&&decide (rl=0)&&wg.toList.isEmpty
 else if kd=4 then decide (ls=0)&&decide (ms=0)&&decide (n=0)&&wg.toList.isEmpty
 else false
def jl (ls ms lo hi:Int):Bool:=decide (lo<=ls)&&decide (ls<=ms)&&decide (ms<=hi)
def zJ (ss:List Shp)(k:BA):Bool:=ss.any fun s=>decide (s.kd=k)
def zW (ss:List Shp)(f:Fld):Bool:=
 if f.kd=1 then jl f.ls f.ms 0 1000000&&(f.wg.toList.isEmpty||zy f.wg)
 else if f.kd=2 then decide (1<=f.ws.length)&&decide (f.ws.length<=6)&&asc f.ws
 else if f.kd=3 then jl f.ls f.ms 1 40
 else if f.kd=4 then zJ ss f.to&&(decide (1<=f.rl)&&decide (f.rl<=3))&&f.df.toList.isEmpty&&(decide (f.rl≠2)||!f.mu)
 else false
def bare (f:Fld):Bool:=yK f.kd f.ls f.ms f.ws.length f.to f.rl f.wg
def zfx (f:Fld)(v:BA):Bool:=fits f.kd f.ls f.ms f.ws v
def zrp (f:Fld):Bool:=f.df.toList.isEmpty||zfx f f.df
def yF (ss:List Shp)(f:Fld):Bool:=bare f&&zW ss f&&zrp f
def zcA:Shp:=⟨ByteArray.empty,[]⟩
def shapeOf (ss:List Shp)(k:BA):Shp:=(ss.find? fun s=>decide (s.kd=k)).getD zcA
theorem zgF (ss:List Shp)(v:BA)(k:Nat)(h:k<ss.length):zJ (ss.take (k+1)) v=(zJ (ss.take k) v||decide (ss[k].kd=v)):=by
 unfold zJ;rw[tSe h,List.any_append];simp
theorem zjy (ss:List Shp)(v:BA)(k:Nat)(h:k<ss.length)(e:ss[k].kd=v):zJ ss v=true:=by
 unfold zJ;rw[List.any_eq_true];exact⟨ss[k],List.getElem_mem h,by simpa using e⟩
theorem zh8 (ss:List Shp)(v:BA)(k:Nat)(h:ss.length<=k):zJ (ss.take k) v=zJ ss v:=by rw[tOl h]
theorem zfQ (ss:List Shp)(v:BA)(k:Nat)(h:k<ss.length)(hb:zJ (ss.take k) v=false)(e:ss[k].kd=v):shapeOf ss v=ss[k]:=by
 unfold shapeOf
 have hn:(ss.take k).find? (fun s=>decide (s.kd=v))=none:=by
  rw[List.find?_eq_none];intro x hx;unfold zJ at hb;rw[List.any_eq_false]at hb;exact hb x hx
 conv=>lhs;rw[<- List.take_append_drop k ss]
 rw[List.find?_append,hn,List.drop_eq_getElem_cons h,List.find?_cons_of_pos (by simpa using e)];rfl
theorem zl9 (ss:List Shp)(v:BA)(hb:zJ ss v=false):shapeOf ss v=zcA:=by
 unfold shapeOf
 have hn:ss.find? (fun s=>decide (s.kd=v))=none:=by
  rw[List.find?_eq_none];intro x hx;unfold zJ at hb;rw[List.any_eq_false]at hb;exact hb x hx
 rw[hn];rfl
def hasName (fs:List Fld)(v:BA):Bool:=fs.any fun f=>decide (f.nm=v)
def zR (fs:List Fld)(v:BA):Int:=match fs.findIdx? (fun f=>decide (f.nm=v)) with|some i=>i|none=>-1
theorem zd3 (fs:List Fld)(v:BA)(k:Nat)(h:k<fs.length):hasName (fs.take (k+1)) v=(hasName (fs.take k) v||decide (fs[k].nm=v)):=by
 unfold hasName;rw[tSe h,List.any_append];simp
theorem zie (fs:List Fld)(v:BA)(k:Nat)(h:fs.length<=k):hasName (fs.take k) v=hasName fs v:=by rw[tOl h]
theorem zef (fs:List Fld)(v:BA)(k:Nat)(h:k<fs.length)(hb:hasName (fs.take k) v=false)(e:fs[k].nm=v):zR fs v=k:=by
 unfold zR
 have hf:fs.findIdx? (fun f=>decide (f.nm=v))=some k:=by
  rw[List.findIdx?_eq_some_iff_getElem];refine⟨h,by simpa using e,fun j hj=>?_⟩;unfold hasName at hb;rw[List.any_eq_false]at hb
  have hm:fs[j]∈fs.take k:=by
   rw[List.mem_iff_getElem];exact⟨j,by simp;omega,by simp⟩
  exact hb _ hm
 rw[hf]
theorem zgY (fs:List Fld)(v:BA)(hb:hasName fs v=false):zR fs v=-1:=by
 unfold zR
 have hf:fs.findIdx? (fun f=>decide (f.nm=v))=none:=by
  rw[List.findIdx?_eq_none_iff];intro x hx;unfold hasName at hb;rw[List.any_eq_false]at hb
  simpa using hb x hx
 rw[hf]
theorem zk2 (fs:List Fld)(v:BA)(k:Nat)(h:k<fs.length)(hh:hasName (fs.take k) v=true):∃j,j<k/\zR fs v=j:=by
 unfold hasName at hh;rw[List.any_eq_true]at hh;obtain⟨x,hx,he⟩:=hh;obtain⟨j,hj,rfl⟩:=List.mem_iff_getElem.1 hx;have hjk:j<k:=by simp at hj;omega
 have hjl:j<fs.length:=by omega
 have hv:fs[j].nm=v:=by simpa using he
 cases hf:fs.findIdx? (fun f=>decide (f.nm=v)) with
 | none=>
  rw[List.findIdx?_eq_none_iff]at hf
  have:=hf fs[j] (List.getElem_mem hjl)
  simp[hv]at this
 | some i=>
  refine⟨i,?_,by unfold zR;rw[hf]⟩;rw[List.findIdx?_eq_some_iff_getElem]at hf;obtain⟨hi,_,hmin⟩:=hf
  rcases Nat.lt_or_ge i k with h1|h1
  ·exact h1
  ·exfalso
   have:=hmin j (by omega)
   simp[hv]at this
def zbC:Fld:=⟨ByteArray.empty,0,0,0,[],ByteArray.empty,0,false,false,ByteArray.empty,ByteArray.empty⟩
def zeO (ss:List Shp)(fs:List Fld)(i:Nat):Bool:=
 zy (fs.getD i zbC).nm&&!hasName (fs.take i) (fs.getD i zbC).nm&&yF ss (fs.getD i zbC)
def yY (ss:List Shp)(fs:List Fld):Bool:=decide (fs.length<=6)&&up (zeO ss fs) fs.length
theorem zja (ss:List Shp)(fs:List Fld)(i:Nat)(h:i<fs.length):zeO ss fs i=(zy fs[i].nm&&!hasName (fs.take i) fs[i].nm&&yF ss fs[i]):=by
 unfold zeO;rw[getD_at fs i _ h]
def yT (ss:List Shp)(i:Nat):Bool:=
 zy (ss.getD i zcA).kd&&(decide (i=0)||less (ss.getD (i-1) zcA).kd (ss.getD i zcA).kd)&&yY ss (ss.getD i zcA).fs
def zZ (ss:List Shp):Bool:=decide (ss.length<=6)&&up (yT ss) ss.length
theorem zfz (ss:List Shp)(h:0<ss.length):yT ss 0=(zy ss[0].kd&&yY ss ss[0].fs):=by
 unfold yT;rw[getD_at ss 0 _ h];simp
theorem zgJ (ss:List Shp)(k:Nat)(h:k+1<ss.length):yT ss (k+1)=(zy ss[k+1].kd&&less ss[k].kd ss[k+1].kd&&yY ss ss[k+1].fs):=by
 unfold yT;rw[getD_at ss (k+1) _ h,Nat.add_sub_cancel,getD_at ss k _ (by omega)];simp
theorem zbV:∀x:List UInt8,Op.bytesLess x x=false
 | []=>rfl
 | a :: x=>by
  simp only[Op.bytesLess,Bool.or_eq_false_iff,decide_eq_false_iff_not,Bool.and_eq_false_iff];exact⟨fun h=>by simp at h,Or.inr (zbV x)⟩
theorem za7:∀x y z:List UInt8,Op.bytesLess x y=true->Op.bytesLess y z=true->Op.bytesLess x z=true
 | _,[],_,h,_=>by simp[Op.bytesLess]at h
 | [],_ :: _,[],_,h=>by simp[Op.bytesLess]at h
 | [],_ :: _,_ :: _,_,_=>rfl
 | _ :: _,_ :: _,[],_,h=>by simp[Op.bytesLess]at h
 | a :: x,b :: y,c :: z,h,k=>by
  simp only[Op.bytesLess,Bool.or_eq_true,decide_eq_true_eq,Bool.and_eq_true,beq_iff_eq]at h k ⊢
  rcases h with h|⟨rfl,h⟩
  ·rcases k with k|⟨rfl,k⟩
   ·exact Or.inl (UInt8.lt_trans h k)
   ·exact Or.inl h
  ·rcases k with k|⟨rfl,k⟩
   ·exact Or.inl k
   ·exact Or.inr ⟨rfl,za7 x y z h k⟩
end Go.Proofs.YtecncindgjdbiaaGreat
namespace Go.Proofs.YtecncindgjdbiaaGreat
open Go.RowKit
theorem zi {w:World}{b o:Nat}{C:AV}{t:TypeId}(h:w.heap[b]?=some (.cells C t))(v:Value):(w.setCell (aD b o) v).heap[b]?=some (.cells (C.setIfInBounds o v) t):=by
 simp[World.setCell,Array.getElem?_modify,h]
theorem cell_of_block {w:World}{b o:Nat}{C:AV}{t:TypeId}(h:w.heap[b]?=some (.cells C t)):w.cell? (aD b o)=C[o]?:=by simp[World.cell?,h]
theorem zh {w:World}{b o:Nat}{C:AV}{t:TypeId}(h:w.heap[b]?=some (.cells C t)):w.frozen? (aD b o)=false:=by simp[World.frozen?,h]
def zmn (w:World)(b o:Nat)(v0 v1 v2 v3 v4 v5 v6 v7 v8 v9 v10:Value):World:=((((((((((w.setCell (aD b o) v0).setCell (aD b (o+1)) v1).setCell (aD b (o+2)) v2).setCell (aD b (o+3)) v3).setCell (aD b (o+4)) v4).setCell (aD b (o+5)) v5).setCell (aD b (o+6)) v6).setCell (aD b (o+7)) v7).setCell (aD b (o+8)) v8).setCell (aD b (o+9)) v9).setCell (aD b (o+10)) v10
def zjR (C:AV)(o:Nat)(v0 v1 v2 v3 v4 v5 v6 v7 v8 v9 v10:Value):AV:=((((((((((C.setIfInBounds o v0).setIfInBounds (o+1) v1).setIfInBounds (o+2) v2).setIfInBounds (o+3) v3).setIfInBounds (o+4) v4).setIfInBounds (o+5) v5).setIfInBounds (o+6) v6).setIfInBounds (o+7) v7).setIfInBounds (o+8) v8).setIfInBounds (o+9) v9).setIfInBounds (o+10) v10
theorem zm2 {w:World}{b o:Nat}{C:AV}{t:TypeId}(h:w.heap[b]?=some (.cells C t))(v0 v1 v2 v3 v4 v5 v6 v7 v8 v9 v10:Value):(zmn w b o v0 v1 v2 v3 v4 v5 v6 v7 v8 v9 v10).heap[b]?=some (.cells (zjR C o v0 v1 v2 v3 v4 v5 v6 v7 v8 v9 v10) t):=
 zi (zi (zi (zi (zi (zi (zi (zi (zi (zi (zi h v0) v1) v2) v3) v4) v5) v6) v7) v8) v9) v10
theorem zmJ {B:Nat}{a w:World}(h:Below B a w){b:Nat}(hb:B<=b)(o:Nat)(v0 v1 v2 v3 v4 v5 v6 v7 v8 v9 v10:Value):Below B a (zmn w b o v0 v1 v2 v3 v4 v5 v6 v7 v8 v9 v10):=
 ((((((((((h.setCell hb v0).setCell hb v1).setCell hb v2).setCell hb v3).setCell hb v4).setCell hb v5).setCell hb v6).setCell hb v7).setCell hb v8).setCell hb v9).setCell hb v10
theorem zif (w:World)(b o b':Nat)(hb:b'≠b)(v0 v1 v2 v3 v4 v5 v6 v7 v8 v9 v10:Value):(zmn w b o v0 v1 v2 v3 v4 v5 v6 v7 v8 v9 v10).heap[b']?=w.heap[b']?:=by
 unfold zmn
 iterate 11 rw[Below.heap_setCell _ _ _ _ hb]
theorem zot (C:AV)(o:Nat)(v0 v1 v2 v3 v4 v5 v6 v7 v8 v9 v10:Value):(zjR C o v0 v1 v2 v3 v4 v5 v6 v7 v8 v9 v10).size=C.size:=by simp[zjR]
theorem zpX (C:AV)(o i:Nat)(v0 v1 v2 v3 v4 v5 v6 v7 v8 v9 v10:Value)(h:i<o \/ o+11<=i):(zjR C o v0 v1 v2 v3 v4 v5 v6 v7 v8 v9 v10)[i]?=C[i]?:=by
 unfold zjR
 iterate 11 rw[Array.getElem?_setIfInBounds,if_neg (by omega)]
theorem zqo (C:AV)(o j:Nat)(v0 v1 v2 v3 v4 v5 v6 v7 v8 v9 v10:Value)(hj:j<11)(ho:o+11<=C.size):(zjR C o v0 v1 v2 v3 v4 v5 v6 v7 v8 v9 v10)[o+j]?=(#[v0,v1,v2,v3,v4,v5,v6,v7,v8,v9,v10]:AV)[j]?:=by
 have hc:j=0 \/ j=1 \/ j=2 \/ j=3 \/ j=4 \/ j=5 \/ j=6 \/ j=7 \/ j=8 \/ j=9 \/ j=10:=by omega
 unfold zjR
 rcases hc with h|h|h|h|h|h|h|h|h|h|h <;> subst h <;> simp[Array.getElem?_setIfInBounds] <;> omega
theorem zdn (a:OA)(cap:Nat)(ws:List BA)(w:World)(hw:zF w a ws)(hl:ws.length<=1048576) :
 Calls Tryz.prog 120 #[.l a ws.length cap] w fun e w'=>e=.returned (.l (some (aD w.heap.size 0)) ws.length ws.length)/\w'=w.alloc (.cells (jS ws) 9):=by
 have hmk:∀w:World,(Instr.makeSlice 106 (.i ws.length) (.i ws.length)).run Tryz.prog w=.ok (.l (some (aD w.heap.size 0)) ws.length ws.length) (w.alloc (.cells (strCells ws 0) 9)):=by
  intro w;have h:=run_make_row' (P:=Tryz.prog) 106 9 (.s ByteArray.empty) 16 Tryz.underlying106 (by kernel_rfl) rfl .i64 .i64 ws.length (by omega) (by omega) w;rw[zkW]at h;exact h
 go_enter Tryz.func120,Tryz.ntmps120
 go_wp2
 clear hmk
 go_loopw [4] (fun i wr=>∃k:Nat,k<=ws.length/\i=.i k/\wr=w.alloc (.cells (strCells ws k) 9)) (fun i _=>ws.length-(intOf i).toNat)
 case atStart=>exact⟨0,Nat.zero_le _,rfl,rfl⟩
 case round=>
  obtain⟨k,hk,rfl,rfl⟩:=hrel
  by_cases hlt:k<ws.length
  ·obtain⟨b,off,rfl,hb,hc⟩:=hw.cells (by rintro rfl;simp at hlt)
   clear hw;have hck:=hc k hlt;have hold:=znG ws k hlt;have HS:=hid (zl5 ws k hlt);clear hc
   go_wp2
   go_roundw
   case rel=>exact⟨k+1,by omega,by go_num,by rw[HS.o]⟩
   case measure=>simp[intOf];omega
  ·have HA:=hid (zl2 ws k (by omega))
   clear hw
   go_wp2
   go_ret;exact⟨rfl,by rw[HA.o]⟩
theorem zoE (w:World)(o1 o2 o3 o4:Obj):Bw w ((((w.alloc o1).alloc o2).alloc o3).alloc o4):=
 (((bAl _ _).alloc (by simp) _).alloc (by simp;omega) _).alloc (by simp;omega) _
theorem at4 (w:World)(o1 o2 o3 o4:Obj):((((w.alloc o1).alloc o2).alloc o3).alloc o4).heap[w.heap.size+1+1+1]?=some o4:=by
 have h:=MapKept.heap_alloc (((w.alloc o1).alloc o2).alloc o3) o4
 simpa using h.1
theorem zi1 (nm:BA)(kd ls ms:Int)(a:OA)(cap:Nat)(ws:List BA)(to:BA)(rl:Int)(mu fx:Bool)(df wg:BA)(w:World)(hw:zF w a ws)(hl:ws.length<=1048576) :
 Calls Tryz.prog 154 #[.agg #[.s nm,.i kd,.i ls,.i ms,.l a ws.length cap,.s to,.i rl,.bool mu,.bool fx,.s df,.s wg]] w
  fun e w'=>∃bk,e=.returned (.agg #[.s nm,.i kd,.i ls,.i ms,.l (some (aD bk 0)) ws.length ws.length,.s to,.i rl,.bool mu,.bool fx,.s df,.s wg]) /\
   w.heap.size<=bk/\bk<w'.heap.size/\w'.heap[bk]?=some (.cells (jS ws) 9)/\Bw w w':=by
 go_enter Tryz.func154,Tryz.ntmps154
 go_wp2_with (go_at_call 120;refine(zdn _ _ _ _ (by exact hw.mono (((bAl _ _).alloc (by simp) _).alloc (by simp;omega) _)) hl).mono ?_;rintro e w'⟨rfl,rfl⟩)
 refine bodyPost_ret (v:=.agg #[.s nm,.i kd,.i ls,.i ms,.l (some (aD (w.heap.size+1+1+1) 0)) ws.length ws.length,.s to,.i rl,.bool mu,.bool fx,.s df,.s wg]) (by simp[results,Tryz.results154,go_sem]) rfl ⟨w.heap.size+1+1+1,rfl,by omega,by simp,at4 _ _ _ _ _,zoE _ _ _ _ _⟩
end Go.Proofs.YtecncindgjdbiaaGreat
