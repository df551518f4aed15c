import Derived.Test.YtedangodjiolaaaGreatM03
import Derived.SliceStrings
import Derived.Deep.QuietTactic
import Derived.BigQuiet
set_option maxHeartbeats 1000000
namespace Go.Proofs.YtedangodjiolaaaGreat
open Go.RowKit
theorem zmi {w:World}{lo:Nat}{a:OA}{n cap:Nat}{row:List BA}(h:w.ownsRow lo 9 1 (.l a n cap) row.length (row.map Value.string))(hl:row.length<=maxLen)(hs:∀s∈row,s.size<=maxLen):zK w a row:=by
 refine⟨hl,hs,fun hne=>?_⟩;obtain⟨_,⟨h0,h1⟩|⟨g,cp,cur,h0,h1⟩⟩:=id h
 ·exact absurd (List.length_eq_zero_iff.1 h1) hne
 ·cases h0
  refine⟨g,0,rfl,(h.lt g rfl).2,fun i hi=>?_⟩;rw[Nat.zero_add,h.cellAt i (by omega)]
  simp[hi]
end Go.Proofs.YtedangodjiolaaaGreat
namespace Go.Proofs.YtedangodjiolaaaGreat.LawWorldOk
open Go.ChangeShapes Go.WideShapes Go.ChangeAt Go.RowKit
theorem closed:joinedFacts Tryz.pinned.checked.prog 3 Tryz.f3 Rows.fnExactGateWorldOkSpec Rows.fnExactGateWorldOkRow=true:=by
 unfold joinedFacts;rw[kInPlace,kUnfol,kRecur,kNamed,kLaid,kMaps,kMay,kLifts]
 kernel_rfl
end Go.Proofs.YtedangodjiolaaaGreat.LawWorldOk
namespace Go.Proofs.YtedangodjiolaaaGreat
open Go.ChangeShapes Go.WideShapes Go.ChangeAt Go.RowKit
section
variable {H:Type} {enc:TypeId × Value->H} {P:Program} {w:World} {base:Nat} {spare:Nat->Bool} {held:Bool}
theorem zgN {a:Addr}{v:Value}(h:w.cell? a=some v):a=(aD a.block a.off)/\a.block<w.heap.size:=by
 obtain⟨b,o,s⟩:=a;unfold World.cell? at h
 cases hb:w.heap[b]? with
 | none=>simp[hb]at h
 | some x=>
  have hlt:=(gES hb).1
  cases s with
  | none=>exact⟨rfl,hlt⟩
  | some k=>cases x <;> simp[hb]at h
theorem zd0 {t e:TypeId}{fuel:Nat}{cs:List Value}{x:DataW H × List MemPlace}(ht:P.underlying t=some (.slice e))(he:P.underlying e=some .string)(hc:P.cellsOf e=1)
 (h:DataW.trod enc P w base spare held fuel t cs=some x):∃a cap ws,cs=[.l a ws.length cap]/\zK w a ws:=by
 rcases open_strings ht he hc h with⟨rfl,_⟩|⟨a,len,cap,ss,rfl,_,hl,hm,hz,_,hcell,hws⟩
 ·exact⟨none,0,[],rfl,⟨by simp[maxLen],by simp,fun h=>absurd rfl h⟩⟩
 ·have hle:len<=ss.length:=by rw[hz];split <;> omega
  have hlen:(ss.take len).length=len:=by rw[List.length_take];omega
  refine⟨some a,cap,ss.take len,by rw[hlen],⟨by rw[hlen];omega,fun s hs=>hws s (List.mem_of_mem_take hs),fun hne=>?_⟩⟩
  have hpos:0<len:=by
   rcases Nat.eq_zero_or_pos len with h0|h0
   ·rw[h0]at hne;simp at hne
   ·exact h0
  have h0:=hcell 0 (by omega);obtain⟨ha,hb⟩:=zgN h0;simp only[Addr.add,if_true]at ha hb;refine⟨a.block,a.off,by rw[<- ha],hb,fun i hi=>?_⟩;have hi':i<len:=by omega
  have h1:=hcell i (by omega)
  have e1:a.add i=(aD a.block (a.off+i)):=by
   unfold Addr.add;split
   ·rename_i h;subst h;simpa using ha
   ·rfl
  rw[e1]at h1;rw[h1,List.getElem_take,List.getD_eq_getElem?_getD,List.getElem?_eq_getElem (by omega)]
  rfl
theorem zfR {t:TypeId}{fs:Array Field}{fuel:Nat}{cs:List Value}{x:DataW H × List MemPlace}(ht:P.underlying t=some (.struct fs))(h:DataW.trod enc P w base spare held fuel t cs=some x)
 (i:Nat) (f:Field) (hf:fs[i]?=some f):∃n y,DataW.trod enc P w base spare held n f.type ((cs.drop f.offset).take (P.cellsOf f.type))=some y:=by
 obtain⟨xs,n,_,_,_,hxl,hall⟩:=DataW.trod_struct ht h;have hi:i<fs.size:=(gES hf).1;exact⟨n,xs[i]'(by omega),by rw[hall i f hf,List.getElem?_eq_getElem (by omega)]⟩
theorem jd {t:TypeId}{fs:Array Field}{fuel:Nat}{cs:List Value}{x:DataW H × List MemPlace}(ht:P.underlying t=some (.struct fs))(h:DataW.trod enc P w base spare held fuel t cs=some x)
 (i tf off:Nat) (c:Value) (hf:(fs[i]?).map (fun f=>(f.type,f.offset))=some (tf,off)) (hone:P.cellsOf tf=1) (hc:cs[off]?=some c):∃n y,DataW.trod enc P w base spare held n tf [c]=some y:=by
 obtain⟨f,hf1,hf2⟩:=Option.map_eq_some_iff.1 hf;simp only[Prod.mk.injEq]at hf2;obtain⟨rfl,rfl⟩:=hf2;obtain⟨n,y,hy⟩:=zfR ht h i f hf1;rw[hone]at hy;obtain⟨hlt,hget⟩:=List.getElem?_eq_some_iff.1 hc;rw[List.drop_eq_getElem_cons hlt,hget]at hy;exact⟨n,y,hy⟩
end
theorem za1 {α:Type}{P:Nat->α->Prop}:∀n:Nat,(∀i,i<n->∃x,P i x)->∃l:List α,l.length=n/\∀i (h:i<l.length),P i l[i]
 | 0,_=>⟨[],rfl,fun i h=>absurd h (by simp)⟩
 | n+1,h=>by
  obtain⟨l,hl,hP⟩:=za1 n (fun i hi=>h i (by omega));obtain⟨x,hx⟩:=h n (by omega);refine⟨l++[x],by simp[hl],fun i hi=>?_⟩
  rcases Nat.lt_or_ge i n with h1|h1
  ·rw[List.getElem_append_left (by omega)];exact hP i (by omega)
  ·have e:i=n:=by simp at hi;omega
   subst e;rw[List.getElem_append_right (by omega)]
   simpa[hl] using hx
theorem add_add (b o m j:Nat):(((aD b o):Addr).add m).add j=(aD b (o+m+j)):=by
 unfold Addr.add
 by_cases h1:m=0 <;> by_cases h2:j=0 <;> simp[h1,h2]
section
variable {H:Type} {enc:TypeId × Value->H} {P:Program} {w:World} {base:Nat} {spare:Nat->Bool} {held:Bool}
theorem j6 {t e:TypeId}{sz fuel:Nat}{cs:List Value}{x:DataW H × List MemPlace}(ht:P.underlying t=some (.slice e))(hsz:P.cellsOf e=sz)(hpos:0<sz)
 (h:DataW.trod enc P w base spare held fuel t cs=some x) :
 ∃a len cap,cs=[.l a len cap]/\len<=maxLen/\(0<len->∃b off,a=some (aD b off)/\b<w.heap.size /\
  ∀i,i<len->∃es n y,es.length=sz/\(∀j,j<sz->w.cell? (aD b (off+i*sz+j))=es[j]?)/\DataW.trod enc P w base spare held n e es=some y):=by
 rcases DataW.trod_slice ht h with⟨rfl,_⟩|⟨a,len,cap,elems,rest,n,_,rfl,_,hb,hl,hm,hlen,hel,_,_⟩
 ·exact⟨none,0,0,rfl,by simp[maxLen],fun h=>absurd h (by omega)⟩
 ·refine⟨some a,len,cap,rfl,by omega,fun hp=>?_⟩
  have each:∀i,i<len->∃es y,w.cells? base (a.add (i*sz)) sz=some es/\DataW.trod enc P w base spare held n e es=some y:=by
   intro i hi;have h1:=hel i hi;rw[hsz,List.getElem?_eq_getElem (by omega),Option.bind_eq_some_iff]at h1;obtain⟨es,h2,h3⟩:=h1;exact⟨es,_,h2,h3⟩
  obtain⟨es0,y0,hc0,_⟩:=each 0 hp;obtain⟨_,_,hcell0⟩:=World.cells?_some hc0;have h00:=hcell0 0 hpos
  have hes0:∃v,w.cell? a=some v:=by
   have hl0:=(World.cells?_some hc0).2.1;refine⟨es0[0]'(by omega),?_⟩
   have:=h00
   simp only[Nat.zero_mul,Addr.add,if_true]at this;rw[this,List.getElem?_eq_getElem (by omega)]
  obtain⟨v0,hv0⟩:=hes0;obtain⟨ha,hbl⟩:=zgN hv0;refine⟨a.block,a.off,by rw[<- ha],hbl,fun i hi=>?_⟩;obtain⟨es,y,hc,hy⟩:=each i hi;obtain⟨_,hlen',hcell⟩:=World.cells?_some hc;refine⟨es,n,y,hlen',fun j hj=>?_,hy⟩
  have e1:(a.add (i*sz)).add j=(aD a.block (a.off+i*sz+j)):=by
   have:=add_add a.block a.off (i*sz) j
   rwa [<- ha]at this
  rw[<- e1];exact hcell j hj
end
theorem Tryz.zL:Tryz.prog.cellsOf 9=1:=by kernel_rfl
theorem Tryz.qY:Tryz.prog.cellsOf 3=1:=by kernel_rfl
theorem Tryz.zfk:Tryz.prog.cellsOf 4=1:=by kernel_rfl
end Go.Proofs.YtedangodjiolaaaGreat
namespace Go.Proofs.YtedangodjiolaaaGreat
open Go.RowKit
def zcc (ws:List BA):Nat:=(ws.map ByteArray.size).sum
def yL (ws:List BA):Nat:=ws.length+zcc ws
theorem znV (ws:List BA)(k:Nat)(h:k<ws.length):zcc (ws.take (k+1))=zcc (ws.take k)+ws[k].size:=by
 unfold zcc;rw[tSe h,List.map_append,List.sum_append];simp
theorem zpX (ws:List BA)(k:Nat):zcc (ws.take k)<=zcc ws:=by
 unfold zcc
 conv=>rhs;rw[<- List.take_append_drop k ws]
 rw[List.map_append,List.sum_append];omega
theorem zpL (ws:List BA)(k:Nat)(h:ws.length<=k):zcc (ws.take k)=zcc ws:=by rw[tOl h]
theorem zfu (a:OA)(cap:Nat)(ws:List BA)(left:Int)(w:World)(hw:zK w a ws)(h0:0<=left)(h1:left<=1048576) :
 Calls Tryz.prog 118 #[.l a ws.length cap,.i left] w fun e w'=>e=.returned (.i (zD (yL ws) left))/\w'=w:=by
 have hl:=hw.len;unfold maxLen at hl
 by_cases hfit:(ws.length:Int)<=left
 ·go_enter Tryz.func118,Tryz.ntmps118
  go_wp2
  go_loop [1,5] (fun l i=>∃k:Nat,k<=ws.length/\i=.i k/\0<=left-ws.length-zcc (ws.take k)/\l=.i (left-ws.length-zcc (ws.take k))) (fun _ i=>ws.length-(intOf i).toNat)
  case atStart=>exact⟨0,Nat.zero_le _,rfl,by simp[zcc];omega,by simp[zcc]⟩
  case round=>
   obtain⟨k,hk,rfl,hpos,rfl⟩:=hrel
   by_cases hlt:k<ws.length
   ·obtain⟨b,off,rfl,hb,hc⟩:=hw.cells (by rintro rfl;simp at hlt)
    have hsm:=hw.small _ (List.getElem_mem hlt);unfold maxLen at hsm;clear hw;have hck:=hc k hlt;have HS:Hid (zcc (ws.take (k+1))=zcc (ws.take k)+ws[k].size):=znV ws k hlt;have hle:=zpX ws (k+1);clear hc
    by_cases hneg:left-ws.length-zcc (ws.take k)-ws[k].size<0
    ·have HF:Hid (zD (yL ws) left=-1):=zq (by have:=HS.o;unfold yL;omega)
     clear hle
     go_wp2
     go_ret;exact⟨zl HF.o.symm,rfl⟩
    ·clear hle
     go_wp2
     go_round
     case rel=>exact⟨k+1,by omega,by go_num,by rw[HS.o];omega,by rw[HS.o];go_num⟩
     case measure=>simp[intOf];omega
   ·have HF:Hid (zD (yL ws) left=left-ws.length-zcc (ws.take k)):=by
     rw[zpL ws k (by omega)]at hpos ⊢;have e:zD (yL ws) left=left-yL ws:=zF (by unfold yL;omega);unfold Hid;rw[e];unfold yL;omega
    clear hw
    go_wp2
    go_ret;exact⟨zl HF.o.symm,rfl⟩
 ·have HF:Hid (zD (yL ws) left=-1):=zq (by unfold yL;omega)
  clear hw;go_enter Tryz.func118,Tryz.ntmps118
  go_wp2
  go_ret;exact⟨zl HF.o.symm,rfl⟩
theorem zbb (a a':OA)(cap cap':Nat)(ws:List BA)(w:World)(hw:zK w a ws)(hw':zK w a' ws) :
 Calls Tryz.prog 173 #[.l a ws.length cap,.l a' ws.length cap'] w fun e w'=>e=.returned (.bool true)/\Bw w w':=by
 have hl:=hw.len;unfold maxLen at hl;have hnn:((ws.length:Int) != ws.length)=false:=by simp
 go_enter Tryz.func173,Tryz.ntmps173
 go_wp2
 go_loopw [5] (fun i wr=>∃k:Nat,k<=ws.length/\i=.i k/\∃n,wr=w.drewN n) (fun i _=>ws.length-(intOf i).toNat)
 case atStart=>exact⟨0,Nat.zero_le _,rfl,0,rfl⟩
 case round=>
  obtain⟨k,hk,rfl,nd,rfl⟩:=hrel
  by_cases hlt:k<ws.length
  ·obtain⟨b,off,rfl,hb,hc⟩:=hw.cells (by rintro rfl;simp at hlt)
   obtain⟨b',off',rfl,hb',hc'⟩:=hw'.cells (by rintro rfl;simp at hlt);clear hw hw';have hck:=hc k hlt;have hck':=hc' k hlt;have hltI:(k:Int)<(ws.length:Int):=by omega
   clear hc hc'
   go_wp2
   go_quiet (fail)
   go_wp2
   exact⟨⟨k+1,by omega,by go_num,nd+nq,rfl⟩,by simp[intOf];omega⟩
  ·clear hw hw'
   go_wp2
   go_ret;exact⟨rfl,below_drewN (bRf _ _) nd⟩
theorem ziL (nm:BA)(kd ls ms:Int)(a a':OA)(cap cap':Nat)(ws:List BA)(to:BA)(rl:Int)(mu fx:Bool)(df wg:BA)(w:World)(hw:zK w a ws)(hw':zK w a' ws) :
 Calls Tryz.prog 172 #[.agg #[.s nm,.i kd,.i ls,.i ms,.l a ws.length cap,.s to,.i rl,.bool mu,.bool fx,.s df,.s wg],.agg #[.s nm,.i kd,.i ls,.i ms,.l a' ws.length cap',.s to,.i rl,.bool mu,.bool fx,.s df,.s wg]] w
  fun e w'=>e=.returned (.bool true)/\Bw w w':=by
 go_enter Tryz.func172,Tryz.ntmps172
 go_wp2_with (go_at_call 173;refine(zbb _ _ _ _ _ _ (by exact hw.mono (zx _ _ _)) (by exact hw'.mono (zx _ _ _))).mono ?_;rintro e w1⟨rfl,hb1⟩;have hc1:=(zrh hb1).1;have hz1:=hb1.size;simp only[World.size_alloc]at hz1)
 go_ret;exact⟨rfl,(zx _ _ _).trans (hb1.mono (by simp;omega))⟩
def zaC (nm:BA)(ws:List BA)(to df wg:BA):Nat:=nm.size+yL ws+to.size+df.size+wg.size
theorem yK (a:OA)(cap:Nat)(ws:List BA)(left:Int)(w:World)(hw:zK w a ws)(h0:0<=left)(h1:left<=1048576)(h:(yL ws:Int)<=left) :
 Calls Tryz.prog 118 #[.l a ws.length cap,.i left] w fun e w'=>e=.returned (.i (left-yL ws))/\w'=w:=by
 refine(zfu a cap ws left w hw h0 h1).mono ?_;rintro e w'⟨rfl,rfl⟩;exact⟨zl (zF h),rfl⟩
theorem zbP (a:OA)(cap:Nat)(ws:List BA)(left:Int)(w:World)(hw:zK w a ws)(h0:0<=left)(h1:left<=1048576)(h:¬(yL ws:Int)<=left) :
 Calls Tryz.prog 118 #[.l a ws.length cap,.i left] w fun e w'=>e=.returned (.i (-1))/\w'=w:=by
 refine(zfu a cap ws left w hw h0 h1).mono ?_;rintro e w'⟨rfl,rfl⟩;exact⟨zl (zq h),rfl⟩
theorem zeB (nm:BA)(kd ls ms:Int)(a:OA)(cap:Nat)(ws:List BA)(to:BA)(rl:Int)(mu fx:Bool)(df wg:BA)(left:Int)(w:World)(hw:zK w a ws)(h0:0<=left)(h1:left<=1048576)
 (hnm:nm.size<=maxLen) (hto:to.size<=maxLen) (hdf:df.size<=maxLen) (hwg:wg.size<=maxLen) :
 Calls Tryz.prog 117 #[.agg #[.s nm,.i kd,.i ls,.i ms,.l a ws.length cap,.s to,.i rl,.bool mu,.bool fx,.s df,.s wg],.i left] w fun e w'=>e=.returned (.i (zD (zaC nm ws to df wg) left))/\Bw w w':=by
 unfold maxLen at hnm hto hdf hwg
 by_cases c1:(nm.size:Int)<=left
 rotate_left
 ·have HF:Hid (zD (zaC nm ws to df wg) left=-1):=zq (by unfold zaC;omega)
  go_enter Tryz.func117,Tryz.ntmps117;go_wp2_with fail
  go_ret;exact⟨zl HF.o.symm,bAl _ _⟩
 by_cases c2:(yL ws:Int)<=left-nm.size
 rotate_left
 ·have HF:Hid (zD (zaC nm ws to df wg) left=-1):=zq (by unfold zaC;omega)
  go_enter Tryz.func117,Tryz.ntmps117
  go_wp2_with (go_at_call 118;refine(zbP _ _ _ _ _ (by exact hw.mono (bAl _ _)) (by omega) (by omega) (by omega)).mono ?_;rintro e w1⟨rfl,rfl⟩)
  go_ret;exact⟨zl HF.o.symm,bAl _ _⟩
 by_cases c3:(to.size:Int)<=left-nm.size-yL ws
 rotate_left
 ·have HF:Hid (zD (zaC nm ws to df wg) left=-1):=zq (by unfold zaC;omega)
  go_enter Tryz.func117,Tryz.ntmps117
  go_wp2_with (go_at_call 118;refine(yK _ _ _ _ _ (by exact hw.mono (bAl _ _)) (by omega) (by omega) (by omega)).mono ?_;rintro e w1⟨rfl,rfl⟩)
  go_ret;exact⟨zl HF.o.symm,bAl _ _⟩
 by_cases c4:(df.size:Int)<=left-nm.size-yL ws-to.size
 rotate_left
 ·have HF:Hid (zD (zaC nm ws to df wg) left=-1):=zq (by unfold zaC;omega)
  go_enter Tryz.func117,Tryz.ntmps117
  go_wp2_with (go_at_call 118;refine(yK _ _ _ _ _ (by exact hw.mono (bAl _ _)) (by omega) (by omega) (by omega)).mono ?_;rintro e w1⟨rfl,rfl⟩)
  go_ret;exact⟨zl HF.o.symm,bAl _ _⟩
 by_cases c5:(wg.size:Int)<=left-nm.size-yL ws-to.size-df.size
 rotate_left
 ·have HF:Hid (zD (zaC nm ws to df wg) left=-1):=zq (by unfold zaC;omega)
  go_enter Tryz.func117,Tryz.ntmps117
  go_wp2_with (go_at_call 118;refine(yK _ _ _ _ _ (by exact hw.mono (bAl _ _)) (by omega) (by omega) (by omega)).mono ?_;rintro e w1⟨rfl,rfl⟩)
  go_ret;exact⟨zl HF.o.symm,bAl _ _⟩
 ·have HF:Hid (zD (zaC nm ws to df wg) left=left-nm.size-yL ws-to.size-df.size-wg.size):=by
   have e:zD (zaC nm ws to df wg) left=left-zaC nm ws to df wg:=zF (by unfold zaC;omega);unfold Hid;rw[e];unfold zaC;omega
  go_enter Tryz.func117,Tryz.ntmps117
  go_wp2_with (go_at_call 118;refine(yK _ _ _ _ _ (by exact hw.mono (bAl _ _)) (by omega) (by omega) (by omega)).mono ?_;rintro e w1⟨rfl,rfl⟩)
  go_ret;exact⟨zl HF.o.symm,bAl _ _⟩
theorem zeJ.load {w:World}{b off:Nat}{f:Fld}{a:OA}{cap:Nat}(h:zeJ w b off f a cap) :
 w.cell? (aD b off)=some (.s f.nm)/\w.cell? (aD b (off+1))=some (.i f.kd)/\w.cell? (aD b (off+2))=some (.i f.ls)/\w.cell? (aD b (off+3))=some (.i f.ms) /\
 w.cell? (aD b (off+4))=some (.l a f.ws.length cap)/\w.cell? (aD b (off+5))=some (.s f.to)/\w.cell? (aD b (off+6))=some (.i f.rl)/\w.cell? (aD b (off+7))=some (.bool f.mu) /\
 w.cell? (aD b (off+8))=some (.bool f.fx)/\w.cell? (aD b (off+9))=some (.s f.df)/\w.cell? (aD b (off+10))=some (.s f.wg):=
 ⟨h.cell 0 (by omega),h.cell 1 (by omega),h.cell 2 (by omega),h.cell 3 (by omega),h.cell 4 (by omega),h.cell 5 (by omega),h.cell 6 (by omega),h.cell 7 (by omega),h.cell 8 (by omega),h.cell 9 (by omega),h.cell 10 (by omega)⟩
end Go.Proofs.YtedangodjiolaaaGreat
namespace Go.Proofs.YtedangodjiolaaaGreat
def up (P:Nat->Bool)(n:Nat):Bool:=(List.range n).all P
theorem jh (P:Nat->Bool)(n:Nat):up P (n+1)=(up P n&&P n):=by simp[up,List.range_succ,List.all_append]
theorem zaY {P:Nat->Bool}{k n:Nat}(h:k<n)(hk:P k=false):up P n=false:=by
 unfold up;rw[List.all_eq_false];exact⟨k,List.mem_range.2 h,by simp[hk]⟩
theorem zhS {P:Nat->Bool}{k n:Nat}(h:k<n)(hu:up P n=true):P k=true:=by
 unfold up at hu;rw[List.all_eq_true]at hu;exact hu k (List.mem_range.2 h)
def less (a b:BA):Bool:=Op.bytesLess a.toList b.toList
def zdM (ws:List BA)(i:Nat):Bool:=zk (ws.getD i ByteArray.empty)&&(decide (i=0)||less (ws.getD (i-1) ByteArray.empty) (ws.getD i ByteArray.empty))
def asc (ws:List BA):Bool:=up (zdM ws) ws.length
theorem getD_at {α:Type}(l:List α)(i:Nat)(d:α)(h:i<l.length):l.getD i d=l[i]:=by
 rw[List.getD_eq_getElem?_getD,List.getElem?_eq_getElem h];rfl
theorem zjC {ws:List BA}{k:Nat}(h:k<ws.length)(hn:zk ws[k]=false):zdM ws k=false:=by
 unfold zdM;rw[getD_at ws k _ h,hn];rfl
theorem zhR {ws:List BA}(h:0<ws.length)(hn:zk ws[0]=true):zdM ws 0=true:=by
 unfold zdM;rw[getD_at ws 0 _ h,hn];rfl
theorem zen {ws:List BA}{k:Nat}(h:k+1<ws.length)(hn:zk ws[k+1]=true):zdM ws (k+1)=less ws[k] ws[k+1]:=by
 unfold zdM;rw[getD_at ws (k+1) _ h,Nat.add_sub_cancel,getD_at ws k _ (by omega),hn];simp
def yR (kd ls ms:Int)(n:Nat)(to:BA)(rl:Int)(wg:BA):Bool:=
 if kd=1 then decide (n=0)&&to.toList.isEmpty&&decide (rl=0)
 else if kd=2 then decide (ls=0)&&decide (ms=0)&&to.toList.isEmpty&&decide (rl=0)&&wg.toList.isEmpty
 else if kd=3 then decide (n=0)&&to.toList.isEmpty&&decide (rl=0)&&wg.toList.isEmpty
 else if kd=4 then decide (ls=0)&&decide (ms=0)&&decide (n=0)&&wg.toList.isEmpty
 else false
def jH (ls ms lo hi:Int):Bool:=decide (lo<=ls)&&decide (ls<=ms)&&decide (ms<=hi)
def zC (ss:List Shp)(k:BA):Bool:=ss.any fun s=>decide (s.kd=k)
def zT (ss:List Shp)(f:Fld):Bool:=
 if f.kd=1 then jH f.ls f.ms 0 1000000&&(f.wg.toList.isEmpty||zk f.wg)
 else if f.kd=2 then decide (1<=f.ws.length)&&decide (f.ws.length<=6)&&asc f.ws
 else if f.kd=3 then jH f.ls f.ms 1 40
 else if f.kd=4 then zC ss f.to&&(decide (1<=f.rl)&&decide (f.rl<=3))&&f.df.toList.isEmpty&&(decide (f.rl≠2)||!f.mu)
 else false
def bare (f:Fld):Bool:=yR f.kd f.ls f.ms f.ws.length f.to f.rl f.wg
def zfG (f:Fld)(v:BA):Bool:=fits f.kd f.ls f.ms f.ws v
def zrq (f:Fld):Bool:=f.df.toList.isEmpty||zfG f f.df
def yI (ss:List Shp)(f:Fld):Bool:=bare f&&zT ss f&&zrq f
def zcC:Shp:=⟨ByteArray.empty,[]⟩
def shapeOf (ss:List Shp)(k:BA):Shp:=(ss.find? fun s=>decide (s.kd=k)).getD zcC
theorem zf4 (ss:List Shp)(v:BA)(k:Nat)(h:k<ss.length):zC (ss.take (k+1)) v=(zC (ss.take k) v||decide (ss[k].kd=v)):=by
 unfold zC;rw[tSe h,List.any_append];simp
theorem zkn (ss:List Shp)(v:BA)(k:Nat)(h:k<ss.length)(e:ss[k].kd=v):zC ss v=true:=by
 unfold zC;rw[List.any_eq_true];exact⟨ss[k],List.getElem_mem h,by simpa using e⟩
theorem zhK (ss:List Shp)(v:BA)(k:Nat)(h:ss.length<=k):zC (ss.take k) v=zC ss v:=by rw[tOl h]
theorem zfS (ss:List Shp)(v:BA)(k:Nat)(h:k<ss.length)(hb:zC (ss.take k) v=false)(e:ss[k].kd=v):shapeOf ss v=ss[k]:=by
 unfold shapeOf
 have hn:(ss.take k).find? (fun s=>decide (s.kd=v))=none:=by
  rw[List.find?_eq_none];intro x hx;unfold zC at hb;rw[List.any_eq_false]at hb;exact hb x hx
 conv=>lhs;rw[<- List.take_append_drop k ss]
 rw[List.find?_append,hn,List.drop_eq_getElem_cons h,List.find?_cons_of_pos (by simpa using e)];rfl
theorem zlH (ss:List Shp)(v:BA)(hb:zC ss v=false):shapeOf ss v=zcC:=by
 unfold shapeOf
 have hn:ss.find? (fun s=>decide (s.kd=v))=none:=by
  rw[List.find?_eq_none];intro x hx;unfold zC at hb;rw[List.any_eq_false]at hb;exact hb x hx
 rw[hn];rfl
def hasName (fs:List Fld)(v:BA):Bool:=fs.any fun f=>decide (f.nm=v)
def zS (fs:List Fld)(v:BA):Int:=match fs.findIdx? (fun f=>decide (f.nm=v)) with|some i=>i|none=>-1
theorem zem (fs:List Fld)(v:BA)(k:Nat)(h:k<fs.length):hasName (fs.take (k+1)) v=(hasName (fs.take k) v||decide (fs[k].nm=v)):=by
 unfold hasName;rw[tSe h,List.any_append];simp
theorem zhI (fs:List Fld)(v:BA)(k:Nat)(h:fs.length<=k):hasName (fs.take k) v=hasName fs v:=by rw[tOl h]
theorem zd7 (fs:List Fld)(v:BA)(k:Nat)(h:k<fs.length)(hb:hasName (fs.take k) v=false)(e:fs[k].nm=v):zS fs v=k:=by
 unfold zS
 have hf:fs.findIdx? (fun f=>decide (f.nm=v))=some k:=by
  rw[List.findIdx?_eq_some_iff_getElem];refine⟨h,by simpa using e,fun j hj=>?_⟩;unfold hasName at hb;rw[List.any_eq_false]at hb
  have hm:fs[j]∈fs.take k:=by
   rw[List.mem_iff_getElem];exact⟨j,by simp;omega,by simp⟩
  exact hb _ hm
 rw[hf]
theorem zgJ (fs:List Fld)(v:BA)(hb:hasName fs v=false):zS fs v=-1:=by
 unfold zS
 have hf:fs.findIdx? (fun f=>decide (f.nm=v))=none:=by
  rw[List.findIdx?_eq_none_iff];intro x hx;unfold hasName at hb;rw[List.any_eq_false]at hb
  simpa using hb x hx
 rw[hf]
theorem zks (fs:List Fld)(v:BA)(k:Nat)(h:k<fs.length)(hh:hasName (fs.take k) v=true):∃j,j<k/\zS fs v=j:=by
 unfold hasName at hh;rw[List.any_eq_true]at hh;obtain⟨x,hx,he⟩:=hh;obtain⟨j,hj,rfl⟩:=List.mem_iff_getElem.1 hx;have hjk:j<k:=by simp at hj;omega
 have hjl:j<fs.length:=by omega
 have hv:fs[j].nm=v:=by simpa using he
 cases hf:fs.findIdx? (fun f=>decide (f.nm=v)) with
 | none=>
  rw[List.findIdx?_eq_none_iff]at hf
  have:=hf fs[j] (List.getElem_mem hjl)
  simp[hv]at this
 | some i=>
  refine⟨i,?_,by unfold zS;rw[hf]⟩;rw[List.findIdx?_eq_some_iff_getElem]at hf;obtain⟨hi,_,hmin⟩:=hf
  rcases Nat.lt_or_ge i k with h1|h1
  ·exact h1
  ·exfalso
   have:=hmin j (by omega)
   simp[hv]at this
def zbS:Fld:=⟨ByteArray.empty,0,0,0,[],ByteArray.empty,0,false,false,ByteArray.empty,ByteArray.empty⟩
def zeO (ss:List Shp)(fs:List Fld)(i:Nat):Bool:=
 zk (fs.getD i zbS).nm&&!hasName (fs.take i) (fs.getD i zbS).nm&&yI ss (fs.getD i zbS)
def y9 (ss:List Shp)(fs:List Fld):Bool:=decide (fs.length<=6)&&up (zeO ss fs) fs.length
theorem ziV (ss:List Shp)(fs:List Fld)(i:Nat)(h:i<fs.length):zeO ss fs i=(zk fs[i].nm&&!hasName (fs.take i) fs[i].nm&&yI ss fs[i]):=by
 unfold zeO;rw[getD_at fs i _ h]
def yX (ss:List Shp)(i:Nat):Bool:=
 zk (ss.getD i zcC).kd&&(decide (i=0)||less (ss.getD (i-1) zcC).kd (ss.getD i zcC).kd)&&y9 ss (ss.getD i zcC).fs
def zZ (ss:List Shp):Bool:=decide (ss.length<=6)&&up (yX ss) ss.length
theorem zfA (ss:List Shp)(h:0<ss.length):yX ss 0=(zk ss[0].kd&&y9 ss ss[0].fs):=by
 unfold yX;rw[getD_at ss 0 _ h];simp
theorem zgn (ss:List Shp)(k:Nat)(h:k+1<ss.length):yX ss (k+1)=(zk ss[k+1].kd&&less ss[k].kd ss[k+1].kd&&y9 ss ss[k+1].fs):=by
 unfold yX;rw[getD_at ss (k+1) _ h,Nat.add_sub_cancel,getD_at ss k _ (by omega)];simp
theorem zbY:∀x:List UInt8,Op.bytesLess x x=false
 | []=>rfl
 | a :: x=>by
  simp only[Op.bytesLess,Bool.or_eq_false_iff,decide_eq_false_iff_not,Bool.and_eq_false_iff];exact⟨fun h=>by simp at h,Or.inr (zbY x)⟩
theorem zbh:∀x y z:List UInt8,Op.bytesLess x y=true->Op.bytesLess y z=true->Op.bytesLess x z=true
 | _,[],_,h,_=>by simp[Op.bytesLess]at h
 | [],_ :: _,[],_,h=>by simp[Op.bytesLess]at h
 | [],_ :: _,_ :: _,_,_=>rfl
 | _ :: _,_ :: _,[],_,h=>by simp[Op.bytesLess]at h
 | a :: x,b :: y,c :: z,h,k=>by
  simp only[Op.bytesLess,Bool.or_eq_true,decide_eq_true_eq,Bool.and_eq_true,beq_iff_eq]at h k ⊢
  rcases h with h|⟨rfl,h⟩
  ·rcases k with k|⟨rfl,k⟩
   ·exact Or.inl (UInt8.lt_trans h k)
   ·exact Or.inl h
  ·rcases k with k|⟨rfl,k⟩
   ·exact Or.inl k
   ·exact Or.inr ⟨rfl,zbh x y z h k⟩
end Go.Proofs.YtedangodjiolaaaGreat
namespace Go.Proofs.YtedangodjiolaaaGreat
open Go.RowKit
theorem zi {w:World}{b o:Nat}{C:AV}{t:TypeId}(h:w.heap[b]?=some (.cells C t))(v:Value):(w.setCell (aD b o) v).heap[b]?=some (.cells (C.setIfInBounds o v) t):=by
 simp[World.setCell,Array.getElem?_modify,h]
theorem cell_of_block {w:World}{b o:Nat}{C:AV}{t:TypeId}(h:w.heap[b]?=some (.cells C t)):w.cell? (aD b o)=C[o]?:=by simp[World.cell?,h]
theorem zm {w:World}{b o:Nat}{C:AV}{t:TypeId}(h:w.heap[b]?=some (.cells C t)):w.frozen? (aD b o)=false:=by simp[World.frozen?,h]
def zmU (w:World)(b o:Nat)(v0 v1 v2 v3 v4 v5 v6 v7 v8 v9 v10:Value):World:=((((((((((w.setCell (aD b o) v0).setCell (aD b (o+1)) v1).setCell (aD b (o+2)) v2).setCell (aD b (o+3)) v3).setCell (aD b (o+4)) v4).setCell (aD b (o+5)) v5).setCell (aD b (o+6)) v6).setCell (aD b (o+7)) v7).setCell (aD b (o+8)) v8).setCell (aD b (o+9)) v9).setCell (aD b (o+10)) v10
def zj0 (C:AV)(o:Nat)(v0 v1 v2 v3 v4 v5 v6 v7 v8 v9 v10:Value):AV:=((((((((((C.setIfInBounds o v0).setIfInBounds (o+1) v1).setIfInBounds (o+2) v2).setIfInBounds (o+3) v3).setIfInBounds (o+4) v4).setIfInBounds (o+5) v5).setIfInBounds (o+6) v6).setIfInBounds (o+7) v7).setIfInBounds (o+8) v8).setIfInBounds (o+9) v9).setIfInBounds (o+10) v10
theorem zmL {w:World}{b o:Nat}{C:AV}{t:TypeId}(h:w.heap[b]?=some (.cells C t))(v0 v1 v2 v3 v4 v5 v6 v7 v8 v9 v10:Value):(zmU w b o v0 v1 v2 v3 v4 v5 v6 v7 v8 v9 v10).heap[b]?=some (.cells (zj0 C o v0 v1 v2 v3 v4 v5 v6 v7 v8 v9 v10) t):=
 zi (zi (zi (zi (zi (zi (zi (zi (zi (zi (zi h v0) v1) v2) v3) v4) v5) v6) v7) v8) v9) v10
theorem zni {B:Nat}{a w:World}(h:Below B a w){b:Nat}(hb:B<=b)(o:Nat)(v0 v1 v2 v3 v4 v5 v6 v7 v8 v9 v10:Value):Below B a (zmU w b o v0 v1 v2 v3 v4 v5 v6 v7 v8 v9 v10):=
 ((((((((((h.setCell hb v0).setCell hb v1).setCell hb v2).setCell hb v3).setCell hb v4).setCell hb v5).setCell hb v6).setCell hb v7).setCell hb v8).setCell hb v9).setCell hb v10
theorem zhW (w:World)(b o b':Nat)(hb:b'≠b)(v0 v1 v2 v3 v4 v5 v6 v7 v8 v9 v10:Value):(zmU w b o v0 v1 v2 v3 v4 v5 v6 v7 v8 v9 v10).heap[b']?=w.heap[b']?:=by
 unfold zmU
 iterate 11 rw[Below.heap_setCell _ _ _ _ hb]
theorem zoa (C:AV)(o:Nat)(v0 v1 v2 v3 v4 v5 v6 v7 v8 v9 v10:Value):(zj0 C o v0 v1 v2 v3 v4 v5 v6 v7 v8 v9 v10).size=C.size:=by simp[zj0]
theorem zph (C:AV)(o i:Nat)(v0 v1 v2 v3 v4 v5 v6 v7 v8 v9 v10:Value)(h:i<o \/ o+11<=i):(zj0 C o v0 v1 v2 v3 v4 v5 v6 v7 v8 v9 v10)[i]?=C[i]?:=by
 unfold zj0
 iterate 11 rw[Array.getElem?_setIfInBounds,if_neg (by omega)]
theorem zqH (C:AV)(o j:Nat)(v0 v1 v2 v3 v4 v5 v6 v7 v8 v9 v10:Value)(hj:j<11)(ho:o+11<=C.size):(zj0 C o v0 v1 v2 v3 v4 v5 v6 v7 v8 v9 v10)[o+j]?=(#[v0,v1,v2,v3,v4,v5,v6,v7,v8,v9,v10]:AV)[j]?:=by
 have hc:j=0 \/ j=1 \/ j=2 \/ j=3 \/ j=4 \/ j=5 \/ j=6 \/ j=7 \/ j=8 \/ j=9 \/ j=10:=by omega
 unfold zj0
 rcases hc with h|h|h|h|h|h|h|h|h|h|h <;> subst h <;> simp[Array.getElem?_setIfInBounds] <;> omega
theorem zbe (a:OA)(cap:Nat)(ws:List BA)(w:World)(hw:zK w a ws)(hl:ws.length<=1048576) :
 Calls Tryz.prog 136 #[.l a ws.length cap] w fun e w'=>e=.returned (.l (some (aD w.heap.size 0)) ws.length ws.length)/\w'=w.alloc (.cells (jI ws) 9):=by
 have hmk:∀w:World,(Instr.makeSlice 102 (.i ws.length) (.i ws.length)).run Tryz.prog w=.ok (.l (some (aD w.heap.size 0)) ws.length ws.length) (w.alloc (.cells (strCells ws 0) 9)):=by
  intro w;have h:=run_make_row' (P:=Tryz.prog) 102 9 (.s ByteArray.empty) 16 Tryz.underlying102 (by kernel_rfl) rfl .i64 .i64 ws.length (by omega) (by omega) w;rw[zkH]at h;exact h
 go_enter Tryz.func136,Tryz.ntmps136
 go_wp2
 clear hmk
 go_loopw [4] (fun i wr=>∃k:Nat,k<=ws.length/\i=.i k/\wr=w.alloc (.cells (strCells ws k) 9)) (fun i _=>ws.length-(intOf i).toNat)
 case atStart=>exact⟨0,Nat.zero_le _,rfl,rfl⟩
 case round=>
  obtain⟨k,hk,rfl,rfl⟩:=hrel
  by_cases hlt:k<ws.length
  ·obtain⟨b,off,rfl,hb,hc⟩:=hw.cells (by rintro rfl;simp at hlt)
   clear hw;have hck:=hc k hlt;have hold:=zmp ws k hlt;have HS:=hid (zmj ws k hlt);clear hc
   go_wp2
   go_roundw
   case rel=>exact⟨k+1,by omega,by go_num,by rw[HS.o]⟩
   case measure=>simp[intOf];omega
  ·have HA:=hid (zlF ws k (by omega))
   clear hw
   go_wp2
   go_ret;exact⟨rfl,by rw[HA.o]⟩
theorem zjM (w:World)(o1 o2 o3 o4:Obj):Bw w ((((w.alloc o1).alloc o2).alloc o3).alloc o4):=
 (((bAl _ _).alloc (by simp) _).alloc (by simp;omega) _).alloc (by simp;omega) _
theorem at4 (w:World)(o1 o2 o3 o4:Obj):((((w.alloc o1).alloc o2).alloc o3).alloc o4).heap[w.heap.size+1+1+1]?=some o4:=by
 have h:=MapKept.heap_alloc (((w.alloc o1).alloc o2).alloc o3) o4
 simpa using h.1
theorem zif (nm:BA)(kd ls ms:Int)(a:OA)(cap:Nat)(ws:List BA)(to:BA)(rl:Int)(mu fx:Bool)(df wg:BA)(w:World)(hw:zK w a ws)(hl:ws.length<=1048576) :
 Calls Tryz.prog 135 #[.agg #[.s nm,.i kd,.i ls,.i ms,.l a ws.length cap,.s to,.i rl,.bool mu,.bool fx,.s df,.s wg]] w
  fun e w'=>∃bk,e=.returned (.agg #[.s nm,.i kd,.i ls,.i ms,.l (some (aD bk 0)) ws.length ws.length,.s to,.i rl,.bool mu,.bool fx,.s df,.s wg]) /\
   w.heap.size<=bk/\bk<w'.heap.size/\w'.heap[bk]?=some (.cells (jI ws) 9)/\Bw w w':=by
 go_enter Tryz.func135,Tryz.ntmps135
 go_wp2_with (go_at_call 136;refine(zbe _ _ _ _ (by exact hw.mono (((bAl _ _).alloc (by simp) _).alloc (by simp;omega) _)) hl).mono ?_;rintro e w'⟨rfl,rfl⟩)
 refine bodyPost_ret (v:=.agg #[.s nm,.i kd,.i ls,.i ms,.l (some (aD (w.heap.size+1+1+1) 0)) ws.length ws.length,.s to,.i rl,.bool mu,.bool fx,.s df,.s wg]) (by simp[results,Tryz.results135,go_sem]) rfl ⟨w.heap.size+1+1+1,rfl,by omega,by simp,at4 _ _ _ _ _,zjM _ _ _ _ _⟩
end Go.Proofs.YtedangodjiolaaaGreat
