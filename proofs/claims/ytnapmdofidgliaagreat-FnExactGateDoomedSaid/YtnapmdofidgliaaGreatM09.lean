import Derived.Test.YtnapmdofidgliaaGreatM08
set_option maxHeartbeats 2000000
namespace Go.Proofs.YtnapmdofidgliaaGreat
open Go.RowKit
def Tm.cells (m:Tm):Array Value:=#[.string m.nm,.string m.ov]
structure Tm.Small (m:Tm):Prop where
 nm:m.nm.size<=maxLen
 ov:m.ov.size<=maxLen
structure jX (w:World)(a:Option Addr)(ts:List Tm):Prop where
 len:ts.length<=maxLen
 small:∀i (h:i<ts.length),ts[i].Small
 rows:ts≠[]->∃b off,a=some ⟨b,off,none⟩/\b<w.heap.size/\∀i (h:i<ts.length),∀j,j<2->w.cell? ⟨b,off+i*2+j,none⟩=ts[i].cells[j]?
theorem jX.mono {w w':World}{a:Option Addr}{ts:List Tm}(h:jX w a ts)(hl:Below w.heap.size w w'):jX w' a ts:=
 ⟨h.len,h.small,fun hne=>by
  obtain⟨b,off,ha,hb,hr⟩:=h.rows hne;exact⟨b,off,ha,nLt hb hl.size,fun i hi j hj=>(hl.cell (p:=⟨b,off+i*2+j,none⟩) hb).trans (hr i hi j hj)⟩⟩
theorem jX.load {w w':World}{a:Option Addr}{ts:List Tm}(h:jX w a ts)(hl:Below w.heap.size w w')(i:Nat)(hi:i<ts.length):∃b off,a=some ⟨b,off,none⟩/\b<w.heap.size /\
 w'.cell? ⟨b,off+i*2,none⟩=some (.string ts[i].nm)/\w'.cell? ⟨b,off+i*2+1,none⟩=some (.string ts[i].ov):=by
 obtain⟨b,off,ha,hb,hr⟩:=h.rows (by rintro rfl;simp at hi);have hc:∀j,j<2->w'.cell? ⟨b,off+i*2+j,none⟩=ts[i].cells[j]?:=fun j hj=>(hl.cell (p:=⟨b,off+i*2+j,none⟩) hb).trans (hr i hi j hj)
 exact⟨b,off,ha,hb,hc 0 (by omega),hc 1 (by omega)⟩
def Tm.sz (m:Tm):Nat:=m.nm.size+m.ov.size
def ziY (ts:List Tm):Nat:=(ts.map Tm.sz).sum
def zdj (ts:List Tm):Nat:=ts.length+ziY ts
def zq3 (w:World)(b o:Nat)(v0 v1:Value):World:=(w.setCell ⟨b,o,none⟩ v0).setCell ⟨b,o+1,none⟩ v1
def set2 (C:Array Value)(o:Nat)(v0 v1:Value):Array Value:=(C.setIfInBounds o v0).setIfInBounds (o+1) v1
theorem zou {w:World}{b o:Nat}{C:Array Value}{t:TypeId}(h:w.heap[b]?=some (.cells C t))(v0 v1:Value):(zq3 w b o v0 v1).heap[b]?=some (.cells (set2 C o v0 v1) t):=
 zk (zk h v0) v1
theorem zol {B:Nat}{a w:World}(h:Below B a w){b:Nat}(hb:B<=b)(o:Nat)(v0 v1:Value):Below B a (zq3 w b o v0 v1):=
 (h.setCell hb v0).setCell hb v1
theorem zpE (C:Array Value)(o:Nat)(v0 v1:Value):(set2 C o v0 v1).size=C.size:=by simp[set2]
theorem zqa (C:Array Value)(o i:Nat)(v0 v1:Value)(h:i<o \/ o+2<=i):(set2 C o v0 v1)[i]?=C[i]?:=by
 unfold set2
 iterate 2 rw[Array.getElem?_setIfInBounds,if_neg (by omega)]
theorem zqU (C:Array Value)(o j:Nat)(v0 v1:Value)(hj:j<2)(ho:o+2<=C.size):(set2 C o v0 v1)[o+j]?=(#[v0,v1]:Array Value)[j]?:=by
 have hc:j=0 \/ j=1:=by omega
 unfold set2
 rcases hc with h|h <;> subst h <;> simp[Array.getElem?_setIfInBounds] <;> omega
structure zam (ty:TypeId)(lo:Nat)(w:World)(bo:Nat)(ts:List Tm)(k:Nat):Prop where
 low:lo<=bo
 rows:∃C,w.heap[bo]?=some (.cells C ty)/\C.size=ts.length*2/\∀i (h:i<ts.length),i<k->∀j,j<2->C[i*2+j]?=ts[i].cells[j]?
theorem zam.at {ty:TypeId}{lo:Nat}{w:World}{bo:Nat}{ts:List Tm}(h:zam ty lo w bo ts ts.length)(hs:∀i (h:i<ts.length),ts[i].Small)(hl:ts.length<=maxLen):jX w (some ⟨bo,0,none⟩) ts:=by
 obtain⟨C,hC,hsz,hr⟩:=h.rows;refine⟨hl,hs,fun _=>⟨bo,0,rfl,(gES hC).1,fun i hi j hj=>?_⟩⟩;rw[cell_of_block hC,Nat.zero_add];exact hr i hi hi j hj
theorem zam.later {ty:TypeId}{lo:Nat}{w w':World}{bo:Nat}{ts:List Tm}{k:Nat}(h:zam ty lo w bo ts k)(hb:Below w.heap.size w w'):zam ty lo w' bo ts k:=by
 obtain⟨C,hC,hsz,hr⟩:=h.rows;exact⟨h.low,C,(hb.block bo (gES hC).1).trans hC,hsz,hr⟩
theorem zam.put {ty:TypeId}{lo:Nat}{w:World}{bo:Nat}{ts:List Tm}{k:Nat}(h:zam ty lo w bo ts k)(hk:k<ts.length) :
 zam ty lo (zq3 w bo (k*2) (.string ts[k].nm) (.string ts[k].ov)) bo ts (k+1):=by
 obtain⟨C,hC,hsz,hr⟩:=h.rows;refine⟨h.low,_,zou hC _ _,by rw[zpE];exact hsz,fun i hi hik j hj=>?_⟩
 rcases Nat.lt_or_ge i k with hlt|hge
 ·rw[zqa _ _ _ _ _ (by omega)]
  exact hr i hi hlt j hj
 ·have e:i=k:=by omega
  subst e;rw[zqU _ _ _ _ _ hj (by omega)]
  rfl
def zqK:Array Value:=#[.string ByteArray.empty,.string ByteArray.empty]
def zpn (n:Nat):Array Value:=madeCells zqK (n*2)
end Go.Proofs.YtnapmdofidgliaaGreat
namespace Go.Proofs.YtnapmdofidgliaaGreat
structure Rl where
 vs:List Int
 kd:ByteArray
 tm:ByteArray
 px:ByteArray
def za6 (v:Int):Bool:=decide (1<=v)&&decide (v<=5)
def ql (vs:List Int)(i:Nat):Bool:=za6 (vs.getD i 0)&&(decide (i=0)||decide (vs.getD (i-1) 0<vs.getD i 0))
def jc (vs:List Int):Bool:=decide (0<vs.length)&&up (ql vs) vs.length
def qL (r:Rl):Bool:=(r.kd.toList.isEmpty||zB r.kd)&&(r.tm.toList.isEmpty||zB r.tm)
def zS (r:Rl):Bool:=qL r&&(jc r.vs&&(decide (r.px.size<=16)&&y5 r.px))
end Go.Proofs.YtnapmdofidgliaaGreat
namespace Go.Proofs.YtnapmdofidgliaaGreat
open Go.RowKit
theorem zlO (w0:World)(a:Option Addr)(cap:Nat)(ss:List Shp)(v:ByteArray)(w:World)(hw:yU w0 a ss)(hbb:Below w0.heap.size w0 w) :
 Calls Tryz.prog 122 #[.slice a ss.length cap,.string v] w fun e w'=>∃fa fcap,e=.returned (.tuple #[.agg #[.string (shapeOf ss v).kd,.slice fa (shapeOf ss v).fs.length fcap],.bool (zG ss v)]) /\
  zY w0 fa (shapeOf ss v).fs/\Below w.heap.size w w':=by
 have hl:=hw.len;unfold maxLen at hl;go_enter Tryz.func122,Tryz.ntmps122
 go_wp2
 go_loopw [10] (fun i wr=>∃k:Nat,k<=ss.length/\i=.int .i64 k/\zG (ss.take k) v=false/\Below (w.heap.size+1) (w.alloc (.cells #[.string ByteArray.empty,.slice none 0 0] 131)) wr) (fun i _=>ss.length-(intOf i).toNat)
 case atStart=>exact⟨0,Nat.zero_le _,rfl,rfl,bRf _ _⟩
 case round=>
  obtain⟨k,hk,rfl,hno,hbl⟩:=hrel;have hsz:w.heap.size<wr.heap.size:=by have:=hbl.size;simp at this;omega
  have hB0:Below w.heap.size w wr:=(bAl _ _).trans (hbl.mono (by omega));have hX0:wr.cell? ⟨w.heap.size,0,none⟩=some (.string ByteArray.empty):=(hbl.cell (p:=⟨w.heap.size,0,none⟩) (by simp)).trans (by rw[World.cell?_alloc_at _ _ _ _ rfl];rfl);have hX1:wr.cell? ⟨w.heap.size,1,none⟩=some (.slice none 0 0):=(hbl.cell (p:=⟨w.heap.size,1,none⟩) (by simp)).trans (by rw[World.cell?_alloc_at _ _ _ _ rfl];rfl);have hF0:wr.frozen? ⟨w.heap.size,0,none⟩=false:=(hbl.frozen (p:=⟨w.heap.size,0,none⟩) (by simp)).trans (by rw[World.frozen?_alloc_at _ _ _ _ rfl]);have hF1:wr.frozen? ⟨w.heap.size,1,none⟩=false:=(hbl.frozen (p:=⟨w.heap.size,1,none⟩) (by simp)).trans (by rw[World.frozen?_alloc_at _ _ _ _ rfl])
  by_cases hlt:k<ss.length
  ·obtain⟨b,off,rfl,hb,hr⟩:=hw.rows (by rintro rfl;simp at hlt)
   obtain⟨fa,fcap,hs⟩:=hr k hlt;have hb0:b<w.heap.size:=nLt hb hbb.size;have hck:=((hB0.cell (p:=⟨b,off+k*2,none⟩) hb0).trans (hbb.cell (p:=⟨b,off+k*2,none⟩) hb)).trans hs.kind;have hcl:=((hB0.cell (p:=⟨b,off+k*2+1,none⟩) hb0).trans (hbb.cell (p:=⟨b,off+k*2+1,none⟩) hb)).trans hs.list;have hfl:=hs.zdk;clear hw hr hs
   by_cases he:ss[k].kd=v
   ·have hbe:(ss[k].kd.toList == v.toList)=true:=by rw[beq_toList];simpa using he
    have HA:Hid (zG ss v=true):=zfY ss v k hlt he;have HB:Hid (shapeOf ss v=ss[k]):=zef ss v k hlt hno he;clear he hno
    go_wp2
    refine bodyPost_ret (v:=.tuple #[.agg #[.string ss[k].kd,.slice fa ss[k].fs.length fcap],.bool true]) (by simp[results,Tryz.results122,go_sem,hX0,hX1,hsz]) rfl ⟨fa,fcap,by rw[HA.out,HB.out],by rw[HB.out];exact hfl,?_⟩;exact((hB0.setCell (Nat.le_refl _) _).setCell (Nat.le_refl _) _).alloc (by simp[World.setCell];omega) _
   ·have hbe:(ss[k].kd.toList == v.toList)=false:=by rw[beq_toList];simpa using he
    have HS:Hid (zG (ss.take (k+1)) v=false):=by unfold Hid;rw[zd5 ss v k hlt,hno,decide_eq_false he];rfl
    clear he hno hX0 hX1 hF0 hF1
    go_wp2
    go_roundw
    case rel=>exact⟨k+1,by omega,by go_num,HS.out,hbl.alloc (by omega) _⟩
    case measure=>simp[intOf];omega
  ·have HA:Hid (zG ss v=false):=by rw[<- ze2 ss v k (by omega)];exact hno
   have HB:Hid (shapeOf ss v=zbk):=zei ss v HA.out;clear hno hw
   go_wp2
   refine bodyPost_ret (v:=.tuple #[.agg #[.string ByteArray.empty,.slice none 0 0],.bool false]) (by simp[results,Tryz.results122,go_sem,hX0,hX1];rfl) rfl ⟨none,0,by rw[HA.out,HB.out];rfl,by rw[HB.out];exact⟨by simp[zbk,maxLen],fun h=>absurd rfl h⟩,?_⟩;exact(hB0.setCell (Nat.le_refl _) _).setCell (Nat.le_refl _) _
end Go.Proofs.YtnapmdofidgliaaGreat
namespace Go.Proofs.YtnapmdofidgliaaGreat
open Go.ChangeShapes Go.WideShapes Go.ChangeAt Go.RowKit
theorem Tryz.zlp:Tryz.prog.cellsOf 101=6:=by kernel_rfl
section
variable {H:Type} {enc:TypeId × Value->H} {w:World} {base:Nat} {spare:Nat->Bool} {held:Bool}
theorem zpz {fuel:Nat}{cs:List Value}{x:DataW H × List MemPlace}(h:DataW.trod enc Tryz.prog w base spare held fuel 101 cs=some x) :
 ∃m:Mnd,cs=m.cells.toList/\m.Small:=by
 have hlen:cs.length=6:=by
  obtain⟨_,_,_,_,hl,_,_⟩:=DataW.trod_struct Tryz.underlying101 h;rw[hl];exact Tryz.zlp
 match cs,hlen with
 | [c0,c1,c2,c3,c4,c5],_=>
  have hf:=zak Tryz.underlying101 h;obtain⟨_,_,f0⟩:=hf 0 9 0 c0 rfl Tryz.zW rfl;obtain⟨_,_,f1⟩:=hf 1 9 1 c1 rfl Tryz.zW rfl;obtain⟨_,_,f2⟩:=hf 2 9 2 c2 rfl Tryz.zW rfl;obtain⟨_,_,f3⟩:=hf 3 9 3 c3 rfl Tryz.zW rfl;obtain⟨_,_,f4⟩:=hf 4 9 4 c4 rfl Tryz.zW rfl;obtain⟨_,_,f5⟩:=hf 5 9 5 c5 rfl Tryz.zW rfl;obtain⟨x0,e0,_,s0⟩:=DataW.trod_string Tryz.underlying9 f0;obtain⟨x1,e1,_,s1⟩:=DataW.trod_string Tryz.underlying9 f1;obtain⟨x2,e2,_,s2⟩:=DataW.trod_string Tryz.underlying9 f2;obtain⟨x3,e3,_,s3⟩:=DataW.trod_string Tryz.underlying9 f3;obtain⟨x4,e4,_,s4⟩:=DataW.trod_string Tryz.underlying9 f4;obtain⟨x5,e5,_,s5⟩:=DataW.trod_string Tryz.underlying9 f5;simp only[List.cons.injEq,and_true]at e0 e1 e2 e3 e4 e5;subst e0 e1 e2 e3 e4 e5;exact⟨⟨x0,x1,x2,x3,x4,x5⟩,rfl,s0,s1,s2,s3,s4,s5⟩
theorem zoE {fuel:Nat}{cs:List Value}{x:DataW H × List MemPlace}(h:DataW.trod enc Tryz.prog w base spare held fuel 23 cs=some x) :
 ∃a cap ms,cs=[.slice a (List.length ms) cap]/\qN w a ms:=by
 obtain⟨a,len,cap,rfl,hm,hr⟩:=za0 Tryz.underlying23 Tryz.zlp (by omega) h
 rcases Nat.eq_zero_or_pos len with h0|hp
 ·subst h0
  exact⟨a,cap,[],rfl,⟨by simp[maxLen],fun i h=>absurd h (by simp),fun h=>absurd rfl h⟩⟩
 ·obtain⟨b,off,rfl,hb,hrow⟩:=hr hp
  have hf:∀i,i<len->∃m:Mnd,m.Small/\∀j,j<6->w.cell? ⟨b,off+i*6+j,none⟩=m.cells[j]?:=by
   intro i hi;obtain⟨es,n,y,hel,hcell,hy⟩:=hrow i hi;obtain⟨m,rfl,hs⟩:=zpz hy;exact⟨m,hs,fun j hj=>by rw[hcell j hj];simp⟩
  obtain⟨ms,hl,hms⟩:=zcg len hf;exact⟨_,cap,ms,by rw[hl],⟨by omega,fun i hi=>(hms i hi).1,fun _=>⟨b,off,rfl,hb,fun i hi=>(hms i hi).2⟩⟩⟩
end
end Go.Proofs.YtnapmdofidgliaaGreat
namespace Go.Proofs.YtnapmdofidgliaaGreat
open Go.RowKit
def zq6 (w:World)(b o:Nat)(v0 v1 v2 v3 v4 v5:Value):World:=(((((w.setCell ⟨b,o,none⟩ v0).setCell ⟨b,o+1,none⟩ v1).setCell ⟨b,o+2,none⟩ v2).setCell ⟨b,o+3,none⟩ v3).setCell ⟨b,o+4,none⟩ v4).setCell ⟨b,o+5,none⟩ v5
def zoi (C:Array Value)(o:Nat)(v0 v1 v2 v3 v4 v5:Value):Array Value:=(((((C.setIfInBounds o v0).setIfInBounds (o+1) v1).setIfInBounds (o+2) v2).setIfInBounds (o+3) v3).setIfInBounds (o+4) v4).setIfInBounds (o+5) v5
theorem zoI {w:World}{b o:Nat}{C:Array Value}{t:TypeId}(h:w.heap[b]?=some (.cells C t))(v0 v1 v2 v3 v4 v5:Value):(zq6 w b o v0 v1 v2 v3 v4 v5).heap[b]?=some (.cells (zoi C o v0 v1 v2 v3 v4 v5) t):=
 zk (zk (zk (zk (zk (zk h v0) v1) v2) v3) v4) v5
theorem zom {B:Nat}{a w:World}(h:Below B a w){b:Nat}(hb:B<=b)(o:Nat)(v0 v1 v2 v3 v4 v5:Value):Below B a (zq6 w b o v0 v1 v2 v3 v4 v5):=
 (((((h.setCell hb v0).setCell hb v1).setCell hb v2).setCell hb v3).setCell hb v4).setCell hb v5
theorem zp3 (C:Array Value)(o:Nat)(v0 v1 v2 v3 v4 v5:Value):(zoi C o v0 v1 v2 v3 v4 v5).size=C.size:=by simp[zoi]
theorem zqz (C:Array Value)(o i:Nat)(v0 v1 v2 v3 v4 v5:Value)(h:i<o \/ o+6<=i):(zoi C o v0 v1 v2 v3 v4 v5)[i]?=C[i]?:=by
 unfold zoi
 iterate 6 rw[Array.getElem?_setIfInBounds,if_neg (by omega)]
theorem zqX (C:Array Value)(o j:Nat)(v0 v1 v2 v3 v4 v5:Value)(hj:j<6)(ho:o+6<=C.size):(zoi C o v0 v1 v2 v3 v4 v5)[o+j]?=(#[v0,v1,v2,v3,v4,v5]:Array Value)[j]?:=by
 have hc:j=0 \/ j=1 \/ j=2 \/ j=3 \/ j=4 \/ j=5:=by omega
 unfold zoi
 rcases hc with h|h|h|h|h|h <;> subst h <;> simp[Array.getElem?_setIfInBounds] <;> omega
theorem je.put {lo:Nat}{w:World}{bo:Nat}{ms:List Mnd}{k:Nat}(h:je lo w bo ms k)(hk:k<ms.length) :
 je lo (zq6 w bo (k*6) (.string ms[k].kd) (.string ms[k].fd) (.string ms[k].wh) (.string ms[k].wi) (.string ms[k].pt) (.string ms[k].fr)) bo ms (k+1):=by
 obtain⟨C,hC,hsz,hr⟩:=h.rows;refine⟨h.low,_,zoI hC _ _ _ _ _ _,by rw[zp3];exact hsz,fun i hi hik j hj=>?_⟩
 rcases Nat.lt_or_ge i k with hlt|hge
 ·rw[zqz _ _ _ _ _ _ _ _ _ (by omega)]
  exact hr i hi hlt j hj
 ·have e:i=k:=by omega
  subst e;rw[zqX _ _ _ _ _ _ _ _ _ hj (by omega)]
  rfl
theorem zjF (m:Mnd)(w:World) :
 Calls Tryz.prog 68 #[.agg m.cells] w fun e w'=>e=.returned (.agg m.cells)/\Below w.heap.size w w':=by
 unfold Mnd.cells;go_enter Tryz.func68,Tryz.ntmps68;go_wp2_with fail
 refine bodyPost_ret (v:=.agg #[.string m.kd,.string m.fd,.string m.wh,.string m.wi,.string m.pt,.string m.fr]) (by simp[results,Tryz.results68,go_sem]) rfl ⟨rfl,?_⟩;exact(((bAl _ _).alloc (by simp) _).alloc (by simp;omega) _)
def zpd:Array Value:=#[.string ByteArray.empty,.string ByteArray.empty,.string ByteArray.empty,.string ByteArray.empty,.string ByteArray.empty,.string ByteArray.empty]
def znb (n:Nat):Array Value:=madeCells zpd (n*6)
theorem ziT (a:Option Addr)(cap:Nat)(ms:List Mnd)(w:World)(hw:qN w a ms)(hl:ms.length<=1048576) :
 Calls Tryz.prog 30 #[.slice a ms.length cap] w fun e w'=>e=.returned (.slice (some ⟨w.heap.size,0,none⟩) ms.length ms.length)/\je w.heap.size w' w.heap.size ms ms.length/\Below w.heap.size w w':=by
 have hmk:∀w:World,(Instr.makeSlice 38 (.int .i64 ms.length) (.int .i64 ms.length)).run Tryz.prog w=.ok (.slice (some ⟨w.heap.size,0,none⟩) ms.length ms.length) (w.alloc (.cells (znb ms.length) 133)):=
  fun w=>jI (P:=Tryz.prog) 38 133 (.agg zpd) 6 96 Tryz.underlying38 (by kernel_rfl) ms.length (by omega) (by omega) w
 go_enter Tryz.func30,Tryz.ntmps30;go_wp2_with fail
 clear hmk
 go_loopw [4] (fun i wr=>∃k:Nat,k<=ms.length/\i=.int .i64 k/\je w.heap.size wr w.heap.size ms k/\Below w.heap.size w wr) (fun i _=>ms.length-(intOf i).toNat)
 case atStart=>exact⟨0,Nat.zero_le _,rfl,⟨Nat.le_refl _,znb ms.length,(MapKept.heap_alloc w _).1,size_madeCells _ _,fun i _ h=>absurd h (by omega)⟩,bAl _ _⟩
 case round=>
  obtain⟨k,hk,rfl,hown,hB⟩:=hrel
  by_cases hlt:k<ms.length
  ·obtain⟨b,off,rfl,hb,c0,c1,c2,c3,c4,c5⟩:=hw.load hB k hlt
   have hltI:(k:Int)<(ms.length:Int):=by omega
   clear hw;go_wp2_with fail
   refine(zjF ms[k] _).mono ?_;rintro e w1⟨rfl,hb1⟩;have hB1:=hB.trans (hb1.mono hB.size);have hown1:=hown.later hb1
   have hbo:w.heap.size<wr.heap.size:=by
    obtain⟨C',hC',_⟩:=hown.rows;exact(gES hC').1
   obtain⟨C,hC,hsz,_⟩:=hown1.rows;have hfz:∀o,w1.frozen? ⟨w.heap.size,o,none⟩=false:=fun o=>zh hC
   have hex:∀o,o<ms.length*6->∃v,w1.cell? ⟨w.heap.size,o,none⟩=some v:=fun o ho=>⟨C[o]'(by omega),by rw[cell_of_block hC];exact Array.getElem?_eq_getElem (by omega)⟩
   obtain⟨v0,hv0⟩:=hex (k*6) (by omega);obtain⟨v1,hv1⟩:=hex (k*6+1) (by omega);obtain⟨v2,hv2⟩:=hex (k*6+2) (by omega);obtain⟨v3,hv3⟩:=hex (k*6+3) (by omega);obtain⟨v4,hv4⟩:=hex (k*6+4) (by omega);obtain⟨v5,hv5⟩:=hex (k*6+5) (by omega);have HP:Hid (je w.heap.size w1 w.heap.size ms k):=hown1;clear hex hC hsz c0 c1 c2 c3 c4 c5 hown hown1;unfold Mnd.cells;go_wp2_with fail
   exact⟨⟨k+1,by omega,by go_num,HP.out.put hlt,zom hB1 (Nat.le_refl _) _ _ _ _ _ _ _⟩,by simp[intOf];omega⟩
  ·have HF:Hid (je w.heap.size wr w.heap.size ms ms.length):=by
    have e:k=ms.length:=by omega
    subst e;exact hown
   clear hw hown;go_wp2_with fail
   go_ret;exact⟨rfl,HF.out,hB⟩
theorem zkp (a:Option Addr)(cap:Nat)(ws:List ByteArray)(w:World)(hw:zD w a ws) :
 Calls Tryz.prog 223 #[.slice a ws.length cap] w fun e w'=>e=.returned (.bool (asc ws))/\w'=w:=by
 have hl:=hw.len;unfold maxLen at hl;go_enter Tryz.func223,Tryz.ntmps223
 go_wp2
 go_loop [7] (fun i=>∃k:Nat,k<=ws.length/\i=.int .i64 k/\up (zdM ws) k=true) (fun i=>ws.length-(intOf i).toNat)
 case atStart=>exact⟨0,Nat.zero_le _,rfl,rfl⟩
 case round=>
  obtain⟨k,hk,rfl,hup⟩:=hrel
  by_cases hlt:k<ws.length
  ·obtain⟨b,off,rfl,hb,hc⟩:=hw.cells (by rintro rfl;simp at hlt)
   have hsm:=hw.small _ (List.getElem_mem hlt);clear hw;have hck:=hc k hlt
   by_cases hn:zB ws[k]=true
   ·by_cases hk0:k=0
    ·have HF:Hid (up (zdM ws) (k+1)=true):=by subst hk0;unfold Hid;rw[q9,zic hlt hn];rfl
     have hg:decide (0<k)=false:=by simp;omega
     have HN:Hid (zB ws[k]=true):=hn;clear hn hc hup hk0
     go_wp2_with (go_at_call 147;refine(zf HN.out (zF _ _ hsm)).mono ?_;rintro e w'⟨rfl,rfl⟩)
     go_round
     case rel=>exact⟨k+1,by omega,by go_num,HF.out⟩
     case measure=>simp[intOf];omega
    ·obtain⟨m,rfl⟩:∃m,k=m+1:=⟨k-1,by omega⟩
     have hcm:=hc m (by omega);have HU:Hid (up (zdM ws) (m+1+1)=less ws[m] ws[m+1]):=by unfold Hid;rw[q9,hup,zd6 hlt hn];rfl
     have HNN:Hid (less ws[m] ws[m+1]=false->asc ws=false):=fun h=>zaP hlt (by rw[zd6 hlt hn];exact h)
     have HN:Hid (zB ws[m+1]=true):=hn;clear hn hc hup hk0
     by_cases hls:less ws[m] ws[m+1]=true
     ·have hls':Op.bytesLess ws[m].toList ws[m+1].toList=true:=hls
      have HLS:Hid (less ws[m] ws[m+1]=true):=hls;clear hls
      go_wp2_with (go_at_call 147;refine(zf HN.out (zF _ _ hsm)).mono ?_;rintro e w'⟨rfl,rfl⟩)
      go_round
      case rel=>exact⟨m+1+1,by omega,by go_num,by rw[HU.out,HLS.out]⟩
      case measure=>simp[intOf];omega
     ·have hls':Op.bytesLess ws[m].toList ws[m+1].toList=false:=by simpa[less] using hls
      have HLS:Hid (less ws[m] ws[m+1]=false):=hls';clear hls
      go_wp2_with (go_at_call 147;refine(zf HN.out (zF _ _ hsm)).mono ?_;rintro e w'⟨rfl,rfl⟩)
      go_ret;exact⟨ze (HNN.out HLS.out).symm,rfl⟩
   ·have hn':zB ws[k]=false:=by simpa using hn
    have HF:Hid (asc ws=false):=zaP hlt (zj2 hlt hn');have HN:Hid (zB ws[k]=false):=hn';clear hn hn' hc hup
    go_wp2_with (go_at_call 147;refine(zf HN.out (zF _ _ hsm)).mono ?_;rintro e w'⟨rfl,rfl⟩)
    go_ret;exact⟨ze HF.out.symm,rfl⟩
  ·have HF:Hid (asc ws=true):=by
    have e:k=ws.length:=by omega
    subst e;exact hup
   clear hw hup
   go_wp2
   go_ret;exact⟨ze HF.out.symm,rfl⟩
theorem zpY (a:Option Addr)(cap:Nat)(ws:List ByteArray)(v:ByteArray)(w:World)(hw:zD w a ws) :
 Calls Tryz.prog 253 #[.slice a ws.length cap,.string v] w fun e w'=>∃r:Int,e=.returned (.int .i64 r)/\decide (0<=r)=has ws v/\w'=w:=by
 have hl:=hw.len;unfold maxLen at hl
 by_cases hne:ws=[]
 ·subst hne
  go_enter Tryz.func253,Tryz.ntmps253
  go_wp2
  go_loop [8] (fun i=>i=.int .i64 0) (fun i=>0)
  case atStart=>rfl
  case round=>
   subst hrel
   go_wp2
   go_ret;exact⟨_,rfl,rfl,rfl⟩
 ·obtain⟨b,off,rfl,hb,hc⟩:=hw.cells hne
  clear hw;have HL:Hid (0<ws.length):=List.length_pos_iff.2 hne;clear hne;go_enter Tryz.func253,Tryz.ntmps253
  go_wp2
  go_loop [8] (fun i=>∃k:Nat,k<=ws.length/\i=.int .i64 k/\has (ws.take k) v=false) (fun i=>ws.length-(intOf i).toNat)
  case atStart=>exact⟨0,Nat.zero_le _,rfl,rfl⟩
  case round=>
   obtain⟨k,hk,rfl,hall⟩:=hrel
   by_cases hlt:k<ws.length
   ·have hck:=hc k hlt
    clear hc;have HS:Hid (has (ws.take (k+1)) v=(false||decide (ws[k]=v))):=by rw[zni ws v k hlt,hall];rfl
    have HN:Hid (ws[k]=v->has ws v=true):=fun h=>zqq ws v k hlt h
    clear hall
    by_cases he:ws[k]=v
    ·have hbe:(v.toList == ws[k].toList)=true:=by rw[beq_toList];simpa using he.symm
     have HE:Hid (ws[k]=v):=he;clear he
     go_wp2
     go_ret;exact⟨_,rfl,by rw[HN.out HE.out];simp,rfl⟩
    ·have hbe:(v.toList == ws[k].toList)=false:=by rw[beq_toList];simpa using fun h=>he h.symm
     have HE:Hid (¬ws[k]=v):=he;clear he
     go_wp2
     go_round
     case rel=>exact⟨k+1,by omega,by go_num,by rw[HS.out,decide_eq_false HE.out];rfl⟩
     case measure=>simp[intOf];omega
   ·have HA:Hid (has ws v=false):=by rw[<- zpc ws v k (by omega)];exact hall
    clear hall hc
    go_wp2
    go_ret;exact⟨_,rfl,by rw[HA.out];rfl,rfl⟩
theorem zmj (a:Option Addr)(cap:Nat)(ws:List ByteArray)(v:ByteArray)(w:World)(hw:zD w a ws) :
 Calls Tryz.prog 252 #[.slice a ws.length cap,.string v] w fun e w'=>e=.returned (.bool (has ws v))/\w'=w:=by
 go_enter Tryz.func252,Tryz.ntmps252
 go_wp2_with (go_at_call 253;refine(zpY _ _ _ _ _ hw).mono ?_;rintro e w'⟨r,rfl,hr,rfl⟩)
 go_ret;exact⟨rfl,rfl⟩
theorem zgV (nm:ByteArray)(kd ls ms:Int)(a:Option Addr)(cap:Nat)(ws:List ByteArray)(to:ByteArray)(rl:Int)(mu fx:Bool)(df wg:ByteArray)(v:ByteArray)(w:World)(hw:zD w a ws) :
 Calls Tryz.prog 250 #[.agg #[.string nm,.int .i64 kd,.int .i64 ls,.int .i64 ms,.slice a ws.length cap,.string to,.int .i64 rl,.bool mu,.bool fx,.string df,.string wg],.string v] w
  fun e w'=>e=.returned (.bool (has ws v))/\Below w.heap.size w w':=by
 go_enter Tryz.func250,Tryz.ntmps250
 go_wp2_with (go_at_call 252;refine(zmj _ _ _ _ _ (hw.mono (by exact bAl _ _))).mono ?_;rintro e w'⟨rfl,rfl⟩)
 go_ret;exact⟨rfl,bAl _ _⟩
theorem zgU (nm:ByteArray)(kd ls ms:Int)(sl:Value)(to:ByteArray)(rl:Int)(mu fx:Bool)(df wg:ByteArray)(v:ByteArray)(w:World)(hs:v.size<=maxLen) :
 Calls Tryz.prog 258 #[.agg #[.string nm,.int .i64 kd,.int .i64 ls,.int .i64 ms,sl,.string to,.int .i64 rl,.bool mu,.bool fx,.string df,.string wg],.string v] w
  fun e w'=>e=.returned (.bool (zB v))/\Below w.heap.size w w':=by
 go_enter Tryz.func258,Tryz.ntmps258
 go_wp2_with (go_at_call 147;refine(zF _ _ hs).mono ?_;rintro e w'⟨rfl,rfl⟩)
 go_ret;exact⟨rfl,bAl _ _⟩
theorem zgi (nm:ByteArray)(kd ls ms:Int)(sl:Value)(to:ByteArray)(rl:Int)(mu fx:Bool)(df wg:ByteArray)(s:ByteArray)(w:World)(hs:s.size<=maxLen) :
 Calls Tryz.prog 255 #[.agg #[.string nm,.int .i64 kd,.int .i64 ls,.int .i64 ms,sl,.string to,.int .i64 rl,.bool mu,.bool fx,.string df,.string wg],.string s] w
  fun e w'=>e=.returned (.bool (zbL ls ms s))/\Below w.heap.size w w':=by
 unfold maxLen at hs
 by_cases h1:(s.size:Int)<ls
 ·go_enter Tryz.func255,Tryz.ntmps255
  go_wp2
  go_ret;refine⟨ze ?_,bAl _ _⟩;unfold zbL;rw[decide_eq_false (by omega)];rfl
 ·by_cases h2:ms<(s.size:Int)
  ·go_enter Tryz.func255,Tryz.ntmps255
   go_wp2
   go_ret;refine⟨ze ?_,bAl _ _⟩;unfold zbL;rw[decide_eq_false (show ¬(s.size:Int)<=ms by omega)];simp
  ·have HF:Hid (zbL ls ms s=zbQ s):=by
    unfold zbL;rw[decide_eq_true (show ls<=s.size by omega),decide_eq_true (show(s.size:Int)<=ms by omega)];simp[Hid]
   go_enter Tryz.func255,Tryz.ntmps255
   go_wp2
   go_loop [20] (fun i=>∃k:Nat,k<=s.size/\i=.int .i64 k/\(s.data.toList.take k).all y8=true) (fun i=>s.size-(intOf i).toNat)
   case atStart=>exact⟨0,Nat.zero_le _,rfl,rfl⟩
   case round=>
    obtain⟨k,hk,rfl,hall⟩:=hrel
    by_cases hlt:k<s.size
    ·have HS:Hid ((s.data.toList.take (k+1)).all y8=(true&&y8 s[k])):=by rw[zaR _ s k hlt,hall];rfl
     have HN:Hid (y8 s[k]=false->zbQ s=false):=fun h=>zce y8 s k hlt h
     clear hall
     by_cases h33:(s[k].toNat:Int)<33
     ·have HC:Hid (y8 s[k]=false):=by simp[y8,Hid];omega
      go_wp2
      go_ret;exact⟨ze (HF.out.trans (HN.out HC.out)).symm,bAl _ _⟩
     ·by_cases h126:126<(s[k].toNat:Int)
      ·have HC:Hid (y8 s[k]=false):=by simp[y8,Hid];omega
       go_wp2
       go_ret;exact⟨ze (HF.out.trans (HN.out HC.out)).symm,bAl _ _⟩
      ·have HC:Hid (y8 s[k]=true):=by simp[y8,Hid];omega
       go_wp2
       go_round
       case rel=>exact⟨k+1,by omega,by go_num,by rw[HS.out,HC.out];rfl⟩
       case measure=>simp[intOf];omega
    ·have HA:Hid (zbQ s=true):=by unfold zbQ Hid;rw[<- zaA s k (by omega)];exact hall
     clear hall
     go_wp2
     go_ret;exact⟨ze (HF.out.trans HA.out).symm,bAl _ _⟩
theorem zaC (a:Option Addr)(cap:Nat)(ws:List ByteArray)(w:World)(hw:zD w a ws) :
 Calls Tryz.prog 133 #[.slice a ws.length cap] w fun e w'=>e=.returned (.bool (asc ws))/\∃n,w'=w.drewN n:=by
 have hl:=hw.len;unfold maxLen at hl;go_enter Tryz.func133,Tryz.ntmps133
 go_wp2
 go_loopw [3] (fun i wr=>∃k:Nat,k<=ws.length/\i=.int .i64 k/\up (zdM ws) k=true/\∃n,wr=w.drewN n) (fun i _=>ws.length-(intOf i).toNat)
 case atStart=>exact⟨0,Nat.zero_le _,rfl,rfl,0,rfl⟩
 case round=>
  obtain⟨k,hk,rfl,hup,hwr⟩:=hrel;have HW:Hid (∃n,wr=w.drewN n):=hwr
  by_cases hlt:k<ws.length
  ·obtain⟨b,off,rfl,hb,hc0⟩:=hw.cells (by rintro rfl;simp at hlt)
   have hc:∀i (h:i<ws.length),wr.cell? ⟨b,off+i,none⟩=some (.string ws[i]):=by obtain⟨n,rfl⟩:=hwr;exact hc0
   have hsm:=hw.small _ (List.getElem_mem hlt);clear hw hc0 hwr;have hck:=hc k hlt;have hltI:(k:Int)<(ws.length:Int):=by omega
   by_cases hn:zB ws[k]=true
   ·have hn':=hn
    by_cases hk0:k=0
    ·have HF:Hid (up (zdM ws) (k+1)=true):=by subst hk0;unfold Hid;rw[q9,zic hlt hn];rfl
     have hg:decide (0<k)=false:=by simp;omega
     clear hn hc hup hk0
     go_wp2
     go_quiet ((go_at_call 104;exact Calls.quiet_of_same (zf hn' (zi _ _ hsm))))
     go_wp2
     obtain⟨n,rfl⟩:=HW.out;exact⟨⟨k+1,by omega,by go_num,HF.out,n+nq,by simp⟩,by simp[intOf];omega⟩
    ·obtain⟨m,rfl⟩:∃m,k=m+1:=⟨k-1,by omega⟩
     have hcm:=hc m (by omega);have HU:Hid (up (zdM ws) (m+1+1)=less ws[m] ws[m+1]):=by unfold Hid;rw[q9,hup,zd6 hlt hn];rfl
     have HN:Hid (less ws[m] ws[m+1]=false->asc ws=false):=fun h=>zaP hlt (by rw[zd6 hlt hn];exact h)
     clear hn hc hup hk0
     by_cases hls:less ws[m] ws[m+1]=true
     ·have hls':Op.bytesLess ws[m].toList ws[m+1].toList=true:=hls
      have HLS:Hid (less ws[m] ws[m+1]=true):=hls;clear hls
      go_wp2
      go_quiet ((go_at_call 104;exact Calls.quiet_of_same (zf hn' (zi _ _ hsm))))
      go_wp2
      obtain⟨n,rfl⟩:=HW.out;exact⟨⟨m+1+1,by omega,by go_num,by rw[HU.out,HLS.out],n+nq,by simp⟩,by simp[intOf];omega⟩
     ·have hls':Op.bytesLess ws[m].toList ws[m+1].toList=false:=by simpa[less] using hls
      have HLS:Hid (less ws[m] ws[m+1]=false):=hls';clear hls
      go_wp2
      go_quiet ((go_at_call 104;exact Calls.quiet_of_same (zf hn' (zi _ _ hsm))))
      go_wp2
      go_ret;refine⟨ze (HN.out HLS.out).symm,?_⟩;obtain⟨n,rfl⟩:=HW.out;exact⟨n+nq,by simp⟩
   ·have hn':zB ws[k]=false:=by simpa using hn
    have HF:Hid (asc ws=false):=zaP hlt (zj2 hlt hn');clear hn hc hup
    go_wp2
    go_quiet ((go_at_call 104;exact Calls.quiet_of_same (zf hn' (zi _ _ hsm))))
    go_wp2
    go_ret;refine⟨ze HF.out.symm,?_⟩;obtain⟨n,rfl⟩:=HW.out;exact⟨n+nq,by simp⟩
  ·have HF:Hid (asc ws=true):=by
    have e:k=ws.length:=by omega
    subst e;exact hup
   clear hw hup hwr
   go_wp2
   go_ret;exact⟨ze HF.out.symm,HW.out⟩
theorem zfF (b off cap:Nat)(ws:List ByteArray)(w:World)(hw:zD w (some ⟨b,off,none⟩) ws)(hl:ws.length<=1048576) :
 Calls Tryz.prog 227 #[.slice (some ⟨b,off,none⟩) ws.length cap] w
  fun e w'=>∃v,e=.returned v/\w'.ownsRow w.heap.size 9 1 v ws.length (ws.map Value.string)/\Below w.heap.size w w':=by
 obtain⟨i0,hi,hz0,hz1,hz2⟩:=info_parts Tryz.zc1
 have hnews:∀j u,(ws.map Value.string)[j]?=some u->w.cell? ((⟨b,off,none⟩:Addr).add j)=some u:=by
  intro j u hj
  have hlt:j<ws.length:=by
   have:=(List.getElem?_eq_some_iff.1 hj).1;simpa using this
  obtain⟨b',off',he,hb,hc⟩:=hw.cells (by rintro rfl;simp at hlt);simp only[Option.some.injEq,Addr.mk.injEq]at he;obtain⟨rfl,rfl,_⟩:=he;have h1:=hc j hlt
  have e1:(⟨b,off,none⟩:Addr).add j=⟨b,off+j,none⟩:=by
   unfold Addr.add;split
   ·rename_i h;subst h;simp
   ·rfl
  rw[e1,h1];rw[List.getElem?_map,List.getElem?_eq_getElem hlt]at hj
  simpa using hj
 have hone:∀u∈ws.map Value.string,u.oneCell'=true:=by
  intro u hu;simp only[List.mem_map]at hu;obtain⟨s,_,rfl⟩:=hu;rfl
 go_enter Tryz.func227,Tryz.ntmps227
 go_wp2_with (at_builtin;refine wpList_append_own _ rfl _ _ 106 rfl w.heap.size 9 i0 (.string ByteArray.empty) 1 16 Tryz.underlying106 hi hz0 hz1 hz2 rfl (by decide) (.slice none 0 0) 0 [] rfl ⟨rfl,.inl ⟨rfl,rfl⟩⟩ ⟨b,off,none⟩ ws.length cap (ws.map Value.string) rfl (by simp) hnews hone (by unfold maxLen;omega) (by omega) (Nat.le_refl _) ?_;intro v' w1 hown hgr _)
 simp only[Nat.zero_add,List.nil_append]at hown;go_ret;exact⟨v',rfl,hown,(bRf _ _).grown hgr (Nat.le_refl _) (by simp[Value.ownBlock])⟩
end Go.Proofs.YtnapmdofidgliaaGreat
