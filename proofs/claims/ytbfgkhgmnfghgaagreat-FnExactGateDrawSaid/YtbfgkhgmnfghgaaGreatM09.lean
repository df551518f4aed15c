import Derived.Test.YtbfgkhgmnfghgaaGreatM07
namespace Go.Proofs.YtbfgkhgmnfghgaaGreat
open Go.RowKit
def Tm.cells (m:Tm):AV:=#[.s m.nm,.s m.ov]
structure Tm.Small (m:Tm):Prop where
 nm:m.nm.size<=maxLen
 ov:m.ov.size<=maxLen
structure jS (w:World)(a:OA)(ts:List Tm):Prop where
 len:ts.length<=maxLen
 small:∀i (h:i<ts.length),ts[i].Small
 rows:ts≠[]->∃b off,a=some (aD b off)/\b<w.heap.size/\∀i (h:i<ts.length),∀j,j<2->w.cell? (aD b (off+i*2+j))=ts[i].cells[j]?
theorem jS.mono {w w':World}{a:OA}{ts:List Tm}(h:jS w a ts)(hl:Bw w w'):jS w' a ts:=
 ⟨h.len,h.small,fun hne=>by
  obtain⟨b,off,ha,hb,hr⟩:=h.rows hne;exact⟨b,off,ha,nLt hb hl.size,fun i hi j hj=>(hl.cell (p:=(aD b (off+i*2+j))) hb).trans (hr i hi j hj)⟩⟩
theorem jS.load {w w':World}{a:OA}{ts:List Tm}(h:jS w a ts)(hl:Bw w w')(i:Nat)(hi:i<ts.length):∃b off,a=some (aD b off)/\b<w.heap.size /\
 w'.cell? (aD b (off+i*2))=some (.s ts[i].nm)/\w'.cell? (aD b (off+i*2+1))=some (.s ts[i].ov):=by
 obtain⟨b,off,ha,hb,hr⟩:=h.rows (by rintro rfl;simp at hi);have hc:∀j,j<2->w'.cell? (aD b (off+i*2+j))=ts[i].cells[j]?:=fun j hj=>(hl.cell (p:=(aD b (off+i*2+j))) hb).trans (hr i hi j hj)
 exact⟨b,off,ha,hb,hc 0 (by omega),hc 1 (by omega)⟩
def Tm.sz (m:Tm):Nat:=m.nm.size+m.ov.size
def ziE (ts:List Tm):Nat:=(ts.map Tm.sz).sum
def zdx (ts:List Tm):Nat:=ts.length+ziE ts
def zrX (w:World)(b o:Nat)(v0 v1:Value):World:=(w.setCell (aD b o) v0).setCell (aD b (o+1)) v1
def set2 (C:AV)(o:Nat)(v0 v1:Value):AV:=(C.setIfInBounds o v0).setIfInBounds (o+1) v1
theorem zoQ {w:World}{b o:Nat}{C:AV}{t:TypeId}(h:w.heap[b]?=some (.cells C t))(v0 v1:Value):(zrX w b o v0 v1).heap[b]?=some (.cells (set2 C o v0 v1) t):=
 zi (zi h v0) v1
theorem zpk {B:Nat}{a w:World}(h:Below B a w){b:Nat}(hb:B<=b)(o:Nat)(v0 v1:Value):Below B a (zrX w b o v0 v1):=
 (h.setCell hb v0).setCell hb v1
theorem zqD (C:AV)(o:Nat)(v0 v1:Value):(set2 C o v0 v1).size=C.size:=by simp[set2]
theorem zqZ (C:AV)(o i:Nat)(v0 v1:Value)(h:i<o \/ o+2<=i):(set2 C o v0 v1)[i]?=C[i]?:=by
 unfold set2
 iterate 2 rw[Array.getElem?_setIfInBounds,if_neg (by omega)]
theorem zrJ (C:AV)(o j:Nat)(v0 v1:Value)(hj:j<2)(ho:o+2<=C.size):(set2 C o v0 v1)[o+j]?=(#[v0,v1]:AV)[j]?:=by
 have hc:j=0 \/ j=1:=by omega
 unfold set2
 rcases hc with h|h <;> subst h <;> simp[Array.getElem?_setIfInBounds] <;> omega
structure zak (ty:TypeId)(lo:Nat)(w:World)(bo:Nat)(ts:List Tm)(k:Nat):Prop where
 low:lo<=bo
 rows:∃C,w.heap[bo]?=some (.cells C ty)/\C.size=ts.length*2/\∀i (h:i<ts.length),i<k->∀j,j<2->C[i*2+j]?=ts[i].cells[j]?
theorem zak.at {ty:TypeId}{lo:Nat}{w:World}{bo:Nat}{ts:List Tm}(h:zak ty lo w bo ts ts.length)(hs:∀i (h:i<ts.length),ts[i].Small)(hl:ts.length<=maxLen):jS w (some (aD bo 0)) ts:=by
 obtain⟨C,hC,hsz,hr⟩:=h.rows;refine⟨hl,hs,fun _=>⟨bo,0,rfl,(gES hC).1,fun i hi j hj=>?_⟩⟩;rw[cell_of_block hC,Nat.zero_add];exact hr i hi hi j hj
theorem zak.later {ty:TypeId}{lo:Nat}{w w':World}{bo:Nat}{ts:List Tm}{k:Nat}(h:zak ty lo w bo ts k)(hb:Bw w w'):zak ty lo w' bo ts k:=by
 obtain⟨C,hC,hsz,hr⟩:=h.rows;exact⟨h.low,C,(hb.block bo (gES hC).1).trans hC,hsz,hr⟩
theorem zak.put {ty:TypeId}{lo:Nat}{w:World}{bo:Nat}{ts:List Tm}{k:Nat}(h:zak ty lo w bo ts k)(hk:k<ts.length) :
 zak ty lo (zrX w bo (k*2) (.s ts[k].nm) (.s ts[k].ov)) bo ts (k+1):=by
 obtain⟨C,hC,hsz,hr⟩:=h.rows;refine⟨h.low,_,zoQ hC _ _,by rw[zqD];exact hsz,fun i hi hik j hj=>?_⟩
 rcases Nat.lt_or_ge i k with hlt|hge
 ·rw[zqZ _ _ _ _ _ (by omega)]
  exact hr i hi hlt j hj
 ·have e:i=k:=by omega
  subst e;rw[zrJ _ _ _ _ _ hj (by omega)]
  rfl
def zq7:AV:=#[.s ByteArray.empty,.s ByteArray.empty]
def zpK (n:Nat):AV:=madeCells zq7 (n*2)
end Go.Proofs.YtbfgkhgmnfghgaaGreat
namespace Go.Proofs.YtbfgkhgmnfghgaaGreat
structure Rl where
 vs:List Int
 kd:BA
 tm:BA
 px:BA
structure Ac where
 vb:Int
 kd:BA
 tm:BA
 nm:BA
def za5 (v:Int):Bool:=decide (1<=v)&&decide (v<=5)
def qy (vs:List Int)(i:Nat):Bool:=za5 (vs.getD i 0)&&(decide (i=0)||decide (vs.getD (i-1) 0<vs.getD i 0))
def jd (vs:List Int):Bool:=decide (0<vs.length)&&up (qy vs) vs.length
def qM (r:Rl):Bool:=(r.kd.toList.isEmpty||zx r.kd)&&(r.tm.toList.isEmpty||zx r.tm)
def zQ (r:Rl):Bool:=qM r&&(jd r.vs&&(decide (r.px.size<=16)&&y9 r.px))
end Go.Proofs.YtbfgkhgmnfghgaaGreat
namespace Go.Proofs.YtbfgkhgmnfghgaaGreat
open Go.ChangeShapes Go.WideShapes Go.ChangeAt Go.RowKit
theorem Tryz.zlL:Tryz.prog.cellsOf 103=6:=by kernel_rfl
section
variable {H:Type} {enc:TypeId × Value->H} {w:World} {base:Nat} {spare:Nat->Bool} {held:Bool}
theorem zqs {fuel:Nat}{cs:List Value}{x:DataW H × List MemPlace}(h:DataW.trod enc Tryz.prog w base spare held fuel 103 cs=some x) :
 ∃m:Mnd,cs=m.cells.toList/\m.Small:=by
 have hlen:cs.length=6:=by
  obtain⟨_,_,_,_,hl,_,_⟩:=DataW.trod_struct Tryz.underlying103 h;rw[hl];exact Tryz.zlL
 match cs,hlen with
 | [c0,c1,c2,c3,c4,c5],_=>
  have hf:=zaf Tryz.underlying103 h;obtain⟨_,_,f0⟩:=hf 0 9 0 c0 rfl Tryz.zT rfl;obtain⟨_,_,f1⟩:=hf 1 9 1 c1 rfl Tryz.zT rfl;obtain⟨_,_,f2⟩:=hf 2 9 2 c2 rfl Tryz.zT rfl;obtain⟨_,_,f3⟩:=hf 3 9 3 c3 rfl Tryz.zT rfl;obtain⟨_,_,f4⟩:=hf 4 9 4 c4 rfl Tryz.zT rfl;obtain⟨_,_,f5⟩:=hf 5 9 5 c5 rfl Tryz.zT rfl;obtain⟨x0,e0,_,s0⟩:=DataW.trod_string Tryz.underlying9 f0;obtain⟨x1,e1,_,s1⟩:=DataW.trod_string Tryz.underlying9 f1;obtain⟨x2,e2,_,s2⟩:=DataW.trod_string Tryz.underlying9 f2;obtain⟨x3,e3,_,s3⟩:=DataW.trod_string Tryz.underlying9 f3;obtain⟨x4,e4,_,s4⟩:=DataW.trod_string Tryz.underlying9 f4;obtain⟨x5,e5,_,s5⟩:=DataW.trod_string Tryz.underlying9 f5;simp only[List.cons.injEq,and_true]at e0 e1 e2 e3 e4 e5;subst e0 e1 e2 e3 e4 e5;exact⟨⟨x0,x1,x2,x3,x4,x5⟩,rfl,s0,s1,s2,s3,s4,s5⟩
theorem zoO {fuel:Nat}{cs:List Value}{x:DataW H × List MemPlace}(h:DataW.trod enc Tryz.prog w base spare held fuel 23 cs=some x) :
 ∃a cap ms,cs=[.l a (List.length ms) cap]/\qN w a ms:=by
 obtain⟨a,len,cap,rfl,hm,hr⟩:=za1 Tryz.underlying23 Tryz.zlL (by omega) h
 rcases Nat.eq_zero_or_pos len with h0|hp
 ·subst h0
  exact⟨a,cap,[],rfl,⟨by simp[maxLen],fun i h=>absurd h (by simp),fun h=>absurd rfl h⟩⟩
 ·obtain⟨b,off,rfl,hb,hrow⟩:=hr hp
  have hf:∀i,i<len->∃m:Mnd,m.Small/\∀j,j<6->w.cell? (aD b (off+i*6+j))=m.cells[j]?:=by
   intro i hi;obtain⟨es,n,y,hel,hcell,hy⟩:=hrow i hi;obtain⟨m,rfl,hs⟩:=zqs hy;exact⟨m,hs,fun j hj=>by rw[hcell j hj];simp⟩
  obtain⟨ms,hl,hms⟩:=zcd len hf;exact⟨_,cap,ms,by rw[hl],⟨by omega,fun i hi=>(hms i hi).1,fun _=>⟨b,off,rfl,hb,fun i hi=>(hms i hi).2⟩⟩⟩
end
end Go.Proofs.YtbfgkhgmnfghgaaGreat
