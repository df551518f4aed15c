import Derived.Test.YtbfgkhgmnfghgaaGreatM03
import Derived.SliceStrings
import Derived.Lib.Overlaps
import Derived.Lib.AppendZerosOnto
import Derived.Laws.IdiomCopy
import Derived.Laws.Externs
import Derived.Deep.RegionLaw
set_option maxHeartbeats 400000
namespace Go.Proofs.YtbfgkhgmnfghgaaGreat
open Go.RowKit
theorem sA {α:Type}(l:List α)(i:Nat)(x:α):l.toArray.setIfInBounds i x=(l.set i x).toArray:=List.setIfInBounds_toArray ..
theorem s0 {α:Type}(x y:α)(l:List α):(x :: l).set 0 y=y :: l:=rfl
theorem sS {α:Type}(x y:α)(l:List α)(n:Nat):(x :: l).set (n+1) y=x :: l.set n y:=rfl
section
variable {P:Program} {ops:Array Oper} {Q:Exit->Act->World->Prop} {md:Region.Mode} {S:World->Prop}
theorem tH (i:Nat){oi:Oper}{v:Value}{fuel:Nat}{listed:Array Bool}{a a':Act}{w:World}(hi:nth ops.toList i=some oi)(hS:S w)
 (h:wpAnyH P md ops Q S fuel (listed.setIfInBounds i true) a' w) (hs:Region.noSelect ops=true:=by kernel_rfl) (hf:Region.free md ops listed i=true:=by kernel_rfl) (hr:(Region.ready md ops listed).contains i=true:=by kernel_rfl)
 (hw:Region.wanted oi (yielded ops a.tmps)=true:=by rfl)
 (hy:∀w,S w->(execOp a.eval oi).run P w=.ok (.value v) w:=by(intro w hSw;(try dsimp only at hSw);go_simp;try with_reducible rfl))
 (ha:a.put oi.dst v=a':=by((try simp only[Act.put,sA,s0,sS]);rfl))
 (hQ:∀c a w,Q (.panic c) (a.put oi.dst v) w->Q (.panic c) a w:=by exact fun _ _ _ h=>h):wpAnyH P md ops Q S (fuel+1) listed a w:=
 zrR hi hs hf hr hQ hw hS hy (ha ▸ h)
theorem kH (i:Nat){oi:Oper}{fuel:Nat}{listed:Array Bool}{a a':Act}{w:World}(hi:nth ops.toList i=some oi)(hS:S w)
 (h:wpAnyH P md ops Q S fuel (listed.setIfInBounds i true) a' w) (hs:Region.noSelect ops=true:=by kernel_rfl) (hf:Region.free md ops listed i=true:=by kernel_rfl) (hr:(Region.ready md ops listed).contains i=true:=by kernel_rfl)
 (hw:Region.wanted oi (yielded ops a.tmps)=false:=by rfl)
 (ha:a.put oi.dst undef=a':=by((try simp only[Act.put,sA,s0,sS]);rfl))
 (hQ:∀c a w,Q (.panic c) (a.put oi.dst undef) w->Q (.panic c) a w:=by exact fun _ _ _ h=>h):wpAnyH P md ops Q S (fuel+1) listed a w:=
 zrO hi hs hf hr hQ hw hS (ha ▸ h)
theorem tG (i:Nat){oi:Oper}{v:Value}{fuel:Nat}{listed:Array Bool}{a a':Act}{w:World}(h:wpAnyH P md ops Q S fuel (listed.setIfInBounds i true) a' w)
 (hS:S w:=by assumption) (hi:nth ops.toList i=some oi:=by rfl) (hs:Region.noSelect ops=true:=by kernel_rfl) (hf:Region.free md ops listed i=true:=by kernel_rfl) (hr:(Region.ready md ops listed).contains i=true:=by kernel_rfl)
 (hw:Region.wanted oi (yielded ops a.tmps)=true:=by rfl)
 (hy:∀w,S w->(execOp a.eval oi).run P w=.ok (.value v) w:=by(intro w hSw;(try dsimp only at hSw);go_simp;try with_reducible rfl))
 (ha:a.put oi.dst v=a':=by((try simp only[Act.put,sA,s0,sS]);rfl))
 (hQ:∀c a w,Q (.panic c) (a.put oi.dst v) w->Q (.panic c) a w:=by exact fun _ _ _ h=>h):wpAnyH P md ops Q S (fuel+1) listed a w:=
 zrR hi hs hf hr hQ hw hS hy (ha ▸ h)
theorem kG (i:Nat){oi:Oper}{fuel:Nat}{listed:Array Bool}{a a':Act}{w:World}(h:wpAnyH P md ops Q S fuel (listed.setIfInBounds i true) a' w)
 (hS:S w:=by assumption) (hi:nth ops.toList i=some oi:=by rfl) (hs:Region.noSelect ops=true:=by kernel_rfl) (hf:Region.free md ops listed i=true:=by kernel_rfl) (hr:(Region.ready md ops listed).contains i=true:=by kernel_rfl)
 (hw:Region.wanted oi (yielded ops a.tmps)=false:=by rfl)
 (ha:a.put oi.dst undef=a':=by((try simp only[Act.put,sA,s0,sS]);rfl))
 (hQ:∀c a w,Q (.panic c) (a.put oi.dst undef) w->Q (.panic c) a w:=by exact fun _ _ _ h=>h):wpAnyH P md ops Q S (fuel+1) listed a w:=
 zrO hi hs hf hr hQ hw hS (ha ▸ h)
theorem cH (i:Nat){oi:Oper}{fuel:Nat}{listed:Array Bool}{a:Act}{w:World}(hi:nth ops.toList i=some oi)
 (h:∀K:Act->World->Prop,Shut (∀a w,S w->(S w->wpAnyH P md ops Q S fuel (listed.setIfInBounds i true) a w)->K a w)->Oper.wp P oi a w K Q)
 (hr:Region.ready md ops listed=[i]:=by kernel_rfl) (hw:Region.wanted oi (yielded ops a.tmps)=true:=by rfl):wpAnyH P md ops Q S (fuel+1) listed a w:=
 zr1 hi hr hw h
end
end Go.Proofs.YtbfgkhgmnfghgaaGreat
namespace Go.Proofs.YtbfgkhgmnfghgaaGreat.LawDraw
open Go.ChangeShapes Go.WideShapes Go.ChangeAt Go.RowKit
theorem closed:joinedFacts Tryz.pinned.checked.prog 3 Tryz.f3 Rows.fnExactGateDrawSpec Rows.fnExactGateDrawRow=true:=by
 unfold joinedFacts;rw[kInPlace,kUnfol,kRecur,kNamed,kLaid,kMaps,kMay,kLifts]
 kernel_rfl
end Go.Proofs.YtbfgkhgmnfghgaaGreat.LawDraw
namespace Go.Proofs.YtbfgkhgmnfghgaaGreat
open Go.ChangeShapes Go.WideShapes Go.ChangeAt Go.RowKit
section
variable {H:Type} {enc:TypeId × Value->H} {P:Program} {w:World} {base:Nat} {spare:Nat->Bool} {held:Bool}
theorem zgN {a:Addr}{v:Value}(h:w.cell? a=some v):a=(aD a.block a.off)/\a.block<w.heap.size:=by
 obtain⟨b,o,s⟩:=a;unfold World.cell? at h
 cases hb:w.heap[b]? with
 | none=>simp[hb]at h
 | some x=>
  have hlt:=(gES hb).1
  cases s with
  | none=>exact⟨rfl,hlt⟩
  | some k=>cases x <;> simp[hb]at h
theorem zh2 {t e:TypeId}{fuel:Nat}{cs:List Value}{x:DataW H × List MemPlace}(ht:P.underlying t=some (.slice e))(he:P.underlying e=some .string)(hc:P.cellsOf e=1)
 (h:DataW.trod enc P w base spare held fuel t cs=some x):∃a cap ws,cs=[.l a ws.length cap]/\zG w a ws:=by
 rcases open_strings ht he hc h with⟨rfl,_⟩|⟨a,len,cap,ss,rfl,_,hl,hm,hz,_,hcell,hws⟩
 ·exact⟨none,0,[],rfl,⟨by simp[maxLen],by simp,fun h=>absurd rfl h⟩⟩
 ·have hle:len<=ss.length:=by rw[hz];split <;> omega
  have hlen:(ss.take len).length=len:=by rw[List.length_take];omega
  refine⟨some a,cap,ss.take len,by rw[hlen],⟨by rw[hlen];omega,fun s hs=>hws s (List.mem_of_mem_take hs),fun hne=>?_⟩⟩
  have hpos:0<len:=by
   rcases Nat.eq_zero_or_pos len with h0|h0
   ·rw[h0]at hne;simp at hne
   ·exact h0
  have h0:=hcell 0 (by omega);obtain⟨ha,hb⟩:=zgN h0;simp only[Addr.add,if_true]at ha hb;refine⟨a.block,a.off,by rw[<- ha],hb,fun i hi=>?_⟩;have hi':i<len:=by omega
  have h1:=hcell i (by omega)
  have e1:a.add i=(aD a.block (a.off+i)):=by
   unfold Addr.add;split
   ·rename_i h;subst h;simpa using ha
   ·rfl
  rw[e1]at h1;rw[h1,List.getElem_take,List.getD_eq_getElem?_getD,List.getElem?_eq_getElem (by omega)]
  rfl
theorem zkq {t:TypeId}{fs:Array Field}{fuel:Nat}{cs:List Value}{x:DataW H × List MemPlace}(ht:P.underlying t=some (.struct fs))(h:DataW.trod enc P w base spare held fuel t cs=some x)
 (i:Nat) (f:Field) (hf:fs[i]?=some f):∃n y,DataW.trod enc P w base spare held n f.type ((cs.drop f.offset).take (P.cellsOf f.type))=some y:=by
 obtain⟨xs,n,_,_,_,hxl,hall⟩:=DataW.trod_struct ht h;have hi:i<fs.size:=(gES hf).1;exact⟨n,xs[i]'(by omega),by rw[hall i f hf,List.getElem?_eq_getElem (by omega)]⟩
theorem zaf {t:TypeId}{fs:Array Field}{fuel:Nat}{cs:List Value}{x:DataW H × List MemPlace}(ht:P.underlying t=some (.struct fs))(h:DataW.trod enc P w base spare held fuel t cs=some x)
 (i tf off:Nat) (c:Value) (hf:(fs[i]?).map (fun f=>(f.type,f.offset))=some (tf,off)) (hone:P.cellsOf tf=1) (hc:cs[off]?=some c):∃n y,DataW.trod enc P w base spare held n tf [c]=some y:=by
 obtain⟨f,hf1,hf2⟩:=Option.map_eq_some_iff.1 hf;simp only[Prod.mk.injEq]at hf2;obtain⟨rfl,rfl⟩:=hf2;obtain⟨n,y,hy⟩:=zkq ht h i f hf1;rw[hone]at hy;obtain⟨hlt,hget⟩:=List.getElem?_eq_some_iff.1 hc;rw[List.drop_eq_getElem_cons hlt,hget]at hy;exact⟨n,y,hy⟩
end
theorem zcd {α:Type}{P:Nat->α->Prop}:∀n:Nat,(∀i,i<n->∃x,P i x)->∃l:List α,l.length=n/\∀i (h:i<l.length),P i l[i]
 | 0,_=>⟨[],rfl,fun i h=>absurd h (by simp)⟩
 | n+1,h=>by
  obtain⟨l,hl,hP⟩:=zcd n (fun i hi=>h i (by omega));obtain⟨x,hx⟩:=h n (by omega);refine⟨l++[x],by simp[hl],fun i hi=>?_⟩
  rcases Nat.lt_or_ge i n with h1|h1
  ·rw[List.getElem_append_left (by omega)];exact hP i (by omega)
  ·have e:i=n:=by simp at hi;omega
   subst e;rw[List.getElem_append_right (by omega)]
   simpa[hl] using hx
theorem add_add (b o m j:Nat):(((aD b o):Addr).add m).add j=(aD b (o+m+j)):=by
 unfold Addr.add
 by_cases h1:m=0 <;> by_cases h2:j=0 <;> simp[h1,h2]
section
variable {H:Type} {enc:TypeId × Value->H} {P:Program} {w:World} {base:Nat} {spare:Nat->Bool} {held:Bool}
theorem za1 {t e:TypeId}{sz fuel:Nat}{cs:List Value}{x:DataW H × List MemPlace}(ht:P.underlying t=some (.slice e))(hsz:P.cellsOf e=sz)(hpos:0<sz)
 (h:DataW.trod enc P w base spare held fuel t cs=some x) :
 ∃a len cap,cs=[.l a len cap]/\len<=maxLen/\(0<len->∃b off,a=some (aD b off)/\b<w.heap.size /\
  ∀i,i<len->∃es n y,es.length=sz/\(∀j,j<sz->w.cell? (aD b (off+i*sz+j))=es[j]?)/\DataW.trod enc P w base spare held n e es=some y):=by
 rcases DataW.trod_slice ht h with⟨rfl,_⟩|⟨a,len,cap,elems,rest,n,_,rfl,_,hb,hl,hm,hlen,hel,_,_⟩
 ·exact⟨none,0,0,rfl,by simp[maxLen],fun h=>absurd h (by omega)⟩
 ·refine⟨some a,len,cap,rfl,by omega,fun hp=>?_⟩
  have each:∀i,i<len->∃es y,w.cells? base (a.add (i*sz)) sz=some es/\DataW.trod enc P w base spare held n e es=some y:=by
   intro i hi;have h1:=hel i hi;rw[hsz,List.getElem?_eq_getElem (by omega),Option.bind_eq_some_iff]at h1;obtain⟨es,h2,h3⟩:=h1;exact⟨es,_,h2,h3⟩
  obtain⟨es0,y0,hc0,_⟩:=each 0 hp;obtain⟨_,_,hcell0⟩:=World.cells?_some hc0;have h00:=hcell0 0 hpos
  have hes0:∃v,w.cell? a=some v:=by
   have hl0:=(World.cells?_some hc0).2.1;refine⟨es0[0]'(by omega),?_⟩
   have:=h00
   simp only[Nat.zero_mul,Addr.add,if_true]at this;rw[this,List.getElem?_eq_getElem (by omega)]
  obtain⟨v0,hv0⟩:=hes0;obtain⟨ha,hbl⟩:=zgN hv0;refine⟨a.block,a.off,by rw[<- ha],hbl,fun i hi=>?_⟩;obtain⟨es,y,hc,hy⟩:=each i hi;obtain⟨_,hlen',hcell⟩:=World.cells?_some hc;refine⟨es,n,y,hlen',fun j hj=>?_,hy⟩
  have e1:(a.add (i*sz)).add j=(aD a.block (a.off+i*sz+j)):=by
   have:=add_add a.block a.off (i*sz) j
   rwa [<- ha]at this
  rw[<- e1];exact hcell j hj
end
theorem Tryz.zT:Tryz.prog.cellsOf 9=1:=by kernel_rfl
theorem Tryz.jX:Tryz.prog.cellsOf 3=1:=by kernel_rfl
theorem Tryz.zhB:Tryz.prog.cellsOf 4=1:=by kernel_rfl
end Go.Proofs.YtbfgkhgmnfghgaaGreat
namespace Go.Proofs.YtbfgkhgmnfghgaaGreat
open Go.RowKit
theorem zcf {P:Program}(w:World)(dT sT ty elem:TypeId)(sz b o dLen dCap:Nat)(a:Addr)(sLen sCap k:Nat)(cs:List Value)(hu:P.underlying dT=some (.slice elem))(hs:(P.info? elem).map (·.size)=some sz)(hk:Nat.min sLen dLen=k)(hn:cs.length=k*sz)
 (hsrc:∀j v,cs[j]?=some v->w.cell? (a.add j)=some v) (hc:∀j,j<cs.length->(w.cell? (aD b (o+j))).isSome=true) (hf:∀j,j<cs.length->w.frozen? (aD b (o+j))=false) (h1:∀v∈cs,v.oneCell'=true) :
 (Builtin.copy_ #[dT,sT] ty #[.l (some (aD b o)) dLen dCap,.l (some a) sLen sCap]).run P w=.ok (goInt k) (w.setCells b o cs):=by
 have hl:=run_loadCells_list (P:=P) w a cs hsrc;have hst:=run_storeCells_cells (P:=P) b o cs 0 w (by simpa using hc) (by simpa using hf) h1;rw[hn]at hl
 cases hq:P.info? elem with
 | none=>simp[hq]at hs
 | some i=>
  have hi:i.size=sz:=by simpa[hq] using hs
  simp[Builtin.copy_,run_underlying hu,Builtin.lenOf,Builtin.firstCells,sizeOf,typeInfo,hq,hi,hk,hl,hst]
section
variable {P:Program} {ops:Array Oper} {rest:List Oper} {o:Oper} {a:Act} {w w':World} {K:Act->World->Prop} {Q:Exit->Act->World->Prop} {E:Prop} {v u v':Value}
theorem zjU (d s:Operand)(t t':TypeId)(ho:o.op=.call { callee:=.builtin .copy,args:=#[d,s],argTypes:=#[t,t'] })(hd:a.eval d=v)(hs:a.eval s=u)(hr:(Builtin.copy_ #[t,t'] o.type #[v,u]).run P w=.ok v' w')(h:K (a.put o.dst v') w'):o.wp P a w K Q:=by
 unfold Oper.wp execOp;simp only[ho,resolve,invoke,builtin,Sem.run_bind,Sem.run_pure,Result.andThen_ok,List.map_toArray,List.map_cons,List.map_nil,hd,hs,hr];exact h
theorem zc5 (hgd:o.guard=none)(d s:Operand)(t t':TypeId)(ho:o.op=.call { callee:=.builtin .copy,args:=#[d,s],argTypes:=#[t,t'] })(hd:a.eval d=v)(hs:a.eval s=u)(hr:(Builtin.copy_ #[t,t'] o.type #[v,u]).run P w=.ok v' w')(h:wpList P ops Q rest (a.put o.dst v') w'):wpList P ops Q (o :: rest) a w:=
 wpList_plain hgd fun _ hK=>zjU d s t t' ho hd hs hr (hK _ _ h)
theorem zg9 (hg:o.guard=none)(d s:Operand)(t t':TypeId)(ho:o.op=.call { callee:=.builtin .copy,args:=#[d,s],argTypes:=#[t,t'] })(hd:a.eval d=v)(hs:a.eval s=u)(hr:(Builtin.copy_ #[t,t'] o.type #[v,u]).run P w=.ok v' w')(h:K (a.put o.dst v') w'):if Region.wanted o (yielded ops a.tmps)=true then Oper.wp P o a w K Q else E:=by
 have hw:Region.wanted o (yielded ops a.tmps)=true:=by simp[Region.wanted,hg]
 rw[if_pos hw];exact zjU d s t t' ho hd hs hr h
end
theorem ze8.load {w:World}{b off:Nat}{f:Fld}{a:OA}{cap:Nat}(h:ze8 w b off f a cap) :
 w.cell? (aD b off)=some (.s f.nm)/\w.cell? (aD b (off+1))=some (.i f.kd)/\w.cell? (aD b (off+2))=some (.i f.ls)/\w.cell? (aD b (off+3))=some (.i f.ms) /\
 w.cell? (aD b (off+4))=some (.l a f.ws.length cap)/\w.cell? (aD b (off+5))=some (.s f.to)/\w.cell? (aD b (off+6))=some (.i f.rl)/\w.cell? (aD b (off+7))=some (.bool f.mu) /\
 w.cell? (aD b (off+8))=some (.bool f.fx)/\w.cell? (aD b (off+9))=some (.s f.df)/\w.cell? (aD b (off+10))=some (.s f.wg):=
 ⟨h.cell 0 (by omega),h.cell 1 (by omega),h.cell 2 (by omega),h.cell 3 (by omega),h.cell 4 (by omega),h.cell 5 (by omega),h.cell 6 (by omega),h.cell 7 (by omega),h.cell 8 (by omega),h.cell 9 (by omega),h.cell 10 (by omega)⟩
structure Mnd where
 kd:BA
 fd:BA
 wh:BA
 wi:BA
 pt:BA
 fr:BA
def Mnd.cells (m:Mnd):AV:=#[.s m.kd,.s m.fd,.s m.wh,.s m.wi,.s m.pt,.s m.fr]
structure Mnd.Small (m:Mnd):Prop where
 kd:m.kd.size<=maxLen
 fd:m.fd.size<=maxLen
 wh:m.wh.size<=maxLen
 wi:m.wi.size<=maxLen
 pt:m.pt.size<=maxLen
 fr:m.fr.size<=maxLen
structure qN (w:World)(a:OA)(ms:List Mnd):Prop where
 len:ms.length<=maxLen
 small:∀i (h:i<ms.length),ms[i].Small
 rows:ms≠[]->∃b off,a=some (aD b off)/\b<w.heap.size/\∀i (h:i<ms.length),∀j,j<6->w.cell? (aD b (off+i*6+j))=ms[i].cells[j]?
theorem qN.mono {w w':World}{a:OA}{ms:List Mnd}(h:qN w a ms)(hl:Bw w w'):qN w' a ms:=
 ⟨h.len,h.small,fun hne=>by
  obtain⟨b,off,ha,hb,hr⟩:=h.rows hne;exact⟨b,off,ha,nLt hb hl.size,fun i hi j hj=>(hl.cell (p:=(aD b (off+i*6+j))) hb).trans (hr i hi j hj)⟩⟩
theorem qN.load {w w':World}{a:OA}{ms:List Mnd}(h:qN w a ms)(hl:Bw w w')(i:Nat)(hi:i<ms.length):∃b off,a=some (aD b off)/\b<w.heap.size /\
 w'.cell? (aD b (off+i*6))=some (.s ms[i].kd)/\w'.cell? (aD b (off+i*6+1))=some (.s ms[i].fd)/\w'.cell? (aD b (off+i*6+2))=some (.s ms[i].wh)/\w'.cell? (aD b (off+i*6+3))=some (.s ms[i].wi)/\w'.cell? (aD b (off+i*6+4))=some (.s ms[i].pt)/\w'.cell? (aD b (off+i*6+5))=some (.s ms[i].fr):=by
 obtain⟨b,off,ha,hb,hr⟩:=h.rows (by rintro rfl;simp at hi);have hc:∀j,j<6->w'.cell? (aD b (off+i*6+j))=ms[i].cells[j]?:=fun j hj=>(hl.cell (p:=(aD b (off+i*6+j))) hb).trans (hr i hi j hj)
 exact⟨b,off,ha,hb,hc 0 (by omega),hc 1 (by omega),hc 2 (by omega),hc 3 (by omega),hc 4 (by omega),hc 5 (by omega)⟩
end Go.Proofs.YtbfgkhgmnfghgaaGreat
namespace Go.Proofs.YtbfgkhgmnfghgaaGreat
def up (P:Nat->Bool)(n:Nat):Bool:=(List.range n).all P
theorem q9 (P:Nat->Bool)(n:Nat):up P (n+1)=(up P n&&P n):=by simp[up,List.range_succ,List.all_append]
theorem zaV {P:Nat->Bool}{k n:Nat}(h:k<n)(hk:P k=false):up P n=false:=by
 unfold up;rw[List.all_eq_false];exact⟨k,List.mem_range.2 h,by simp[hk]⟩
theorem zih {P:Nat->Bool}{k n:Nat}(h:k<n)(hu:up P n=true):P k=true:=by
 unfold up at hu;rw[List.all_eq_true]at hu;exact hu k (List.mem_range.2 h)
def less (a b:BA):Bool:=Op.bytesLess a.toList b.toList
def zdV (ws:List BA)(i:Nat):Bool:=zx (ws.getD i ByteArray.empty)&&(decide (i=0)||less (ws.getD (i-1) ByteArray.empty) (ws.getD i ByteArray.empty))
def asc (ws:List BA):Bool:=up (zdV ws) ws.length
theorem getD_at {α:Type}(l:List α)(i:Nat)(d:α)(h:i<l.length):l.getD i d=l[i]:=by
 rw[List.getD_eq_getElem?_getD,List.getElem?_eq_getElem h];rfl
theorem zj4 {ws:List BA}{k:Nat}(h:k<ws.length)(hn:zx ws[k]=false):zdV ws k=false:=by
 unfold zdV;rw[getD_at ws k _ h,hn];rfl
theorem zid {ws:List BA}(h:0<ws.length)(hn:zx ws[0]=true):zdV ws 0=true:=by
 unfold zdV;rw[getD_at ws 0 _ h,hn];rfl
theorem zei {ws:List BA}{k:Nat}(h:k+1<ws.length)(hn:zx ws[k+1]=true):zdV ws (k+1)=less ws[k] ws[k+1]:=by
 unfold zdV;rw[getD_at ws (k+1) _ h,Nat.add_sub_cancel,getD_at ws k _ (by omega),hn];simp
def yM (kd ls ms:Int)(n:Nat)(to:BA)(rl:Int)(wg:BA):Bool:=
 if kd=1 then decide (n=0)&&to.toList.isEmpty&&decide (rl=0)
 else if kd=2 then decide (ls=0)&&decide (ms=0)&&to.toList.isEmpty&&decide (rl=0)&&wg.toList.isEmpty
 else if kd=3 then decide (n=0)&&to.toList.isEmpty&&decide (rl=0)&&wg.toList.isEmpty
 else if kd=4 then decide (ls=0)&&decide (ms=0)&&decide (n=0)&&wg.toList.isEmpty
 else false
def jm (ls ms lo hi:Int):Bool:=decide (lo<=ls)&&decide (ls<=ms)&&decide (ms<=hi)
def zJ (ss:List Shp)(k:BA):Bool:=ss.any fun s=>decide (s.kd=k)
def zW (ss:List Shp)(f:Fld):Bool:=
 if f.kd=1 then jm f.ls f.ms 0 1000000&&(f.wg.toList.isEmpty||zx f.wg)
 else if f.kd=2 then decide (1<=f.ws.length)&&decide (f.ws.length<=6)&&asc f.ws
 else if f.kd=3 then jm f.ls f.ms 1 40
 else if f.kd=4 then zJ ss f.to&&(decide (1<=f.rl)&&decide (f.rl<=3))&&f.df.toList.isEmpty&&(decide (f.rl≠2)||!f.mu)
 else false
def bare (f:Fld):Bool:=yM f.kd f.ls f.ms f.ws.length f.to f.rl f.wg
def zfU (f:Fld)(v:BA):Bool:=fits f.kd f.ls f.ms f.ws v
def zr5 (f:Fld):Bool:=f.df.toList.isEmpty||zfU f f.df
def yH (ss:List Shp)(f:Fld):Bool:=bare f&&zW ss f&&zr5 f
def zcL:Shp:=⟨ByteArray.empty,[]⟩
def shapeOf (ss:List Shp)(k:BA):Shp:=(ss.find? fun s=>decide (s.kd=k)).getD zcL
theorem zgH (ss:List Shp)(v:BA)(k:Nat)(h:k<ss.length):zJ (ss.take (k+1)) v=(zJ (ss.take k) v||decide (ss[k].kd=v)):=by
 unfold zJ;rw[tSe h,List.any_append];simp
theorem zjD (ss:List Shp)(v:BA)(k:Nat)(h:k<ss.length)(e:ss[k].kd=v):zJ ss v=true:=by
 unfold zJ;rw[List.any_eq_true];exact⟨ss[k],List.getElem_mem h,by simpa using e⟩
theorem zim (ss:List Shp)(v:BA)(k:Nat)(h:ss.length<=k):zJ (ss.take k) v=zJ ss v:=by rw[tOl h]
theorem zgd (ss:List Shp)(v:BA)(k:Nat)(h:k<ss.length)(hb:zJ (ss.take k) v=false)(e:ss[k].kd=v):shapeOf ss v=ss[k]:=by
 unfold shapeOf
 have hn:(ss.take k).find? (fun s=>decide (s.kd=v))=none:=by
  rw[List.find?_eq_none];intro x hx;unfold zJ at hb;rw[List.any_eq_false]at hb;exact hb x hx
 conv=>lhs;rw[<- List.take_append_drop k ss]
 rw[List.find?_append,hn,List.drop_eq_getElem_cons h,List.find?_cons_of_pos (by simpa using e)];rfl
theorem zl2 (ss:List Shp)(v:BA)(hb:zJ ss v=false):shapeOf ss v=zcL:=by
 unfold shapeOf
 have hn:ss.find? (fun s=>decide (s.kd=v))=none:=by
  rw[List.find?_eq_none];intro x hx;unfold zJ at hb;rw[List.any_eq_false]at hb;exact hb x hx
 rw[hn];rfl
def hasName (fs:List Fld)(v:BA):Bool:=fs.any fun f=>decide (f.nm=v)
def zR (fs:List Fld)(v:BA):Int:=match fs.findIdx? (fun f=>decide (f.nm=v)) with|some i=>i|none=>-1
theorem zev (fs:List Fld)(v:BA)(k:Nat)(h:k<fs.length):hasName (fs.take (k+1)) v=(hasName (fs.take k) v||decide (fs[k].nm=v)):=by
 unfold hasName;rw[tSe h,List.any_append];simp
theorem ziw (fs:List Fld)(v:BA)(k:Nat)(h:fs.length<=k):hasName (fs.take k) v=hasName fs v:=by rw[tOl h]
theorem zej (fs:List Fld)(v:BA)(k:Nat)(h:k<fs.length)(hb:hasName (fs.take k) v=false)(e:fs[k].nm=v):zR fs v=k:=by
 unfold zR
 have hf:fs.findIdx? (fun f=>decide (f.nm=v))=some k:=by
  rw[List.findIdx?_eq_some_iff_getElem];refine⟨h,by simpa using e,fun j hj=>?_⟩;unfold hasName at hb;rw[List.any_eq_false]at hb
  have hm:fs[j]∈fs.take k:=by
   rw[List.mem_iff_getElem];exact⟨j,by simp;omega,by simp⟩
  exact hb _ hm
 rw[hf]
theorem zgx (fs:List Fld)(v:BA)(hb:hasName fs v=false):zR fs v=-1:=by
 unfold zR
 have hf:fs.findIdx? (fun f=>decide (f.nm=v))=none:=by
  rw[List.findIdx?_eq_none_iff];intro x hx;unfold hasName at hb;rw[List.any_eq_false]at hb
  simpa using hb x hx
 rw[hf]
theorem zlp (fs:List Fld)(v:BA)(k:Nat)(h:k<fs.length)(hh:hasName (fs.take k) v=true):∃j,j<k/\zR fs v=j:=by
 unfold hasName at hh;rw[List.any_eq_true]at hh;obtain⟨x,hx,he⟩:=hh;obtain⟨j,hj,rfl⟩:=List.mem_iff_getElem.1 hx;have hjk:j<k:=by simp at hj;omega
 have hjl:j<fs.length:=by omega
 have hv:fs[j].nm=v:=by simpa using he
 cases hf:fs.findIdx? (fun f=>decide (f.nm=v)) with
 | none=>
  rw[List.findIdx?_eq_none_iff]at hf
  have:=hf fs[j] (List.getElem_mem hjl)
  simp[hv]at this
 | some i=>
  refine⟨i,?_,by unfold zR;rw[hf]⟩;rw[List.findIdx?_eq_some_iff_getElem]at hf;obtain⟨hi,_,hmin⟩:=hf
  rcases Nat.lt_or_ge i k with h1|h1
  ·exact h1
  ·exfalso
   have:=hmin j (by omega)
   simp[hv]at this
def zbR:Fld:=⟨ByteArray.empty,0,0,0,[],ByteArray.empty,0,false,false,ByteArray.empty,ByteArray.empty⟩
def zfi (ss:List Shp)(fs:List Fld)(i:Nat):Bool:=
 zx (fs.getD i zbR).nm&&!hasName (fs.take i) (fs.getD i zbR).nm&&yH ss (fs.getD i zbR)
def ql (ss:List Shp)(fs:List Fld):Bool:=decide (fs.length<=6)&&up (zfi ss fs) fs.length
theorem zjo (ss:List Shp)(fs:List Fld)(i:Nat)(h:i<fs.length):zfi ss fs i=(zx fs[i].nm&&!hasName (fs.take i) fs[i].nm&&yH ss fs[i]):=by
 unfold zfi;rw[getD_at fs i _ h]
def y8 (ss:List Shp)(i:Nat):Bool:=
 zx (ss.getD i zcL).kd&&(decide (i=0)||less (ss.getD (i-1) zcL).kd (ss.getD i zcL).kd)&&ql ss (ss.getD i zcL).fs
def zZ (ss:List Shp):Bool:=decide (ss.length<=6)&&up (y8 ss) ss.length
theorem zfN (ss:List Shp)(h:0<ss.length):y8 ss 0=(zx ss[0].kd&&ql ss ss[0].fs):=by
 unfold y8;rw[getD_at ss 0 _ h];simp
theorem zgn (ss:List Shp)(k:Nat)(h:k+1<ss.length):y8 ss (k+1)=(zx ss[k+1].kd&&less ss[k].kd ss[k+1].kd&&ql ss ss[k+1].fs):=by
 unfold y8;rw[getD_at ss (k+1) _ h,Nat.add_sub_cancel,getD_at ss k _ (by omega)];simp
theorem zb2:∀x:List UInt8,Op.bytesLess x x=false
 | []=>rfl
 | a :: x=>by
  simp only[Op.bytesLess,Bool.or_eq_false_iff,decide_eq_false_iff_not,Bool.and_eq_false_iff];exact⟨fun h=>by simp at h,Or.inr (zb2 x)⟩
theorem zbe:∀x y z:List UInt8,Op.bytesLess x y=true->Op.bytesLess y z=true->Op.bytesLess x z=true
 | _,[],_,h,_=>by simp[Op.bytesLess]at h
 | [],_ :: _,[],_,h=>by simp[Op.bytesLess]at h
 | [],_ :: _,_ :: _,_,_=>rfl
 | _ :: _,_ :: _,[],_,h=>by simp[Op.bytesLess]at h
 | a :: x,b :: y,c :: z,h,k=>by
  simp only[Op.bytesLess,Bool.or_eq_true,decide_eq_true_eq,Bool.and_eq_true,beq_iff_eq]at h k ⊢
  rcases h with h|⟨rfl,h⟩
  ·rcases k with k|⟨rfl,k⟩
   ·exact Or.inl (UInt8.lt_trans h k)
   ·exact Or.inl h
  ·rcases k with k|⟨rfl,k⟩
   ·exact Or.inl k
   ·exact Or.inr ⟨rfl,zbe x y z h k⟩
end Go.Proofs.YtbfgkhgmnfghgaaGreat
namespace Go.Proofs.YtbfgkhgmnfghgaaGreat
open Go.RowKit
theorem zi {w:World}{b o:Nat}{C:AV}{t:TypeId}(h:w.heap[b]?=some (.cells C t))(v:Value):(w.setCell (aD b o) v).heap[b]?=some (.cells (C.setIfInBounds o v) t):=by
 simp[World.setCell,Array.getElem?_modify,h]
theorem cell_of_block {w:World}{b o:Nat}{C:AV}{t:TypeId}(h:w.heap[b]?=some (.cells C t)):w.cell? (aD b o)=C[o]?:=by simp[World.cell?,h]
theorem zf {w:World}{b o:Nat}{C:AV}{t:TypeId}(h:w.heap[b]?=some (.cells C t)):w.frozen? (aD b o)=false:=by simp[World.frozen?,h]
def znK (w:World)(b o:Nat)(v0 v1 v2 v3 v4 v5 v6 v7 v8 v9 v10:Value):World:=((((((((((w.setCell (aD b o) v0).setCell (aD b (o+1)) v1).setCell (aD b (o+2)) v2).setCell (aD b (o+3)) v3).setCell (aD b (o+4)) v4).setCell (aD b (o+5)) v5).setCell (aD b (o+6)) v6).setCell (aD b (o+7)) v7).setCell (aD b (o+8)) v8).setCell (aD b (o+9)) v9).setCell (aD b (o+10)) v10
def zkf (C:AV)(o:Nat)(v0 v1 v2 v3 v4 v5 v6 v7 v8 v9 v10:Value):AV:=((((((((((C.setIfInBounds o v0).setIfInBounds (o+1) v1).setIfInBounds (o+2) v2).setIfInBounds (o+3) v3).setIfInBounds (o+4) v4).setIfInBounds (o+5) v5).setIfInBounds (o+6) v6).setIfInBounds (o+7) v7).setIfInBounds (o+8) v8).setIfInBounds (o+9) v9).setIfInBounds (o+10) v10
theorem znT {w:World}{b o:Nat}{C:AV}{t:TypeId}(h:w.heap[b]?=some (.cells C t))(v0 v1 v2 v3 v4 v5 v6 v7 v8 v9 v10:Value):(znK w b o v0 v1 v2 v3 v4 v5 v6 v7 v8 v9 v10).heap[b]?=some (.cells (zkf C o v0 v1 v2 v3 v4 v5 v6 v7 v8 v9 v10) t):=
 zi (zi (zi (zi (zi (zi (zi (zi (zi (zi (zi h v0) v1) v2) v3) v4) v5) v6) v7) v8) v9) v10
theorem znt {B:Nat}{a w:World}(h:Below B a w){b:Nat}(hb:B<=b)(o:Nat)(v0 v1 v2 v3 v4 v5 v6 v7 v8 v9 v10:Value):Below B a (znK w b o v0 v1 v2 v3 v4 v5 v6 v7 v8 v9 v10):=
 ((((((((((h.setCell hb v0).setCell hb v1).setCell hb v2).setCell hb v3).setCell hb v4).setCell hb v5).setCell hb v6).setCell hb v7).setCell hb v8).setCell hb v9).setCell hb v10
theorem zio (w:World)(b o b':Nat)(hb:b'≠b)(v0 v1 v2 v3 v4 v5 v6 v7 v8 v9 v10:Value):(znK w b o v0 v1 v2 v3 v4 v5 v6 v7 v8 v9 v10).heap[b']?=w.heap[b']?:=by
 unfold znK
 iterate 11 rw[Below.heap_setCell _ _ _ _ hb]
theorem zo7 (C:AV)(o:Nat)(v0 v1 v2 v3 v4 v5 v6 v7 v8 v9 v10:Value):(zkf C o v0 v1 v2 v3 v4 v5 v6 v7 v8 v9 v10).size=C.size:=by simp[zkf]
theorem zqf (C:AV)(o i:Nat)(v0 v1 v2 v3 v4 v5 v6 v7 v8 v9 v10:Value)(h:i<o \/ o+11<=i):(zkf C o v0 v1 v2 v3 v4 v5 v6 v7 v8 v9 v10)[i]?=C[i]?:=by
 unfold zkf
 iterate 11 rw[Array.getElem?_setIfInBounds,if_neg (by omega)]
theorem zqH (C:AV)(o j:Nat)(v0 v1 v2 v3 v4 v5 v6 v7 v8 v9 v10:Value)(hj:j<11)(ho:o+11<=C.size):(zkf C o v0 v1 v2 v3 v4 v5 v6 v7 v8 v9 v10)[o+j]?=(#[v0,v1,v2,v3,v4,v5,v6,v7,v8,v9,v10]:AV)[j]?:=by
 have hc:j=0 \/ j=1 \/ j=2 \/ j=3 \/ j=4 \/ j=5 \/ j=6 \/ j=7 \/ j=8 \/ j=9 \/ j=10:=by omega
 unfold zkf
 rcases hc with h|h|h|h|h|h|h|h|h|h|h <;> subst h <;> simp[Array.getElem?_setIfInBounds] <;> omega
theorem zaa (c:UInt8)(w:World) :
 Calls Tryz.prog 70 #[.int .u8 c.toNat] w fun e w'=>e=.returned (.bool (zK c))/\w'=w:=by
 go_enter Tryz.func70,Tryz.ntmps70
 go_wp2
 all_goals
  go_ret;refine⟨ze ?_,rfl⟩;rw[Bool.eq_iff_iff];simp[zK];try omega
end Go.Proofs.YtbfgkhgmnfghgaaGreat
