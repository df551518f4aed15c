import Derived.RangeFuncBound
import Derived.RangeFuncCalls
import Derived.RangeFuncLeaves
import Derived.Shelf.Abstract
import Derived.Shelf.RegionOpen
import Derived.OwnWalkIn
import Derived.LoopNIn
import Derived.LoopIn
import Derived.Test.YtjnpjkigofldlaaGreatM40
set_option maxRecDepth 100000
set_option maxHeartbeats 4000000
namespace Go.Proofs.YtjnpjkigofldlaaGreat
open Go.RowKit Go.Shelf
variable {fs:List Fld}{vs:List BA}{B b k o:Nat}{w w' w0:World}{v:Value}
attribute [local go_sem] Oper.semAt_some
structure Lk where
 pl:Int
 rl:Int
 to:BA
 nm:BA
 hto:to.size<=maxLen
 hnm:nm.size<=maxLen
def Lk.enc (x:Lk):AV:=#[.agg #[.i x.pl,.i x.rl,.s x.to,.s x.nm]]
noncomputable def zdk (fs:List Fld)(vs:List BA)(k:Nat):List Lk:=
 match fs[k]?,vs[k]? with
 | some f,some v=>if h:(f.kd=4/\v.toList.isEmpty=false)/\f.to.size<=maxLen/\v.size<=maxLen then [⟨k,f.rl,f.to,v,h.2.1,h.2.2⟩] else []
 | _,_=>[]
noncomputable def yt (fs:List Fld)(vs:List BA)(k:Nat):List Lk:=(List.range k).flatMap (zdk fs vs)
theorem ji (fs:List Fld)(vs:List BA)(k:Nat):yt fs vs (k+1)=yt fs vs k++zdk fs vs k:=by
 simp[yt,List.range_succ]
theorem zpx (fs:List Fld)(vs:List BA)(k:Nat):(zdk fs vs k).length<=1:=by
 unfold zdk
 split
 ·split <;> simp
 ·simp
theorem zmI (fs:List Fld)(vs:List BA):∀k,(yt fs vs k).length<=k
 | 0=>by simp[yt]
 | k+1=>by
  rw[ji,List.length_append]
  have:=zmI fs vs k
  have:=zpx fs vs k
  omega
theorem zrF (h:k<fs.length)(h':k<vs.length)(hn:¬(fs[k].kd=4/\vs[k].toList.isEmpty=false)):zdk fs vs k=[]:=by
 unfold zdk;rw[List.getElem?_eq_getElem h,List.getElem?_eq_getElem h']
 simp only
 rw[dif_neg (fun e=>hn e.1)]
theorem zlL (h:k<fs.length)(h':k<vs.length)(hk:fs[k].kd=4)(hv:vs[k].toList.isEmpty=false)(h1:fs[k].to.size<=maxLen)(h2:vs[k].size<=maxLen):zdk fs vs k=[⟨k,fs[k].rl,fs[k].to,vs[k],h1,h2⟩]:=by
 unfold zdk;rw[List.getElem?_eq_getElem h,List.getElem?_eq_getElem h']
 simp only
 rw[dif_pos ⟨⟨hk,hv⟩,h1,h2⟩]
theorem zbB (fs:List Fld)(vs:List BA){n:Nat}(h:k<=n):yt fs vs k <+: yt fs vs n:=by
 induction n with
 | zero=>
  have:k=0:=by omega
  subst this;exact List.prefix_rfl
 | succ n ih=>
  rcases Nat.eq_or_lt_of_le h with e|h2
  ·subst e;exact List.prefix_rfl
  ·rw[ji]
   exact(ih (by omega)).trans (List.prefix_append _ _)
structure CBP (P:Nat->Prop)(w w':World):Prop where
 size:w.heap.size<=w'.heap.size
 cells:∀(k:Nat) (C:AV) (t:TypeId) (z:Nat × Nat),P k->w.heap[k]?=some (.cells C t z)->w'.heap[k]?=some (.cells C t z)
abbrev CB (B:Nat):World->World->Prop:=CBP (fun k=>k<B)
theorem CBP.trans {P:Nat->Prop}{a b c:World}(h:CBP P a b)(k:CBP P b c):CBP P a c:=⟨Nat.le_trans h.size k.size,fun i C t z hi hc=>k.cells i C t z hi (h.cells i C t z hi hc)⟩
theorem CBP.of_below {P:Nat->Prop}(h:Below B w w')(hP:∀k,P k->k<B):CBP P w w':=⟨h.size,fun k _ _ _ hk hc=>(h.block k (hP k hk)).trans hc⟩
theorem CB.trans {a b c:World}(h:CB B a b)(k:CB B b c):CB B a c:=CBP.trans h k
theorem CB.of_below (h:Below B w w'):CB B w w':=CBP.of_below h fun _ hk=>hk
theorem CBP.alloc {P:Nat->Prop}(h:CBP P w0 w)(o:Obj):CBP P w0 (w.alloc o):=⟨Nat.le_trans h.size (by simp),fun k C t z hk hc=>by
 have h1:=h.cells k C t z hk hc;rw[Below.heap_alloc _ _ _ (gES h1).1];exact h1⟩
theorem CBP.drew {P:Nat->Prop}(h:CBP P w0 w):CBP P w0 w.drew:=⟨h.size,h.cells⟩
theorem zc7 (h:w.cell? (aD b o)=some v):∃C t z,w.heap[b]?=some (.cells C t z):=by
 unfold World.cell? at h
 cases hb:w.heap[b]? with
 | none=>simp[hb]at h
 | some ob=>cases ob <;> first|exact⟨_,_,_,rfl⟩|simp[hb]at h
theorem CBP.same {P:Nat->Prop}(h:CBP P w w')(hb:P b)(hc:w.cell? (aD b o)=some v)(o':Nat):w'.cell? (aD b o')=w.cell? (aD b o'):=by
 obtain⟨C,t,z,hC⟩:=zc7 hc
 simp[World.cell?,hC,h.cells b C t z hb hC]
theorem CBP.cell {P:Nat->Prop}(h:CBP P w w')(hb:P b)(hc:w.cell? (aD b o)=some v):w'.cell? (aD b o)=some v:=(h.same hb hc o).trans hc
theorem CBP.box {P:Nat->Prop}{X:AV}(h:CBP P w w')(hX:∀o,w.cell? (aD b o)=X[o]?)(hb:P b)(h0:0<X.size):∀o,w'.cell? (aD b o)=X[o]?:=fun o=>
 (h.same hb ((hX 0).trans (Array.getElem?_eq_getElem h0)) o).trans (hX o)
theorem zkp {fa:OA}(hf:yw w fa fs)(hne:fs≠[]):∀b off,fa=some (aD b off)->b<w.heap.size:=by
 intro b off e;obtain⟨b',off',e',hb,_⟩:=hf.rows hne;rw[e]at e'
 cases e'
 exact hb
theorem zkO {va:OA}(hv:zD w va vs)(hne:vs≠[]):∀b off,va=some (aD b off)->b<w.heap.size:=by
 intro b off e;obtain⟨b',off',e',hb,_⟩:=hv.cells hne;rw[e]at e'
 cases e'
 exact hb
theorem zmY {P:Nat->Prop}{va:OA}{J:Nat->World->Prop}(hv:zD w0 va vs)(hPv:vs≠[]->∀b off,va=some (aD b off)->P b):∀k (h:k<vs.length) W',J k W'->CBP P w0 W'->∀b off,va=some (aD b off)->W'.cell? (aD b (off+k))=some (.s vs[k]):=by
 intro k hk W' _ hB b off e;have hne:vs≠[]:=by rintro rfl;simp at hk
 obtain⟨b',off',e',_,hc⟩:=hv.cells hne;rw[e]at e'
 cases e'
 exact hB.cell (hPv hne b off e) (hc k hk)
theorem zh7 (P:Nat->Prop)(n:Nat)(hn:1<=n)(l Bs Bo:Nat)(kd:BA)(fs:List Fld)(fa:OA)(fcap:Nat)(o:Ob)(va ha:OA)(cap cap':Nat)(w0:World)(hbs:Bs<w0.heap.size)(hbo:Bo<w0.heap.size)
 (hBs:∀j,w0.cell? (aD Bs j)=(#[.s kd,.l fa fs.length fcap]:AV)[j]?) (hBo:∀j,w0.cell? (aD Bo j)=(oC o va ha cap cap')[j]?)
 (hf:yw w0 fa fs) (hv:zD w0 va o.vs) (hc:o.vs.length=fs.length) (hP:∀k,P k->k<w0.heap.size) (hPo:P Bo) (hPf:fs≠[]->∀b off,fa=some (aD b off)->P b) (J Jx:List Lk->World->Prop) (hV:∀k (h:k<o.vs.length) W',J (yt fs o.vs k) W'->CBP P w0 W'->∀b off,va=some (aD b off)->W'.cell? (aD b (off+k))=some (.s o.vs[k])) (W:World) (hW:Bw w0 W) (hJ:AbidesFrom W.heap.size J)
 (hY:∀pre x W1,J pre W1->pre.length<fs.length->x∈yt fs o.vs fs.length->YieldAt Fence.wide (n-1) Tryz.prog l x.enc W1 fun e W'=>
  (e=.returned (.bool true)/\J (pre++[x]) W'/\CBP P W1 W') \/ (e=.returned (.bool false)/\Jx (pre++[x]) W')) (h0:J [] W) :
 CallsIn Fence.wide n Tryz.prog 197 #[.func (.yield l) #[] #[],.pointer (some (aD Bs 0)),.pointer (some (aD Bo 0))] W fun e W'=>(∃v,e=.returned v) /\
  ((∃ys,ys=yt fs o.vs fs.length/\J ys W') \/ (∃pre,pre <+: yt fs o.vs fs.length/\Jx pre W')):=by
 refine callsIn_of_wp Tryz.func197 rfl trivial ?_ rfl;simp only[Tryz.ntmps197,List.size_toArray,List.length_cons,List.length_nil,Nat.reduceAdd,Nat.reduceSub,Array.replicate_succ,Array.replicate_zero,List.push_toArray,List.append_toArray,List.nil_append,List.cons_append];have hlen:=hf.len;unfold maxLen at hlen;have hX0:=za hBs hbs hW;have hXo:=za hBo hbo hW
 gi_wp2
 clear hX0 hXo
 gi_loopw [9] (fun i wr=>∃k:Nat,k<=fs.length/\i=.i k/\J (yt fs o.vs k) wr/\CBP P w0 wr) (fun i _=>fs.length-(intOf i).toNat)
 case atStart=>exact⟨0,Nat.zero_le _,rfl,h0,CBP.of_below hW hP⟩
 case round=>
  obtain⟨k,hk,rfl,hJs,hB⟩:=hrel
  by_cases hlt:k<fs.length
  ·have hltv:k<o.vs.length:=by omega
   obtain⟨fb,foff,rfl,hfb,hr⟩:=hf.rows (by rintro rfl;simp at hlt);obtain⟨wa,wcap,hf0⟩:=hr k hlt;obtain⟨d0,d1,d2,d3,d4,d5,d6,d7,d8,d9,d10⟩:=hf0.load;have hPF:=hPf (by rintro rfl;simp at hlt) fb foff rfl;have d0:=hB.cell hPF d0;have d1:=hB.cell hPF d1;have d2:=hB.cell hPF d2;have d3:=hB.cell hPF d3;have d4:=hB.cell hPF d4;have d5:=hB.cell hPF d5;have d6:=hB.cell hPF d6;have d7:=hB.cell hPF d7;have d8:=hB.cell hPF d8;have d9:=hB.cell hPF d9;have d10:=hB.cell hPF d10;obtain⟨p,po,rfl,hp,hpc⟩:=hv.cells (by intro e;rw[e]at hltv;simp at hltv);have hltI:(k:Int)<(fs.length:Int):=by omega
   have hltV:(k:Int)<(o.vs.length:Int):=by omega
   have hfbw:fb<wr.heap.size:=nLt hfb hB.size;have hpw:p<wr.heap.size:=nLt hp hB.size;have hbow:Bo<wr.heap.size:=nLt hbo hB.size;have cv:=hV k hltv wr hJs hB p po rfl;have hXo:=hB.box hBo hPo (by simp);have HS:Hid (fs[k].to.size<=maxLen/\o.vs[k].size<=maxLen):=⟨hf0.small.to,hv.small _ (List.getElem_mem _)⟩
   have HBa:Hid (∀ob,CBP P w0 (wr.alloc ob)):=fun ob=>hB.alloc _
   have HJa:Hid (∀ob,J (yt fs o.vs k) (wr.alloc ob)):=fun ob=>hJ _ _ _ none hJs (World.grownBy_alloc wr ob none) (fun r e=>by cases e)
   clear hf0 hpc hPF
   by_cases hk4:fs[k].kd=4
   rotate_left
   ·have HN:Hid (yt fs o.vs (k+1)=yt fs o.vs k):=by unfold Hid;rw[ji,zrF hlt hltv (fun h=>hk4 h.1),List.append_nil]
    have e1:(fs[k].kd != 4)=true:=by simp[hk4]
    clear hk4
    gi_wp2
    exact⟨⟨k+1,by omega,by go_num,by rw[HN.o];exact HJa.o _,HBa.o _⟩,zi hlt⟩
   ·by_cases hve:o.vs[k].toList.isEmpty=true
    ·have HN:Hid (yt fs o.vs (k+1)=yt fs o.vs k):=by unfold Hid;rw[ji,zrF hlt hltv (fun h=>by rw[hve]at h;cases h.2),List.append_nil]
     have e1:(fs[k].kd != 4)=false:=by simp[hk4]
     clear hk4
     gi_wp2
     exact⟨⟨k+1,by omega,by go_num,by rw[HN.o];exact HJa.o _,HBa.o _⟩,zi hlt⟩
    ·have hve':o.vs[k].toList.isEmpty=false:=by simpa using hve
     have HN:Hid (yt fs o.vs (k+1)=yt fs o.vs k++[⟨k,fs[k].rl,fs[k].to,o.vs[k],HS.o.1,HS.o.2⟩]):=by unfold Hid;rw[ji,zlL hlt hltv hk4 hve' HS.o.1 HS.o.2]
     have e1:(fs[k].kd != 4)=false:=by simp[hk4]
     clear hk4 hve;have hmx:Tryz.prog.follows .mixedOrders=true:=by kernel_rfl
     gi_wp2
     have hT0:=zI wr #[.s fs[k].nm,.i fs[k].kd,.i fs[k].ls,.i fs[k].ms,.l wa fs[k].ws.length wcap,.s fs[k].to,.i fs[k].rl,.bool fs[k].mu,.bool fs[k].fx,.s fs[k].df,.s fs[k].wg] 183;have hT1:=za hXo hbow ((bRf wr.heap.size wr).alloc (Nat.le_refl _) (.cells #[.s fs[k].nm,.i fs[k].kd,.i fs[k].ls,.i fs[k].ms,.l wa fs[k].ws.length wcap,.s fs[k].to,.i fs[k].rl,.bool fs[k].mu,.bool fs[k].fx,.s fs[k].df,.s fs[k].wg] 183));have hT2:=(((bRf wr.heap.size wr).alloc (Nat.le_refl _) (.cells #[.s fs[k].nm,.i fs[k].kd,.i fs[k].ls,.i fs[k].ms,.l wa fs[k].ws.length wcap,.s fs[k].to,.i fs[k].rl,.bool fs[k].mu,.bool fs[k].fx,.s fs[k].df,.s fs[k].wg] 183)).cell (p:=(aD p (po+k))) hpw).trans cv;have hW1J:=HJa.o (.cells #[.s fs[k].nm,.i fs[k].kd,.i fs[k].ls,.i fs[k].ms,.l wa fs[k].ws.length wcap,.s fs[k].to,.i fs[k].rl,.bool fs[k].mu,.bool fs[k].fx,.s fs[k].df,.s fs[k].wg] 183);have hW1B:=HBa.o (.cells #[.s fs[k].nm,.i fs[k].kd,.i fs[k].ls,.i fs[k].ms,.l wa fs[k].ws.length wcap,.s fs[k].to,.i fs[k].rl,.bool fs[k].mu,.bool fs[k].fx,.s fs[k].df,.s fs[k].wg] 183);have hzg:wr.heap.size<(wr.alloc (.cells #[.s fs[k].nm,.i fs[k].kd,.i fs[k].ls,.i fs[k].ms,.l wa fs[k].ws.length wcap,.s fs[k].to,.i fs[k].rl,.bool fs[k].mu,.bool fs[k].fx,.s fs[k].df,.s fs[k].wg] 183)).heap.size:=by simp
     obtain⟨W1,hW1⟩:=xN (wr.alloc (.cells #[.s fs[k].nm,.i fs[k].kd,.i fs[k].ls,.i fs[k].ms,.l wa fs[k].ws.length wcap,.s fs[k].to,.i fs[k].rl,.bool fs[k].mu,.bool fs[k].fx,.s fs[k].df,.s fs[k].wg] 183));rw[<- hW1]at hT0 hT1 hT2 hW1J hW1B hzg ⊢;clear hW1 d0 d1 d2 d3 d4 d5 d6 d7 d8 d9 d10 hXo cv;have hJd:J (yt fs o.vs k) W1.drew:=hJ _ _ _ none hW1J ⟨rfl,rfl,rfl,Nat.le_refl _,fun _ _ _=>rfl⟩ (fun r e=>by cases e);obtain⟨x,hx⟩:∃x:Lk,x=⟨k,fs[k].rl,fs[k].to,o.vs[k],HS.o.1,HS.o.2⟩:=⟨_,rfl⟩
     rw[<- hx]at HN;obtain⟨fn,tmps,assign,body,hy,hR⟩:=hY _ x W1.drew hJd (Nat.lt_of_le_of_lt (zmI fs o.vs k) hlt) ((zbB fs o.vs (show k+1<=fs.length by omega)).subset (by rw[HN.o];simp));rw[hx]at hy;unfold Lk.enc at hy;dsimp only at hy
     have HR:=hR.mono (R':=fun e W'=>∃t:Bool,e=.returned (.bool t)/\Hid (if t=true then J (yt fs o.vs k++[x]) W'/\CBP P W1.drew W' else Jx (yt fs o.vs k++[x]) W')) (by
      rintro e W' (⟨h1,h2,h3⟩|⟨h1,h2⟩)
      ·exact⟨true,h1,h2,h3⟩
      ·exact⟨false,h1,h2⟩)
     clear hR hx
     gi_region_with_o (refine HR.mono ?_;rintro e W3⟨t,rfl,H3⟩)
     all_goals cases t
     all_goals gi_wp2
     all_goals first
      | (refine bodyPost_ret (results_none rfl _ _ _) rfl ?_
         have h9:=H3.o;rw[if_neg (by simp)]at h9;refine⟨⟨_,rfl⟩,.inr ⟨_,?_,h9⟩⟩;rw[<- HN.o];exact zbB fs o.vs (by omega))
      | (have h9:=H3.o
         rw[if_pos rfl]at h9;exact⟨⟨k+1,by omega,by go_num,by rw[HN.o];exact h9.1,(hW1B.drew).trans h9.2⟩,zi hlt⟩)
  ·obtain rfl:k=fs.length:=by omega
   gi_wp2
   go_end0
   exact⟨⟨_,rfl⟩,.inl ⟨_,rfl,hJs⟩⟩
theorem zi2 (n:Nat)(hn:1<=n)(Bs Bo:Nat)(kd:BA)(fs:List Fld)(fa:OA)(fcap:Nat)(o:Ob)(va ha:OA)(cap cap':Nat)(w0:World)(hbs:Bs<w0.heap.size)(hbo:Bo<w0.heap.size)
 (hBs:∀j,w0.cell? (aD Bs j)=(#[.s kd,.l fa fs.length fcap]:AV)[j]?) (hBo:∀j,w0.cell? (aD Bo j)=(oC o va ha cap cap')[j]?)
 (hf:yw w0 fa fs) (hv:zD w0 va o.vs) (hc:o.vs.length=fs.length) :
 SeqStopsK Fence.wide n Tryz.prog 197 #[.pointer (some (aD Bs 0)),.pointer (some (aD Bo 0))] Lk.enc (Below w0.heap.size) (fun ys=>ys=yt fs o.vs fs.length) (fun pre=>pre <+: yt fs o.vs fs.length) fs.length w0:=
 fun l J Jx W hW hJ _ hY h0=>zh7 (fun k=>k<w0.heap.size) n hn l Bs Bo kd fs fa fcap o va ha cap cap' w0 hbs hbo hBs hBo hf hv hc (fun _ h=>h) hbo (zkp hf) J Jx (zmY hv (zkO hv)) W hW hJ (fun pre x W1 h1 h2 _=>by
  obtain⟨fn,tmps,assign,body,hy,hR⟩:=hY pre x W1 h1 h2;exact⟨fn,tmps,assign,body,hy,hR.mono (fun e W' h=>h.imp (fun h=>⟨h.1,h.2.1,CB.of_below h.2.2⟩) id)⟩) h0
theorem zoe (P:Nat->Prop)(n:Nat)(hn:1<=n)(Bs Bo:Nat)(kd:BA)(fs:List Fld)(fa:OA)(fcap:Nat)(o:Ob)(va ha:OA)(cap cap':Nat)(w0:World)(hbs:Bs<w0.heap.size)(hbo:Bo<w0.heap.size)
 (hBs:∀j,w0.cell? (aD Bs j)=(#[.s kd,.l fa fs.length fcap]:AV)[j]?) (hBo:∀j,w0.cell? (aD Bo j)=(oC o va ha cap cap')[j]?)
 (hf:yw w0 fa fs) (hv:zD w0 va o.vs) (hc:o.vs.length=fs.length) (hP:∀k,P k->k<w0.heap.size) (hPo:P Bo) (hPf:fs≠[]->∀b off,fa=some (aD b off)->P b) (hPv:o.vs≠[]->∀b off,va=some (aD b off)->P b) :
 SeqStopsK Fence.wide n Tryz.prog 197 #[.pointer (some (aD Bs 0)),.pointer (some (aD Bo 0))] (fun x:{ x:Lk // x∈yt fs o.vs fs.length }=>x.1.enc) (CBP P) (fun ys=>ys.map (·.1)=yt fs o.vs fs.length) (fun pre=>pre.map (·.1) <+: yt fs o.vs fs.length) fs.length w0:=
 fun l J Jx W hW hJ _ hY h0=>by
 refine(zh7 P n hn l Bs Bo kd fs fa fcap o va ha cap cap' w0 hbs hbo hBs hBo hf hv hc hP hPo hPf (fun pre W=>∃p,p.map (·.1)=pre/\J p W) (fun pre W=>∃p,p.map (·.1)=pre/\Jx p W) (zmY hv hPv) W hW ?_ ?_ ⟨[],rfl,h0⟩).mono ?_
 ·rintro s A B row⟨p,e,h⟩ hg hr
  exact⟨p,e,hJ p A B row h hg hr⟩
 ·rintro pre x W1⟨p,rfl,hp⟩ hlen hmem
  obtain⟨fn,tmps,assign,body,hy,hR⟩:=hY p ⟨x,hmem⟩ W1 hp (by simpa using hlen);exact⟨fn,tmps,assign,body,hy,hR.mono (fun e W' h=>h.imp (fun h=>⟨h.1,⟨p++[⟨x,hmem⟩],by simp,h.2.1⟩,h.2.2⟩) (fun h=>⟨h.1,⟨p++[⟨x,hmem⟩],by simp,h.2⟩⟩))⟩
 ·rintro e W'⟨h1,h2⟩
  refine⟨h1,h2.imp ?_ ?_⟩
  ·rintro⟨ys,rfl,p,e,hp⟩
   exact⟨p,e,hp⟩
  ·rintro⟨pre,hpre,p,rfl,hp⟩
   exact⟨p,hpre,hp⟩
theorem zop (n:Nat)(hn:1<=n)(Bs Bo:Nat)(kd:BA)(fs:List Fld)(fa:OA)(fcap:Nat)(o:Ob)(va ha:OA)(cap cap':Nat)(w0:World)(hbs:Bs<w0.heap.size)(hbo:Bo<w0.heap.size)
 (hBs:∀j,w0.cell? (aD Bs j)=(#[.s kd,.l fa fs.length fcap]:AV)[j]?) (hBo:∀j,w0.cell? (aD Bo j)=(oC o va ha cap cap')[j]?)
 (hf:yw w0 fa fs) (hv:zD w0 va o.vs) (hc:o.vs.length=fs.length) :
 SeqStopsK Fence.wide n Tryz.prog 197 #[.pointer (some (aD Bs 0)),.pointer (some (aD Bo 0))] (fun x:{ x:Lk // x∈yt fs o.vs fs.length }=>x.1.enc) (CB w0.heap.size) (fun ys=>ys.map (·.1)=yt fs o.vs fs.length) (fun pre=>pre.map (·.1) <+: yt fs o.vs fs.length) fs.length w0:=
 zoe (fun k=>k<w0.heap.size) n hn Bs Bo kd fs fa fcap o va ha cap cap' w0 hbs hbo hBs hBo hf hv hc (fun _ h=>h) hbo (zkp hf) (zkO hv)
end Go.Proofs.YtjnpjkigofldlaaGreat
