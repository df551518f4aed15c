import Derived.RangeFuncNested
import Derived.RangeFuncBound
import Derived.RangeFuncCalls
import Derived.RangeFuncLeaves
import Derived.Shelf.Abstract
import Derived.Shelf.RegionOpen
import Derived.OwnWalkIn
import Derived.LoopNIn
import Derived.LoopIn
import Derived.Test.YtnapmdofidgliaaGreatM44
set_option maxHeartbeats 4000000
namespace Go.Proofs.YtnapmdofidgliaaGreat
open Go.RowKit Go.Shelf
attribute [local go_sem] Oper.semAt_some
structure Lk where
 pl:Int
 rl:Int
 to:ByteArray
 nm:ByteArray
 hto:to.size<=maxLen
 hnm:nm.size<=maxLen
def Lk.enc (x:Lk):Array Value:=#[.agg #[.int .i64 x.pl,.int .i64 x.rl,.string x.to,.string x.nm]]
noncomputable def zeN (fs:List Fld)(vs:List ByteArray)(k:Nat):List Lk:=
 match fs[k]?,vs[k]? with
 | some f,some v=>if h:(f.kd=4/\v.toList.isEmpty=false)/\f.to.size<=maxLen/\v.size<=maxLen then [⟨k,f.rl,f.to,v,h.2.1,h.2.2⟩] else []
 | _,_=>[]
noncomputable def qm (fs:List Fld)(vs:List ByteArray)(k:Nat):List Lk:=(List.range k).flatMap (zeN fs vs)
theorem zax (fs:List Fld)(vs:List ByteArray)(k:Nat):qm fs vs (k+1)=qm fs vs k++zeN fs vs k:=by
 simp[qm,List.range_succ]
theorem zqD (fs:List Fld)(vs:List ByteArray)(k:Nat):(zeN fs vs k).length<=1:=by
 unfold zeN
 split
 ·split <;> simp
 ·simp
theorem zhd (fs:List Fld)(vs:List ByteArray):∀k,(qm fs vs k).length<=k
 | 0=>by simp[qm]
 | k+1=>by
  rw[zax,List.length_append]
  have:=zhd fs vs k
  have:=zqD fs vs k
  omega
theorem zpj {fs:List Fld}{vs:List ByteArray}{k:Nat}(h:k<fs.length)(h':k<vs.length)(hn:¬(fs[k].kd=4/\vs[k].toList.isEmpty=false)):zeN fs vs k=[]:=by
 unfold zeN;rw[List.getElem?_eq_getElem h,List.getElem?_eq_getElem h']
 simp only
 rw[dif_neg (fun e=>hn e.1)]
theorem zqI {fs:List Fld}{vs:List ByteArray}{k:Nat}(h:k<fs.length)(h':k<vs.length)(hk:fs[k].kd=4)(hv:vs[k].toList.isEmpty=false)(h1:fs[k].to.size<=maxLen)(h2:vs[k].size<=maxLen):zeN fs vs k=[⟨k,fs[k].rl,fs[k].to,vs[k],h1,h2⟩]:=by
 unfold zeN;rw[List.getElem?_eq_getElem h,List.getElem?_eq_getElem h']
 simp only
 rw[dif_pos ⟨⟨hk,hv⟩,h1,h2⟩]
theorem zcx (fs:List Fld)(vs:List ByteArray){k n:Nat}(h:k<=n):qm fs vs k <+: qm fs vs n:=by
 induction n with
 | zero=>
  have:k=0:=by omega
  subst this;exact List.prefix_rfl
 | succ n ih=>
  rcases Nat.eq_or_lt_of_le h with e|h2
  ·subst e;exact List.prefix_rfl
  ·rw[zax]
   exact(ih (by omega)).trans (List.prefix_append _ _)
structure CBP (P:Nat->Prop)(w w':World):Prop where
 size:w.heap.size<=w'.heap.size
 cells:∀(k:Nat) (C:Array Value) (t:TypeId) (z:Nat × Nat),P k->w.heap[k]?=some (.cells C t z)->w'.heap[k]?=some (.cells C t z)
abbrev CB (B:Nat):World->World->Prop:=CBP (fun k=>k<B)
theorem CBP.trans {P:Nat->Prop}{a b c:World}(h:CBP P a b)(k:CBP P b c):CBP P a c:=⟨Nat.le_trans h.size k.size,fun i C t z hi hc=>k.cells i C t z hi (h.cells i C t z hi hc)⟩
theorem CBP.of_below {P:Nat->Prop}{B:Nat}{w w':World}(h:Below B w w')(hP:∀k,P k->k<B):CBP P w w':=⟨h.size,fun k _ _ _ hk hc=>(h.block k (hP k hk)).trans hc⟩
theorem CB.trans {B:Nat}{a b c:World}(h:CB B a b)(k:CB B b c):CB B a c:=CBP.trans h k
theorem CB.of_below {B:Nat}{w w':World}(h:Below B w w'):CB B w w':=CBP.of_below h fun _ hk=>hk
theorem CBP.alloc {P:Nat->Prop}{w0 w:World}(h:CBP P w0 w)(o:Obj):CBP P w0 (w.alloc o):=⟨Nat.le_trans h.size (by simp),fun k C t z hk hc=>by
 have h1:=h.cells k C t z hk hc;rw[Below.heap_alloc _ _ _ (gES h1).1];exact h1⟩
theorem CBP.drew {P:Nat->Prop}{w0 w:World}(h:CBP P w0 w):CBP P w0 w.drew:=⟨h.size,h.cells⟩
theorem zoM {w:World}{b o:Nat}{v:Value}(h:w.cell? ⟨b,o,none⟩=some v):∃C t z,w.heap[b]?=some (.cells C t z):=by
 unfold World.cell? at h
 cases hb:w.heap[b]? with
 | none=>simp[hb]at h
 | some ob=>cases ob <;> first|exact⟨_,_,_,rfl⟩|simp[hb]at h
theorem CBP.same {P:Nat->Prop}{w w':World}(h:CBP P w w'){b o:Nat}{v:Value}(hb:P b)(hc:w.cell? ⟨b,o,none⟩=some v)(o':Nat):w'.cell? ⟨b,o',none⟩=w.cell? ⟨b,o',none⟩:=by
 obtain⟨C,t,z,hC⟩:=zoM hc
 simp[World.cell?,hC,h.cells b C t z hb hC]
theorem CBP.cell {P:Nat->Prop}{w w':World}(h:CBP P w w'){b o:Nat}{v:Value}(hb:P b)(hc:w.cell? ⟨b,o,none⟩=some v):w'.cell? ⟨b,o,none⟩=some v:=(h.same hb hc o).trans hc
theorem CBP.box {P:Nat->Prop}{w w':World}{b:Nat}{X:Array Value}(h:CBP P w w')(hX:∀o,w.cell? ⟨b,o,none⟩=X[o]?)(hb:P b)(h0:0<X.size):∀o,w'.cell? ⟨b,o,none⟩=X[o]?:=fun o=>
 (h.same hb ((hX 0).trans (Array.getElem?_eq_getElem h0)) o).trans (hX o)
theorem zf0 {w:World}{fa:Option Addr}{fs:List Fld}(hf:zY w fa fs)(hne:fs≠[]):∀b off,fa=some ⟨b,off,none⟩->b<w.heap.size:=by
 intro b off e;obtain⟨b',off',e',hb,_⟩:=hf.rows hne;rw[e]at e'
 cases e'
 exact hb
theorem zf4 {w:World}{va:Option Addr}{vs:List ByteArray}(hv:zD w va vs)(hne:vs≠[]):∀b off,va=some ⟨b,off,none⟩->b<w.heap.size:=by
 intro b off e;obtain⟨b',off',e',hb,_⟩:=hv.cells hne;rw[e]at e'
 cases e'
 exact hb
set_option maxRecDepth 100000 in
theorem zlf (P:Nat->Prop)(n:Nat)(hn:1<=n)(l Bs Bo:Nat)(kd:ByteArray)(fs:List Fld)(fa:Option Addr)(fcap:Nat)(o:Ob)(va ha:Option Addr)(cap cap':Nat)(w0:World)(hbs:Bs<w0.heap.size)(hbo:Bo<w0.heap.size)
 (hBs:∀j,w0.cell? ⟨Bs,j,none⟩=(#[.string kd,.slice fa fs.length fcap]:Array Value)[j]?) (hBo:∀j,w0.cell? ⟨Bo,j,none⟩=(#[.string o.kd,.string o.nm,.string o.tm,.slice va o.vs.length cap,.bool o.en,.slice ha o.hs.length cap',.int .i64 o.vr]:Array Value)[j]?)
 (hf:zY w0 fa fs) (hv:zD w0 va o.vs) (hc:o.vs.length=fs.length) (hP:∀k,P k->k<w0.heap.size) (hPo:P Bo) (hPf:fs≠[]->∀b off,fa=some ⟨b,off,none⟩->P b) (hPv:o.vs≠[]->∀b off,va=some ⟨b,off,none⟩->P b) (J Jx:List Lk->World->Prop) (W:World) (hW:Below w0.heap.size w0 W) (hJ:AbidesFrom W.heap.size J)
 (hY:∀pre x W1,J pre W1->pre.length<fs.length->x∈qm fs o.vs fs.length->YieldAt Fence.wide (n-1) Tryz.prog l x.enc W1 fun e W'=>
  (e=.returned (.bool true)/\J (pre++[x]) W'/\CBP P W1 W') \/ (e=.returned (.bool false)/\Jx (pre++[x]) W')) (h0:J [] W) :
 CallsIn Fence.wide n Tryz.prog 123 #[.func (.yield l) #[] #[],.pointer (some ⟨Bs,0,none⟩),.pointer (some ⟨Bo,0,none⟩)] W fun e W'=>(∃v,e=.returned v) /\
  ((∃ys,ys=qm fs o.vs fs.length/\J ys W') \/ (∃pre,pre <+: qm fs o.vs fs.length/\Jx pre W')):=by
 refine callsIn_of_wp Tryz.func123 rfl trivial ?_ rfl;simp only[Tryz.ntmps123,List.size_toArray,List.length_cons,List.length_nil,Nat.reduceAdd,Nat.reduceSub,Array.replicate_succ,Array.replicate_zero,List.push_toArray,List.append_toArray,List.nil_append,List.cons_append];have hlen:=hf.len;unfold maxLen at hlen;have hX0:=za hBs hbs hW;have hXo:=za hBo hbo hW
 gi_wp2
 clear hX0 hXo
 gi_loopw [9] (fun i wr=>∃k:Nat,k<=fs.length/\i=.int .i64 k/\J (qm fs o.vs k) wr/\CBP P w0 wr) (fun i _=>fs.length-(intOf i).toNat)
 case atStart=>exact⟨0,Nat.zero_le _,rfl,h0,CBP.of_below hW hP⟩
 case round=>
  obtain⟨k,hk,rfl,hJs,hB⟩:=hrel
  by_cases hlt:k<fs.length
  ·have hltv:k<o.vs.length:=by omega
   obtain⟨fb,foff,rfl,hfb,hr⟩:=hf.rows (by rintro rfl;simp at hlt);obtain⟨wa,wcap,hf0⟩:=hr k hlt;obtain⟨d0,d1,d2,d3,d4,d5,d6,d7,d8,d9,d10⟩:=hf0.load;have hPF:=hPf (by rintro rfl;simp at hlt) fb foff rfl;have d0:=hB.cell hPF d0;have d1:=hB.cell hPF d1;have d2:=hB.cell hPF d2;have d3:=hB.cell hPF d3;have d4:=hB.cell hPF d4;have d5:=hB.cell hPF d5;have d6:=hB.cell hPF d6;have d7:=hB.cell hPF d7;have d8:=hB.cell hPF d8;have d9:=hB.cell hPF d9;have d10:=hB.cell hPF d10;obtain⟨p,po,rfl,hp,hpc⟩:=hv.cells (by intro e;rw[e]at hltv;simp at hltv);have hltI:(k:Int)<(fs.length:Int):=by omega
   have hltV:(k:Int)<(o.vs.length:Int):=by omega
   have hfbw:fb<wr.heap.size:=nLt hfb hB.size;have hpw:p<wr.heap.size:=nLt hp hB.size;have hbow:Bo<wr.heap.size:=nLt hbo hB.size;have cv:=hB.cell (hPv (by intro e;rw[e]at hltv;simp at hltv) p po rfl) (hpc k hltv);have hXo:=hB.box hBo hPo (by simp);have HS:Hid (fs[k].to.size<=maxLen/\o.vs[k].size<=maxLen):=⟨hf0.small.to,hv.small _ (List.getElem_mem _)⟩
   have HBa:Hid (∀ob,CBP P w0 (wr.alloc ob)):=fun ob=>hB.alloc _
   have HJa:Hid (∀ob,J (qm fs o.vs k) (wr.alloc ob)):=fun ob=>hJ _ _ _ none hJs (World.grownBy_alloc wr ob none) (fun r e=>by cases e)
   clear hf0 hpc hPF
   by_cases hk4:fs[k].kd=4
   rotate_left
   ·have HN:Hid (qm fs o.vs (k+1)=qm fs o.vs k):=by unfold Hid;rw[zax,zpj hlt hltv (fun h=>hk4 h.1),List.append_nil]
    have e1:(fs[k].kd != 4)=true:=by simp[hk4]
    clear hk4
    gi_wp2
    exact⟨⟨k+1,by omega,by go_num,by rw[HN.out];exact HJa.out _,HBa.out _⟩,zm hlt⟩
   ·by_cases hve:o.vs[k].toList.isEmpty=true
    ·have HN:Hid (qm fs o.vs (k+1)=qm fs o.vs k):=by unfold Hid;rw[zax,zpj hlt hltv (fun h=>by rw[hve]at h;cases h.2),List.append_nil]
     have e1:(fs[k].kd != 4)=false:=by simp[hk4]
     clear hk4
     gi_wp2
     exact⟨⟨k+1,by omega,by go_num,by rw[HN.out];exact HJa.out _,HBa.out _⟩,zm hlt⟩
    ·have hve':o.vs[k].toList.isEmpty=false:=by simpa using hve
     have HN:Hid (qm fs o.vs (k+1)=qm fs o.vs k++[⟨k,fs[k].rl,fs[k].to,o.vs[k],HS.out.1,HS.out.2⟩]):=by unfold Hid;rw[zax,zqI hlt hltv hk4 hve' HS.out.1 HS.out.2]
     have e1:(fs[k].kd != 4)=false:=by simp[hk4]
     clear hk4 hve;have hmx:Tryz.prog.follows .mixedOrders=true:=by kernel_rfl
     gi_wp2
     have hT0:=zl wr #[.string fs[k].nm,.int .i64 fs[k].kd,.int .i64 fs[k].ls,.int .i64 fs[k].ms,.slice wa fs[k].ws.length wcap,.string fs[k].to,.int .i64 fs[k].rl,.bool fs[k].mu,.bool fs[k].fx,.string fs[k].df,.string fs[k].wg] 128;have hT1:=za hXo hbow ((bRf wr.heap.size wr).alloc (Nat.le_refl _) (.cells #[.string fs[k].nm,.int .i64 fs[k].kd,.int .i64 fs[k].ls,.int .i64 fs[k].ms,.slice wa fs[k].ws.length wcap,.string fs[k].to,.int .i64 fs[k].rl,.bool fs[k].mu,.bool fs[k].fx,.string fs[k].df,.string fs[k].wg] 128));have hT2:=(((bRf wr.heap.size wr).alloc (Nat.le_refl _) (.cells #[.string fs[k].nm,.int .i64 fs[k].kd,.int .i64 fs[k].ls,.int .i64 fs[k].ms,.slice wa fs[k].ws.length wcap,.string fs[k].to,.int .i64 fs[k].rl,.bool fs[k].mu,.bool fs[k].fx,.string fs[k].df,.string fs[k].wg] 128)).cell (p:=⟨p,po+k,none⟩) hpw).trans cv;have hW1J:=HJa.out (.cells #[.string fs[k].nm,.int .i64 fs[k].kd,.int .i64 fs[k].ls,.int .i64 fs[k].ms,.slice wa fs[k].ws.length wcap,.string fs[k].to,.int .i64 fs[k].rl,.bool fs[k].mu,.bool fs[k].fx,.string fs[k].df,.string fs[k].wg] 128);have hW1B:=HBa.out (.cells #[.string fs[k].nm,.int .i64 fs[k].kd,.int .i64 fs[k].ls,.int .i64 fs[k].ms,.slice wa fs[k].ws.length wcap,.string fs[k].to,.int .i64 fs[k].rl,.bool fs[k].mu,.bool fs[k].fx,.string fs[k].df,.string fs[k].wg] 128);have hzg:wr.heap.size<(wr.alloc (.cells #[.string fs[k].nm,.int .i64 fs[k].kd,.int .i64 fs[k].ls,.int .i64 fs[k].ms,.slice wa fs[k].ws.length wcap,.string fs[k].to,.int .i64 fs[k].rl,.bool fs[k].mu,.bool fs[k].fx,.string fs[k].df,.string fs[k].wg] 128)).heap.size:=by simp
     obtain⟨W1,hW1⟩:∃W1,W1=wr.alloc (.cells #[.string fs[k].nm,.int .i64 fs[k].kd,.int .i64 fs[k].ls,.int .i64 fs[k].ms,.slice wa fs[k].ws.length wcap,.string fs[k].to,.int .i64 fs[k].rl,.bool fs[k].mu,.bool fs[k].fx,.string fs[k].df,.string fs[k].wg] 128):=⟨_,rfl⟩
     rw[<- hW1]at hT0 hT1 hT2 hW1J hW1B hzg ⊢;clear hW1 d0 d1 d2 d3 d4 d5 d6 d7 d8 d9 d10 hXo cv;have hJd:J (qm fs o.vs k) W1.drew:=hJ _ _ _ none hW1J ⟨rfl,rfl,rfl,Nat.le_refl _,fun _ _ _=>rfl⟩ (fun r e=>by cases e);obtain⟨x,hx⟩:∃x:Lk,x=⟨k,fs[k].rl,fs[k].to,o.vs[k],HS.out.1,HS.out.2⟩:=⟨_,rfl⟩
     rw[<- hx]at HN;obtain⟨fn,tmps,assign,body,hy,hR⟩:=hY _ x W1.drew hJd (Nat.lt_of_le_of_lt (zhd fs o.vs k) hlt) ((zcx fs o.vs (show k+1<=fs.length by omega)).subset (by rw[HN.out];simp));rw[hx]at hy;unfold Lk.enc at hy;dsimp only at hy
     have HR:=hR.mono (R':=fun e W'=>∃t:Bool,e=.returned (.bool t)/\Hid (if t=true then J (qm fs o.vs k++[x]) W'/\CBP P W1.drew W' else Jx (qm fs o.vs k++[x]) W')) (by
      rintro e W' (⟨h1,h2,h3⟩|⟨h1,h2⟩)
      ·exact⟨true,h1,h2,h3⟩
      ·exact⟨false,h1,h2⟩)
     clear hR hx
     gi_region_with_o (refine HR.mono ?_;rintro e W3⟨t,rfl,H3⟩)
     all_goals cases t
     all_goals gi_wp2
     all_goals first
      | (refine bodyPost_ret (results_none rfl _ _ _) rfl ?_
         have h9:=H3.out;rw[if_neg (by simp)]at h9;refine⟨⟨_,rfl⟩,.inr ⟨_,?_,h9⟩⟩;rw[<- HN.out];exact zcx fs o.vs (by omega))
      | (have h9:=H3.out
         rw[if_pos rfl]at h9;exact⟨⟨k+1,by omega,by go_num,by rw[HN.out];exact h9.1,(hW1B.drew).trans h9.2⟩,zm hlt⟩)
  ·obtain rfl:k=fs.length:=by omega
   gi_wp2
   go_end0
   exact⟨⟨_,rfl⟩,.inl ⟨_,rfl,hJs⟩⟩
theorem zm6 (n:Nat)(hn:1<=n)(Bs Bo:Nat)(kd:ByteArray)(fs:List Fld)(fa:Option Addr)(fcap:Nat)(o:Ob)(va ha:Option Addr)(cap cap':Nat)(w0:World)(hbs:Bs<w0.heap.size)(hbo:Bo<w0.heap.size)
 (hBs:∀j,w0.cell? ⟨Bs,j,none⟩=(#[.string kd,.slice fa fs.length fcap]:Array Value)[j]?) (hBo:∀j,w0.cell? ⟨Bo,j,none⟩=(#[.string o.kd,.string o.nm,.string o.tm,.slice va o.vs.length cap,.bool o.en,.slice ha o.hs.length cap',.int .i64 o.vr]:Array Value)[j]?)
 (hf:zY w0 fa fs) (hv:zD w0 va o.vs) (hc:o.vs.length=fs.length) :
 SeqStopsK Fence.wide n Tryz.prog 123 #[.pointer (some ⟨Bs,0,none⟩),.pointer (some ⟨Bo,0,none⟩)] Lk.enc (Below w0.heap.size) (fun ys=>ys=qm fs o.vs fs.length) (fun pre=>pre <+: qm fs o.vs fs.length) fs.length w0:=
 fun l J Jx W hW hJ _ hY h0=>zlf (fun k=>k<w0.heap.size) n hn l Bs Bo kd fs fa fcap o va ha cap cap' w0 hbs hbo hBs hBo hf hv hc (fun _ h=>h) hbo (zf0 hf) (zf4 hv) J Jx W hW hJ (fun pre x W1 h1 h2 _=>by
  obtain⟨fn,tmps,assign,body,hy,hR⟩:=hY pre x W1 h1 h2;exact⟨fn,tmps,assign,body,hy,hR.mono (fun e W' h=>h.imp (fun h=>⟨h.1,h.2.1,CB.of_below h.2.2⟩) id)⟩) h0
theorem zgA (P:Nat->Prop)(n:Nat)(hn:1<=n)(Bs Bo:Nat)(kd:ByteArray)(fs:List Fld)(fa:Option Addr)(fcap:Nat)(o:Ob)(va ha:Option Addr)(cap cap':Nat)(w0:World)(hbs:Bs<w0.heap.size)(hbo:Bo<w0.heap.size)
 (hBs:∀j,w0.cell? ⟨Bs,j,none⟩=(#[.string kd,.slice fa fs.length fcap]:Array Value)[j]?) (hBo:∀j,w0.cell? ⟨Bo,j,none⟩=(#[.string o.kd,.string o.nm,.string o.tm,.slice va o.vs.length cap,.bool o.en,.slice ha o.hs.length cap',.int .i64 o.vr]:Array Value)[j]?)
 (hf:zY w0 fa fs) (hv:zD w0 va o.vs) (hc:o.vs.length=fs.length) (hP:∀k,P k->k<w0.heap.size) (hPo:P Bo) (hPf:fs≠[]->∀b off,fa=some ⟨b,off,none⟩->P b) (hPv:o.vs≠[]->∀b off,va=some ⟨b,off,none⟩->P b) :
 SeqStopsK Fence.wide n Tryz.prog 123 #[.pointer (some ⟨Bs,0,none⟩),.pointer (some ⟨Bo,0,none⟩)] (fun x:{ x:Lk // x∈qm fs o.vs fs.length }=>x.1.enc) (CBP P) (fun ys=>ys.map (·.1)=qm fs o.vs fs.length) (fun pre=>pre.map (·.1) <+: qm fs o.vs fs.length) fs.length w0:=
 fun l J Jx W hW hJ _ hY h0=>by
 refine(zlf P n hn l Bs Bo kd fs fa fcap o va ha cap cap' w0 hbs hbo hBs hBo hf hv hc hP hPo hPf hPv (fun pre W=>∃p,p.map (·.1)=pre/\J p W) (fun pre W=>∃p,p.map (·.1)=pre/\Jx p W) W hW ?_ ?_ ⟨[],rfl,h0⟩).mono ?_
 ·rintro s A B row⟨p,e,h⟩ hg hr
  exact⟨p,e,hJ p A B row h hg hr⟩
 ·rintro pre x W1⟨p,rfl,hp⟩ hlen hmem
  obtain⟨fn,tmps,assign,body,hy,hR⟩:=hY p ⟨x,hmem⟩ W1 hp (by simpa using hlen);exact⟨fn,tmps,assign,body,hy,hR.mono (fun e W' h=>h.imp (fun h=>⟨h.1,⟨p++[⟨x,hmem⟩],by simp,h.2.1⟩,h.2.2⟩) (fun h=>⟨h.1,⟨p++[⟨x,hmem⟩],by simp,h.2⟩⟩))⟩
 ·rintro e W'⟨h1,h2⟩
  refine⟨h1,h2.imp ?_ ?_⟩
  ·rintro⟨ys,rfl,p,e,hp⟩
   exact⟨p,e,hp⟩
  ·rintro⟨pre,hpre,p,rfl,hp⟩
   exact⟨p,hpre,hp⟩
theorem zl6 (n:Nat)(hn:1<=n)(Bs Bo:Nat)(kd:ByteArray)(fs:List Fld)(fa:Option Addr)(fcap:Nat)(o:Ob)(va ha:Option Addr)(cap cap':Nat)(w0:World)(hbs:Bs<w0.heap.size)(hbo:Bo<w0.heap.size)
 (hBs:∀j,w0.cell? ⟨Bs,j,none⟩=(#[.string kd,.slice fa fs.length fcap]:Array Value)[j]?) (hBo:∀j,w0.cell? ⟨Bo,j,none⟩=(#[.string o.kd,.string o.nm,.string o.tm,.slice va o.vs.length cap,.bool o.en,.slice ha o.hs.length cap',.int .i64 o.vr]:Array Value)[j]?)
 (hf:zY w0 fa fs) (hv:zD w0 va o.vs) (hc:o.vs.length=fs.length) :
 SeqStopsK Fence.wide n Tryz.prog 123 #[.pointer (some ⟨Bs,0,none⟩),.pointer (some ⟨Bo,0,none⟩)] (fun x:{ x:Lk // x∈qm fs o.vs fs.length }=>x.1.enc) (CB w0.heap.size) (fun ys=>ys.map (·.1)=qm fs o.vs fs.length) (fun pre=>pre.map (·.1) <+: qm fs o.vs fs.length) fs.length w0:=
 zgA (fun k=>k<w0.heap.size) n hn Bs Bo kd fs fa fcap o va ha cap cap' w0 hbs hbo hBs hBo hf hv hc (fun _ h=>h) hbo (zf0 hf) (zf4 hv)
end Go.Proofs.YtnapmdofidgliaaGreat
