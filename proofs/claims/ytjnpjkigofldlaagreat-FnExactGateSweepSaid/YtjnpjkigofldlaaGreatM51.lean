import Derived.Test.YtjnpjkigofldlaaGreatM49
set_option maxRecDepth 100000
set_option maxHeartbeats 8000000
namespace Go.Proofs.YtjnpjkigofldlaaGreat
open Go.RowKit Go.Shelf
variable {x:Lk}{W W0 w:World}
attribute [local go_sem] Oper.semAt_some
theorem zsV {fs:List Fld}{vs:List BA}{k:Nat}(h:x∈yt fs vs k):∃j:Nat,x.pl=j/\j<k/\j<vs.length:=by
 unfold yt at h;obtain⟨j,hj,hx⟩:=List.mem_flatMap.1 h;unfold zdk at hx
 split at hx
 ·rename_i _ _ _ hv
  split at hx
  ·simp only[List.mem_singleton]at hx
   subst hx;exact⟨j,rfl,List.mem_range.1 hj,(List.getElem?_eq_some_iff.1 hv).1⟩
  ·cases hx
 ·cases hx
variable {G:BA->BA->Bool}
theorem jY (xs:List Lk)(vs:List BA):(zS G xs vs).length=vs.length:=by simp[zS]
theorem zi0 (vs:List BA):zS G [] vs=vs:=by
 refine List.ext_getElem (jY _ _) fun i _ _=>?_
 simp[zS]
theorem zgR (hx:ql G x=false)(xs:List Lk)(vs:List BA):zS G (xs++[x]) vs=zS G xs vs:=by
 simp[zS,List.any_append,hx]
theorem zi7 {j:Nat}(hx:ql G x=true)(hp:x.pl=j)(xs:List Lk)(vs:List BA):zS G (xs++[x]) vs=(zS G xs vs).set j ByteArray.empty:=by
 refine List.ext_getElem (by simp[zS]) fun i h1 h2=>?_
 rw[List.getElem_set]
 by_cases e:j=i
 ·subst e
  simp[zS,List.any_append,hx,hp]
 ·have e2:¬x.pl=(i:Int):=by omega
  simp[zS,List.any_append,hx,e,e2]
theorem zkA (fs:List Fld)(vs:List BA)(k:Nat)(h:k<vs.length)(h2:k<(zS G (yt fs vs k) vs).length):(zS G (yt fs vs k) vs)[k]=vs[k]:=by
 simp only[zS,List.getElem_mapIdx];rw[if_neg];intro h3;obtain⟨x,hx,h4⟩:=List.any_eq_true.1 h3;obtain⟨j,h5,h6,_⟩:=zsV hx;simp only[Bool.and_eq_true,decide_eq_true_eq]at h4;omega
def ze9 (lo hi x g:Nat)(own:Nat->Lb)(b:Bk)(d1 d2 d3:OA)(e0 e1 e2 e3 i Bl:Nat)(o:Ob)(G:BA->BA->Bool)(W0:World)(pre:List Lk)(W:World):Prop:=
 BkB lo hi x W own { b with os:=b.os.set i { o with vs:=zS G pre o.vs } } (some (aD g 0)) d1 d2 d3 e0 e1 e2 e3/\Boxed W Bl 4 (.bool (pre.any (ql G)))/\Left (fun q=>own q=(0,i,1) \/ q=Bl) W0 W
theorem zri {S:Nat->Prop}{W':World}{row:Option Nat}(h:Left S w W)(hg:W.grownBy W' row)(hr:∀r,row=some r->w.heap.size<=r):Left S w W':=
 ⟨hg.os.trans h.os,hg.tape.trans h.tape,hg.output.trans h.output,Nat.le_trans h.size hg.size,fun k hk hn=>(hg.block k (nLt hk h.size) (fun e=>by have:=hr k e.symm;omega)).trans (h.out k hk hn)⟩
theorem zti {lo hi x g:Nat}{own:Nat->Lb}{b:Bk}{d1 d2 d3:OA}{e0 e1 e2 e3 i Bl:Nat}{o:Ob}{G:BA->BA->Bool}(h1:hi<=W0.heap.size)(h2:x<W0.heap.size):OwnFrom W0.heap.size (ze9 lo hi x g own b d1 d2 d3 e0 e1 e2 e3 i Bl o G W0):=by
 rintro s W W' row⟨hB,hX,hL⟩ hg hr;refine⟨hB.left (S:=fun q=>row=some q) ⟨hg.os,hg.tape,hg.output,hg.size,fun k hk hn=>hg.block k hk (fun e=>hn e.symm)⟩ (fun k hk e=>?_) (fun e=>?_),boxed_own Bl 4 (fun s:List Lk=>.bool (s.any (ql G))) s W W' row hX hg (fun r e=>(hr r e).2),zri hL hg (fun r e=>(hr r e).1)⟩
 ·have h3:=(hr k e).1
  have:=hB.bk.out k (Or.inr (by omega))
  omega
 ·have:=(hr x e).1
  omega
theorem CBP.set {P:Nat->Prop}(h:CBP P w W){b:Nat}(hb:¬P b)(o:Nat)(v:Value):CBP P w (W.setCell (aD b o) v):=
 ⟨by have:=h.size;simpa[World.setCell] using this,fun k C t z hk hc=>(Below.heap_setCell _ _ _ _ (by show k≠b;rintro rfl;exact hb hk)).trans (h.cells k C t z hk hc)⟩
theorem Left.past {S S':Nat->Prop}(h1:Bw w W0)(h2:Left S W0 W)(hS:∀k,k<w.heap.size->S k->S' k):Left S' w W:=
 ⟨h2.os.trans h1.os,h2.tape.trans h1.tape,h2.output.trans h1.output,Nat.le_trans h1.size h2.size,fun k hk hn=>(h2.out k (nLt hk h1.size) (fun h=>hn (hS k hk h))).trans (h1.block k hk)⟩
theorem zgs {G:BA->BA->Bool}{xs:List Lk}{vs:List BA}(h:∀s∈vs,s.size<=maxLen):∀s∈zS G xs vs,s.size<=maxLen:=by
 intro s hs;unfold zS at hs;obtain⟨k,hk,rfl⟩:=List.mem_mapIdx.1 hs
 split
 ·exact Nat.zero_le _
 ·exact h _ (List.getElem_mem _)
theorem ze9.vals {lo hi x g:Nat}{own:Nat->Lb}{b:Bk}{d1 d2 d3:OA}{e0 e1 e2 e3 i Bl:Nat}{o:Ob}{G:BA->BA->Bool}{pre:List Lk}{va:OA}{n c:Nat}(h:ze9 lo hi x g own b d1 d2 d3 e0 e1 e2 e3 i Bl o G W0 pre W)(hil:i<b.os.length)(hgo:own g=(0,0,0))(hg:g<W0.heap.size)(hgb:g≠Bl)(hc:W0.cell? (aD g (i*7+3))=some (.l va n c)) :
 zk lo W va (zS G pre o.vs)/\W.cell? (aD g (i*7+3))=some (.l va n c):=by
 obtain⟨hB,_,hL⟩:=h;have hl:i<(b.os.set i { o with vs:=zS G pre o.vs }).length:=by rw[List.length_set];exact hil
 obtain⟨_,C,ha,_,_,hC,_,hr⟩:=hB.bk.os.rows (Nat.lt_of_le_of_lt (Nat.zero_le _) hl)
 cases ha
 obtain⟨a0,a1,c0,c1,hE⟩:=hr i hl
 have h0:W.cell? (aD g (i*7+3))=W0.cell? (aD g (i*7+3)):=by
  unfold World.cell?
  rw[hL.out g hg (fun e=>e.elim (fun e=>by rw[hgo]at e;simp at e) hgb)]
 have h3:=hE.cell 3 (by omega);have h4:=h0.trans hc;rw[cell_of_block hC]at h4
 replace h3:=h4.symm.trans h3
 simp at h3
 obtain⟨rfl,_,_⟩:=h3;refine⟨?_,h0.trans hc⟩;have h5:=hE.l0
 show zk lo W va (zS G pre o.vs)
 rw[zkW hil (by simpa using hil),if_pos rfl]at h5;exact h5
section
variable {lo hi x g:Nat} {own:Nat->Lb} {b:Bk} {d1 d2 d3:OA} {e0 e1 e2 e3 i Bl:Nat} {o:Ob} {G:BA->BA->Bool} {W0 W:World} {pre:List Lk} {y:Lk}
theorem ze9.mono {W':World}(h:ze9 lo hi x g own b d1 d2 d3 e0 e1 e2 e3 i Bl o G W0 pre W)(hb:Bw W W'):ze9 lo hi x g own b d1 d2 d3 e0 e1 e2 e3 i Bl o G W0 pre W':=⟨h.1.mono hb,(hb.block _ h.2.1.lt).trans h.2.1,h.2.2.trans (Left.of_below _ hb)⟩
theorem ze9.no (h:ze9 lo hi x g own b d1 d2 d3 e0 e1 e2 e3 i Bl o G W0 pre W)(hy:ql G y=false):ze9 lo hi x g own b d1 d2 d3 e0 e1 e2 e3 i Bl o G W0 (pre++[y]) W:=by
 unfold ze9;rw[zgR hy,List.any_append];simp only[List.any_cons,List.any_nil,hy,Bool.or_false];exact h
theorem ze9.yes (h:ze9 lo hi x g own b d1 d2 d3 e0 e1 e2 e3 i Bl o G W0 pre W)(hil:i<b.os.length)(h9:(own Bl).1=9)(hxB:x≠Bl)(hy:ql G y=true){j gv m c:Nat}(hp:y.pl=j)(hv:W.cell? (aD g (i*7+3))=some (.l (some (aD gv 0)) m c)) :
 ze9 lo hi x g own b d1 d2 d3 e0 e1 e2 e3 i Bl o G W0 (pre++[y]) ((W.setCell (aD gv j) (.s ByteArray.empty)).setCell (aD Bl 0) (.bool true))/\own gv=(0,i,1):=by
 obtain⟨hB,hX,hL⟩:=h;have hl:i<(b.os.set i { o with vs:=zS G pre o.vs }).length:=by rw[List.length_set];exact hil
 obtain⟨h1,h2⟩:=hB.val i hl gv m c hv j ByteArray.empty;refine⟨⟨?_,?_,((hL.set (Or.inl h2) _ _).set (Or.inr rfl) _ _)⟩,h2⟩
 ·have h3:=h1.left (Left.one _ Bl 0 (.bool true)) (fun k hk e=>by rw[e]at hk;omega) hxB
  rw[zi7 hy hp];simp only[List.set_set,List.getElem_set_self]at h3;exact h3
 ·have hne:gv≠Bl:=by rintro rfl;rw[h2]at h9;simp at h9
  have h4:Boxed (W.setCell (aD gv j) (.s ByteArray.empty)) Bl 4 (.bool (pre.any (ql G))):=(zA (fun e=>hne e.symm)).trans hX;have h5:=h4.set (.bool true);rw[List.any_append];simp only[List.any_cons,List.any_nil,hy,Bool.or_false,Bool.or_true];exact h5
end
theorem zk2 (wl:World)(lo hi x g:Nat)(own:Nat->Lb)(b:Bk)(d1 d2 d3:OA)(e0 e1 e2 e3:Nat)(l:Lw)(la lb lc:OA)(lca lcb lcc:Nat)(i r:Nat)(o:Ob)(f:BA->BA->Option Int)(w:World)(h:BkB lo hi x w own b (some (aD g 0)) d1 d2 d3 e0 e1 e2 e3)(hil:i<b.os.length)(ho:b.os[i]=o)(hl:qp wl l la lb lc)(hwl:Bw wl w)(hlo:wl.heap.size<=lo)(hM:zH w r f)(hr9:(own r).1=9)(hsm:o.vs.length<=maxLen/\∀s∈o.vs,s.size<=maxLen)(hc:o.vs.length=(shapeOf l.ss o.kd).fs.length) :
 Calls Tryz.prog 96 #[.pointer (some (aD x 0)),.agg (lC l la lb lc lca lcb lcc),.i i,.map (some r)] w fun e w'=>e=.returned (.bool (leans l (fun p q=>(f p q).isSome) o))/\BkB lo hi x w' own { b with os:=b.os.set i { o with vs:=zS (fun p q=>(f p q).isSome) (lks l o) o.vs } } (some (aD g 0)) d1 d2 d3 e0 e1 e2 e3/\Left (fun q=>(own q).1=0) w w':=by
 have HB:=yB h ho;have HH:=j3 hl hwl hlo hM;have HC:=zao hr9 hsm hc;obtain⟨_,C,ha,hlo',hgo,hC,hs,hrow⟩:=h.bk.os.rows (by omega)
 cases ha
 obtain⟨va,ha,vq,hq,hE⟩:=hrow i hil;rw[qW hil,ho]at hE;have cB:=fun j=>cell_of_block (o:=j) h.box
 have c0:w.cell? (aD g (i*7))=some (.s o.kd):=(cell_of_block hC).trans (hE.cell 0 (by omega));have c1:w.cell? (aD g (i*7+1))=some (.s o.nm):=(cell_of_block hC).trans (hE.cell 1 (by omega));have c2:w.cell? (aD g (i*7+2))=some (.s o.tm):=(cell_of_block hC).trans (hE.cell 2 (by omega));have c3:w.cell? (aD g (i*7+3))=some (.l va o.vs.length vq):=(cell_of_block hC).trans (hE.cell 3 (by omega));have c4:w.cell? (aD g (i*7+4))=some (.bool o.en):=(cell_of_block hC).trans (hE.cell 4 (by omega));have c5:w.cell? (aD g (i*7+5))=some (.l ha o.hs.length hq):=(cell_of_block hC).trans (hE.cell 5 (by omega));have c6:w.cell? (aD g (i*7+6))=some (.i o.vr):=(cell_of_block hC).trans (hE.cell 6 (by omega));have hgw:=(gES hC).1;have hxw:=h.lt;have hiI:(i:Int)<(b.os.length:Int):=by omega
 have HE:=j3 hE (hE.l0.at hsm.1 hsm.2) c3 hgo;clear h ho hl hwl hlo hM hr9 hsm hc hE hrow hC hs hlo' hgo;refine(callsIn_wide (n:=6)).1 ?_;refine callsIn_of_wp_marks Tryz.func96 rfl trivial ?_ rfl;simp only[Tryz.ntmps96,List.size_toArray,List.length_cons,List.length_nil,Nat.reduceAdd,Nat.reduceSub,Array.replicate_succ,Array.replicate_zero,List.push_toArray,List.append_toArray,List.nil_append,List.cons_append]
 gi_wp2_with fail
 refine⟨trivial,?_⟩;have hb4:Bw w ((((w.alloc (.cells (lC l la lb lc lca lcb lcc) 47)).alloc (.cells #[.map (some r)] 143)).alloc (.cells (oC o va ha vq hq) 116)).alloc (.cells #[.bool false] 4)):=(jc _ _ _ _).alloc (by simp;omega) _;have hbR:=Boxed.new (((w.alloc (.cells (lC l la lb lc lca lcb lcc) 47)).alloc (.cells #[.map (some r)] 143)).alloc (.cells (oC o va ha vq hq) 116)) 4 (.bool false);have hbP:=((Boxed.new (w.alloc (.cells (lC l la lb lc lca lcb lcc) 47)) 143 (.map (some r))).alloc (.cells (oC o va ha vq hq) 116)).alloc (.cells #[.bool false] 4);have hbO:=(Below.heap_alloc (((w.alloc (.cells (lC l la lb lc lca lcb lcc) 47)).alloc (.cells #[.map (some r)] 143)).alloc (.cells (oC o va ha vq hq) 116)) (.cells #[.bool false] 4) (w.heap.size+1+1) (by simp)).trans (by have h9:=alloc_at ((w.alloc (.cells (lC l la lb lc lca lcb lcc) 47)).alloc (.cells #[.map (some r)] 143)) (.cells (oC o va ha vq hq) 116);simpa only[World.size_alloc] using h9);simp only[World.size_alloc]at hbR hbP;obtain⟨w4,hw4⟩:=xN (((((w.alloc (.cells (lC l la lb lc lca lcb lcc) 47)).alloc (.cells #[.map (some r)] 143)).alloc (.cells (oC o va ha vq hq) 116)).alloc (.cells #[.bool false] 4)));have hz4:w4.heap.size=w.heap.size+1+1+1+1:=by rw[hw4];simp
 rw[<- hw4]at hb4 hbR hbP hbO ⊢;clear hw4 c0 c1 c2 c3 c4 c5 c6 cB;refine(callsIn_wide.2 (zji wl l la lb lc lca lcb lcc o va ha vq hq w4 HH.o.1 (HH.o.2.1.trans (hb4.mono HH.o.2.1.size)))).mono ?_;rintro e W0⟨Bs,Bo,fa,fcap,rfl,hBs,hBo,hBo4,hfl,hXs,hXo,hb1⟩;have bR:Boxed W0 (w.heap.size+1+1+1) 4 (.bool false):=(hb1.block _ hbR.lt).trans hbR;have bP:Boxed W0 (w.heap.size+1) 143 (.map (some r)):=(hb1.block _ hbP.lt).trans hbP;have bO:=(hb1.block (w.heap.size+1+1) (by omega)).trans hbO;have HB0:=yB (hb4.trans (hb1.mono hb4.size)) (HB.o.1.mono (hb4.trans (hb1.mono hb4.size)));have hN:w4.heap.size<=W0.heap.size:=hb1.size;have HZ:=hid hz4;clear hb1 hb4 hbR hbP hbO hz4;have hhi:hi<=W0.heap.size:=Nat.le_trans HB.o.1.bk.hi HB0.o.1.size;have hxW:x<W0.heap.size:=nLt hxw HB0.o.1.size;have h9:∀k,w.heap.size<=k->(own k).1=9:=fun k hk=>HB.o.1.bk.out k (Or.inr (Nat.le_trans HB.o.1.bk.hi hk))
 have HI0:Hid (ze9 lo hi x g own b d1 d2 d3 e0 e1 e2 e3 i (w.heap.size+1+1+1) o (fun p q=>(f p q).isSome) W0 [] W0):=by
  refine⟨?_,bR,Left.refl _ _⟩
  have e9:b.os.set i { o with vs:=zS (fun p q=>(f p q).isSome) [] o.vs }=b.os:=by
   rw[zi0]
   show b.os.set i o=b.os
   rw[<- HB.o.2];exact List.set_getElem_self hil
  rw[e9];exact HB0.o.2
 have hgW:g<W0.heap.size:=nLt hgw HB0.o.1.size;have HG9:Hid (own g=(0,0,0)/\g≠w.heap.size+1+1+1/\W0.cell? (aD g (i*7+3))=some (.l va o.vs.length vq)):=⟨HE.o.2.2.2,by omega,(HB0.o.1.cell (p:=(aD g (i*7+3))) hgw).trans HE.o.2.2.1⟩
 have HM0:=hid (HH.o.2.2.2.mono HB0.o.1);have HN:=yB hN h9;clear h9 hN
 gi_wp2_with fail
 refine ztc rfl (by omega) (gf:=197) (lb:=#[.pointer (some (aD Bs 0)),.pointer (some (aD Bo 0))]) rfl trivial (enters_of Tryz.func197 (by kernel_rfl) rfl)
  (encs:=Lk.enc) (Kp:=CBP (fun k=>k<W0.heap.size/\own k≠(0,i,1)/\k≠w.heap.size+1+1+1)) CBP.trans (fun W l' o1 o2 hl' h1 hc hw=>CBP.of_below (belowK_b (Nat.le_refl _) W l' o1 o2 hl' h1 hc hw) (fun k hk=>hk.1)) (fun _=>rfl) (lks l o) (fun x=>x∈lks l o)
  (ze9 lo hi x g own b d1 d2 d3 e0 e1 e2 e3 i (w.heap.size+1+1+1) o (fun p q=>(f p q).isSome) W0) (zti hhi hxW) HI0.o ?seq
  (fun y a' W=>∃Bx,W.heap[Bx]?=some (.cells #[.i y.pl,.i y.rl,.s y.to,.s y.nm] 200)/\a'={ tmps:=#[.pointer (some (aD x 0)),.agg (lC l la lb lc lca lcb lcc),.i i,.map (some r),undef,.pointer (some (aD w.heap.size 0)),undef,.pointer (some (aD (w.heap.size+1) 0)),.bool false,.pointer (some (aD (w.heap.size+1+1) 0)),.pointer (some (aD (w.heap.size+1+1+1) 0)),.pointer (some (aD Bx 0)),.pointer (some (aD x 0)),.pointer (some (aD x 0)),.pointer (some (aD x 3)),.l (some (aD g 0)) b.os.length e0,.i i,.pointer (some (aD g (i*7))),.agg (oC o va ha vq hq),.agg (lC l la lb lc lca lcb lcc),.agg (oC o va ha vq hq),.func (.func 197) #[] #[.pointer (some (aD Bs 0)),.pointer (some (aD Bo 0))],.agg #[.i y.pl,.i y.rl,.s y.to,.s y.nm],undef,undef,undef,undef,undef,undef,undef,undef,undef,undef,undef,undef,undef,undef,undef],defers:=[] })
  (fun y a' _ X Y row hs hg hr=>by
   obtain⟨Bx,e1,e2⟩:=hs;refine⟨Bx,(hg.block Bx (gES e1).1 (fun e=>?_)).trans e1,e2⟩;obtain⟨_,ob,h1,h2⟩:=hr Bx e.symm;rw[e1]at h1
   cases h1
   cases h2)
  ?assign ?body ?done
 case seq=>
  intro l' J W hW hJ hJI hY hJ0;have hlt1:wl.heap.size<=W0.heap.size:=Nat.le_trans HH.o.2.1.size HB0.o.1.size;have hfW:=hfl.mono (HH.o.2.1.trans (HB0.o.1.mono HH.o.2.1.size));refine(zh7 (fun k=>k<W0.heap.size/\own k≠(0,i,1)/\k≠w.heap.size+1+1+1) 5 (by omega) l' Bs Bo _ _ fa fcap o va ha vq hq W0 hBs hBo hXs hXo hfW (HE.o.2.1.mono HB0.o.1) HC.o.2.2 (fun k hk=>hk.1) ⟨hBo,fun h=>?_,?_⟩ (fun hne b' off e=>?_) J (fun _ _=>False) ?_ W hW hJ (fun pre y W1 h1 _ h3=>?_) hJ0).mono ?_
  ·have:=HN.o.2 Bo (by have:=HZ.o;omega)
   rw[h]at this;simp at this
  ·have:=HZ.o;omega
  ·obtain⟨b2,off2,e2,hb2,_⟩:=hfl.rows hne
   rw[e]at e2
   cases e2
   have h8:=HB.o.1.bk.out b' (Or.inl (nLt hb2 HH.o.2.2.1));refine⟨by omega,fun h=>?_,?_⟩
   ·rw[h]at h8;simp at h8
   ·have:=HH.o.2.1.size;omega
  ·intro k hk W' hJk _ b' off e
   obtain⟨hT,_⟩:=ze9.vals (hJI _ _ hJk) hil HG9.o.1 hgW HG9.o.2.1 HG9.o.2.2;rw[e]at hT;have s2:=HC.o.2.1;have hA:=hT.at (by rw[jY];exact s2.1) (zgs s2.2);have hkl:k<(zS (fun p q=>(f p q).isSome) (yt (shapeOf l.ss o.kd).fs o.vs k) o.vs).length:=by rw[jY];exact hk
   obtain⟨b3,off3,e3,_,h3⟩:=hA.cells (by intro h;rw[h]at hkl;simp at hkl)
   cases e3
   rw[h3 k hkl,zkA _ _ _ hk]
  ·obtain⟨fn,tmps,assign,body,hy,hR⟩:=hY pre y W1 h1 h3
   exact⟨fn,tmps,assign,body,hy,hR.mono (fun e W' h=>.inl h)⟩
  ·rintro e W'⟨h1,⟨ys,rfl,h2⟩|⟨_,_,h2⟩⟩
   ·exact⟨h1,h2⟩
   ·exact h2.elim
 case assign=>
  rintro l' pre y W K hI hK;unfold Lk.enc
  gi_wp2
  have hz:=hI.2.2.size;exact hK _ _ ((KeepsOthers.alloc _ _).from _) (CBP.of_below ((bRf W.heap.size W).alloc (Nat.le_refl _) _) (fun k hk=>nLt hk.1 hz)) ⟨hI.1.mono ((bRf _ W).alloc (Nat.le_refl _) _),hI.2.1.alloc _,hI.2.2.trans (Left.of_below _ ((bRf _ W).alloc (Nat.le_refl _) _))⟩ ⟨W.heap.size,World.alloc_heap_new W _,rfl⟩
 case body=>
  rintro l' pre y a' W hI⟨Bx,hBx,rfl⟩ hy;obtain⟨hT,hc3⟩:=ze9.vals hI hil HG9.o.1 hgW HG9.o.2.1 HG9.o.2.2;have cX:=yP hBx;have hz:=hI.2.2.size;have hn9:∀k,w.heap.size<=k->k≠w.heap.size+1+1+1->k<W0.heap.size->W.heap[k]?=W0.heap[k]?:=fun k h1 h2 h3=>hI.2.2.out k h3 (fun h=>h.elim (fun h=>by have:=HN.o.2 k h1;rw[h]at this;simp at this) h2)
  have bP1:Boxed W (w.heap.size+1) 143 (.map (some r)):=(hn9 _ (by omega) (by omega) bP.lt).trans bP;have cP:=bP1.cell;have cO:=yP ((hn9 (w.heap.size+1+1) (by omega) (by omega) (by have:=HZ.o;have:=HN.o.1;omega)).trans bO);have hPl:=bP1.lt
  have HPm:Hid (zH W r f):=by
   refine HM0.o.keep (hI.2.2.out r HM0.o.lt (fun h=>h.elim (fun h=>?_) (fun h=>?_)))
   ·have:=HC.o.1;rw[h]at this;simp at this
   ·have h3:=HH.o.2.2.2.lt;omega
  have HI:=zao hI hT hc3;have HY:=hid hy;clear hI hT hc3 hn9 hy bP1
  by_cases h2:y.rl=2
  rotate_left
  ·have hd2:(y.rl == 2)=false:=by simpa using h2
   have HL:Hid (ql (fun p q=>(f p q).isSome) y=false):=by unfold Hid ql;rw[decide_eq_false h2];rfl
   clear h2
   gi_wp2
   refine⟨trivial,?_⟩
   gi_wp2
   exact⟨KeepsFrom.refl _ _,CBP.of_below (bRf W.heap.size W) (fun k hk=>nLt hk.1 hz),HI.o.1.no HL.o⟩
  ·have H2:=hid h2
   rw[h2]at cX
   gi_wp2_with fail
   refine⟨trivial,?_⟩;refine(callsIn_wide.2 (zeD r f y.to y.nm W HPm.o y.hto y.hnm)).mono ?_;rintro e W1⟨rfl,hb⟩;have HBb:=hid hb;have HP1:Hid (CBP (fun k=>k<W0.heap.size/\own k≠(0,i,1)/\k≠w.heap.size+1+1+1) W W1):=CBP.of_below hb (fun k hk=>nLt hk.1 hz);have HI1:=hid (HI.o.1.mono hb)
   cases hfy:(f y.to y.nm).isSome with
   | false=>
    have HL:Hid (ql (fun p q=>(f p q).isSome) y=false):=by show(decide (y.rl=2)&&(f y.to y.nm).isSome)=false;rw[hfy];simp
    clear cX cP hb
    gi_wp2
    exact⟨(KeepsOthers.of_below HBb.o).from _,HP1.o,HI1.o.no HL.o⟩
   | true=>
    have HL:Hid (ql (fun p q=>(f p q).isSome) y=true):=by show(decide (y.rl=2)&&(f y.to y.nm).isSome)=true;rw[hfy,H2.o];simp
    obtain⟨j,hjp,_,hjv⟩:=zsV HY.o;obtain⟨hT,hc3⟩:=ze9.vals HI1.o hil HG9.o.1 hgW HG9.o.2.1 HG9.o.2.2;have hjl:j<(zS (fun p q=>(f p q).isSome) pre o.vs).length:=by rw[jY];exact hjv
    rcases hT with⟨_,h0⟩|⟨gv,Cv,rfl,_,hCv,hcv⟩
    ·rw[h0]at hjl;simp at hjl
    have hgv1:=(gES hCv).1;have cV:W1.cell? (aD gv j)=some (.s _):=(cell_of_block hCv).trans (hcv j hjl);have fV:W1.frozen? (aD gv j)=false:=zf hCv;have cO1:=za cO (by have:=HZ.o;have:=HN.o.1;omega) hb;have cX1:=za cX (gES hBx).1 hb;rw[hjp]at cX1;have hzX:Bx<W1.heap.size:=nLt (gES hBx).1 hb.size;have hzO:w.heap.size+1+1<W1.heap.size:=by have:=HZ.o;have:=HN.o.1;have:=hb.size;omega
    have cR1:=HI1.o.2.1.cell;have fR1:=HI1.o.2.1.frozen;have hzR:=HI1.o.2.1.lt;have hjI:(j:Int)<(o.vs.length:Int):=by omega
    have h99:=HN.o.2 (w.heap.size+1+1+1) (by omega);have HS:=hid (HI1.o.yes hil h99 (by omega) HL.o hjp hc3);have hgR:gv≠w.heap.size+1+1+1:=by intro e;have h8:=HS.o.2;rw[e]at h8;rw[h8]at h99;cases h99
    clear hb hcv hCv hc3 cX cO cP h99
    gi_wp2
    exact⟨(((KeepsOthers.of_below HBb.o).trans (KeepsOthers.setCell _ _ _)).trans (KeepsOthers.setCell _ _ _)).from _,(HP1.o.set (fun h=>h.2.1 HS.o.2) _ _).set (fun h=>h.2.2 rfl) _ _,HS.o.1⟩
 case done=>
  intro D W hD hI hK;have cR:=hI.2.1.cell;have hzR:=hI.2.1.lt;have hDn:D≠w.heap.size+1+1+1:=by have:=HZ.o;have:=HN.o.1;omega
  have HE:Hid (BkB lo hi x (W.putObj D (.deferred none)) own { b with os:=b.os.set i { o with vs:=zS (fun p q=>(f p q).isSome) (lks l o) o.vs } } (some (aD g 0)) d1 d2 d3 e0 e1 e2 e3/\Left (fun q=>(own q).1=0) w (W.putObj D (.deferred none))):=by
   have hP:Left (fun q=>q=D) W (W.putObj D (.deferred none)):=⟨rfl,rfl,rfl,by simp,fun k _ hn=>World.putObj_heap_other (fun e=>hn e)⟩
   have hDw:w.heap.size<=D:=by have:=HB0.o.1.size;omega
   refine⟨hI.1.left hP (fun k hk e=>by rw[e,HN.o.2 D hDw]at hk;omega) (by omega),Left.past HB0.o.1 ((hI.2.2.wide (S':=fun q=>(own q=(0,i,1) \/ q=w.heap.size+1+1+1) \/ q=D) (fun k hk=>Or.inl hk)).trans (hP.wide (fun k hk=>Or.inr hk))) (fun k hk h=>?_)⟩
   rcases h with(h|h)|h
   ·rw[h]
   ·omega
   ·omega
  clear hI
  gi_wp2
  refine⟨by simp,.inl ⟨_,_,rfl,run_takeDeferred hK,?_⟩⟩;exact⟨.bool ((lks l o).any (ql fun p q=>(f p q).isSome)),by simp[results,Tryz.results96,go_sem],rfl,HE.o⟩
end Go.Proofs.YtjnpjkigofldlaaGreat
namespace Go.Proofs.YtjnpjkigofldlaaGreat
open Go.RowKit
variable {os xs:List Ob}{l:Lw}{o:Ob}{n:Int}{k:Nat}
theorem zls {b:Bk}(h:zaj b=true):0<=b.now/\b.now<=1000000:=by
 unfold zaj within at h;simp only[Bool.and_eq_true,decide_eq_true_eq]at h;exact h.1
theorem z8.ge {lo:Nat}{w:World}{a:OA}{xs:List Int}(h:z8 lo w a xs):∀g,a=some g->lo<=g.block:=by
 rintro g rfl
 rcases h with⟨h0,_⟩|⟨g',C,h0,hl,_,_⟩
 ·cases h0
 ·cases h0;exact hl
theorem zpb (os:List Ob)(ps:List Int)(x:Int)(p q:BA):zcF os (ps++[x]) p q=(zcF os ps p q||jC p q (jo os x.toNat)):=by simp[zcF,List.any_append]
theorem zhA {s:List Bool}:∀k i,i<k->s.getD i false=true->(i:Int)∈yE s k
 | 0,i,h,_=>by omega
 | k+1,i,h,hs=>by
  show(i:Int)∈yE s k++zbS s k
  by_cases e:i=k
  ·subst e
   refine List.mem_append.2 (.inr ?_);unfold zbS;rw[hs];simp
  ·exact List.mem_append.2 (.inl (zhA k i (by omega) hs))
theorem zmX (ho:zdx os)(i:Nat)(hi:i<os.length):zcF os (places (goS l os)) os[i].kd os[i].nm=(goS l os).getD i false:=by
 rw[Bool.eq_iff_iff];unfold zcF;rw[List.any_eq_true]
 constructor
 ·rintro⟨p,hp,h⟩
  obtain⟨j,rfl,hj,hs⟩:=zei _ _ hp;rw[zgW]at hj;rw[Int.toNat_natCast,qW hj]at h;unfold jC at h;simp only[Bool.and_eq_true,decide_eq_true_eq]at h
  have:=ho j i hj hi h.1 h.2
  subst this;exact hs
 ·intro h
  refine⟨_,zhA _ i (by rw[zgW];exact hi) h,?_⟩;rw[Int.toNat_natCast,qW hi];unfold jC;simp
theorem zmL (l:Lw)(G:BA->BA->Bool)(n:Int)(xs:List Ob):n<=(fixes l G xs n).2/\(fixes l G xs n).2<=n+xs.length:=by
 have h:∀(xs:List Ob) (s:List Ob × Int),s.2<=(xs.foldl (fun s o=>(s.1++[(zae l G s.2 o).1],(zae l G s.2 o).2)) s).2/\(xs.foldl (fun s o=>(s.1++[(zae l G s.2 o).1],(zae l G s.2 o).2)) s).2<=s.2+xs.length:=by
  intro xs
  induction xs with
  | nil=>intro s;exact⟨Int.le_refl _,by simp⟩
  | cons x xs ih=>
   intro s;rw[List.foldl_cons];have h1:=ih (s.1++[(zae l G s.2 x).1],(zae l G s.2 x).2);have h2:s.2<=(zae l G s.2 x).2/\(zae l G s.2 x).2<=s.2+1:=by unfold zae;split <;> simp <;> omega
   rw[List.length_cons]
   constructor
   ·exact Int.le_trans h2.1 h1.1
   ·refine Int.le_trans h1.2 ?_
    show(zae l G s.2 x).2+_<=_
    omega
 exact h xs ([],n)
theorem zqb {G:BA->BA->Bool}(h:leans l G o=false):zS G (lks l o) o.vs=o.vs:=by
 unfold leans at h;rw[List.any_eq_false]at h;refine List.ext_getElem (jY _ _) fun i h1 h2=>?_
 simp only[zS,List.getElem_mapIdx];rw[if_neg];intro h3;obtain⟨x,hx,h4⟩:=List.any_eq_true.1 h3;simp only[Bool.and_eq_true]at h4;exact h x hx h4.2
theorem zpy {G:BA->BA->Bool}(h:leans l G o=false)(n:Int):zae l G n o=(o,n):=by unfold zae;rw[h];rfl
theorem zmQ {G:BA->BA->Bool}(h:leans l G o=true)(n:Int):zae l G n o=({ o with vs:=zS G (lks l o) o.vs,vr:=n+1 },n+1):=by unfold zae;rw[h];rfl
theorem zev (os:List Ob)(s:List Bool)(k:Nat):(qx os s k).length=(yA s k).length:=by unfold qx;rw[List.length_map]
theorem zmF (os:List Ob)(s:List Bool)(k q:Nat)(h:q<(qx os s k).length):(qx os s k)[q]=jo os ((yA s k).getD q 0):=by
 have h2:q<(yA s k).length:=by rw[<- zev os];exact h
 simp only[qx,List.getElem_map];rw[List.getD_eq_getElem?_getD,List.getElem?_eq_getElem h2];rfl
theorem zr6 {s:List Bool}(q:Nat)(h:q<(qx os s os.length).length):∃i,∃hi:i<os.length,(qx os s os.length)[q]=os[i]:=by
 have h2:q<(yA s os.length).length:=by rw[<- zev os];exact h
 have h3:=(zd7 (List.getElem_mem h2)).1;refine⟨(yA s os.length)[q],h3,?_⟩;rw[zmF,List.getD_eq_getElem?_getD,List.getElem?_eq_getElem h2,Option.getD_some,qW h3]
noncomputable def zaB (l:Lw)(G:BA->BA->Bool)(xs:List Ob)(n:Int)(k:Nat):List Ob:=(fixes l G (xs.take k) n).1++xs.drop k
theorem zq0 (l:Lw)(G:BA->BA->Bool)(xs:List Ob)(n:Int):zaB l G xs n 0=xs:=by unfold zaB;simp[fixes]
theorem zr0 (l:Lw)(G:BA->BA->Bool)(xs:List Ob)(n:Int):zaB l G xs n xs.length=(fixes l G xs n).1:=by unfold zaB;simp
theorem zsl (l:Lw)(G:BA->BA->Bool)(xs:List Ob)(n:Int)(k:Nat):(zaB l G xs n k).length=xs.length:=by
 unfold zaB;rw[List.length_append,zdS,<- List.length_append,List.take_append_drop]
theorem zsR {G:BA->BA->Bool}(h:k<xs.length)(h':k<(zaB l G xs n k).length):(zaB l G xs n k)[k]=xs[k]:=by
 have e:(fixes l G (xs.take k) n).1.length=k:=by rw[zdS,List.length_take];omega
 simp only[zaB];rw[List.getElem_append_right (by omega),List.getElem_drop]
 congr 1;omega
theorem zkC {G:BA->BA->Bool}(h:k<xs.length):zaB l G xs n (k+1)=(zaB l G xs n k).set k (zae l G (fixes l G (xs.take k) n).2 xs[k]).1:=by
 unfold zaB;have e:(fixes l G (xs.take k) n).1.length=k:=by rw[zdS,List.length_take];omega
 rw[tSe h,zgC,List.set_append_right _ _ (by omega),e,Nat.sub_self,List.append_assoc,List.drop_eq_getElem_cons h]
 rfl
theorem zmw {G:BA->BA->Bool}(h:k<xs.length):(fixes l G (xs.take (k+1)) n).2=(zae l G (fixes l G (xs.take k) n).2 xs[k]).2:=by
 rw[tSe h,zgC]
theorem zoP (l:Lw)(os:List Ob):(marks l os).length<=os.length:=by
 have h:∀k,(yN l os k).length<=k:=by
  intro k
  induction k with
  | zero=>exact Nat.le_refl _
  | succ k ih=>
   show(yN l os k++zbW l os k).length<=_
   have h2:(zbW l os k).length<=1:=by unfold zbW;split <;> (try split) <;> simp
   rw[List.length_append];omega
 exact h _
theorem zd0 (l:Lw)(os:List Ob):∀(ps:List Int) (ls:List Lg),(lets l os ps ls).length=ls.length
 | [],_=>rfl
 | p :: ps,ls=>by show(lets l os ps (ls.map _)).length=_;rw[zd0 l os ps,List.length_map]
theorem zka {lo:Nat}{w:World}{a:OA}{ws:List BA}(h:zk lo w a ws):∀g,a=some g->lo<=g.block:=by
 rintro g rfl
 rcases h with⟨h0,_⟩|⟨g',C,h0,hl,_⟩
 ·cases h0
 ·cases h0;exact hl
variable {G:BA->BA->Bool}
theorem zsA (ho:zdx os){j:Nat}(hj:j<os.length){p q:BA}(h1:os[j].kd=p)(h2:os[j].nm=q):zep (jC p q) os=j:=by
 refine zn0 hj (fun i hi hlt=>?_) (by unfold jC;simp[h1,h2]);unfold jC;rw[Bool.and_eq_false_iff]
 by_cases e:os[i].kd=p
 ·refine .inr (decide_eq_false fun e2=>?_)
  have:=ho i j hi hj (e.trans h1.symm) (e2.trans h2.symm)
  omega
 ·exact .inl (decide_eq_false e)
theorem zgT {fs:List Fld}{vs:List BA}(h:k<fs.length)(h':k<vs.length)(hn:¬(fs[k].kd=4/\fs[k].rl=2/\vs[k].toList.isEmpty=false)):zS G (yt fs vs (k+1)) vs=zS G (yt fs vs k) vs/\(yt fs vs (k+1)).any (ql G)=(yt fs vs k).any (ql G):=by
 rw[ji]
 have hl:∀x∈zdk fs vs k,ql G x=false:=fun x hx=>by
  unfold zdk at hx;rw[List.getElem?_eq_getElem h,List.getElem?_eq_getElem h']at hx
  simp only at hx
  split at hx
  ·rename_i h2
   simp only[List.mem_singleton]at hx;subst hx;unfold ql;rw[decide_eq_false (fun e=>hn ⟨h2.1.1,e,h2.1.2⟩)];rfl
  ·cases hx
 have h3:(zdk fs vs k).any (ql G)=false:=List.any_eq_false.2 fun x hx=>by rw[hl x hx];simp
 refine⟨?_,by rw[List.any_append,h3,Bool.or_false]⟩;have h4:=zpx fs vs k
 match hk:zdk fs vs k with
 | []=>rw[List.append_nil]
 | [x]=>exact zgR (hl x (by rw[hk];simp)) _ _
 | _ :: _ :: _=>rw[hk]at h4;simp at h4
theorem zsn {fs:List Fld}{vs:List BA}(h:k<fs.length)(h':k<vs.length)(h4:fs[k].kd=4)(h2:fs[k].rl=2)(hv:vs[k].toList.isEmpty=false)(hs1:fs[k].to.size<=maxLen)(hs2:vs[k].size<=maxLen) :
 (G fs[k].to vs[k]=false->zS G (yt fs vs (k+1)) vs=zS G (yt fs vs k) vs/\(yt fs vs (k+1)).any (ql G)=(yt fs vs k).any (ql G))/\(G fs[k].to vs[k]=true->zS G (yt fs vs (k+1)) vs=(zS G (yt fs vs k) vs).set k ByteArray.empty/\(yt fs vs (k+1)).any (ql G)=true):=by
 rw[ji,zlL h h' h4 hv hs1 hs2];have e:∀t,G fs[k].to vs[k]=t->ql G ⟨k,fs[k].rl,fs[k].to,vs[k],hs1,hs2⟩=t:=fun t ht=>by unfold ql;simp[h2,ht]
 refine⟨fun hg=>⟨zgR (e _ hg) _ _,?_⟩,fun hg=>⟨zi7 (e _ hg) rfl _ _,?_⟩⟩
 ·rw[List.any_append];simp[e _ hg]
 ·rw[List.any_append];simp[e _ hg]
theorem zoW (l:Lw)(la lb lc:OA)(lca lcb lcc:Nat)(b:Bk)(d0 d1 d2 d3:OA)(e0 e1 e2 e3:Nat)(sa:OA)(scap:Nat)(s:List Bool)(i:Nat)(o:Ob)(G:BA->BA->Bool)(w:World)(hl:qp w l la lb lc)(hb:qj w b d0 d1 d2 d3)(hs:zcG w sa s)(hsl:s.length=b.os.length)(hi:i<b.os.length)(ho:b.os[i]=o)(hO:zcZ l b.os)(hfw:o.vs.length<=1048576/\o.hs.length<=1048576)(hG:∀j (h:j<b.os.length),G b.os[j].kd b.os[j].nm=s.getD j false) :
 Calls Tryz.prog 71 #[.agg (lC l la lb lc lca lcb lcc),.agg (bC b d0 d1 d2 d3 e0 e1 e2 e3),.l sa s.length scap,.i i] w fun e w'=>∃a dap a' dap' m,e=.returned (.tuple #[.agg (oC o a a' dap dap'),.bool (leans l G o)])/\zk w.heap.size w' a (zS G (lks l o) o.vs)/\(∀g,a=some g->g.block<m)/\w.heap.size<=m/\zk m w' a' o.hs/\Bw w w':=by
 have HK:=zao hl hb hs;have HO:=j3 hO hG hsl ho;have hwc:=hO.whole i hi;have hnm:=hO.name i hi;have hcnt:=hO.cnt i hi;rw[ho]at hwc hnm hcnt;have HW:=zao hwc hnm hcnt;have HFW:=hid hfw;have hiI:(i:Int)<(b.os.length:Int):=by omega
 have hln:b.os.length<=40:=hO.few;obtain⟨W0,hW0,k0,hB0,hz0⟩:=zsc w (.cells (lC l la lb lc lca lcb lcc) 47) (.cells (bC b d0 d1 d2 d3 e0 e1 e2 e3) 40) (.cells oZ 116);obtain⟨ob,off,va,ha,q0,q1,hoa,hob,hsm,hs0,hs1,p0,p1,p2,p3,p4,p5,p6⟩:=hb.os.load hB0 i hi;rw[ho]at hsm hs0 hs1 p0 p1 p2 p3 p4 p5 p6;subst hoa;obtain⟨sb,soff,rfl,hsb,hsc⟩:=hs.cells (by intro h;rw[h]at hsl;simp at hsl;omega);have HSC:=hid hsc;clear hsc;have hob':ob<W0.heap.size:=by omega
 clear hl hb hs hsl ho hO hfw hG hwc hnm hcnt;go_in
 go_upto_region 1 with fail
 refine jG (fun W=>W=W0) (by rw[hW0];rfl) ?_;intro W9 hW9;rw[hW9];clear hW9 W9;clear hW0;have cB:=fun j=>cell_of_block (o:=j) k0.2.1
 have hzB:w.heap.size+1<W0.heap.size:=by omega
 have HX:=j3 hsm hs0 hs1 k0;have HB0:=hid hB0;clear hsm hs0 hs1 k0 hB0;go_wp2_with fail
 clear p0 p1 p2 p3 p4 p5 p6 cB;refine(zgB o va ha q0 q1 W0 ⟨HX.o.1,HX.o.2.1,HX.o.2.2.1⟩ HFW.o.1 HFW.o.2).mono ?_;rintro e w1⟨a,dap,a',dap',m,rfl,ht,hm,hwm,ht',hb1,⟨ga,rfl⟩,⟨ga',rfl⟩⟩;obtain⟨W1,hW1,kO,hba,hz1⟩:=zpa w1 (.cells (oC o (some (aD ga 0)) (some (aD ga' 0)) dap dap') 116)
 go_upto_region 2 with fail
 rw[<- hW1];clear hW1;have hB1:=hb1.trans (hba.mono hb1.size);have kL:=(hB1.block w.heap.size (by omega)).trans HX.o.2.2.2.1;have cL:=fun j=>cell_of_block (o:=j) kL
 have cO:=fun j=>cell_of_block (o:=j) kO
 have hzL:w.heap.size<W1.heap.size:=by have:=hB1.size;omega
 have hzO:w1.heap.size<W1.heap.size:=by omega
 have hgm:=hm _ rfl;have hga:W0.heap.size<=ga/\ga<w1.heap.size:=⟨zka ht _ rfl,ht.lt _ rfl⟩
 have hga':m<=ga'/\ga'<w1.heap.size:=⟨zka ht' _ rfl,ht'.lt _ rfl⟩
 have HT:=zty (ht.mono hba) (ht'.mono hba) hga hga' hgm hwm;have HB1:=yB hB1 kO;have hz01:=hb1.size;clear hba kO kL hb1 ht ht' hm hga hga' hgm hwm hB1;go_wp2_with fail
 refine(zdO _ _ l.ss o _ _ _ _ w W1 HK.o.1.ss (HB0.o.trans (HB1.o.1.mono HB0.o.size)) HW.o.1).mono ?_;rintro e w2⟨fa,fcap,rfl,hfa,hb2⟩;have HFa:=hid hfa;obtain⟨fs,hfs⟩:=xN ((shapeOf l.ss o.kd).fs);have HFS:=hid hfs;rw[<- hfs]at HFa ⊢;have HB2:=yB hb2 (HB0.o.trans ((HB1.o.1.trans (hb2.mono HB1.o.1.size)).mono HB0.o.size));have hz2:=hb2.size;have hvl:o.vs.length=fs.length:=by rw[hfs];exact HW.o.2.2
 have hfl:fs.length<=1048576:=by have:=HFW.o.1;omega
 have HT2:=yB (HT.o.1.mono hb2) (HT.o.2.1.mono hb2)
 have HKB:Hid (w2.heap[w.heap.size+1]?=some (.cells (bC b (some (aD ob off)) d1 d2 d3 e0 e1 e2 e3) 40)/\w2.heap[w.heap.size+1+1]?=some (.cells oZ 116)/\w2.heap[w1.heap.size]?=some (.cells (oC o (some (aD ga 0)) (some (aD ga' 0)) dap dap') 116)):=
  ⟨(hb2.block _ (by omega)).trans ((HB1.o.1.block _ (by omega)).trans HX.o.2.2.2.2.1),(hb2.block _ (by omega)).trans ((HB1.o.1.block _ (by omega)).trans HX.o.2.2.2.2.2),(hb2.block _ (by omega)).trans HB1.o.2⟩
 clear hfa hb2 hfs cL cO;go_wp2
 go_loopw [14,13] (fun kv sv wr=>∃k:Nat,k<=fs.length/\kv=.i k/\sv=.bool ((yt fs o.vs k).any (ql G))/\Hid (zk W0.heap.size wr (some (aD ga 0)) (zS G (yt fs o.vs k) o.vs)/\Left (fun q=>q=ga) w2 wr)) (fun kv _ _=>fs.length-(intOf kv).toNat)
 case atStart=>exact⟨0,Nat.zero_le _,rfl,rfl,by rw[show yt fs o.vs 0=[] from rfl,zi0];exact HT2.o.1,Left.refl _ _⟩
 case round=>
  obtain⟨k,hk,rfl,rfl,HQ⟩:=hrel;have hzr:=HQ.o.2.size;obtain⟨⟨hga1,hga2⟩,⟨hga3,hga4⟩,hgm,hwm⟩:=HT.o.2.2;have HBw:Hid (Bw w wr):=HB2.o.2.trans (HQ.o.2.below (fun q hq e=>by omega) HB2.o.2.size);have kB:=(HQ.o.2.out (w.heap.size+1) (by omega) (by omega)).trans HKB.o.1;have kR:=(HQ.o.2.out (w.heap.size+1+1) (by omega) (by omega)).trans HKB.o.2.1;have kO:=(HQ.o.2.out w1.heap.size (by omega) (by omega)).trans HKB.o.2.2;have cB:=fun j=>cell_of_block (o:=j) kB
  have cO:=fun j=>cell_of_block (o:=j) kO
  have hzB2:w.heap.size+1<wr.heap.size:=by omega
  have hzO2:w1.heap.size<wr.heap.size:=by omega
  by_cases hlt:k<fs.length
  ·have hltI:(k:Int)<(fs.length:Int):=by omega
   have hltv:k<o.vs.length:=by omega
   have hltV:(k:Int)<(o.vs.length:Int):=by omega
   obtain⟨fb,foff,fw,fc,rfl,hfb,hfi⟩:=znu HFa.o HBw.o k hlt;obtain⟨f0,f1,f2,f3,f4,f5,f6,f7,f8,f9,f10⟩:=hfi.load;have hfb':fb<wr.heap.size:=nLt hfb HBw.o.size;have HSt:Hid (fs[k].to.size<=maxLen/\o.vs[k].size<=maxLen):=⟨hfi.small.to,HX.o.2.1.small _ (List.getElem_mem _)⟩
   have hA:=HQ.o.1.at (by rw[jY];exact HX.o.2.1.len) (zgs HX.o.2.1.small);have hkl:k<(zS G (yt fs o.vs k) o.vs).length:=by rw[jY];exact hltv
   obtain⟨gb,goff,e9,hgb,hcv⟩:=hA.cells (by intro h;rw[h]at hkl;simp at hkl)
   cases e9
   have cV:=hcv k hkl;rw[zkA _ _ _ hltv,Nat.zero_add]at cV;have HBa:=yB ((bRf wr.heap.size wr).alloc (Nat.le_refl _) (.cells #[.s fs[k].nm,.i fs[k].kd,.i fs[k].ls,.i fs[k].ms,.l fw fs[k].ws.length fc,.s fs[k].to,.i fs[k].rl,.bool fs[k].mu,.bool fs[k].fx,.s fs[k].df,.s fs[k].wg] 183)) (alloc_at wr (.cells #[.s fs[k].nm,.i fs[k].kd,.i fs[k].ls,.i fs[k].ms,.l fw fs[k].ws.length fc,.s fs[k].to,.i fs[k].rl,.bool fs[k].mu,.bool fs[k].fx,.s fs[k].df,.s fs[k].wg] 183));clear hfi hA hkl hcv
   go_upto_region 8 with fail
   obtain⟨W5,hW5⟩:=xN (wr.alloc (.cells #[.s fs[k].nm,.i fs[k].kd,.i fs[k].ls,.i fs[k].ms,.l fw fs[k].ws.length fc,.s fs[k].to,.i fs[k].rl,.bool fs[k].mu,.bool fs[k].fx,.s fs[k].df,.s fs[k].wg] 183));have hz5:W5.heap.size=wr.heap.size+1:=by rw[hW5];simp
   rw[<- hW5]at HBa ⊢;clear hW5 f0 f1 f2 f3 f4 f5 f6 f7 f8 f9 f10
   have HS:Hid (∀W,Bw W5 W->(∀j,W.cell? (aD (w.heap.size+1) j)=(bC b (some (aD ob off)) d1 d2 d3 e0 e1 e2 e3)[j]?)/\(∀j,W.cell? (aD w1.heap.size j)=(oC o (some (aD ga 0)) (some (aD ga' 0)) dap dap')[j]?)/\(∀j,W.cell? (aD wr.heap.size j)=(#[.s fs[k].nm,.i fs[k].kd,.i fs[k].ls,.i fs[k].ms,.l fw fs[k].ws.length fc,.s fs[k].to,.i fs[k].rl,.bool fs[k].mu,.bool fs[k].fx,.s fs[k].df,.s fs[k].wg]:AV)[j]?)/\W.cell? (aD ga k)=some (.s o.vs[k])):=fun W hW=>by
    have hB:=HBa.o.1.trans (hW.mono (by omega));exact⟨fun j=>(hB.cell (p:=(aD (w.heap.size+1) j)) hzB2).trans (cB j),fun j=>(hB.cell (p:=(aD w1.heap.size j)) hzO2).trans (cO j),fun j=>cell_of_block ((hW.block _ (by omega)).trans HBa.o.2),(hB.cell (p:=(aD ga k)) hgb).trans cV⟩
   have HBr:Hid (∀W,Bw W5 W->Bw wr W):=fun W hW=>HBa.o.1.trans (hW.mono (by omega))
   clear cB cO cV kB kR kO;obtain⟨cB,cO,cF,cV⟩:=HS.o W5 (bRf _ _);have HEnd:Hid (∀W,Bw W5 W->∀t:Bool,zS G (yt fs o.vs (k+1)) o.vs=zS G (yt fs o.vs k) o.vs/\(yt fs o.vs (k+1)).any (ql G)=t->zk W0.heap.size W (some (aD ga 0)) (zS G (yt fs o.vs (k+1)) o.vs)/\Left (fun q=>q=ga) w2 W):=fun W hW t h=>⟨by rw[h.1];exact HQ.o.1.mono (HBr.o W hW),HQ.o.2.trans (Left.of_below _ (HBr.o W hW))⟩
   by_cases h4:fs[k].kd=4
   rotate_left
   ·have HN:=hid (zgT (G:=G) hlt hltv (fun h=>h4 h.1))
    have q4:(fs[k].kd != 4)=true:=by simp[h4]
    have hE:=HEnd.o W5 (bRf _ _) _ HN.o;have HE:=hid hE;clear h4 hE;go_wp2
    exact⟨⟨k+1,by omega,by go_num,by rw[HN.o.2],HE.o⟩,zi hlt⟩
   have q4:(fs[k].kd != 4)=false:=by simp[h4]
   have H4:=hid h4;clear h4
   by_cases h2:fs[k].rl=2
   rotate_left
   ·have HN:=hid (zgT (G:=G) hlt hltv (fun h=>h2 h.2.1))
    have q2:(fs[k].rl != 2)=true:=by simp[h2]
    have hE:=HEnd.o W5 (bRf _ _) _ HN.o;have HE:=hid hE;clear h2 hE;go_wp2
    exact⟨⟨k+1,by omega,by go_num,by rw[HN.o.2],HE.o⟩,zi hlt⟩
   have q2:(fs[k].rl != 2)=false:=by simp[h2]
   have H2:=hid h2;clear h2
   by_cases hv:o.vs[k].toList.isEmpty=true
   ·have HN:=hid (zgT (G:=G) hlt hltv (fun h=>by rw[hv]at h;cases h.2.2))
    have hE:=HEnd.o W5 (bRf _ _) _ HN.o;have HE:=hid hE;clear hE;go_wp2
    exact⟨⟨k+1,by omega,by go_num,by rw[HN.o.2],HE.o⟩,zi hlt⟩
   have hv':o.vs[k].toList.isEmpty=false:=by simpa using hv
   have HV:=hid hv';clear hv
   go_upto_region 9 with fail
   clear cB cO cF cV;have hBd:=(bRf W5.heap.size W5).drew;have hS:=HS.o _ hBd
   have HNm:Hid (∃j,∃hj:j<b.os.length,b.os[j].kd=fs[k].to/\b.os[j].nm=o.vs[k]):=by
    have h9:=HW.o.2.1 ⟨k,fs[k].rl,fs[k].to,o.vs[k],HSt.o.1,HSt.o.2⟩ (by
     have h8:=zlL hlt hltv H4.o HV.o HSt.o.1 HSt.o.2;have h7:=(zbB fs o.vs (show k+1<=fs.length by omega)).subset (by rw[ji,h8];exact List.mem_append.2 (.inr (List.mem_singleton.2 rfl)));have h6:=HFS.o;rw[<- h6];exact h7)
    exact h9
   obtain⟨j,hj,hj1,hj2⟩:=HNm.o;have hix:=zsA HO.o.1.one hj hj1 hj2;have hAt:=fun W (hW:Bw w W)=>zoS b (some (aD ob off)) d1 d2 d3 e0 e1 e2 e3 fs[k].to o.vs[k] W (HK.o.2.1.mono hW) (by omega)
   rw[hix]at hAt;unfold Bk.cells at hAt;have HAt:=hid hAt;have HG:Hid (G fs[k].to o.vs[k]=s.getD j false):=by rw[<- hj1,<- hj2];exact HO.o.2.1 j hj
   clear hix hAt hj1 hj2 hS;have hS:=HS.o _ hBd
   go_region_held3 (fun W=>(∀j,W.cell? (aD (w.heap.size+1) j)=(bC b (some (aD ob off)) d1 d2 d3 e0 e1 e2 e3)[j]?)/\(∀j,W.cell? (aD w1.heap.size j)=(oC o (some (aD ga 0)) (some (aD ga' 0)) dap dap')[j]?)/\(∀j,W.cell? (aD wr.heap.size j)=(#[.s fs[k].nm,.i fs[k].kd,.i fs[k].ls,.i fs[k].ms,.l fw fs[k].ws.length fc,.s fs[k].to,.i fs[k].rl,.bool fs[k].mu,.bool fs[k].fx,.s fs[k].df,.s fs[k].wg]:AV)[j]?)/\W.cell? (aD ga k)=some (.s o.vs[k])) (exact hS) (first
    | (go_at_call 121;refine(HAt.o _ (HBw.o.trans ((HBr.o _ hBd).mono HBw.o.size))).mono ?_;rintro e w6⟨rfl,hb6⟩;have hBd:=hBd.trans (hb6.mono hBd.size);have hS:=HS.o w6 hBd;clear hb6))
   have hjs:j<s.length:=by have:=HO.o.2.2.1;omega
   have hjI:(j:Int)<(s.length:Int):=by omega
   have hBw6:=HBw.o.trans ((HBr.o _ hBd).mono HBw.o.size);have cS:=(hBw6.cell (p:=(aD sb (soff+j))) hsb).trans (HSC.o j hjs);have hsb6:sb<w6.heap.size:=nLt hsb hBw6.size;have HG6:Hid (G fs[k].to o.vs[k]=s[j]):=by have:=HG.o;rw[List.getD_eq_getElem?_getD,List.getElem?_eq_getElem hjs]at this;exact this
   have HES:=hid (zsn (G:=G) hlt hltv H4.o H2.o HV.o HSt.o.1 HSt.o.2);have HBd:=hid hBd;clear hBw6 HS
   cases hsj:s[j] with
   | false=>
    rw[hsj]at cS;have HN:=hid (HES.o.1 (HG6.o.trans hsj));have HE:=hid (HEnd.o _ hBd _ HN.o);clear hS hBd;go_wp2
    exact⟨⟨k+1,by omega,by go_num,by rw[HN.o.2],HE.o⟩,zi hlt⟩
   | true=>
    rw[hsj]at cS;obtain⟨_,cO,_,cV⟩:=hS;have hN:=HES.o.2 (HG6.o.trans hsj);have h6:=HQ.o.1.mono (HBr.o _ hBd)
    obtain⟨ge,Ce,e9,hCe⟩:∃g C,(some (aD ga 0):OA)=some (aD g 0)/\w6.heap[g]?=some (.cells C 9):=by
     rcases h6 with⟨h0,_⟩|⟨g,C,h0,_,hh,_⟩
     ·cases h0
     ·exact⟨g,C,h0,hh⟩
    cases e9
    have fV:w6.frozen? (aD ga k)=false:=zf hCe;have hg6:ga<w6.heap.size:=(gES hCe).1;have HN:=hid hN.2;have HE:Hid (zk W0.heap.size (w6.setCell (aD ga k) (.s ByteArray.empty)) (some (aD ga 0)) (zS G (yt fs o.vs (k+1)) o.vs)/\Left (fun q=>q=ga) w2 (w6.setCell (aD ga k) (.s ByteArray.empty))):=⟨by rw[hN.1];exact h6.set k _,(HQ.o.2.trans (Left.of_below _ (HBr.o _ hBd))).set rfl _ _⟩
    have hzO6:w1.heap.size<w6.heap.size:=nLt hzO2 (HBr.o _ hBd).size;clear hBd hN h6 hCe;go_wp2
    exact⟨⟨k+1,by omega,by go_num,by rw[HN.o],HE.o⟩,zi hlt⟩
  ·obtain rfl:k=fs.length:=by omega
   have cR:=fun j=>cell_of_block (o:=j) kR
   have fR:=fun j=>zf (o:=j) kR
   have hzR:w.heap.size+1+1<wr.heap.size:=by omega
   have HE:Hid (∀v0 v1 v2 v3 v4 v5 v6,zk w.heap.size (zb2 wr (w.heap.size+1+1) v0 v1 v2 v3 v4 v5 v6) (some (aD ga 0)) (zS G (lks l o) o.vs)/\(∀g,(some (aD ga 0):OA)=some g->g.block<m)/\w.heap.size<=m/\zk m (zb2 wr (w.heap.size+1+1) v0 v1 v2 v3 v4 v5 v6) (some (aD ga' 0)) o.hs/\Bw w (zb2 wr (w.heap.size+1+1) v0 v1 v2 v3 v4 v5 v6)):=fun v0 v1 v2 v3 v4 v5 v6=>by
    have hL:=(Left.refl (fun q=>q=w.heap.size+1+1) wr).zb2 rfl v0 v1 v2 v3 v4 v5 v6;refine⟨?_,fun g hg=>by cases hg;exact hgm,by omega,(HT2.o.2.left HQ.o.2 (fun g hg e=>by cases hg;have:ga'=ga:=e;omega)).left hL (fun g hg e=>by cases hg;have:ga'=w.heap.size+1+1:=e;omega),qI HBw.o _ (by omega) v0 v1 v2 v3 v4 v5 v6⟩;have h1:=HQ.o.1.left hL (fun g hg e=>by cases hg;have:ga=w.heap.size+1+1:=e;omega);unfold lks;rw[<- HFS.o];exact h1.low (by omega)
   have HLn:Hid (leans l G o=(yt fs o.vs fs.length).any (ql G)):=by unfold Hid leans lks;rw[<- HFS.o]
   go_wp2
   refine bodyPost_ret (v:=.tuple #[.agg (oC o (some (aD ga 0)) (some (aD ga' 0)) dap dap'),.bool ((yt fs o.vs fs.length).any (ql G))]) (by simp[results,Tryz.results71,go_sem,cR];exact hvl.symm) rfl ⟨_,dap,_,dap',m,by rw[HLn.o],?_⟩;exact HE.o _ _ _ _ _ _ _
end Go.Proofs.YtjnpjkigofldlaaGreat
