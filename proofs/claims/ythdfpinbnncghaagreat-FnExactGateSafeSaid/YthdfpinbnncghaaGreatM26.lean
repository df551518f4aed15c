import Derived.Test.YthdfpinbnncghaaGreatM22
import Derived.Test.YthdfpinbnncghaaGreatM23
set_option maxHeartbeats 4000000
namespace Go.Proofs.YthdfpinbnncghaaGreat
open Go.RowKit
structure zcJ (w:World)(a:OA)(ms:List Ob):Prop where
 len:ms.length<=maxLen
 rows:ms≠[]->∃b off,a=some (aD b off)/\b<w.heap.size/\∀i (h:i<ms.length),∃g0 g1 c0 c1,zqN w b (off+i*7) ms[i] (some (aD g0 0)) (some (aD g1 0)) c0 c1
theorem zcJ.mono {w w':World}{a:OA}{ms:List Ob}(h:zcJ w a ms)(hl:Bw w w'):zcJ w' a ms:=
 ⟨h.len,fun hne=>by
  obtain⟨b,off,ha,hb,hr⟩:=h.rows hne;refine⟨b,off,ha,nLt hb hl.size,fun i hi=>?_⟩;obtain⟨g0,g1,c0,c1,hf⟩:=hr i hi;exact⟨g0,g1,c0,c1,hf.mono hb hl⟩⟩
theorem zcJ.load {w w':World}{a:OA}{ms:List Ob}(h:zcJ w a ms)(hl:Bw w w')(i:Nat)(hi:i<ms.length):∃b off g0 g1 c0 c1,a=some (aD b off)/\b<w.heap.size/\ms[i].Small/\zJ w' (some (aD g0 0)) ms[i].vs/\zJ w' (some (aD g1 0)) ms[i].hs /\
 w'.cell? (aD b (off+i*7))=some (.s ms[i].kd)/\w'.cell? (aD b (off+i*7+1))=some (.s ms[i].nm)/\w'.cell? (aD b (off+i*7+2))=some (.s ms[i].tm)/\w'.cell? (aD b (off+i*7+3))=some (.l (some (aD g0 0)) ms[i].vs.length c0)/\w'.cell? (aD b (off+i*7+4))=some (.bool ms[i].en)/\w'.cell? (aD b (off+i*7+5))=some (.l (some (aD g1 0)) ms[i].hs.length c1)/\w'.cell? (aD b (off+i*7+6))=some (.i ms[i].vr):=by
 obtain⟨b,off,ha,hb,hr⟩:=h.rows (by rintro rfl;simp at hi);obtain⟨g0,g1,c0,c1,hf0⟩:=hr i hi;have hf:=hf0.mono hb hl;exact⟨b,off,g0,g1,c0,c1,ha,hb,hf.small,hf.l0,hf.l1,hf.cell 0 (by omega),hf.cell 1 (by omega),hf.cell 2 (by omega),hf.cell 3 (by omega),hf.cell 4 (by omega),hf.cell 5 (by omega),hf.cell 6 (by omega)⟩
theorem zaM.has {lo:Nat}{w:World}{bo:Nat}{ms:List Ob}(h:zaM lo w bo ms ms.length)(hs:zgB ms)(hl:ms.length<=maxLen):zcJ w (some (aD bo 0)) ms:=by
 obtain⟨C,hC,hsz,hr⟩:=h.rows;refine⟨hl,fun _=>⟨bo,0,rfl,(gES hC).1,fun i hi=>?_⟩⟩;obtain⟨g0,g1,_,_,hk0,_,_,hk1,hc⟩:=hr i hi hi;obtain⟨s0,s1,s2⟩:=hs.small i hi;refine⟨g0,g1,ms[i].vs.length,ms[i].hs.length,s0,zca hk0 s1.1 s1.2,zca hk1 s2.1 s2.2,fun j hj=>?_⟩;rw[cell_of_block hC,Nat.zero_add];exact hc j hj
theorem zkr (b:Bk)(a0 a1 a2 a3:OA)(c0 c1 c2 c3:Nat)(w:World)(hl:jU w b a0 a1 a2 a3)(hf:b.Few) :
 Calls Tryz.prog 9 #[.agg (b.cells a0 a1 a2 a3 c0 c1 c2 c3)] w fun e w'=>∃a0' a1' a2' a3',e=.returned (.agg (b.cells a0' a1' a2' a3' b.os.length b.gs.length b.ls.length b.ps.length))/\jU w' b a0' a1' a2' a3'/\zcJ w' a0' b.os/\Bw w w':=by
 refine(zb1 b a0 a1 a2 a3 c0 c1 c2 c3 w hl hf).mono ?_;rintro e w'⟨lo,g0,g1,g2,g3,he,_,ho,hb⟩;exact⟨_,_,_,_,he,ho.at hl.small,ho.os.has hl.os.smalls hl.os.len,hb⟩
def zo (s:Shp)(ms:List Mnd)(p:Nat):List Nat:=(yE s ms p).map Int.toNat
def zf2 (S:Far):Int->Option Int:=fun q=>if 0<=q then (S.far q.toNat).map fun b=>if b=true then 2 else 1 else none
theorem zpt (S:Far)(i:Nat):(fun q:Int=>if q=(i:Int) then some 1 else zf2 S q)=zf2 (S.under i):=by
 funext q
 by_cases h:q=(i:Int)
 ·subst h;simp[zf2,Far.under]
 ·rw[if_neg h]
  unfold zf2 Far.under
  by_cases h0:0<=q
  ·have:q.toNat≠i:=by omega
   simp[h0,this]
  ·simp[h0]
theorem znG (S:Far)(i:Nat):(fun q:Int=>if q=(i:Int) then some 2 else zf2 S q)=zf2 (S.behind i):=by
 funext q
 by_cases h:q=(i:Int)
 ·subst h;simp[zf2,Far.behind]
 ·rw[if_neg h]
  unfold zf2 Far.behind
  by_cases h0:0<=q
  ·have:q.toNat≠i:=by omega
   simp[h0,this]
  ·simp[h0]
theorem zrV (S:Far)(i:Nat):zf2 S (i:Int)=(S.far i).map fun b=>if b=true then 2 else 1:=by
 unfold zf2;simp
theorem zbk (d:Nat->Far->Bool × Far):∀(l:List Nat) (q:Nat) (t:Far),zu d (l++[q]) t=if (zu d l t).1=true then d q (zu d l t).2 else zu d l t
 | [],q,t=>by
  show(if (d q t).1=true then zu d [] (d q t).2 else (false,(d q t).2))=d q t
  by_cases h:(d q t).1=true
  ·rw[if_pos h];show(true,(d q t).2)=d q t;rw[<- h]
  ·rw[if_neg h]
   have:(d q t).1=false:=by simpa using h
   rw[<- this]
 | a :: l,q,t=>by
  show(if (d a t).1=true then zu d (l++[q]) (d a t).2 else (false,(d a t).2))=_
  by_cases h:(d a t).1=true
  ·have e:zu d (a :: l) t=zu d l (d a t).2:=by show(if (d a t).1=true then _ else _)=_;rw[if_pos h]
   rw[if_pos h,e];exact zbk d l q _
  ·have e:zu d (a :: l) t=(false,(d a t).2):=by show(if (d a t).1=true then _ else _)=_;rw[if_neg h]
   rw[if_neg h,e];rfl
theorem zc6 (d:Nat->Far->Bool × Far):∀(l r:List Nat) (t:Far),(zu d l t).1=false->(zu d (l++r) t).1=false
 | [],r,t,h=>by cases h
 | a :: l,r,t,h=>by
  show(if (d a t).1=true then zu d (l++r) (d a t).2 else (false,(d a t).2)).1=false
  by_cases hc:(d a t).1=true
  ·have e:zu d (a :: l) t=zu d l (d a t).2:=by show(if (d a t).1=true then _ else _)=_;rw[if_pos hc]
   rw[e]at h;rw[if_pos hc];exact zc6 d l r _ h
  ·rw[if_neg hc]
theorem zqG {rd:Nat->List Nat}{n:Nat}(hrd:∀p,p<n->∀q∈rd p,q<n):∀f p S,p<n->(down rd f p S).1=true->(down rd f p S).2.row.length+open' n (down rd f p S).2<=S.row.length+open' n S:=by
 intro f
 induction f with
 | zero=>intro p S _ h;cases h
 | succ f ih=>
  have hl:∀(l:List Nat) (t:Far),(∀a∈l,a<n)->(zu (down rd f) l t).1=true->(zu (down rd f) l t).2.row.length+open' n (zu (down rd f) l t).2<=t.row.length+open' n t:=by
   intro l
   induction l with
   | nil=>intro t _ _;exact Nat.le_refl _
   | cons a l il=>
    intro t ha h;unfold zu at h ⊢
    by_cases hc:(down rd f a t).1=true
    ·rw[if_pos hc]at h ⊢
     exact Nat.le_trans (il _ (fun b hb=>ha b (by simp[hb])) h) (ih a t (ha a (by simp)) hc)
    ·rw[if_neg hc]at h;cases h
  intro p S hp h;unfold down at h ⊢
  rcases hf:S.far p with _|b
  ·rw[hf]at h
   simp only at h ⊢
   by_cases hc:(zu (down rd f) (rd p) (S.under p)).1=true
   ·rw[if_pos hc]
    have h1:=hl _ _ (hrd p hp) hc;have h2:=zf8 hp hf
    have h3:open' n ((zu (down rd f) (rd p) (S.under p)).2.behind p)<=open' n (zu (down rd f) (rd p) (S.under p)).2:=by
     apply zl3
     intro q hq;simp only[Far.behind]
     split
     ·rfl
     ·exact hq
    have h4:((zu (down rd f) (rd p) (S.under p)).2.behind p).row.length=(zu (down rd f) (rd p) (S.under p)).2.row.length+1:=by simp[Far.behind]
    have h5:(S.under p).row=S.row:=rfl;rw[h5]at h1
    simp only
    omega
   ·rw[if_neg hc]at h;cases h
  ·exact Nat.le_refl _
theorem zfV {rd:Nat->List Nat}{n:Nat}(hrd:∀p,p<n->∀q∈rd p,q<n)(f:Nat):∀(l:List Nat) (t:Far),(∀a∈l,a<n)->(zu (down rd f) l t).1=true->(zu (down rd f) l t).2.row.length+open' n (zu (down rd f) l t).2<=t.row.length+open' n t:=by
 intro l
 induction l with
 | nil=>intro t _ _;exact Nat.le_refl _
 | cons a l il=>
  intro t ha h;unfold zu at h ⊢
  by_cases hc:(down rd f a t).1=true
  ·rw[if_pos hc]at h ⊢
   exact Nat.le_trans (il _ (fun b hb=>ha b (by simp[hb])) h) (zqG hrd f a t (ha a (by simp)) hc)
  ·rw[if_neg hc]at h;cases h
def zeT (l:List Nat):List Value:=l.map fun q:Nat=>Value.i (q:Int)
theorem zbH {w:World}{b:Nat}{X:AV}{t:TypeId}(h:w.heap[b]?=some (.cells X t)):∀j,w.cell? (aD b j)=X[j]?:=fun _=>cell_of_block h
theorem zgP {w:World}{b:Nat}{X:AV}{t:TypeId}(h:w.heap[b]?=some (.cells X t)):∀j,w.frozen? (aD b j)=false:=fun _=>zl h
structure WalkC where
 s:Shp
 ms:List Mnd
 w0:World
 ma:OA
 fa:OA
 mcap:Nat
 fcap:Nat
 bm:Nat
 bs:Nat
 p:Nat
 mr:Nat
 lo:Nat
structure WalkC.Ok (c:WalkC):Prop where
 mnds:qZ c.w0 c.ma c.ms
 flds:yj c.w0 c.fa c.s.fs
 few:c.ms.length<=1048576
 fewf:c.s.fs.length<=6
 reads:∀q,q<c.s.fs.length->∀x∈yE c.s c.ms q,0<=x/\x<c.s.fs.length
 bp:c.w0.heap.size<=c.p
 bmr:c.w0.heap.size<=c.mr
 plo:c.p<c.lo
 mlo:c.mr<c.lo
 bml:c.bm<c.lo
 bsl:c.bs<c.lo
 pm:c.p≠c.mr
 bmp:c.bm≠c.p
 bmm:c.bm≠c.mr
 bsp:c.bs≠c.p
 bsm:c.bs≠c.mr
def WalkC.fn (c:WalkC):Value:=.func (.func 210) #[] #[.pointer (some (aD c.bm 0)),.pointer (some (aD c.bs 0))]
structure zaw (c:WalkC)(w:World)(S:Far)(v:Value):Prop where
 base:Below c.w0.heap.size c.w0 w
 cm:w.cell? (aD c.bm 0)=some (.l c.ma c.ms.length c.mcap)
 cs:∀j,w.cell? (aD c.bs j)=(#[.s c.s.kd,.l c.fa c.s.fs.length c.fcap]:AV)[j]?
 size:c.lo<=w.heap.size
 cells:w.heap[c.p]?=some (.cells #[c.fn,.map (some c.mr),v] 325)
 row:w.ownsRow c.lo 3 1 v S.row.length (zeT S.row)
 map:zbu w c.mr (zf2 S)
structure Moves (c:WalkC)(v:Value)(w:World)(v':Value)(w':World):Prop where
 size:w.heap.size<=w'.heap.size
 out:∀k,k<w.heap.size->k≠c.p->k≠c.mr->v.ownBlock≠some k->w'.heap[k]?=w.heap[k]?
 own:v'.ownBlock=v.ownBlock \/ ∃g,v'.ownBlock=some g/\w.heap.size<=g
theorem Moves.refl (c:WalkC)(v:Value)(w:World):Moves c v w v w:=⟨Nat.le_refl _,fun _ _ _ _ _=>rfl,Or.inl rfl⟩
theorem Moves.trans {c:WalkC}{v v1 v2:Value}{w w1 w2:World}(h:Moves c v w v1 w1)(k:Moves c v1 w1 v2 w2):Moves c v w v2 w2:=by
 refine⟨Nat.le_trans h.size k.size,fun i hi hp hm hv=>?_,?_⟩
 ·rw[k.out i (nLt hi h.size) hp hm ?_,h.out i hi hp hm hv]
  rcases h.own with e|⟨g,e,hg⟩
  ·rw[e];exact hv
  ·rw[e];intro e';cases e';omega
 ·rcases k.own with e|⟨g,e,hg⟩
  ·rw[e];exact h.own
  ·exact Or.inr ⟨g,e,Nat.le_trans h.size hg⟩
theorem zh0 {w w':World}{b j:Nat}(h:w'.heap[b]?=w.heap[b]?):w'.cell? (aD b j)=w.cell? (aD b j):=by unfold World.cell?;rw[h]
theorem zaw.next {c:WalkC}{w w':World}{S S':Far}{v v':Value}(hc:c.Ok)(h:zaw c w S v)(os:w'.os=w.os)(tape:w'.tape=w.tape)(output:w'.output=w.output)(size:w.heap.size<=w'.heap.size)
 (out:∀k,k<c.lo->k≠c.p->k≠c.mr->w'.heap[k]?=w.heap[k]?)
 (cells:w'.heap[c.p]?=some (.cells #[c.fn,.map (some c.mr),v'] 325)) (row:w'.ownsRow c.lo 3 1 v' S'.row.length (zeT S'.row)) (map:zbu w' c.mr (zf2 S')):zaw c w' S' v':=by
 have hb:=h.base.size;have h1:=hc.bp;have h2:=hc.plo;have h3:=hc.bmr;refine⟨⟨os.trans h.base.os,tape.trans h.base.tape,output.trans h.base.output,Nat.le_trans hb size,fun k hk=>?_⟩,?_,fun j=>?_,Nat.le_trans h.size size,cells,row,map⟩
 ·rw[out k (by omega) (by omega) (by omega)];exact h.base.block k hk
 ·rw[zh0 (out c.bm hc.bml hc.bmp hc.bmm)];exact h.cm
 ·rw[zh0 (out c.bs hc.bsl hc.bsp hc.bsm)];exact h.cs j
theorem zaw.mark {c:WalkC}{w:World}{S:Far}{v:Value}(hc:c.Ok)(h:zaw c w S v)(i:Nat)(x:Int) :
 ∃w',(Instr.mapUpdate 323 (.map (some c.mr)) (.i i) (.i x)).run Tryz.prog w=.ok () w'/\(∀S':Far,S'.row=S.row->(fun q:Int=>if q=(i:Int) then some x else zf2 S q)=zf2 S'->zaw c w' S' v)/\Moves c v w v w':=by
 obtain⟨w',hrun,hmap,hput⟩:=h.map.upd i x;have hlt:=h.map.lt;refine⟨w',hrun,fun S' hr hf=>?_,Nat.le_of_eq hput.size.symm,fun k _ _ hm _=>hput.out k hm,Or.inl rfl⟩
 have hrow:w'.ownsRow c.lo 3 1 v S'.row.length (zeT S'.row):=by
  rw[hr];exact za6 h.row fun g hg=>hput.out g (by have:=(h.row.lt g hg).1;have:=hc.mlo;omega)
 exact h.next hc hput.os hput.tape hput.output (Nat.le_of_eq hput.size.symm) (fun k _ _ hm=>hput.out k hm) ((hput.out c.p hc.pm).trans h.cells) hrow (by rw[<- hf];exact hmap)
theorem WalkC.Ok.rd {c:WalkC}(hc:c.Ok):∀p,p<c.s.fs.length->∀q∈zo c.s c.ms p,q<c.s.fs.length:=by
 intro p hp q hq;unfold zo at hq;obtain⟨x,hx,rfl⟩:=List.mem_map.1 hq
 have:=hc.reads p hp x hx
 omega
theorem zaw.later {c:WalkC}{w w':World}{S:Far}{v:Value}(hc:c.Ok)(h:zaw c w S v)(hb:Bw w w'):zaw c w' S v/\Moves c v w v w':=by
 have hs:=h.size;have hp:=hc.plo;have hm:=hc.mlo;exact⟨h.next hc hb.os hb.tape hb.output hb.size (fun k hk _ _=>hb.block k (by omega)) ((hb.block c.p (by omega)).trans h.cells) (jD h.row hb) (h.map.mono (hb.block c.mr (by omega))),hb.size,fun k hk _ _ _=>hb.block k hk,Or.inl rfl⟩
theorem zaw.zmk {c:WalkC}{w:World}{S:Far}{v:Value}(h:zaw c w S v):∀j,w.cell? (aD c.p j)=(#[.func (.func 210) #[] #[.pointer (some (aD c.bm 0)),.pointer (some (aD c.bs 0))],.map (some c.mr),v]:AV)[j]?:=fun _=>cell_of_block h.cells
theorem zhw {p:Prop}(h:Hid p):p:=h
set_option maxRecDepth 20000 in
theorem zrv (c:WalkC)(hc:c.Ok):∀(f i:Nat) (S:Far) (v:Value) (w:World),i<c.s.fs.length->open' c.s.fs.length S<f->S.row.length+open' c.s.fs.length S<=6->zaw c w S v ->
 Calls Tryz.prog 240 #[.pointer (some (aD c.p 0)),.i i] w fun e w'=>∃v',e=.returned (.bool (down (zo c.s c.ms) f i S).1)/\Below c.w0.heap.size c.w0 w'/\((down (zo c.s c.ms) f i S).1=true->zaw c w' (down (zo c.s c.ms) f i S).2 v'/\Moves c v w v' w'):=by
 intro f
 induction f with
 | zero=>intro i S v w _ h _ _;omega
 | succ f ih=>
  intro i S v w hi hopen hsix hW;have HI:=hid ih;clear ih;obtain⟨i0,hi0,hz0,hz1',hz2⟩:=info_parts Tryz.zmh;have hpc:=hW.zmk;have hlook:=hW.map.look (i:Int);rw[zrV]at hlook;have HW:=hid hW;have HO:=hid hopen;clear hW hopen
  rcases hfar:S.far i with _|b
  ·rw[hfar]at hlook
   have hlook':=hlook;obtain⟨w1,hrun,hmk,hmv⟩:=HW.o.mark hc i 1;have hW1:=hmk (S.under i) rfl (zpt S i);have hpc1:=hW1.zmk;have HW1:=ji hW1 hmv;clear hlook hmk hmv hW1;go_enter Tryz.func240,Tryz.ntmps240;go_wp2_with fail
   refine(zn8 c.s c.ms i c.bm c.bs c.ma c.fa c.mcap c.fcap w1 (hc.mnds.mono HW1.o.1.base) (hc.flds.mono HW1.o.1.base) hi hc.few (nLt hc.bsl HW1.o.1.size) HW1.o.1.cm HW1.o.1.cs).mono ?_;rintro e w2⟨rv,rfl,hrow,hb2⟩;obtain⟨ra,rcap,rfl⟩:=qL hrow;have hW2:=HW1.o.1.later hc hb2;have HW2:=ji hW2.1 (HW1.o.2.trans hW2.2);have HR2:=hid hrow;have HRL:Hid ((yE c.s c.ms i).length<=2097152):=by have h1:=zhF c.s i c.ms;have:=hc.few;show _<=_;omega
   have HAP:Hid (∀g,v.ownBlock=some g->(Value.slice ra (yE c.s c.ms i).length rcap).ownBlock≠some g):=by
    intro g hg he;have h1:=(HW1.o.1.row.lt g hg).2;have h2:=(hrow.lt g he).1;omega
   have HLO:=hid HW1.o.1.size;have HOU:Hid (open' c.s.fs.length (S.under i)<f):=by have h1:=zf8 hi hfar;have h2:=HO.o;show _<_;omega
   have HDN:Hid ((down (zo c.s c.ms) (f+1) i S)=if (zu (down (zo c.s c.ms) f) ((zo c.s c.ms) i) (S.under i)).1=true then (true,(zu (down (zo c.s c.ms) f) ((zo c.s c.ms) i) (S.under i)).2.behind i) else (false,(zu (down (zo c.s c.ms) f) ((zo c.s c.ms) i) (S.under i)).2)):=by
    unfold Hid;rw[down,hfar]
   clear hW2 hrow hb2 hpc hpc1 hlook' hrun;go_wp2_with fail
   go_loopw [33] (fun iv wr=>∃(j:Nat) (v1:Value),j<=(yE c.s c.ms i).length/\iv=.i j/\(zu (down (zo c.s c.ms) f) (((zo c.s c.ms) i).take j) (S.under i)).1=true/\zaw c wr (zu (down (zo c.s c.ms) f) (((zo c.s c.ms) i).take j) (S.under i)).2 v1/\Moves c v w v1 wr/\wr.ownsRow w1.heap.size 3 1 (.l ra (yE c.s c.ms i).length rcap) (yE c.s c.ms i).length (ints (yE c.s c.ms i))/\(∀g,v1.ownBlock=some g->(Value.slice ra (yE c.s c.ms i).length rcap).ownBlock≠some g)) (fun iv _=>(yE c.s c.ms i).length-(intOf iv).toNat)
   case atStart=>exact⟨0,v,Nat.zero_le _,rfl,rfl,HW2.o.1,HW2.o.2,HR2.o,HAP.o⟩
   case round=>
    obtain⟨j,v1,hj,rfl,hD,hWr,hMr,hRr,hAp⟩:=hrel;have HWr:=zk2 hWr hMr hRr hAp;have HD:=hid hD;clear hWr hMr hRr hAp hD
    have HSX:Hid ((zu (down (zo c.s c.ms) f) (((zo c.s c.ms) i).take j) (S.under i)).2.row.length+open' c.s.fs.length (zu (down (zo c.s c.ms) f) (((zo c.s c.ms) i).take j) (S.under i)).2<=6):=by
     have h1:=zfV hc.rd f _ (S.under i) (fun a ha=>hc.rd i hi a (List.mem_of_mem_take ha)) HD.o;have h2:=zf8 hi hfar;have h3:(S.under i).row=S.row:=rfl;rw[h3]at h1
     show _<=_
     omega
    by_cases hjl:j<(yE c.s c.ms i).length
    ·obtain⟨q,hq,hqn⟩:∃q:Nat,(yE c.s c.ms i)[j]=(q:Int)/\q<c.s.fs.length:=by
      have h1:=hc.reads i hi _ (List.getElem_mem hjl);exact⟨((yE c.s c.ms i)[j]).toNat,by omega,by omega⟩
     have HTK:Hid (((zo c.s c.ms) i).take (j+1)=((zo c.s c.ms) i).take j++[q]):=by
      have hjl':j<((zo c.s c.ms) i).length:=by unfold zo;rw[List.length_map];exact hjl
      unfold Hid;rw[tSe hjl']
      have:((zo c.s c.ms) i)[j]=q:=by simp[zo,hq]
      rw[this]
     obtain⟨g,rfl,hcell⟩:∃g,ra=some (aD g 0)/\wr.cell? (aD g j)=some (.i (q:Int)):=by
      obtain⟨_,⟨h0,h1⟩|⟨g,cap,cur,h0,h1⟩⟩:=id HWr.o.2.2.1
      ·rw[h1]at hjl;exact absurd hjl (by omega)
      ·cases h0
       refine⟨g,rfl,?_⟩;rw[HWr.o.2.2.1.cellAt j (by omega)]
       simp[ints,hjl,hq]
     have hjI:(j:Int)<((yE c.s c.ms i).length:Int):=by omega
     have HOP:Hid (open' c.s.fs.length (zu (down (zo c.s c.ms) f) (((zo c.s c.ms) i).take j) (S.under i)).2<f):=by
      have h1:=zl3 (n:=c.s.fs.length) (s:=S.under i) (t:=(zu (down (zo c.s c.ms) f) (((zo c.s c.ms) i).take j) (S.under i)).2) (fun q' hq'=>zmp _ _ q' _ _ hq');have h2:=HOU.o
      show _<_
      omega
     go_wp2_with fail
     refine(HI.o q _ v1 wr hqn HOP.o HSX.o HWr.o.1).mono ?_;rintro e w3⟨v3,rfl,hb3,hyes⟩
     by_cases hd:(down (zo c.s c.ms) f q (zu (down (zo c.s c.ms) f) (((zo c.s c.ms) i).take j) (S.under i)).2).1=true
     ·have HS:Hid ((zu (down (zo c.s c.ms) f) (((zo c.s c.ms) i).take (j+1)) (S.under i))=down (zo c.s c.ms) f q (zu (down (zo c.s c.ms) f) (((zo c.s c.ms) i).take j) (S.under i)).2):=by unfold Hid;rw[HTK.o,zbk,if_pos HD.o]
      have hy:=hyes hd;have HY:=hid hy;have HDD:=hid hd;rw[hd];clear hyes hy hb3 hd hcell;go_wp2_with fail
      have hg1:=HWr.o.2.2.1.lt g rfl;have hap:v1.ownBlock≠some g:=fun h=>HWr.o.2.2.2 g h rfl
      refine⟨⟨j+1,v3,by omega,by rw[wrap_one (by have:=HRL.o;omega)],by rw[HS.o];exact HDD.o,by rw[HS.o];exact HY.o.1,HWr.o.2.1.trans HY.o.2,?_,?_⟩,zfJ hjl (by have:=HRL.o;omega)⟩
      ·refine za6 HWr.o.2.2.1 (fun g' hg'=>?_)
       cases hg'
       exact HY.o.2.out g hg1.2 (by have:=hc.plo;have:=HLO.o;omega) (by have:=hc.mlo;have:=HLO.o;omega) hap
      ·intro g' hg' he
       have e0:g=g':=Option.some.inj he;subst e0
       rcases HY.o.2.own with e|⟨g2,e,h2⟩
       ·rw[e]at hg';exact hap hg'
       ·have e2:g2=g:=Option.some.inj (e.symm.trans hg')
        have h3:=hg1.2;omega
     ·have hdf:(down (zo c.s c.ms) f q (zu (down (zo c.s c.ms) f) (((zo c.s c.ms) i).take j) (S.under i)).2).1=false:=by simpa using hd
      have HF:Hid ((down (zo c.s c.ms) (f+1) i S).1=false):=by
       have h1:(zu (down (zo c.s c.ms) f) (((zo c.s c.ms) i).take (j+1)) (S.under i)).1=false:=by rw[HTK.o,zbk,if_pos HD.o];exact hdf
       have h2:=zc6 (down (zo c.s c.ms) f) (((zo c.s c.ms) i).take (j+1)) (((zo c.s c.ms) i).drop (j+1)) (S.under i) h1;rw[List.take_append_drop]at h2;unfold Hid;rw[HDN.o,if_neg (by rw[h2];simp)]
      rw[hdf];have HB3:Hid (Below c.w0.heap.size c.w0 w3):=hb3;clear hyes hb3 hcell hd hdf;go_wp2_with fail
      go_ret;exact⟨v3,by rw[HF.o];rfl,HB3.o,fun h=>by rw[HF.o]at h;cases h⟩
    ·have e:j=(yE c.s c.ms i).length:=by omega
     have hall:((zo c.s c.ms) i).take j=(zo c.s c.ms) i:=tOl (by unfold zo;rw[List.length_map];omega);rw[hall]at HWr HD HSX;have HRES:Hid ((down (zo c.s c.ms) (f+1) i S)=(true,(zu (down (zo c.s c.ms) f) ((zo c.s c.ms) i) (S.under i)).2.behind i)):=by unfold Hid;rw[HDN.o,if_pos HD.o]
     clear HDN HD hall
     revert HWr HRES HSX
     generalize (zu (down (zo c.s c.ms) f) ((zo c.s c.ms) i) (S.under i)).2=D
     intro HWr HSX HRES;obtain⟨w3,hrun3,hmk3,hmv3⟩:=HWr.o.1.mark hc i 2;have hW3:=hmk3 ⟨(D.behind i).far,D.row⟩ rfl (by rw[znG];rfl);have HW3:=ji hW3 (HWr.o.2.1.trans hmv3);have hpcr:=HWr.o.1.zmk;have hpc3:=hW3.zmk;have hpf3:=zgP hW3.cells;have HDL:Hid (D.row.length<=6):=by have:=HSX.o;show _<=_;omega
     have hp3:=nLt hc.plo hW3.size;clear hmk3 hmv3 hW3 HWr;subst e;have HGE:=hid HW3.o.1.row.lt
     go_wp2_with (at_builtin;refine zhw ?_)
     show wpList _ _ _ _ _ _
     refine wpList_append_own_at _ rfl (.tmp 51) (.tmp 53) 72 rfl c.lo 3 i0 (.i 0) 1 8 Tryz.underlying72 hi0 hz0 hz1' hz2 rfl (by decide) v1 _ _ rfl (HW3.o.1.row.alloc _) (aD w3.heap.size 0) 1 1 [.i (i:Int)] rfl rfl (zfl _ _ _) (by intro u hu;simp at hu;subst hu;rfl) (by have:=HDL.o;show D.row.length+1<=2 ^ 63-1;omega) (by have:=HDL.o;show(D.row.length+1)*8<=140737488355328;omega) (by have:=HW3.o.1.size;simp;omega) ?_;intro vN w4 hownN hgr _ hat;obtain⟨va,vcap,rfl⟩:=qL hownN;have hown':=hownN;clear hownN;have hp4:=(za4 hgr (by simp;omega) (fun g hg=>by have:=(HGE.o g hg).1;have:=hc.plo;omega)).trans ((Below.heap_alloc _ _ _ hp3).trans HW3.o.1.cells);have hpc4:=zbH hp4;have hpf4:=zgP hp4;have HP4:Hid (w4.heap[c.p]?=some (.cells #[c.fn,.map (some c.mr),v1] 325)):=hp4;have HG4:Hid ((w3.alloc (.cells #[.i (i:Int)] 3)).grownBy w4 v1.ownBlock/\((Value.slice va (D.row.length+1) vcap).ownBlock=v1.ownBlock \/ (Value.slice va (D.row.length+1) vcap).ownBlock=some (w3.heap.size+1))):=(by refine⟨hgr,?_⟩;simpa using hat)
     have HO4:=hid hown';clear hp4 hgr hat hown';go_wp2_with fail
     have hgb:∀k,k<w3.heap.size->(∀g,v1.ownBlock=some g->k≠g)->w4.heap[k]?=w3.heap[k]?:=fun k hk hne=>(za4 HG4.o.1 (by simp;omega) hne).trans (Below.heap_alloc _ _ _ hk)
     have hsz4:w3.heap.size<w4.heap.size:=by have:=HG4.o.1.size;simp at this;omega
     have hv4:∀g,(Value.slice va (D.row.length+1) vcap).ownBlock=some g->c.lo<=g:=fun g hg=>(HO4.o.lt g hg).1
     have hW5:zaw c (w4.setCell (aD c.p 2) (.l va (D.row.length+1) vcap)) (D.behind i) (.l va (D.row.length+1) vcap):=by
      refine HW3.o.1.next hc HG4.o.1.os HG4.o.1.tape HG4.o.1.output (by simp[World.setCell];omega) (fun k hk hp hm=>?_) ?_ ?_ ?_
      ·rw[Below.heap_setCell _ _ _ _ hp]
       exact hgb k (by have:=HW3.o.1.size;omega) (fun g hg=>by have:=(HGE.o g hg).1;omega)
      ·exact zh HP4.o _
      ·have e1:(D.behind i).row.length=D.row.length+1:=by simp[Far.behind]
       have e2:zeT (D.behind i).row=zeT D.row++[.i (i:Int)]:=by simp[Far.behind,zeT]
       rw[e1,e2];exact za6 HO4.o (fun g hg=>Below.heap_setCell _ _ _ _ (by show g≠c.p;have:=hv4 g hg;have:=hc.plo;omega))
      ·have hm3:=HW3.o.1.map.lt
       exact HW3.o.1.map.mono ((Below.heap_setCell _ _ _ _ (Ne.symm hc.pm)).trans (hgb c.mr hm3 (fun g hg=>by have:=(HGE.o g hg).1;have:=hc.mlo;omega)))
     have hM5:Moves c v1 w3 (.l va (D.row.length+1) vcap) (w4.setCell (aD c.p 2) (.l va (D.row.length+1) vcap)):=by
      refine⟨by simp[World.setCell];omega,fun k hk hp _ hv=>?_,?_⟩
      ·rw[Below.heap_setCell _ _ _ _ hp]
       exact hgb k hk (fun g hg e=>hv (by rw[e];exact hg))
      ·rcases HG4.o.2 with e|e
       ·exact Or.inl e
       ·exact Or.inr ⟨_,e,by omega⟩
     go_ret;exact⟨by rw[HRES.o];rfl,hW5.base,_,fun _=>by rw[HRES.o];exact⟨hW5,HW3.o.2.trans hM5⟩⟩
  ·have hr:down (zo c.s c.ms) (f+1) i S=(b,S):=by rw[down,hfar]
   have HR:=hid hr;rw[hfar]at hlook;clear hr
   cases b with
   | true=>
    have hlook':=hlook;clear hlook;go_enter Tryz.func240,Tryz.ntmps240;go_wp2_with fail
    go_ret;exact⟨v,by rw[HR.o];rfl,HW.o.base,fun _=>by rw[HR.o];exact⟨HW.o,Moves.refl _ _ _⟩⟩
   | false=>
    have hlook':=hlook;clear hlook;go_enter Tryz.func240,Tryz.ntmps240;go_wp2_with fail
    go_ret;exact⟨v,by rw[HR.o];rfl,HW.o.base,fun h=>by rw[HR.o]at h;cases h⟩
theorem zdT (a:OA)(cap:Nat)(ss:List Shp)(w:World)(hw:yR w a ss) :
 Calls Tryz.prog 148 #[.l a ss.length cap] w fun e w'=>e=.returned (.bool (yg ss))/\Bw w w':=by
 have hl:=hw.len;unfold maxLen at hl
 by_cases h6:ss.length<=6
 rotate_left
 ·have HF:Hid (yg ss=false):=by simp[Hid,yg,h6]
  clear hw;go_enter Tryz.func148,Tryz.ntmps148
  go_wp2
  go_ret;exact⟨ze HF.o.symm,bRf _ _⟩
 have HG:Hid (yg ss=up (qp ss) ss.length):=by simp[Hid,yg,h6]
 have h6I:(ss.length:Int)<=6:=by omega
 go_enter Tryz.func148,Tryz.ntmps148;go_wp2_with fail
 refine(zdh _).mono ?_;rintro e w0⟨rfl,hw0⟩;have hB00:Bw w w0:=by rw[hw0];exact bAl _ _
 have hr0:w0.heap[w.heap.size]?=some (.map yY 4):=by rw[hw0];exact alloc_at _ _
 have hz0:w.heap.size<w0.heap.size:=by rw[hw0];simp
 clear hw0;go_wp2_with fail
 go_loopw [12] (fun i wr=>∃k:Nat,k<=ss.length/\i=.i k/\up (qp ss) k=true/\Bw w0 wr) (fun i _=>ss.length-(intOf i).toNat)
 case atStart=>exact⟨0,Nat.zero_le _,rfl,rfl,bRf _ _⟩
 case round=>
  obtain⟨k,hk,rfl,hup,hB⟩:=hrel;have hsz:=hB.size
  by_cases hlt:k<ss.length
  ·obtain⟨b,off,rfl,hb,hrw⟩:=hw.rows (by rintro rfl;simp at hlt)
   have hb0:b<w0.heap.size:=by omega
   have hall:yR wr (some (aD b off)) ss:=(hw.mono hB00).mono hB;obtain⟨fa,fcap,hs⟩:=hrw k hlt;have hs':=(hs.mono hb hB00).mono hb0 hB;have hck:=hs'.kind;have hcl:=hs'.list;have hfl:=hs'.flds;have hsm:=hs.small;have hra:wr.heap[w.heap.size]?=some (.map yY 4):=(hB.block _ hz0).trans hr0;have HS:Hid (qp ss k=true->up (qp ss) (k+1)=true):=fun h=>by rw[jA,hup,h];rfl
   have HN:Hid (qp ss k=false->yg ss=false):=fun h=>by rw[HG.o];exact za2 hlt h
   have hltI:(k:Int)<(ss.length:Int):=by omega
   by_cases hn:zm ss[k].kd=true
   rotate_left
   ·have HNm:Hid (zm ss[k].kd=false):=by simpa[Hid] using hn
    have HF:Hid (qp ss k=false):=by
     unfold Hid qp;rw[getD_at ss k _ hlt,HNm.o];rfl
    clear hn hup hw hrw hs hs' hr0 hra;go_wp2_with fail
    go_quiet ((go_at_call 153;exact Calls.quiet_of_same (zf HNm.o (zB _ _ hsm))))
    go_wp2_with fail
    go_ret;exact⟨ze (HN.o HF.o).symm,hB00.trans ((below_drewN (hB.alloc hsz _) _).mono (by omega))⟩
   have HNm:Hid (zm ss[k].kd=true):=hn;clear hn
   by_cases hk0:k=0
   ·have HA:Hid (qp ss k=qz ss ss[k].fs):=by subst hk0;unfold Hid;rw[zfY ss hlt,HNm.o];rfl
    have hg:decide (0<k)=false:=by simp;omega
    clear hup hw hrw hs hs' hr0 hk0
    by_cases hok:qz ss ss[k].fs=true
    ·have HK:Hid (qz ss ss[k].fs=true):=hok
     clear hok;go_wp2_with fail
     go_quiet ((go_at_call 153;exact Calls.quiet_of_same (zf HNm.o (zB _ _ hsm))))
     go_wp2_with fail
     have hbr2:Bw wr ((wr.alloc (.cells #[.s ss[k].kd,.l fa ss[k].fs.length fcap] 139)).drewN nq):=below_drewN (bAl _ _) _;refine(zf HK.o (zcR _ _ _ _ _ _ _ _ ((hbr2.block _ (by omega)).trans hra) (hall.mono hbr2) (hfl.mono hbr2))).mono ?_;rintro e w3⟨rfl,hb3⟩;have hB3:Bw w0 w3:=(hB.trans (hbr2.mono hsz)).trans (hb3.mono (by simp;omega));clear hb3 hbr2;go_wp2_with fail
     exact⟨⟨k+1,by omega,by go_num,HS.o (by rw[HA.o,HK.o]),hB3⟩,by simp[intOf];omega⟩
    ·have HK:Hid (qz ss ss[k].fs=false):=by simpa[Hid] using hok
     clear hok;go_wp2_with fail
     go_quiet ((go_at_call 153;exact Calls.quiet_of_same (zf HNm.o (zB _ _ hsm))))
     go_wp2_with fail
     have hbr2:Bw wr ((wr.alloc (.cells #[.s ss[k].kd,.l fa ss[k].fs.length fcap] 139)).drewN nq):=below_drewN (bAl _ _) _;refine(zf HK.o (zcR _ _ _ _ _ _ _ _ ((hbr2.block _ (by omega)).trans hra) (hall.mono hbr2) (hfl.mono hbr2))).mono ?_;rintro e w3⟨rfl,hb3⟩;have hB3:Bw w0 w3:=(hB.trans (hbr2.mono hsz)).trans (hb3.mono (by simp;omega));clear hb3 hbr2;go_wp2_with fail
     go_ret;exact⟨ze (HN.o (by rw[HA.o,HK.o])).symm,hB00.trans (hB3.mono (by omega))⟩
   ·obtain⟨m,rfl⟩:∃m,k=m+1:=⟨k-1,by omega⟩
    obtain⟨fam,fcapm,hsm0⟩:=hrw m (by omega);have hcm:=((hsm0.mono hb hB00).mono hb0 hB).kind;have HA:Hid (qp ss (m+1)=(less ss[m].kd ss[m+1].kd&&qz ss ss[m+1].fs)):=by unfold Hid;rw[zg5 ss m hlt,HNm.o];rfl
    have hmI:(m:Int)<6:=by omega
    have hm0:(0:Int)<=(m:Int):=by omega
    have hbr:b<wr.heap.size:=by omega
    have hml:(m:Int)<(ss.length:Int):=by omega
    have hmw:IntKind.i64.wrap (m:Int)=m:=by rw[IntKind.wrap_i64];omega
    clear hup hw hrw hs hs' hr0 hk0 hsm0
    by_cases hls:less ss[m].kd ss[m+1].kd=true
    rotate_left
    ·have hls':Op.bytesLess ss[m].kd.toList ss[m+1].kd.toList=false:=by simpa[less] using hls
     have HLS:Hid (less ss[m].kd ss[m+1].kd=false):=hls';clear hls;go_wp2_with fail
     go_quiet ((go_at_call 153;exact Calls.quiet_of_same (zf HNm.o (zB _ _ hsm))))
     go_wp2_with fail
     go_ret;exact⟨ze (HN.o (by rw[HA.o,HLS.o];rfl)).symm,hB00.trans ((below_drewN (hB.alloc hsz _) _).mono (by omega))⟩
    have hls':Op.bytesLess ss[m].kd.toList ss[m+1].kd.toList=true:=hls;have HLS:Hid (less ss[m].kd ss[m+1].kd=true):=hls;clear hls
    by_cases hok:qz ss ss[m+1].fs=true
    ·have HK:Hid (qz ss ss[m+1].fs=true):=hok
     clear hok;go_wp2_with fail
     go_quiet ((go_at_call 153;exact Calls.quiet_of_same (zf HNm.o (zB _ _ hsm))))
     go_wp2_with fail
     have hbr2:Bw wr ((wr.alloc (.cells #[.s ss[m+1].kd,.l fa ss[m+1].fs.length fcap] 139)).drewN nq):=below_drewN (bAl _ _) _;refine(zf HK.o (zcR _ _ _ _ _ _ _ _ ((hbr2.block _ (by omega)).trans hra) (hall.mono hbr2) (hfl.mono hbr2))).mono ?_;rintro e w3⟨rfl,hb3⟩;have hB3:Bw w0 w3:=(hB.trans (hbr2.mono hsz)).trans (hb3.mono (by simp;omega));clear hb3 hbr2;go_wp2_with fail
     exact⟨⟨m+1+1,by omega,by go_num,HS.o (by rw[HA.o,HLS.o,HK.o];rfl),hB3⟩,by simp[intOf];omega⟩
    ·have HK:Hid (qz ss ss[m+1].fs=false):=by simpa[Hid] using hok
     clear hok;go_wp2_with fail
     go_quiet ((go_at_call 153;exact Calls.quiet_of_same (zf HNm.o (zB _ _ hsm))))
     go_wp2_with fail
     have hbr2:Bw wr ((wr.alloc (.cells #[.s ss[m+1].kd,.l fa ss[m+1].fs.length fcap] 139)).drewN nq):=below_drewN (bAl _ _) _;refine(zf HK.o (zcR _ _ _ _ _ _ _ _ ((hbr2.block _ (by omega)).trans hra) (hall.mono hbr2) (hfl.mono hbr2))).mono ?_;rintro e w3⟨rfl,hb3⟩;have hB3:Bw w0 w3:=(hB.trans (hbr2.mono hsz)).trans (hb3.mono (by simp;omega));clear hb3 hbr2;go_wp2_with fail
     go_ret;exact⟨ze (HN.o (by rw[HA.o,HLS.o,HK.o];rfl)).symm,hB00.trans (hB3.mono (by omega))⟩
  ·have HF:Hid (yg ss=true):=by
    have e:k=ss.length:=by omega
    subst e;rw[HG.o];exact hup
   clear hup hw
   go_wp2
   go_ret;exact⟨ze HF.o.symm,hB00.trans (hB.mono (by omega))⟩
theorem zcm (a:OA)(cap:Nat)(ss:List Shp)(w:World)(hw:yR w a ss) :
 Calls Tryz.prog 133 #[.l a ss.length cap] w fun e w'=>e=.returned (.bool (yg ss))/\Bw w w':=by
 have hl:=hw.len;unfold maxLen at hl
 by_cases h6:ss.length<=6
 rotate_left
 ·have HF:Hid (yg ss=false):=by simp[Hid,yg,h6]
  clear hw;go_enter Tryz.func133,Tryz.ntmps133
  go_wp2
  go_ret;exact⟨ze HF.o.symm,bRf _ _⟩
 have HG:Hid (yg ss=up (qp ss) ss.length):=by simp[Hid,yg,h6]
 have h6I:(ss.length:Int)<=6:=by omega
 go_enter Tryz.func133,Tryz.ntmps133;go_wp2_with fail
 go_loopw [3] (fun i wr=>∃k:Nat,k<=ss.length/\i=.i k/\up (qp ss) k=true/\Bw w wr) (fun i _=>ss.length-(intOf i).toNat)
 case atStart=>exact⟨0,Nat.zero_le _,rfl,rfl,bRf _ _⟩
 case round=>
  obtain⟨k,hk,rfl,hup,hB⟩:=hrel;obtain⟨W0,rfl⟩:∃W0,W0=wr:=⟨wr,rfl⟩
  have hsz:=hB.size
  by_cases hlt:k<ss.length
  ·obtain⟨b,off,rfl,hb,hrw⟩:=hw.rows (by rintro rfl;simp at hlt)
   have hbr:b<W0.heap.size:=by omega
   have hall:=hw.mono hB;obtain⟨fa,fcap,hs⟩:=hrw k hlt;have hs':=hs.mono hb hB;have hck:=hs'.kind;have hcl:=hs'.list;have hfl:=hs'.flds;have hsm:=hs.small;have HS:Hid (qp ss k=true->up (qp ss) (k+1)=true):=fun h=>by rw[jA,hup,h];rfl
   have HN:Hid (qp ss k=false->yg ss=false):=fun h=>by rw[HG.o];exact za2 hlt h
   have hltI:(k:Int)<(ss.length:Int):=by omega
   by_cases hn:zm ss[k].kd=true
   rotate_left
   ·have HNm:Hid (zm ss[k].kd=false):=by simpa[Hid] using hn
    have HF:Hid (qp ss k=false):=by
     unfold Hid qp;rw[getD_at ss k _ hlt,HNm.o];rfl
    clear hn hup hw hrw hs hs';go_wp2_with fail
    go_quiet ((go_at_call 100;exact Calls.quiet_of_same (zf HNm.o (zi _ _ hsm))))
    go_wp2_with fail
    go_ret;exact⟨ze (HN.o HF.o).symm,below_drewN (hB.alloc hsz _) _⟩
   have HNm:Hid (zm ss[k].kd=true):=hn;clear hn;have hcl6:=hfl.len;unfold maxLen at hcl6
   by_cases hbad:0<k/\less (ss.getD (k-1) zcS).kd ss[k].kd=false
   ·obtain⟨hkpos,hls⟩:=hbad
    rw[getD_at ss (k-1) _ (by omega)]at hls;obtain⟨fam,fcapm,hsm0⟩:=hrw (k-1) (by omega);have hcm:=(hsm0.mono hb hB).kind;have hls':Op.bytesLess ss[k-1].kd.toList ss[k].kd.toList=false:=hls;have hg:decide (0<k)=true:=by simp;omega
    have hk1:(0:Int)<=(k:Int)-1:=by omega
    have hk2:(k:Int)-1<(ss.length:Int):=by omega
    have HF:Hid (qp ss k=false):=by
     unfold Hid qp;rw[getD_at ss k _ hlt,getD_at ss (k-1) _ (by omega),hls,decide_eq_false (show ¬k=0 by omega)];simp
    clear hup hw hrw hs hs' hls hsm0;go_wp2_with fail
    go_quiet ((go_at_call 100;exact Calls.quiet_of_same (zf HNm.o (zi _ _ hsm))))
    go_wp2_with fail
    go_ret;exact⟨ze (HN.o HF.o).symm,below_drewN (hB.alloc hsz _) _⟩
   have hgood:(decide (0<k)=false/\qp ss k=qz ss ss[k].fs) \/ (decide (0<k)=true/\qp ss k=qz ss ss[k].fs/\(0:Int)<=(k:Int)-1/\(k:Int)-1<(ss.length:Int)/\∃h:k-1<ss.length,Op.bytesLess ss[k-1].kd.toList ss[k].kd.toList=true/\W0.cell? (aD b (off+(k-1)*2))=some (.s ss[k-1].kd)):=by
    by_cases hk0:k=0
    ·refine Or.inl ⟨by simp;omega,?_⟩
     subst hk0;rw[zfY ss hlt,HNm.o];rfl
    ·obtain⟨fam,fcapm,hsm0⟩:=hrw (k-1) (by omega)
     have hls:less ss[k-1].kd ss[k].kd=true:=by
      rw[getD_at ss (k-1) _ (by omega)]at hbad
      cases h:less ss[k-1].kd ss[k].kd with
      | true=>rfl
      | false=>exact absurd ⟨by omega,h⟩ hbad
     refine Or.inr ⟨by simp;omega,?_,by omega,by omega,by omega,hls,(hsm0.mono hb hB).kind⟩;unfold qp;rw[getD_at ss k _ hlt,getD_at ss (k-1) _ (by omega),hls,HNm.o];simp
   clear hup hw hrw hs hs' hbad
   rcases hgood with⟨hg,hAA⟩|⟨hg,hAA,hk1,hk2,hkm,hls',hcm⟩
   all_goals
    have HA:=hid hAA;clear hAA
    by_cases h6f:ss[k].fs.length<=6
    rotate_left
    ·have HF:Hid (qp ss k=false):=by rw[HA.o];simp[Hid,qz,h6f]
     have h6fI:(6:Int)<(ss[k].fs.length:Int):=by omega
     go_wp2_with fail
     go_quiet ((go_at_call 100;exact Calls.quiet_of_same (zf HNm.o (zi _ _ hsm))))
     go_wp2_with fail
     go_ret;exact⟨ze (HN.o HF.o).symm,below_drewN (hB.alloc hsz _) _⟩
    have h6fI:(ss[k].fs.length:Int)<=6:=by omega
    have HFG:Hid (qz ss ss[k].fs=up (zfv ss ss[k].fs) ss[k].fs.length):=by simp[Hid,qz,h6f]
    go_wp2_with fail
    go_quiet ((go_at_call 100;exact Calls.quiet_of_same (zf HNm.o (zi _ _ hsm))))
    go_wp2_with fail
    go_loopw [5] (fun i wr2=>∃k2:Nat,k2<=ss[k].fs.length/\i=.i k2/\up (zfv ss ss[k].fs) k2=true/\Below (W0.heap.size+1) (W0.alloc (.cells #[.s ss[k].kd,.l fa ss[k].fs.length fcap] 139)) wr2) (fun i _=>ss[k].fs.length-(intOf i).toNat)
    case atStart=>exact⟨0,Nat.zero_le _,rfl,rfl,below_drewN (bRf _ _) _⟩
    case round=>
     obtain⟨k2,hk2',rfl,hup2,hBl⟩:=hrel;obtain⟨W2,rfl⟩:∃W2,W2=wr:=⟨wr,rfl⟩
     have hsz2:W0.heap.size<W2.heap.size:=by have:=hBl.size;simp at this;omega
     have hB02:Bw W0 W2:=(bAl _ _).trans (hBl.mono (by omega));have hB2:=hB.trans (hB02.mono hsz);have hY1:W2.cell? (aD W0.heap.size 1)=some (.l fa ss[k].fs.length fcap):=(hBl.cell (p:=(aD W0.heap.size 1)) (by simp)).trans (by rw[World.cell?_alloc_at _ _ _ _ rfl];rfl)
     by_cases hlt2:k2<ss[k].fs.length
     ·obtain⟨fb,foff,rfl,hfb,hfr⟩:=hfl.rows (by intro h;rw[h]at hlt2;simp at hlt2)
      obtain⟨wa,wcap,hf0⟩:=hfr k2 hlt2;have hf:=hf0.mono hfb hB02;obtain⟨c0,c1,c2,c3,c4,c5,c6,c7,c8,c9,c10⟩:=hf.load;have hsmf:=hf.small;have hstf:=hf.strs;have hall2:=hall.mono hB02;have HO:=hid (zjx ss ss[k].fs k2 hlt2);have HS2:Hid (zfv ss ss[k].fs k2=true->up (zfv ss ss[k].fs) (k2+1)=true):=fun h=>by rw[jA,hup2,h];rfl
      have HN2:Hid (zfv ss ss[k].fs k2=false->yg ss=false):=fun h=>HN.o (by rw[HA.o,HFG.o];exact za2 hlt2 h)
      have hltI2:(k2:Int)<(ss[k].fs.length:Int):=by omega
      by_cases hfo:(zm ss[k].fs[k2].nm&&yM ss ss[k].fs[k2])=true
      ·have HFO:=hid hfo
       clear hfo hup2;go_wp2_with fail
       refine(zf HFO.o (zfS _ _ _ _ _ _ _ _ _ _ _ _ _ _ _ _ _ hsmf.nm hsmf.df hsmf.wg hstf hall2)).mono ?_;rintro e W3⟨rfl,hb3⟩;go_wp2_with fail
       have hB23:Bw W0 W3:=hB02.trans (hb3.mono (by omega));have hB3:Bw w W3:=hB2.trans (hb3.mono (by omega));have hY3:=(hb3.cell (p:=(aD W0.heap.size 1)) hsz2).trans hY1;have hsz3:W0.heap.size<W3.heap.size:=by have:=hb3.size;omega
       have hnames:∀i (h:i<ss[k].fs.length),W3.cell? (aD fb (foff+i*11))=some (.s ss[k].fs[i].nm):=fun i h=>by
        obtain⟨wa',wcap',hfi⟩:=hfr i h;exact(hfi.mono hfb hB23).load.1
       have hBl3:Below (W0.heap.size+1) (W0.alloc (.cells #[.s ss[k].kd,.l (some (aD fb foff)) ss[k].fs.length fcap] 139)) W3:=hBl.trans (hb3.mono (by omega));clear hY1 c0 c1 c2 c3 c4 c5 c6 c7 c8 c9 c10 hb3 hf hf0 hfr hstf hall2
       go_loopw [6] (fun i wr3=>∃j:Nat,j<=k2/\i=.i j/\hasName (ss[k].fs.take j) ss[k].fs[k2].nm=false/\∃n,wr3=W3.drewN n) (fun i _=>k2-(intOf i).toNat)
       case atStart=>exact⟨0,Nat.zero_le _,rfl,rfl,0,rfl⟩
       case round=>
        obtain⟨jj,hjj,rfl,hno,hwr3⟩:=hrel;have HW:=hid hwr3;have hY4:wr.cell? (aD W0.heap.size 1)=some (.l (some (aD fb foff)) ss[k].fs.length fcap):=by obtain⟨n,rfl⟩:=hwr3;exact hY3
        have hck2:wr.cell? (aD fb (foff+k2*11))=some (.s ss[k].fs[k2].nm):=by obtain⟨n,rfl⟩:=hwr3;exact hnames k2 hlt2
        by_cases hltj:jj<k2
        ·have hjl:jj<ss[k].fs.length:=by omega
         have hcj:wr.cell? (aD fb (foff+jj*11))=some (.s ss[k].fs[jj].nm):=by obtain⟨n,rfl⟩:=hwr3;exact hnames jj hjl
         have hjI:(jj:Int)<(ss[k].fs.length:Int):=by omega
         have hjK:(jj:Int)<(k2:Int):=by omega
         clear hwr3
         by_cases he:ss[k].fs[jj].nm=ss[k].fs[k2].nm
         ·have hbe:(ss[k].fs[jj].nm.toList == ss[k].fs[k2].nm.toList)=true:=by rw[beq_toList];simpa using he
          have HF:Hid (zfv ss ss[k].fs k2=false):=by
           rw[HO.o];unfold Hid
           have hh:hasName (ss[k].fs.take k2) ss[k].fs[k2].nm=true:=by
            unfold hasName;rw[List.any_eq_true];exact⟨ss[k].fs[jj],List.mem_take_iff_getElem.2 ⟨jj,by omega,rfl⟩,by simpa using he⟩
           rw[hh];simp
          clear he hno;go_wp2_with fail
          go_quiet (fail)
          go_wp2_with fail
          go_ret;refine⟨ze (HN2.o HF.o).symm,?_⟩;obtain⟨n,rfl⟩:=HW.o;exact below_drewN (below_drewN hB3 _) _
         ·have hbe:(ss[k].fs[jj].nm.toList == ss[k].fs[k2].nm.toList)=false:=by rw[beq_toList];simpa using he
          have HSn:Hid (hasName (ss[k].fs.take (jj+1)) ss[k].fs[k2].nm=false):=by unfold Hid;rw[zeA _ _ jj hjl,hno,decide_eq_false he];rfl
          clear he hno;go_wp2_with fail
          go_quiet (fail)
          go_wp2_with fail
          obtain⟨n,rfl⟩:=HW.o;exact⟨⟨jj+1,by omega,by go_num,HSn.o,n+nq,by simp⟩,by simp[intOf];omega⟩
        ·have HF:Hid (zfv ss ss[k].fs k2=true):=by
          have e:jj=k2:=by omega
          subst e;rw[HO.o,hno];unfold Hid
          have:=HFO.o
          rw[Bool.and_eq_true]at this;rw[this.1,this.2];rfl
         have hBlw:Below (W0.heap.size+1) (W0.alloc (.cells #[.s ss[k].kd,.l (some (aD fb foff)) ss[k].fs.length fcap] 139)) wr:=by obtain⟨n,rfl⟩:=hwr3;exact below_drewN hBl3 _
         clear hno hwr3 hY4 hck2;go_wp2_with fail
         exact⟨⟨k2+1,by omega,by go_num,HS2.o HF.o,hBlw⟩,by simp[intOf];omega⟩
      ·have HFO:Hid ((zm ss[k].fs[k2].nm&&yM ss ss[k].fs[k2])=false):=by simpa[Hid] using hfo
       have HF:Hid (zfv ss ss[k].fs k2=false):=by
        rw[HO.o];unfold Hid
        have:=HFO.o
        cases h1:zm ss[k].fs[k2].nm <;> cases h2:yM ss ss[k].fs[k2] <;> simp_all
       clear hfo hup2;go_wp2_with fail
       refine(zf HFO.o (zfS _ _ _ _ _ _ _ _ _ _ _ _ _ _ _ _ _ hsmf.nm hsmf.df hsmf.wg hstf hall2)).mono ?_;rintro e W3⟨rfl,hb3⟩;have hB3:Bw w W3:=hB2.trans (hb3.mono (by omega));go_wp2_with fail
       go_ret;exact⟨ze (HN2.o HF.o).symm,hB3⟩
     ·have HF:Hid (qp ss k=true):=by
       have e:k2=ss[k].fs.length:=by omega
       subst e;rw[HA.o,HFG.o];exact hup2
      clear hup2;go_wp2_with fail
      exact⟨⟨k+1,by omega,by go_num,HS.o HF.o,hB2⟩,by simp[intOf];omega⟩
  ·have HF:Hid (yg ss=true):=by
    have e:k=ss.length:=by omega
    subst e;rw[HG.o];exact hup
   clear hup hw
   go_wp2
   go_ret;exact⟨ze HF.o.symm,hB⟩
theorem zlL (W:World)(k1 k2:Int):Calls Tryz.prog 216 #[.l (some (aD W.heap.size 0)) 2 2] (W.alloc (.cells #[.i k1,.i k2] 3)).drew fun e w'=>e=.returned (.i (zdE [k1,k2]))/\w'=(W.alloc (.cells #[.i k1,.i k2] 3)).drew:=
 zlI (some (aD W.heap.size 0)) 2 [k1,k2] _ ((zfD (alloc_at _ _) (by simp[maxLen])).mono (bRf _ _).drew) (by simp)
theorem znH (W:World)(k1 k2 k3:Int):Calls Tryz.prog 216 #[.l (some (aD W.heap.size 0)) 3 3] (W.alloc (.cells #[.i k1,.i k2,.i k3] 3)).drew fun e w'=>e=.returned (.i (zdE [k1,k2,k3]))/\w'=(W.alloc (.cells #[.i k1,.i k2,.i k3] 3)).drew:=
 zlI (some (aD W.heap.size 0)) 3 [k1,k2,k3] _ ((zfD (alloc_at _ _) (by simp[maxLen])).mono (bRf _ _).drew) (by simp)
theorem ziX (o p:Ob)(a0 a1 b0 b1:OA)(c0 c1 d0 d1:Nat)(w:World) :
 Calls Tryz.prog 160 #[.agg (o.row a0 a1 c0 c1),.agg (p.row b0 b1 d0 d1)] w fun e w'=>e=.returned (.i (zcB o p))/\Bw w w':=by
 have HR:Hid (zdE [key o.kd p.kd,key o.nm p.nm]=zcB o p):=by unfold Hid;rw[zlH];rfl
 unfold Ob.row;go_enter Tryz.func160,Tryz.ntmps160;go_wp2_with fail
 obtain⟨hX0,hY0⟩:=jC w (oC o a0 a1 c0 c1) (oC p b0 b1 d0 d1) 145 145;have HB0:Hid (Bw w ((w.alloc (.cells (oC o a0 a1 c0 c1) 145)).alloc (.cells (oC p b0 b1 d0 d1) 145))):=zx w _ _;obtain⟨W0,hW0⟩:=xN ((w.alloc (.cells (oC o a0 a1 c0 c1) 145)).alloc (.cells (oC p b0 b1 d0 d1) 145));have hz0:w.heap.size+1<W0.heap.size:=by rw[hW0];simp
 rw[<- hW0]at HB0 hX0 hY0 ⊢;clear hW0;have hS:(∀j,W0.drew.cell? (aD w.heap.size j)=((oC o a0 a1 c0 c1):AV)[j]?)/\(∀j,W0.drew.cell? (aD (w.heap.size+1) j)=((oC p b0 b1 d0 d1):AV)[j]?):=⟨hX0,hY0⟩
 have hSa:∀ob,(∀j,(W0.alloc ob).drew.cell? (aD w.heap.size j)=((oC o a0 a1 c0 c1):AV)[j]?)/\(∀j,(W0.alloc ob).drew.cell? (aD (w.heap.size+1) j)=((oC p b0 b1 d0 d1):AV)[j]?):=fun ob=>⟨za (b:=w.heap.size) (wk:=W0) hX0 (nSl hz0) ((bAl _ _).drew),za (b:=w.heap.size+1) (wk:=W0) hY0 hz0 ((bAl _ _).drew)⟩
 clear hX0 hY0
 go_region_held3 (fun w'=>(∀j,w'.cell? (aD w.heap.size j)=(#[.s o.kd,.s o.nm,.s o.tm,.l a0 o.vs.length c0,.bool o.en,.l a1 o.hs.length c1,.i o.vr]:AV)[j]?)/\(∀j,w'.cell? (aD (w.heap.size+1) j)=(#[.s p.kd,.s p.nm,.s p.tm,.l b0 p.vs.length d0,.bool p.en,.l b1 p.hs.length d1,.i p.vr]:AV)[j]?)) (first|exact hS|exact hSa _) (first
  | (go_at_call 176;refine(zdr _ _ _).mono ?_;rintro e w3⟨rfl,rfl⟩)
  | (go_at_call 216;refine(zlL _ _ _).mono ?_;rintro e w3⟨rfl,rfl⟩))
 go_wp2_with fail
 go_ret;exact⟨zk HR.o,(HB0.o.alloc HB0.o.size _).drew⟩
theorem zcH (o p:Lg)(w:World) :
 Calls Tryz.prog 168 #[.agg o.cells,.agg p.cells] w fun e w'=>e=.returned (.i (q9 o p))/\Bw w w':=by
 have HR:Hid (zdE [key o.tm p.tm,key o.rs p.rs]=q9 o p):=by unfold Hid;rw[zlH];rfl
 unfold Lg.cells;go_enter Tryz.func168,Tryz.ntmps168;go_wp2_with fail
 obtain⟨hX0,hY0⟩:=jC w #[.s o.tm,.s o.rs,.i o.mo,.i o.fr] #[.s p.tm,.s p.rs,.i p.mo,.i p.fr] 148 148;have HB0:Hid (Bw w ((w.alloc (.cells #[.s o.tm,.s o.rs,.i o.mo,.i o.fr] 148)).alloc (.cells #[.s p.tm,.s p.rs,.i p.mo,.i p.fr] 148))):=zx w _ _;obtain⟨W0,hW0⟩:=xN ((w.alloc (.cells #[.s o.tm,.s o.rs,.i o.mo,.i o.fr] 148)).alloc (.cells #[.s p.tm,.s p.rs,.i p.mo,.i p.fr] 148));have hz0:w.heap.size+1<W0.heap.size:=by rw[hW0];simp
 rw[<- hW0]at HB0 hX0 hY0 ⊢;clear hW0;have hS:(∀j,W0.drew.cell? (aD w.heap.size j)=(#[.s o.tm,.s o.rs,.i o.mo,.i o.fr]:AV)[j]?)/\(∀j,W0.drew.cell? (aD (w.heap.size+1) j)=(#[.s p.tm,.s p.rs,.i p.mo,.i p.fr]:AV)[j]?):=⟨hX0,hY0⟩
 have hSa:∀ob,(∀j,(W0.alloc ob).drew.cell? (aD w.heap.size j)=(#[.s o.tm,.s o.rs,.i o.mo,.i o.fr]:AV)[j]?)/\(∀j,(W0.alloc ob).drew.cell? (aD (w.heap.size+1) j)=(#[.s p.tm,.s p.rs,.i p.mo,.i p.fr]:AV)[j]?):=fun ob=>⟨za (b:=w.heap.size) (wk:=W0) hX0 (nSl hz0) ((bAl _ _).drew),za (b:=w.heap.size+1) (wk:=W0) hY0 hz0 ((bAl _ _).drew)⟩
 clear hX0 hY0
 go_region_held3 (fun w'=>(∀j,w'.cell? (aD w.heap.size j)=(#[.s o.tm,.s o.rs,.i o.mo,.i o.fr]:AV)[j]?)/\(∀j,w'.cell? (aD (w.heap.size+1) j)=(#[.s p.tm,.s p.rs,.i p.mo,.i p.fr]:AV)[j]?)) (first|exact hS|exact hSa _) (first
  | (go_at_call 176;refine(zdr _ _ _).mono ?_;rintro e w3⟨rfl,rfl⟩)
  | (go_at_call 216;refine(zlL _ _ _).mono ?_;rintro e w3⟨rfl,rfl⟩))
 go_wp2_with fail
 go_ret;exact⟨zk HR.o,(HB0.o.alloc HB0.o.size _).drew⟩
theorem zj1 (o p:Pu)(w:World) :
 Calls Tryz.prog 171 #[.agg o.cells,.agg p.cells] w fun e w'=>e=.returned (.i (zaF o p))/\Bw w w':=by
 have HR:Hid (zdE [key o.dr p.dr,key o.tm p.tm,key o.rs p.rs]=zaF o p):=by unfold Hid;rw[znj];rfl
 unfold Pu.cells;go_enter Tryz.func171,Tryz.ntmps171;go_wp2_with fail
 obtain⟨hX0,hY0⟩:=jC w #[.s o.dr,.s o.tm,.s o.rs,.i o.am,.i o.un] #[.s p.dr,.s p.tm,.s p.rs,.i p.am,.i p.un] 150 150;have HB0:Hid (Bw w ((w.alloc (.cells #[.s o.dr,.s o.tm,.s o.rs,.i o.am,.i o.un] 150)).alloc (.cells #[.s p.dr,.s p.tm,.s p.rs,.i p.am,.i p.un] 150))):=zx w _ _;obtain⟨W0,hW0⟩:=xN ((w.alloc (.cells #[.s o.dr,.s o.tm,.s o.rs,.i o.am,.i o.un] 150)).alloc (.cells #[.s p.dr,.s p.tm,.s p.rs,.i p.am,.i p.un] 150));have hz0:w.heap.size+1<W0.heap.size:=by rw[hW0];simp
 rw[<- hW0]at HB0 hX0 hY0 ⊢;clear hW0;have hS:(∀j,W0.drew.cell? (aD w.heap.size j)=(#[.s o.dr,.s o.tm,.s o.rs,.i o.am,.i o.un]:AV)[j]?)/\(∀j,W0.drew.cell? (aD (w.heap.size+1) j)=(#[.s p.dr,.s p.tm,.s p.rs,.i p.am,.i p.un]:AV)[j]?):=⟨hX0,hY0⟩
 have hSa:∀ob,(∀j,(W0.alloc ob).drew.cell? (aD w.heap.size j)=(#[.s o.dr,.s o.tm,.s o.rs,.i o.am,.i o.un]:AV)[j]?)/\(∀j,(W0.alloc ob).drew.cell? (aD (w.heap.size+1) j)=(#[.s p.dr,.s p.tm,.s p.rs,.i p.am,.i p.un]:AV)[j]?):=fun ob=>⟨za (b:=w.heap.size) (wk:=W0) hX0 (nSl hz0) ((bAl _ _).drew),za (b:=w.heap.size+1) (wk:=W0) hY0 hz0 ((bAl _ _).drew)⟩
 clear hX0 hY0
 go_region_held3 (fun w'=>(∀j,w'.cell? (aD w.heap.size j)=(#[.s o.dr,.s o.tm,.s o.rs,.i o.am,.i o.un]:AV)[j]?)/\(∀j,w'.cell? (aD (w.heap.size+1) j)=(#[.s p.dr,.s p.tm,.s p.rs,.i p.am,.i p.un]:AV)[j]?)) (first|exact hS|exact hSa _) (first
  | (go_at_call 176;refine(zdr _ _ _).mono ?_;rintro e w3⟨rfl,rfl⟩)
  | (go_at_call 216;refine(znH _ _ _ _).mono ?_;rintro e w3⟨rfl,rfl⟩))
 go_wp2_with fail
 go_ret;exact⟨zk HR.o,(HB0.o.alloc HB0.o.size _).drew⟩
end Go.Proofs.YthdfpinbnncghaaGreat
