import Derived.Test.YtnapmdofidgliaaGreatM24
set_option maxHeartbeats 4000000
namespace Go.Proofs.YtnapmdofidgliaaGreat
open Go.RowKit
def zn (s:Shp)(ms:List Mnd)(p:Nat):List Nat:=(yC s ms p).map Int.toNat
def zf6 (S:Far):Int->Option Int:=fun q=>if 0<=q then (S.far q.toNat).map fun b=>if b=true then 2 else 1 else none
theorem zoJ (S:Far)(i:Nat):(fun q:Int=>if q=(i:Int) then some 1 else zf6 S q)=zf6 (S.under i):=by
 funext q
 by_cases h:q=(i:Int)
 ·subst h;simp[zf6,Far.under]
 ·rw[if_neg h]
  unfold zf6 Far.under
  by_cases h0:0<=q
  ·have:q.toNat≠i:=by omega
   simp[h0,this]
  ·simp[h0]
theorem zmU (S:Far)(i:Nat):(fun q:Int=>if q=(i:Int) then some 2 else zf6 S q)=zf6 (S.behind i):=by
 funext q
 by_cases h:q=(i:Int)
 ·subst h;simp[zf6,Far.behind]
 ·rw[if_neg h]
  unfold zf6 Far.behind
  by_cases h0:0<=q
  ·have:q.toNat≠i:=by omega
   simp[h0,this]
  ·simp[h0]
theorem zqV (S:Far)(i:Nat):zf6 S (i:Int)=(S.far i).map fun b=>if b=true then 2 else 1:=by
 unfold zf6;simp
theorem zba (d:Nat->Far->Bool × Far):∀(l:List Nat) (q:Nat) (t:Far),zu d (l++[q]) t=if (zu d l t).1=true then d q (zu d l t).2 else zu d l t
 | [],q,t=>by
  show(if (d q t).1=true then zu d [] (d q t).2 else (false,(d q t).2))=d q t
  by_cases h:(d q t).1=true
  ·rw[if_pos h];show(true,(d q t).2)=d q t;rw[<- h]
  ·rw[if_neg h]
   have:(d q t).1=false:=by simpa using h
   rw[<- this]
 | a :: l,q,t=>by
  show(if (d a t).1=true then zu d (l++[q]) (d a t).2 else (false,(d a t).2))=_
  by_cases h:(d a t).1=true
  ·have e:zu d (a :: l) t=zu d l (d a t).2:=by show(if (d a t).1=true then _ else _)=_;rw[if_pos h]
   rw[if_pos h,e];exact zba d l q _
  ·have e:zu d (a :: l) t=(false,(d a t).2):=by show(if (d a t).1=true then _ else _)=_;rw[if_neg h]
   rw[if_neg h,e];rfl
theorem zc4 (d:Nat->Far->Bool × Far):∀(l r:List Nat) (t:Far),(zu d l t).1=false->(zu d (l++r) t).1=false
 | [],r,t,h=>by cases h
 | a :: l,r,t,h=>by
  show(if (d a t).1=true then zu d (l++r) (d a t).2 else (false,(d a t).2)).1=false
  by_cases hc:(d a t).1=true
  ·have e:zu d (a :: l) t=zu d l (d a t).2:=by show(if (d a t).1=true then _ else _)=_;rw[if_pos hc]
   rw[e]at h;rw[if_pos hc];exact zc4 d l r _ h
  ·rw[if_neg hc]
theorem zpo {rd:Nat->List Nat}{n:Nat}(hrd:∀p,p<n->∀q∈rd p,q<n):∀f p S,p<n->(down rd f p S).1=true->(down rd f p S).2.row.length+open' n (down rd f p S).2<=S.row.length+open' n S:=by
 intro f
 induction f with
 | zero=>intro p S _ h;cases h
 | succ f ih=>
  have hl:∀(l:List Nat) (t:Far),(∀a∈l,a<n)->(zu (down rd f) l t).1=true->(zu (down rd f) l t).2.row.length+open' n (zu (down rd f) l t).2<=t.row.length+open' n t:=by
   intro l
   induction l with
   | nil=>intro t _ _;exact Nat.le_refl _
   | cons a l il=>
    intro t ha h;unfold zu at h ⊢
    by_cases hc:(down rd f a t).1=true
    ·rw[if_pos hc]at h ⊢
     exact Nat.le_trans (il _ (fun b hb=>ha b (by simp[hb])) h) (ih a t (ha a (by simp)) hc)
    ·rw[if_neg hc]at h;cases h
  intro p S hp h;unfold down at h ⊢
  rcases hf:S.far p with _|b
  ·rw[hf]at h
   simp only at h ⊢
   by_cases hc:(zu (down rd f) (rd p) (S.under p)).1=true
   ·rw[if_pos hc]
    have h1:=hl _ _ (hrd p hp) hc;have h2:=zga hp hf
    have h3:open' n ((zu (down rd f) (rd p) (S.under p)).2.behind p)<=open' n (zu (down rd f) (rd p) (S.under p)).2:=by
     apply zk7
     intro q hq;simp only[Far.behind]
     split
     ·rfl
     ·exact hq
    have h4:((zu (down rd f) (rd p) (S.under p)).2.behind p).row.length=(zu (down rd f) (rd p) (S.under p)).2.row.length+1:=by simp[Far.behind]
    have h5:(S.under p).row=S.row:=rfl;rw[h5]at h1
    simp only
    omega
   ·rw[if_neg hc]at h;cases h
  ·exact Nat.le_refl _
theorem zfI {rd:Nat->List Nat}{n:Nat}(hrd:∀p,p<n->∀q∈rd p,q<n)(f:Nat):∀(l:List Nat) (t:Far),(∀a∈l,a<n)->(zu (down rd f) l t).1=true->(zu (down rd f) l t).2.row.length+open' n (zu (down rd f) l t).2<=t.row.length+open' n t:=by
 intro l
 induction l with
 | nil=>intro t _ _;exact Nat.le_refl _
 | cons a l il=>
  intro t ha h;unfold zu at h ⊢
  by_cases hc:(down rd f a t).1=true
  ·rw[if_pos hc]at h ⊢
   exact Nat.le_trans (il _ (fun b hb=>ha b (by simp[hb])) h) (zpo hrd f a t (ha a (by simp)) hc)
  ·rw[if_neg hc]at h;cases h
def zeJ (l:List Nat):List Value:=l.map fun q:Nat=>Value.int .i64 (q:Int)
theorem zbA {w:World}{b:Nat}{X:Array Value}{t:TypeId}(h:w.heap[b]?=some (.cells X t)):∀j,w.cell? ⟨b,j,none⟩=X[j]?:=fun _=>cell_of_block h
theorem zg9 {w:World}{b:Nat}{X:Array Value}{t:TypeId}(h:w.heap[b]?=some (.cells X t)):∀j,w.frozen? ⟨b,j,none⟩=false:=fun _=>zh h
structure WalkC where
 s:Shp
 ms:List Mnd
 w0:World
 ma:Option Addr
 fa:Option Addr
 mcap:Nat
 fcap:Nat
 bm:Nat
 bs:Nat
 p:Nat
 mr:Nat
 lo:Nat
structure WalkC.Ok (c:WalkC):Prop where
 mnds:qN c.w0 c.ma c.ms
 zdk:zY c.w0 c.fa c.s.fs
 few:c.ms.length<=1048576
 fewf:c.s.fs.length<=6
 reads:∀q,q<c.s.fs.length->∀x∈yC c.s c.ms q,0<=x/\x<c.s.fs.length
 bp:c.w0.heap.size<=c.p
 bmr:c.w0.heap.size<=c.mr
 plo:c.p<c.lo
 mlo:c.mr<c.lo
 bml:c.bm<c.lo
 bsl:c.bs<c.lo
 pm:c.p≠c.mr
 bmp:c.bm≠c.p
 bmm:c.bm≠c.mr
 bsp:c.bs≠c.p
 bsm:c.bs≠c.mr
def WalkC.fn (c:WalkC):Value:=.func (.func 188) #[] #[.pointer (some ⟨c.bm,0,none⟩),.pointer (some ⟨c.bs,0,none⟩)]
structure zau (c:WalkC)(w:World)(S:Far)(v:Value):Prop where
 base:Below c.w0.heap.size c.w0 w
 cm:w.cell? ⟨c.bm,0,none⟩=some (.slice c.ma c.ms.length c.mcap)
 cs:∀j,w.cell? ⟨c.bs,j,none⟩=(#[.string c.s.kd,.slice c.fa c.s.fs.length c.fcap]:Array Value)[j]?
 size:c.lo<=w.heap.size
 cells:w.heap[c.p]?=some (.cells #[c.fn,.map (some c.mr),v] 270)
 row:w.ownsRow c.lo 3 1 v S.row.length (zeJ S.row)
 map:zbq w c.mr (zf6 S)
structure Moves (c:WalkC)(v:Value)(w:World)(v':Value)(w':World):Prop where
 size:w.heap.size<=w'.heap.size
 out:∀k,k<w.heap.size->k≠c.p->k≠c.mr->v.ownBlock≠some k->w'.heap[k]?=w.heap[k]?
 own:v'.ownBlock=v.ownBlock \/ ∃g,v'.ownBlock=some g/\w.heap.size<=g
theorem Moves.refl (c:WalkC)(v:Value)(w:World):Moves c v w v w:=⟨Nat.le_refl _,fun _ _ _ _ _=>rfl,Or.inl rfl⟩
theorem Moves.trans {c:WalkC}{v v1 v2:Value}{w w1 w2:World}(h:Moves c v w v1 w1)(k:Moves c v1 w1 v2 w2):Moves c v w v2 w2:=by
 refine⟨Nat.le_trans h.size k.size,fun i hi hp hm hv=>?_,?_⟩
 ·rw[k.out i (nLt hi h.size) hp hm ?_,h.out i hi hp hm hv]
  rcases h.own with e|⟨g,e,hg⟩
  ·rw[e];exact hv
  ·rw[e];intro e';cases e';omega
 ·rcases k.own with e|⟨g,e,hg⟩
  ·rw[e];exact h.own
  ·exact Or.inr ⟨g,e,Nat.le_trans h.size hg⟩
theorem zhK {w w':World}{b j:Nat}(h:w'.heap[b]?=w.heap[b]?):w'.cell? ⟨b,j,none⟩=w.cell? ⟨b,j,none⟩:=by unfold World.cell?;rw[h]
theorem zau.next {c:WalkC}{w w':World}{S S':Far}{v v':Value}(hc:c.Ok)(h:zau c w S v)(os:w'.os=w.os)(tape:w'.tape=w.tape)(output:w'.output=w.output)(size:w.heap.size<=w'.heap.size)
 (out:∀k,k<c.lo->k≠c.p->k≠c.mr->w'.heap[k]?=w.heap[k]?)
 (cells:w'.heap[c.p]?=some (.cells #[c.fn,.map (some c.mr),v'] 270)) (row:w'.ownsRow c.lo 3 1 v' S'.row.length (zeJ S'.row)) (map:zbq w' c.mr (zf6 S')):zau c w' S' v':=by
 have hb:=h.base.size;have h1:=hc.bp;have h2:=hc.plo;have h3:=hc.bmr;refine⟨⟨os.trans h.base.os,tape.trans h.base.tape,output.trans h.base.output,Nat.le_trans hb size,fun k hk=>?_⟩,?_,fun j=>?_,Nat.le_trans h.size size,cells,row,map⟩
 ·rw[out k (by omega) (by omega) (by omega)];exact h.base.block k hk
 ·rw[zhK (out c.bm hc.bml hc.bmp hc.bmm)];exact h.cm
 ·rw[zhK (out c.bs hc.bsl hc.bsp hc.bsm)];exact h.cs j
theorem zau.mark {c:WalkC}{w:World}{S:Far}{v:Value}(hc:c.Ok)(h:zau c w S v)(i:Nat)(x:Int) :
 ∃w',(Instr.mapUpdate 268 (.map (some c.mr)) (.int .i64 i) (.int .i64 x)).run Tryz.prog w=.ok () w'/\(∀S':Far,S'.row=S.row->(fun q:Int=>if q=(i:Int) then some x else zf6 S q)=zf6 S'->zau c w' S' v)/\Moves c v w v w':=by
 obtain⟨w',hrun,hmap,hput⟩:=h.map.upd i x;have hlt:=h.map.lt;refine⟨w',hrun,fun S' hr hf=>?_,Nat.le_of_eq hput.size.symm,fun k _ _ hm _=>hput.out k hm,Or.inl rfl⟩
 have hrow:w'.ownsRow c.lo 3 1 v S'.row.length (zeJ S'.row):=by
  rw[hr];exact qW h.row fun g hg=>hput.out g (by have:=(h.row.lt g hg).1;have:=hc.mlo;omega)
 exact h.next hc hput.os hput.tape hput.output (Nat.le_of_eq hput.size.symm) (fun k _ _ hm=>hput.out k hm) ((hput.out c.p hc.pm).trans h.cells) hrow (by rw[<- hf];exact hmap)
theorem WalkC.Ok.rd {c:WalkC}(hc:c.Ok):∀p,p<c.s.fs.length->∀q∈zn c.s c.ms p,q<c.s.fs.length:=by
 intro p hp q hq;unfold zn at hq;obtain⟨x,hx,rfl⟩:=List.mem_map.1 hq
 have:=hc.reads p hp x hx
 omega
theorem zau.later {c:WalkC}{w w':World}{S:Far}{v:Value}(hc:c.Ok)(h:zau c w S v)(hb:Below w.heap.size w w'):zau c w' S v/\Moves c v w v w':=by
 have hs:=h.size;have hp:=hc.plo;have hm:=hc.mlo;exact⟨h.next hc hb.os hb.tape hb.output hb.size (fun k hk _ _=>hb.block k (by omega)) ((hb.block c.p (by omega)).trans h.cells) (yF h.row hb) (h.map.mono (hb.block c.mr (by omega))),hb.size,fun k hk _ _ _=>hb.block k hk,Or.inl rfl⟩
theorem zau.zl3 {c:WalkC}{w:World}{S:Far}{v:Value}(h:zau c w S v):∀j,w.cell? ⟨c.p,j,none⟩=(#[.func (.func 188) #[] #[.pointer (some ⟨c.bm,0,none⟩),.pointer (some ⟨c.bs,0,none⟩)],.map (some c.mr),v]:Array Value)[j]?:=fun _=>cell_of_block h.cells
theorem zhM {p:Prop}(h:Hid p):p:=h
set_option maxRecDepth 20000 in
theorem zqk (c:WalkC)(hc:c.Ok):∀(f i:Nat) (S:Far) (v:Value) (w:World),i<c.s.fs.length->open' c.s.fs.length S<f->S.row.length+open' c.s.fs.length S<=6->zau c w S v ->
 Calls Tryz.prog 207 #[.pointer (some ⟨c.p,0,none⟩),.int .i64 i] w fun e w'=>∃v',e=.returned (.bool (down (zn c.s c.ms) f i S).1)/\Below c.w0.heap.size c.w0 w'/\((down (zn c.s c.ms) f i S).1=true->zau c w' (down (zn c.s c.ms) f i S).2 v'/\Moves c v w v' w'):=by
 intro f
 induction f with
 | zero=>intro i S v w _ h _ _;omega
 | succ f ih=>
  intro i S v w hi hopen hsix hW;have HI:=hid ih;clear ih;obtain⟨i0,hi0,hz0,hz1',hz2⟩:=info_parts Tryz.zfu;have hpc:=hW.zl3;have hlook:=hW.map.look (i:Int);rw[zqV]at hlook;have HW:=hid hW;have HO:=hid hopen;clear hW hopen
  rcases hfar:S.far i with _|b
  ·rw[hfar]at hlook
   have hlook':=hlook;obtain⟨w1,hrun,hmk,hmv⟩:=HW.out.mark hc i 1;have hW1:=hmk (S.under i) rfl (zoJ S i);have hpc1:=hW1.zl3;have HW1:=jC hW1 hmv;clear hlook hmk hmv hW1;go_enter Tryz.func207,Tryz.ntmps207;go_wp2_with fail
   refine(zne c.s c.ms i c.bm c.bs c.ma c.fa c.mcap c.fcap w1 (hc.mnds.mono HW1.out.1.base) (hc.zdk.mono HW1.out.1.base) hi hc.few (nLt hc.bsl HW1.out.1.size) HW1.out.1.cm HW1.out.1.cs).mono ?_;rintro e w2⟨rv,rfl,hrow,hb2⟩;obtain⟨ra,rcap,rfl⟩:=yY hrow;have hW2:=HW1.out.1.later hc hb2;have HW2:=jC hW2.1 (HW1.out.2.trans hW2.2);have HR2:=hid hrow;have HRL:Hid ((yC c.s c.ms i).length<=2097152):=by have h1:=zhn c.s i c.ms;have:=hc.few;show _<=_;omega
   have HAP:Hid (∀g,v.ownBlock=some g->(Value.slice ra (yC c.s c.ms i).length rcap).ownBlock≠some g):=by
    intro g hg he;have h1:=(HW1.out.1.row.lt g hg).2;have h2:=(hrow.lt g he).1;omega
   have HLO:=hid HW1.out.1.size;have HOU:Hid (open' c.s.fs.length (S.under i)<f):=by have h1:=zga hi hfar;have h2:=HO.out;show _<_;omega
   have HDN:Hid ((down (zn c.s c.ms) (f+1) i S)=if (zu (down (zn c.s c.ms) f) ((zn c.s c.ms) i) (S.under i)).1=true then (true,(zu (down (zn c.s c.ms) f) ((zn c.s c.ms) i) (S.under i)).2.behind i) else (false,(zu (down (zn c.s c.ms) f) ((zn c.s c.ms) i) (S.under i)).2)):=by
    unfold Hid;rw[down,hfar]
   clear hW2 hrow hb2 hpc hpc1 hlook' hrun;go_wp2_with fail
   go_loopw [33] (fun iv wr=>∃(j:Nat) (v1:Value),j<=(yC c.s c.ms i).length/\iv=.int .i64 j/\(zu (down (zn c.s c.ms) f) (((zn c.s c.ms) i).take j) (S.under i)).1=true/\zau c wr (zu (down (zn c.s c.ms) f) (((zn c.s c.ms) i).take j) (S.under i)).2 v1/\Moves c v w v1 wr/\wr.ownsRow w1.heap.size 3 1 (.slice ra (yC c.s c.ms i).length rcap) (yC c.s c.ms i).length (ints (yC c.s c.ms i))/\(∀g,v1.ownBlock=some g->(Value.slice ra (yC c.s c.ms i).length rcap).ownBlock≠some g)) (fun iv _=>(yC c.s c.ms i).length-(intOf iv).toNat)
   case atStart=>exact⟨0,v,Nat.zero_le _,rfl,rfl,HW2.out.1,HW2.out.2,HR2.out,HAP.out⟩
   case round=>
    obtain⟨j,v1,hj,rfl,hD,hWr,hMr,hRr,hAp⟩:=hrel;have HWr:=zkC hWr hMr hRr hAp;have HD:=hid hD;clear hWr hMr hRr hAp hD
    have HSX:Hid ((zu (down (zn c.s c.ms) f) (((zn c.s c.ms) i).take j) (S.under i)).2.row.length+open' c.s.fs.length (zu (down (zn c.s c.ms) f) (((zn c.s c.ms) i).take j) (S.under i)).2<=6):=by
     have h1:=zfI hc.rd f _ (S.under i) (fun a ha=>hc.rd i hi a (List.mem_of_mem_take ha)) HD.out;have h2:=zga hi hfar;have h3:(S.under i).row=S.row:=rfl;rw[h3]at h1
     show _<=_
     omega
    by_cases hjl:j<(yC c.s c.ms i).length
    ·obtain⟨q,hq,hqn⟩:∃q:Nat,(yC c.s c.ms i)[j]=(q:Int)/\q<c.s.fs.length:=by
      have h1:=hc.reads i hi _ (List.getElem_mem hjl);exact⟨((yC c.s c.ms i)[j]).toNat,by omega,by omega⟩
     have HTK:Hid (((zn c.s c.ms) i).take (j+1)=((zn c.s c.ms) i).take j++[q]):=by
      have hjl':j<((zn c.s c.ms) i).length:=by unfold zn;rw[List.length_map];exact hjl
      unfold Hid;rw[tSe hjl']
      have:((zn c.s c.ms) i)[j]=q:=by simp[zn,hq]
      rw[this]
     obtain⟨g,rfl,hcell⟩:∃g,ra=some ⟨g,0,none⟩/\wr.cell? ⟨g,j,none⟩=some (.int .i64 (q:Int)):=by
      obtain⟨_,⟨h0,h1⟩|⟨g,cap,cur,h0,h1⟩⟩:=id HWr.out.2.2.1
      ·rw[h1]at hjl;exact absurd hjl (by omega)
      ·cases h0
       refine⟨g,rfl,?_⟩;rw[HWr.out.2.2.1.cellAt j (by omega)]
       simp[ints,hjl,hq]
     have hjI:(j:Int)<((yC c.s c.ms i).length:Int):=by omega
     have HOP:Hid (open' c.s.fs.length (zu (down (zn c.s c.ms) f) (((zn c.s c.ms) i).take j) (S.under i)).2<f):=by
      have h1:=zk7 (n:=c.s.fs.length) (s:=S.under i) (t:=(zu (down (zn c.s c.ms) f) (((zn c.s c.ms) i).take j) (S.under i)).2) (fun q' hq'=>zmv _ _ q' _ _ hq');have h2:=HOU.out
      show _<_
      omega
     go_wp2_with fail
     refine(HI.out q _ v1 wr hqn HOP.out HSX.out HWr.out.1).mono ?_;rintro e w3⟨v3,rfl,hb3,hyes⟩
     by_cases hd:(down (zn c.s c.ms) f q (zu (down (zn c.s c.ms) f) (((zn c.s c.ms) i).take j) (S.under i)).2).1=true
     ·have HS:Hid ((zu (down (zn c.s c.ms) f) (((zn c.s c.ms) i).take (j+1)) (S.under i))=down (zn c.s c.ms) f q (zu (down (zn c.s c.ms) f) (((zn c.s c.ms) i).take j) (S.under i)).2):=by unfold Hid;rw[HTK.out,zba,if_pos HD.out]
      have hy:=hyes hd;have HY:=hid hy;have HDD:=hid hd;rw[hd];clear hyes hy hb3 hd hcell;go_wp2_with fail
      have hg1:=HWr.out.2.2.1.lt g rfl;have hap:v1.ownBlock≠some g:=fun h=>HWr.out.2.2.2 g h rfl
      refine⟨⟨j+1,v3,by omega,by rw[wrap_one (by have:=HRL.out;omega)],by rw[HS.out];exact HDD.out,by rw[HS.out];exact HY.out.1,HWr.out.2.1.trans HY.out.2,?_,?_⟩,jq hjl (by have:=HRL.out;omega)⟩
      ·refine qW HWr.out.2.2.1 (fun g' hg'=>?_)
       cases hg'
       exact HY.out.2.out g hg1.2 (by have:=hc.plo;have:=HLO.out;omega) (by have:=hc.mlo;have:=HLO.out;omega) hap
      ·intro g' hg' he
       have e0:g=g':=Option.some.inj he;subst e0
       rcases HY.out.2.own with e|⟨g2,e,h2⟩
       ·rw[e]at hg';exact hap hg'
       ·have e2:g2=g:=Option.some.inj (e.symm.trans hg')
        have h3:=hg1.2;omega
     ·have hdf:(down (zn c.s c.ms) f q (zu (down (zn c.s c.ms) f) (((zn c.s c.ms) i).take j) (S.under i)).2).1=false:=by simpa using hd
      have HF:Hid ((down (zn c.s c.ms) (f+1) i S).1=false):=by
       have h1:(zu (down (zn c.s c.ms) f) (((zn c.s c.ms) i).take (j+1)) (S.under i)).1=false:=by rw[HTK.out,zba,if_pos HD.out];exact hdf
       have h2:=zc4 (down (zn c.s c.ms) f) (((zn c.s c.ms) i).take (j+1)) (((zn c.s c.ms) i).drop (j+1)) (S.under i) h1;rw[List.take_append_drop]at h2;unfold Hid;rw[HDN.out,if_neg (by rw[h2];simp)]
      rw[hdf];have HB3:Hid (Below c.w0.heap.size c.w0 w3):=hb3;clear hyes hb3 hcell hd hdf;go_wp2_with fail
      go_ret;exact⟨v3,by rw[HF.out];rfl,HB3.out,fun h=>by rw[HF.out]at h;cases h⟩
    ·have e:j=(yC c.s c.ms i).length:=by omega
     have hall:((zn c.s c.ms) i).take j=(zn c.s c.ms) i:=tOl (by unfold zn;rw[List.length_map];omega);rw[hall]at HWr HD HSX;have HRES:Hid ((down (zn c.s c.ms) (f+1) i S)=(true,(zu (down (zn c.s c.ms) f) ((zn c.s c.ms) i) (S.under i)).2.behind i)):=by unfold Hid;rw[HDN.out,if_pos HD.out]
     clear HDN HD hall
     revert HWr HRES HSX
     generalize (zu (down (zn c.s c.ms) f) ((zn c.s c.ms) i) (S.under i)).2=D
     intro HWr HSX HRES;obtain⟨w3,hrun3,hmk3,hmv3⟩:=HWr.out.1.mark hc i 2;have hW3:=hmk3 ⟨(D.behind i).far,D.row⟩ rfl (by rw[zmU];rfl);have HW3:=jC hW3 (HWr.out.2.1.trans hmv3);have hpcr:=HWr.out.1.zl3;have hpc3:=hW3.zl3;have hpf3:=zg9 hW3.cells;have HDL:Hid (D.row.length<=6):=by have:=HSX.out;show _<=_;omega
     have hp3:=nLt hc.plo hW3.size;clear hmk3 hmv3 hW3 HWr;subst e;have HGE:=hid HW3.out.1.row.lt
     go_wp2_with (at_builtin;refine zhM ?_)
     show wpList _ _ _ _ _ _
     refine wpList_append_own_at _ rfl (.tmp 51) (.tmp 53) 35 rfl c.lo 3 i0 (.int .i64 0) 1 8 Tryz.underlying35 hi0 hz0 hz1' hz2 rfl (by decide) v1 _ _ rfl (HW3.out.1.row.alloc _) ⟨w3.heap.size,0,none⟩ 1 1 [.int .i64 (i:Int)] rfl rfl (zci _ _ _) (by intro u hu;simp at hu;subst hu;rfl) (by have:=HDL.out;show D.row.length+1<=2 ^ 63-1;omega) (by have:=HDL.out;show(D.row.length+1)*8<=140737488355328;omega) (by have:=HW3.out.1.size;simp;omega) ?_;intro vN w4 hownN hgr _ hat;obtain⟨va,vcap,rfl⟩:=yY hownN;have hown':=hownN;clear hownN;have hp4:=(zaM hgr (by simp;omega) (fun g hg=>by have:=(HGE.out g hg).1;have:=hc.plo;omega)).trans ((Below.heap_alloc _ _ _ hp3).trans HW3.out.1.cells);have hpc4:=zbA hp4;have hpf4:=zg9 hp4;have HP4:Hid (w4.heap[c.p]?=some (.cells #[c.fn,.map (some c.mr),v1] 270)):=hp4;have HG4:Hid ((w3.alloc (.cells #[.int .i64 (i:Int)] 3)).grownBy w4 v1.ownBlock/\((Value.slice va (D.row.length+1) vcap).ownBlock=v1.ownBlock \/ (Value.slice va (D.row.length+1) vcap).ownBlock=some (w3.heap.size+1))):=(by refine⟨hgr,?_⟩;simpa using hat)
     have HO4:=hid hown';clear hp4 hgr hat hown';go_wp2_with fail
     have hgb:∀k,k<w3.heap.size->(∀g,v1.ownBlock=some g->k≠g)->w4.heap[k]?=w3.heap[k]?:=fun k hk hne=>(zaM HG4.out.1 (by simp;omega) hne).trans (Below.heap_alloc _ _ _ hk)
     have hsz4:w3.heap.size<w4.heap.size:=by have:=HG4.out.1.size;simp at this;omega
     have hv4:∀g,(Value.slice va (D.row.length+1) vcap).ownBlock=some g->c.lo<=g:=fun g hg=>(HO4.out.lt g hg).1
     have hW5:zau c (w4.setCell ⟨c.p,2,none⟩ (.slice va (D.row.length+1) vcap)) (D.behind i) (.slice va (D.row.length+1) vcap):=by
      refine HW3.out.1.next hc HG4.out.1.os HG4.out.1.tape HG4.out.1.output (by simp[World.setCell];omega) (fun k hk hp hm=>?_) ?_ ?_ ?_
      ·rw[Below.heap_setCell _ _ _ _ hp]
       exact hgb k (by have:=HW3.out.1.size;omega) (fun g hg=>by have:=(HGE.out g hg).1;omega)
      ·exact zk HP4.out _
      ·have e1:(D.behind i).row.length=D.row.length+1:=by simp[Far.behind]
       have e2:zeJ (D.behind i).row=zeJ D.row++[.int .i64 (i:Int)]:=by simp[Far.behind,zeJ]
       rw[e1,e2];exact qW HO4.out (fun g hg=>Below.heap_setCell _ _ _ _ (by show g≠c.p;have:=hv4 g hg;have:=hc.plo;omega))
      ·have hm3:=HW3.out.1.map.lt
       exact HW3.out.1.map.mono ((Below.heap_setCell _ _ _ _ (Ne.symm hc.pm)).trans (hgb c.mr hm3 (fun g hg=>by have:=(HGE.out g hg).1;have:=hc.mlo;omega)))
     have hM5:Moves c v1 w3 (.slice va (D.row.length+1) vcap) (w4.setCell ⟨c.p,2,none⟩ (.slice va (D.row.length+1) vcap)):=by
      refine⟨by simp[World.setCell];omega,fun k hk hp _ hv=>?_,?_⟩
      ·rw[Below.heap_setCell _ _ _ _ hp]
       exact hgb k hk (fun g hg e=>hv (by rw[e];exact hg))
      ·rcases HG4.out.2 with e|e
       ·exact Or.inl e
       ·exact Or.inr ⟨_,e,by omega⟩
     go_ret;exact⟨by rw[HRES.out];rfl,hW5.base,_,fun _=>by rw[HRES.out];exact⟨hW5,HW3.out.2.trans hM5⟩⟩
  ·have hr:down (zn c.s c.ms) (f+1) i S=(b,S):=by rw[down,hfar]
   have HR:=hid hr;rw[hfar]at hlook;clear hr
   cases b with
   | true=>
    have hlook':=hlook;clear hlook;go_enter Tryz.func207,Tryz.ntmps207;go_wp2_with fail
    go_ret;exact⟨v,by rw[HR.out];rfl,HW.out.base,fun _=>by rw[HR.out];exact⟨HW.out,Moves.refl _ _ _⟩⟩
   | false=>
    have hlook':=hlook;clear hlook;go_enter Tryz.func207,Tryz.ntmps207;go_wp2_with fail
    go_ret;exact⟨v,by rw[HR.out];rfl,HW.out.base,fun h=>by rw[HR.out]at h;cases h⟩
theorem zdT (a:Option Addr)(cap:Nat)(ss:List Shp)(w:World)(hw:yU w a ss) :
 Calls Tryz.prog 143 #[.slice a ss.length cap] w fun e w'=>e=.returned (.bool (zN ss))/\Below w.heap.size w w':=by
 have hl:=hw.len;unfold maxLen at hl
 by_cases h6:ss.length<=6
 rotate_left
 ·have HF:Hid (zN ss=false):=by simp[Hid,zN,h6]
  clear hw;go_enter Tryz.func143,Tryz.ntmps143
  go_wp2
  go_ret;exact⟨ze HF.out.symm,bRf _ _⟩
 have HG:Hid (zN ss=up (yX ss) ss.length):=by simp[Hid,zN,h6]
 have h6I:(ss.length:Int)<=6:=by omega
 go_enter Tryz.func143,Tryz.ntmps143;go_wp2_with fail
 refine(zcS _).mono ?_;rintro e w0⟨rfl,hw0⟩;have hB00:Below w.heap.size w w0:=by rw[hw0];exact bAl _ _
 have hr0:w0.heap[w.heap.size]?=some (.map yQ 4):=by rw[hw0];exact alloc_at _ _
 have hz0:w.heap.size<w0.heap.size:=by rw[hw0];simp
 clear hw0;go_wp2_with fail
 go_loopw [12] (fun i wr=>∃k:Nat,k<=ss.length/\i=.int .i64 k/\up (yX ss) k=true/\Below w0.heap.size w0 wr) (fun i _=>ss.length-(intOf i).toNat)
 case atStart=>exact⟨0,Nat.zero_le _,rfl,rfl,bRf _ _⟩
 case round=>
  obtain⟨k,hk,rfl,hup,hB⟩:=hrel;have hsz:=hB.size
  by_cases hlt:k<ss.length
  ·obtain⟨b,off,rfl,hb,hrw⟩:=hw.rows (by rintro rfl;simp at hlt)
   have hb0:b<w0.heap.size:=by omega
   have hall:yU wr (some ⟨b,off,none⟩) ss:=(hw.mono hB00).mono hB;obtain⟨fa,fcap,hs⟩:=hrw k hlt;have hs':=(hs.mono hb hB00).mono hb0 hB;have hck:=hs'.kind;have hcl:=hs'.list;have hfl:=hs'.zdk;have hsm:=hs.small;have hra:wr.heap[w.heap.size]?=some (.map yQ 4):=(hB.block _ hz0).trans hr0;have HS:Hid (yX ss k=true->up (yX ss) (k+1)=true):=fun h=>by rw[q9,hup,h];rfl
   have HN:Hid (yX ss k=false->zN ss=false):=fun h=>by rw[HG.out];exact zaP hlt h
   have hltI:(k:Int)<(ss.length:Int):=by omega
   by_cases hn:zB ss[k].kd=true
   rotate_left
   ·have HNm:Hid (zB ss[k].kd=false):=by simpa[Hid] using hn
    have HF:Hid (yX ss k=false):=by
     unfold Hid yX;rw[getD_at ss k _ hlt,HNm.out];rfl
    clear hn hup hw hrw hs hs' hr0 hra;go_wp2_with fail
    go_quiet ((go_at_call 147;exact Calls.quiet_of_same (zf HNm.out (zF _ _ hsm))))
    go_wp2_with fail
    go_ret;exact⟨ze (HN.out HF.out).symm,hB00.trans ((below_drewN (hB.alloc hsz _) _).mono (by omega))⟩
   have HNm:Hid (zB ss[k].kd=true):=hn;clear hn
   by_cases hk0:k=0
   ·have HA:Hid (yX ss k=yZ ss ss[k].fs):=by subst hk0;unfold Hid;rw[zfE ss hlt,HNm.out];rfl
    have hg:decide (0<k)=false:=by simp;omega
    clear hup hw hrw hs hs' hr0 hk0
    by_cases hok:yZ ss ss[k].fs=true
    ·have HK:Hid (yZ ss ss[k].fs=true):=hok
     clear hok;go_wp2_with fail
     go_quiet ((go_at_call 147;exact Calls.quiet_of_same (zf HNm.out (zF _ _ hsm))))
     go_wp2_with fail
     have hbr2:Below wr.heap.size wr ((wr.alloc (.cells #[.string ss[k].kd,.slice fa ss[k].fs.length fcap] 131)).drewN nq):=below_drewN (bAl _ _) _;refine(zf HK.out (zcG _ _ _ _ _ _ _ _ ((hbr2.block _ (by omega)).trans hra) (hall.mono hbr2) (hfl.mono hbr2))).mono ?_;rintro e w3⟨rfl,hb3⟩;have hB3:Below w0.heap.size w0 w3:=(hB.trans (hbr2.mono hsz)).trans (hb3.mono (by simp;omega));clear hb3 hbr2;go_wp2_with fail
     exact⟨⟨k+1,by omega,by go_num,HS.out (by rw[HA.out,HK.out]),hB3⟩,by simp[intOf];omega⟩
    ·have HK:Hid (yZ ss ss[k].fs=false):=by simpa[Hid] using hok
     clear hok;go_wp2_with fail
     go_quiet ((go_at_call 147;exact Calls.quiet_of_same (zf HNm.out (zF _ _ hsm))))
     go_wp2_with fail
     have hbr2:Below wr.heap.size wr ((wr.alloc (.cells #[.string ss[k].kd,.slice fa ss[k].fs.length fcap] 131)).drewN nq):=below_drewN (bAl _ _) _;refine(zf HK.out (zcG _ _ _ _ _ _ _ _ ((hbr2.block _ (by omega)).trans hra) (hall.mono hbr2) (hfl.mono hbr2))).mono ?_;rintro e w3⟨rfl,hb3⟩;have hB3:Below w0.heap.size w0 w3:=(hB.trans (hbr2.mono hsz)).trans (hb3.mono (by simp;omega));clear hb3 hbr2;go_wp2_with fail
     go_ret;exact⟨ze (HN.out (by rw[HA.out,HK.out])).symm,hB00.trans (hB3.mono (by omega))⟩
   ·obtain⟨m,rfl⟩:∃m,k=m+1:=⟨k-1,by omega⟩
    obtain⟨fam,fcapm,hsm0⟩:=hrw m (by omega);have hcm:=((hsm0.mono hb hB00).mono hb0 hB).kind;have HA:Hid (yX ss (m+1)=(less ss[m].kd ss[m+1].kd&&yZ ss ss[m+1].fs)):=by unfold Hid;rw[zgx ss m hlt,HNm.out];rfl
    have hmI:(m:Int)<6:=by omega
    have hm0:(0:Int)<=(m:Int):=by omega
    have hbr:b<wr.heap.size:=by omega
    have hml:(m:Int)<(ss.length:Int):=by omega
    have hmw:IntKind.i64.wrap (m:Int)=m:=by rw[IntKind.wrap_i64];omega
    clear hup hw hrw hs hs' hr0 hk0 hsm0
    by_cases hls:less ss[m].kd ss[m+1].kd=true
    rotate_left
    ·have hls':Op.bytesLess ss[m].kd.toList ss[m+1].kd.toList=false:=by simpa[less] using hls
     have HLS:Hid (less ss[m].kd ss[m+1].kd=false):=hls';clear hls;go_wp2_with fail
     go_quiet ((go_at_call 147;exact Calls.quiet_of_same (zf HNm.out (zF _ _ hsm))))
     go_wp2_with fail
     go_ret;exact⟨ze (HN.out (by rw[HA.out,HLS.out];rfl)).symm,hB00.trans ((below_drewN (hB.alloc hsz _) _).mono (by omega))⟩
    have hls':Op.bytesLess ss[m].kd.toList ss[m+1].kd.toList=true:=hls;have HLS:Hid (less ss[m].kd ss[m+1].kd=true):=hls;clear hls
    by_cases hok:yZ ss ss[m+1].fs=true
    ·have HK:Hid (yZ ss ss[m+1].fs=true):=hok
     clear hok;go_wp2_with fail
     go_quiet ((go_at_call 147;exact Calls.quiet_of_same (zf HNm.out (zF _ _ hsm))))
     go_wp2_with fail
     have hbr2:Below wr.heap.size wr ((wr.alloc (.cells #[.string ss[m+1].kd,.slice fa ss[m+1].fs.length fcap] 131)).drewN nq):=below_drewN (bAl _ _) _;refine(zf HK.out (zcG _ _ _ _ _ _ _ _ ((hbr2.block _ (by omega)).trans hra) (hall.mono hbr2) (hfl.mono hbr2))).mono ?_;rintro e w3⟨rfl,hb3⟩;have hB3:Below w0.heap.size w0 w3:=(hB.trans (hbr2.mono hsz)).trans (hb3.mono (by simp;omega));clear hb3 hbr2;go_wp2_with fail
     exact⟨⟨m+1+1,by omega,by go_num,HS.out (by rw[HA.out,HLS.out,HK.out];rfl),hB3⟩,by simp[intOf];omega⟩
    ·have HK:Hid (yZ ss ss[m+1].fs=false):=by simpa[Hid] using hok
     clear hok;go_wp2_with fail
     go_quiet ((go_at_call 147;exact Calls.quiet_of_same (zf HNm.out (zF _ _ hsm))))
     go_wp2_with fail
     have hbr2:Below wr.heap.size wr ((wr.alloc (.cells #[.string ss[m+1].kd,.slice fa ss[m+1].fs.length fcap] 131)).drewN nq):=below_drewN (bAl _ _) _;refine(zf HK.out (zcG _ _ _ _ _ _ _ _ ((hbr2.block _ (by omega)).trans hra) (hall.mono hbr2) (hfl.mono hbr2))).mono ?_;rintro e w3⟨rfl,hb3⟩;have hB3:Below w0.heap.size w0 w3:=(hB.trans (hbr2.mono hsz)).trans (hb3.mono (by simp;omega));clear hb3 hbr2;go_wp2_with fail
     go_ret;exact⟨ze (HN.out (by rw[HA.out,HLS.out,HK.out];rfl)).symm,hB00.trans (hB3.mono (by omega))⟩
  ·have HF:Hid (zN ss=true):=by
    have e:k=ss.length:=by omega
    subst e;rw[HG.out];exact hup
   clear hup hw
   go_wp2
   go_ret;exact⟨ze HF.out.symm,hB00.trans (hB.mono (by omega))⟩
theorem zb3 (a:Option Addr)(cap:Nat)(ss:List Shp)(w:World)(hw:yU w a ss) :
 Calls Tryz.prog 129 #[.slice a ss.length cap] w fun e w'=>e=.returned (.bool (zN ss))/\Below w.heap.size w w':=by
 have hl:=hw.len;unfold maxLen at hl
 by_cases h6:ss.length<=6
 rotate_left
 ·have HF:Hid (zN ss=false):=by simp[Hid,zN,h6]
  clear hw;go_enter Tryz.func129,Tryz.ntmps129
  go_wp2
  go_ret;exact⟨ze HF.out.symm,bRf _ _⟩
 have HG:Hid (zN ss=up (yX ss) ss.length):=by simp[Hid,zN,h6]
 have h6I:(ss.length:Int)<=6:=by omega
 go_enter Tryz.func129,Tryz.ntmps129;go_wp2_with fail
 go_loopw [3] (fun i wr=>∃k:Nat,k<=ss.length/\i=.int .i64 k/\up (yX ss) k=true/\Below w.heap.size w wr) (fun i _=>ss.length-(intOf i).toNat)
 case atStart=>exact⟨0,Nat.zero_le _,rfl,rfl,bRf _ _⟩
 case round=>
  obtain⟨k,hk,rfl,hup,hB⟩:=hrel;obtain⟨W0,rfl⟩:∃W0,W0=wr:=⟨wr,rfl⟩
  have hsz:=hB.size
  by_cases hlt:k<ss.length
  ·obtain⟨b,off,rfl,hb,hrw⟩:=hw.rows (by rintro rfl;simp at hlt)
   have hbr:b<W0.heap.size:=by omega
   have hall:=hw.mono hB;obtain⟨fa,fcap,hs⟩:=hrw k hlt;have hs':=hs.mono hb hB;have hck:=hs'.kind;have hcl:=hs'.list;have hfl:=hs'.zdk;have hsm:=hs.small;have HS:Hid (yX ss k=true->up (yX ss) (k+1)=true):=fun h=>by rw[q9,hup,h];rfl
   have HN:Hid (yX ss k=false->zN ss=false):=fun h=>by rw[HG.out];exact zaP hlt h
   have hltI:(k:Int)<(ss.length:Int):=by omega
   by_cases hn:zB ss[k].kd=true
   rotate_left
   ·have HNm:Hid (zB ss[k].kd=false):=by simpa[Hid] using hn
    have HF:Hid (yX ss k=false):=by
     unfold Hid yX;rw[getD_at ss k _ hlt,HNm.out];rfl
    clear hn hup hw hrw hs hs';go_wp2_with fail
    go_quiet ((go_at_call 104;exact Calls.quiet_of_same (zf HNm.out (zi _ _ hsm))))
    go_wp2_with fail
    go_ret;exact⟨ze (HN.out HF.out).symm,below_drewN (hB.alloc hsz _) _⟩
   have HNm:Hid (zB ss[k].kd=true):=hn;clear hn;have hcl6:=hfl.len;unfold maxLen at hcl6
   by_cases hbad:0<k/\less (ss.getD (k-1) zbk).kd ss[k].kd=false
   ·obtain⟨hkpos,hls⟩:=hbad
    rw[getD_at ss (k-1) _ (by omega)]at hls;obtain⟨fam,fcapm,hsm0⟩:=hrw (k-1) (by omega);have hcm:=(hsm0.mono hb hB).kind;have hls':Op.bytesLess ss[k-1].kd.toList ss[k].kd.toList=false:=hls;have hg:decide (0<k)=true:=by simp;omega
    have hk1:(0:Int)<=(k:Int)-1:=by omega
    have hk2:(k:Int)-1<(ss.length:Int):=by omega
    have HF:Hid (yX ss k=false):=by
     unfold Hid yX;rw[getD_at ss k _ hlt,getD_at ss (k-1) _ (by omega),hls,decide_eq_false (show ¬k=0 by omega)];simp
    clear hup hw hrw hs hs' hls hsm0;go_wp2_with fail
    go_quiet ((go_at_call 104;exact Calls.quiet_of_same (zf HNm.out (zi _ _ hsm))))
    go_wp2_with fail
    go_ret;exact⟨ze (HN.out HF.out).symm,below_drewN (hB.alloc hsz _) _⟩
   have hgood:(decide (0<k)=false/\yX ss k=yZ ss ss[k].fs) \/ (decide (0<k)=true/\yX ss k=yZ ss ss[k].fs/\(0:Int)<=(k:Int)-1/\(k:Int)-1<(ss.length:Int)/\∃h:k-1<ss.length,Op.bytesLess ss[k-1].kd.toList ss[k].kd.toList=true/\W0.cell? ⟨b,off+(k-1)*2,none⟩=some (.string ss[k-1].kd)):=by
    by_cases hk0:k=0
    ·refine Or.inl ⟨by simp;omega,?_⟩
     subst hk0;rw[zfE ss hlt,HNm.out];rfl
    ·obtain⟨fam,fcapm,hsm0⟩:=hrw (k-1) (by omega)
     have hls:less ss[k-1].kd ss[k].kd=true:=by
      rw[getD_at ss (k-1) _ (by omega)]at hbad
      cases h:less ss[k-1].kd ss[k].kd with
      | true=>rfl
      | false=>exact absurd ⟨by omega,h⟩ hbad
     refine Or.inr ⟨by simp;omega,?_,by omega,by omega,by omega,hls,(hsm0.mono hb hB).kind⟩;unfold yX;rw[getD_at ss k _ hlt,getD_at ss (k-1) _ (by omega),hls,HNm.out];simp
   clear hup hw hrw hs hs' hbad
   rcases hgood with⟨hg,hAA⟩|⟨hg,hAA,hk1,hk2,hkm,hls',hcm⟩
   all_goals
    have HA:=hid hAA;clear hAA
    by_cases h6f:ss[k].fs.length<=6
    rotate_left
    ·have HF:Hid (yX ss k=false):=by rw[HA.out];simp[Hid,yZ,h6f]
     have h6fI:(6:Int)<(ss[k].fs.length:Int):=by omega
     go_wp2_with fail
     go_quiet ((go_at_call 104;exact Calls.quiet_of_same (zf HNm.out (zi _ _ hsm))))
     go_wp2_with fail
     go_ret;exact⟨ze (HN.out HF.out).symm,below_drewN (hB.alloc hsz _) _⟩
    have h6fI:(ss[k].fs.length:Int)<=6:=by omega
    have HFG:Hid (yZ ss ss[k].fs=up (ze4 ss ss[k].fs) ss[k].fs.length):=by simp[Hid,yZ,h6f]
    go_wp2_with fail
    go_quiet ((go_at_call 104;exact Calls.quiet_of_same (zf HNm.out (zi _ _ hsm))))
    go_wp2_with fail
    go_loopw [5] (fun i wr2=>∃k2:Nat,k2<=ss[k].fs.length/\i=.int .i64 k2/\up (ze4 ss ss[k].fs) k2=true/\Below (W0.heap.size+1) (W0.alloc (.cells #[.string ss[k].kd,.slice fa ss[k].fs.length fcap] 131)) wr2) (fun i _=>ss[k].fs.length-(intOf i).toNat)
    case atStart=>exact⟨0,Nat.zero_le _,rfl,rfl,below_drewN (bRf _ _) _⟩
    case round=>
     obtain⟨k2,hk2',rfl,hup2,hBl⟩:=hrel;obtain⟨W2,rfl⟩:∃W2,W2=wr:=⟨wr,rfl⟩
     have hsz2:W0.heap.size<W2.heap.size:=by have:=hBl.size;simp at this;omega
     have hB02:Below W0.heap.size W0 W2:=(bAl _ _).trans (hBl.mono (by omega));have hB2:=hB.trans (hB02.mono hsz);have hY1:W2.cell? ⟨W0.heap.size,1,none⟩=some (.slice fa ss[k].fs.length fcap):=(hBl.cell (p:=⟨W0.heap.size,1,none⟩) (by simp)).trans (by rw[World.cell?_alloc_at _ _ _ _ rfl];rfl)
     by_cases hlt2:k2<ss[k].fs.length
     ·obtain⟨fb,foff,rfl,hfb,hfr⟩:=hfl.rows (by intro h;rw[h]at hlt2;simp at hlt2)
      obtain⟨wa,wcap,hf0⟩:=hfr k2 hlt2;have hf:=hf0.mono hfb hB02;obtain⟨c0,c1,c2,c3,c4,c5,c6,c7,c8,c9,c10⟩:=hf.load;have hsmf:=hf.small;have hstf:=hf.strs;have hall2:=hall.mono hB02;have HO:=hid (zgK ss ss[k].fs k2 hlt2);have HS2:Hid (ze4 ss ss[k].fs k2=true->up (ze4 ss ss[k].fs) (k2+1)=true):=fun h=>by rw[q9,hup2,h];rfl
      have HN2:Hid (ze4 ss ss[k].fs k2=false->zN ss=false):=fun h=>HN.out (by rw[HA.out,HFG.out];exact zaP hlt2 h)
      have hltI2:(k2:Int)<(ss[k].fs.length:Int):=by omega
      by_cases hfo:(zB ss[k].fs[k2].nm&&yI ss ss[k].fs[k2])=true
      ·have HFO:=hid hfo
       clear hfo hup2;go_wp2_with fail
       refine(zf HFO.out (zfH _ _ _ _ _ _ _ _ _ _ _ _ _ _ _ _ _ hsmf.nm hsmf.df hsmf.wg hstf hall2)).mono ?_;rintro e W3⟨rfl,hb3⟩;go_wp2_with fail
       have hB23:Below W0.heap.size W0 W3:=hB02.trans (hb3.mono (by omega));have hB3:Below w.heap.size w W3:=hB2.trans (hb3.mono (by omega));have hY3:=(hb3.cell (p:=⟨W0.heap.size,1,none⟩) hsz2).trans hY1;have hsz3:W0.heap.size<W3.heap.size:=by have:=hb3.size;omega
       have hnames:∀i (h:i<ss[k].fs.length),W3.cell? ⟨fb,foff+i*11,none⟩=some (.string ss[k].fs[i].nm):=fun i h=>by
        obtain⟨wa',wcap',hfi⟩:=hfr i h;exact(hfi.mono hfb hB23).load.1
       have hBl3:Below (W0.heap.size+1) (W0.alloc (.cells #[.string ss[k].kd,.slice (some ⟨fb,foff,none⟩) ss[k].fs.length fcap] 131)) W3:=hBl.trans (hb3.mono (by omega));clear hY1 c0 c1 c2 c3 c4 c5 c6 c7 c8 c9 c10 hb3 hf hf0 hfr hstf hall2
       go_loopw [6] (fun i wr3=>∃j:Nat,j<=k2/\i=.int .i64 j/\hasName (ss[k].fs.take j) ss[k].fs[k2].nm=false/\∃n,wr3=W3.drewN n) (fun i _=>k2-(intOf i).toNat)
       case atStart=>exact⟨0,Nat.zero_le _,rfl,rfl,0,rfl⟩
       case round=>
        obtain⟨jj,hjj,rfl,hno,hwr3⟩:=hrel;have HW:=hid hwr3;have hY4:wr.cell? ⟨W0.heap.size,1,none⟩=some (.slice (some ⟨fb,foff,none⟩) ss[k].fs.length fcap):=by obtain⟨n,rfl⟩:=hwr3;exact hY3
        have hck2:wr.cell? ⟨fb,foff+k2*11,none⟩=some (.string ss[k].fs[k2].nm):=by obtain⟨n,rfl⟩:=hwr3;exact hnames k2 hlt2
        by_cases hltj:jj<k2
        ·have hjl:jj<ss[k].fs.length:=by omega
         have hcj:wr.cell? ⟨fb,foff+jj*11,none⟩=some (.string ss[k].fs[jj].nm):=by obtain⟨n,rfl⟩:=hwr3;exact hnames jj hjl
         have hjI:(jj:Int)<(ss[k].fs.length:Int):=by omega
         have hjK:(jj:Int)<(k2:Int):=by omega
         clear hwr3
         by_cases he:ss[k].fs[jj].nm=ss[k].fs[k2].nm
         ·have hbe:(ss[k].fs[jj].nm.toList == ss[k].fs[k2].nm.toList)=true:=by rw[beq_toList];simpa using he
          have HF:Hid (ze4 ss ss[k].fs k2=false):=by
           rw[HO.out];unfold Hid
           have hh:hasName (ss[k].fs.take k2) ss[k].fs[k2].nm=true:=by
            unfold hasName;rw[List.any_eq_true];exact⟨ss[k].fs[jj],List.mem_take_iff_getElem.2 ⟨jj,by omega,rfl⟩,by simpa using he⟩
           rw[hh];simp
          clear he hno;go_wp2_with fail
          go_quiet (fail)
          go_wp2_with fail
          go_ret;refine⟨ze (HN2.out HF.out).symm,?_⟩;obtain⟨n,rfl⟩:=HW.out;exact below_drewN (below_drewN hB3 _) _
         ·have hbe:(ss[k].fs[jj].nm.toList == ss[k].fs[k2].nm.toList)=false:=by rw[beq_toList];simpa using he
          have HSn:Hid (hasName (ss[k].fs.take (jj+1)) ss[k].fs[k2].nm=false):=by unfold Hid;rw[zd8 _ _ jj hjl,hno,decide_eq_false he];rfl
          clear he hno;go_wp2_with fail
          go_quiet (fail)
          go_wp2_with fail
          obtain⟨n,rfl⟩:=HW.out;exact⟨⟨jj+1,by omega,by go_num,HSn.out,n+nq,by simp⟩,by simp[intOf];omega⟩
        ·have HF:Hid (ze4 ss ss[k].fs k2=true):=by
          have e:jj=k2:=by omega
          subst e;rw[HO.out,hno];unfold Hid
          have:=HFO.out
          rw[Bool.and_eq_true]at this;rw[this.1,this.2];rfl
         have hBlw:Below (W0.heap.size+1) (W0.alloc (.cells #[.string ss[k].kd,.slice (some ⟨fb,foff,none⟩) ss[k].fs.length fcap] 131)) wr:=by obtain⟨n,rfl⟩:=hwr3;exact below_drewN hBl3 _
         clear hno hwr3 hY4 hck2;go_wp2_with fail
         exact⟨⟨k2+1,by omega,by go_num,HS2.out HF.out,hBlw⟩,by simp[intOf];omega⟩
      ·have HFO:Hid ((zB ss[k].fs[k2].nm&&yI ss ss[k].fs[k2])=false):=by simpa[Hid] using hfo
       have HF:Hid (ze4 ss ss[k].fs k2=false):=by
        rw[HO.out];unfold Hid
        have:=HFO.out
        cases h1:zB ss[k].fs[k2].nm <;> cases h2:yI ss ss[k].fs[k2] <;> simp_all
       clear hfo hup2;go_wp2_with fail
       refine(zf HFO.out (zfH _ _ _ _ _ _ _ _ _ _ _ _ _ _ _ _ _ hsmf.nm hsmf.df hsmf.wg hstf hall2)).mono ?_;rintro e W3⟨rfl,hb3⟩;have hB3:Below w.heap.size w W3:=hB2.trans (hb3.mono (by omega));go_wp2_with fail
       go_ret;exact⟨ze (HN2.out HF.out).symm,hB3⟩
     ·have HF:Hid (yX ss k=true):=by
       have e:k2=ss[k].fs.length:=by omega
       subst e;rw[HA.out,HFG.out];exact hup2
      clear hup2;go_wp2_with fail
      exact⟨⟨k+1,by omega,by go_num,HS.out HF.out,hB2⟩,by simp[intOf];omega⟩
  ·have HF:Hid (zN ss=true):=by
    have e:k=ss.length:=by omega
    subst e;rw[HG.out];exact hup
   clear hup hw
   go_wp2
   go_ret;exact⟨ze HF.out.symm,hB⟩
def za2 {α:Type}(key:α->α->Int)(ms:List α)(k:Nat):Prop:=∀i (h:i+1<ms.length),i+1<k->key ms[i] ms[i+1]<0
def rising {α:Type}(key:α->α->Int)(ms:List α):Prop:=∀i (h:i+1<ms.length),key ms[i] ms[i+1]<0
noncomputable def zbZ {α:Type}(key:α->α->Int)(ms:List α):Bool:=@decide (rising key ms) (Classical.propDecidable _)
theorem zea {α:Type}{key:α->α->Int}{ms:List α}{m:Nat}(h:za2 key ms (m+1))(hl:m+1<ms.length)(hk:key ms[m] ms[m+1]<0):za2 key ms (m+1+1):=by
 intro i hi hik
 rcases Nat.lt_or_ge i m with hlt|hge
 ·exact h i hi (by omega)
 ·have e:i=m:=by omega
  subst e;exact hk
theorem zgj {α:Type}{key:α->α->Int}{ms:List α}{m:Nat}(hl:m+1<ms.length)(hk:¬key ms[m] ms[m+1]<0):zbZ key ms=false:=by
 unfold zbZ;simp only[decide_eq_false_iff_not];exact fun h=>hk (h m hl)
theorem zgZ {α:Type}{key:α->α->Int}{ms:List α}{m:Nat}(h:za2 key ms (m+1))(hl:ms.length<=m+1):zbZ key ms=true:=by
 unfold zbZ;simp only[decide_eq_true_eq];exact fun i hi=>h i hi (by omega)
theorem zkq {α:Type}(key:α->α->Int)(ms:List α):zbZ key ms=true↔rising key ms:=by
 unfold zbZ;simp only[decide_eq_true_eq]
def zel (a b:Int):Int:=if a<b then -1 else if b<a then 1 else 0
def zcw (a b:Gr):Int:=zel a.no b.no
theorem zgd {n m:Nat}(h:m+1<n):n+1-(intOf (Value.int IntKind.i64 ((m:Int)+1+1))).toNat<n+1-(intOf (Value.int IntKind.i64 ((m:Int)+1))).toNat:=by
 show n+1-((m:Int)+1+1).toNat<n+1-((m:Int)+1).toNat
 omega
theorem zpF (x:Int)(w:World):Calls Tryz.prog 217 #[.int .i64 x] w fun e w'=>e=.returned (.bool false)/\w'=w:=by
 have h:(x != x)=false:=by simp
 go_enter Tryz.func217,Tryz.ntmps217;go_wp2_with fail
 go_ret;exact⟨rfl,rfl⟩
theorem zjh (x y:Int)(w:World):Calls Tryz.prog 199 #[.int .i64 x,.int .i64 y] w fun e w'=>e=.returned (.int .i64 (zel x y))/\w'=w:=by
 have HN:=hid zpF
 by_cases h1:x<y
 ·have HF:Hid (zel x y=-1):=by unfold Hid zel;rw[if_pos h1]
  go_enter Tryz.func199,Tryz.ntmps199
  go_wp2_with (go_at_call 217;refine(HN.out _ _).mono ?_;rintro e w2⟨rfl,rfl⟩)
  go_ret;exact⟨zo HF.out.symm,rfl⟩
 ·by_cases h2:y<x
  ·have HF:Hid (zel x y=1):=by unfold Hid zel;rw[if_neg h1,if_pos h2]
   go_enter Tryz.func199,Tryz.ntmps199
   go_wp2_with (go_at_call 217;refine(HN.out _ _).mono ?_;rintro e w2⟨rfl,rfl⟩)
   go_ret;exact⟨zo HF.out.symm,rfl⟩
  ·have HF:Hid (zel x y=0):=by unfold Hid zel;rw[if_neg h1,if_neg h2]
   go_enter Tryz.func199,Tryz.ntmps199
   go_wp2_with (go_at_call 217;refine(HN.out _ _).mono ?_;rintro e w2⟨rfl,rfl⟩)
   go_ret;exact⟨zo HF.out.symm,rfl⟩
theorem zjU (g h:Gr)(a b:Option Addr)(c d:Nat)(w:World) :
 Calls Tryz.prog 158 #[.agg (g.cells a c),.agg (h.cells b d)] w fun e w'=>e=.returned (.int .i64 (zcw g h))/\Below w.heap.size w w':=by
 unfold Gr.cells;go_enter Tryz.func158,Tryz.ntmps158
 go_wp2_with (go_at_call 199;refine(zjh _ _ _).mono ?_;rintro e w2⟨rfl,rfl⟩)
 go_ret;exact⟨rfl,zw _ _ _⟩
theorem ziX (a:Option Addr)(cap:Nat)(ms:List Ob)(w:World)(hw:zbV w a ms) :
 Calls Tryz.prog 153 #[.slice a ms.length cap,.func (.func 154) #[] #[]] w fun e w'=>e=.returned (.bool (zbZ zbD ms))/\Below w.heap.size w w':=by
 have hl:=hw.len;unfold maxLen at hl;have HW:=hid hw;clear hw;go_enter Tryz.func153,Tryz.ntmps153;go_wp2_with fail
 go_loopw [5] (fun iv wr=>∃m:Nat,iv=.int .i64 ((m:Int)+1)/\m<=ms.length/\Hid (za2 zbD ms (m+1)/\Below w.heap.size w wr)) (fun iv _=>ms.length+1-(intOf iv).toNat)
 case atStart=>exact⟨0,rfl,Nat.zero_le _,fun i h h'=>by omega,bRf _ _⟩
 case round=>
  obtain⟨m,rfl,hml,HQ⟩:=hrel
  by_cases hlt:m+1<ms.length
  ·have hm:m<ms.length:=by omega
   obtain⟨b,off,p0,p1,p2,p3,rfl,hb,_,_,_,d0,d1,d2,d3,d4,d5,d6⟩:=HW.out.load HQ.out.2 m hm;obtain⟨b2,off2,q0,q1,q2,q3,ha2,hbq,_,_,_,e0,e1,e2,e3,e4,e5,e6⟩:=HW.out.load HQ.out.2 (m+1) hlt
   obtain⟨rfl,rfl⟩:b=b2/\off=off2:=by
    have h:=ha2
    simpa using h
   have hb':=nLt hb HQ.out.2.size;have hltI:(m:Int)+1<(ms.length:Int):=by omega
   have h0m:(0:Int)<=(m:Int):=by omega
   have h01:(0:Int)<=(m:Int)+1:=by omega
   have hsub:IntKind.i64.wrap ((m:Int)+1-1)=(m:Int):=by rw[IntKind.wrap_i64];omega
   have hsub2:IntKind.i64.wrap (m:Int)=(m:Int):=by rw[IntKind.wrap_i64];omega
   have hsub3:wrap64 (m:Int)=(m:Int):=by unfold wrap64;omega
   have htn:((m:Int)+1).toNat=m+1:=by omega
   have hlmI:(m:Int)<(ms.length:Int):=by omega
   have HBr:=hid HQ.out.2;have hS:wr.drew.cell? ⟨b,off+m*7,none⟩=some (.string ms[m].kd)/\wr.drew.cell? ⟨b,off+m*7+1,none⟩=some (.string ms[m].nm)/\wr.drew.cell? ⟨b,off+m*7+2,none⟩=some (.string ms[m].tm)/\wr.drew.cell? ⟨b,off+m*7+3,none⟩=some (.slice p0 ms[m].vs.length p2)/\wr.drew.cell? ⟨b,off+m*7+4,none⟩=some (.bool ms[m].en)/\wr.drew.cell? ⟨b,off+m*7+5,none⟩=some (.slice p1 ms[m].hs.length p3)/\wr.drew.cell? ⟨b,off+m*7+6,none⟩=some (.int .i64 ms[m].vr)/\wr.drew.cell? ⟨b,off+(m+1)*7,none⟩=some (.string ms[m+1].kd)/\wr.drew.cell? ⟨b,off+(m+1)*7+1,none⟩=some (.string ms[m+1].nm)/\wr.drew.cell? ⟨b,off+(m+1)*7+2,none⟩=some (.string ms[m+1].tm)/\wr.drew.cell? ⟨b,off+(m+1)*7+3,none⟩=some (.slice q0 ms[m+1].vs.length q2)/\wr.drew.cell? ⟨b,off+(m+1)*7+4,none⟩=some (.bool ms[m+1].en)/\wr.drew.cell? ⟨b,off+(m+1)*7+5,none⟩=some (.slice q1 ms[m+1].hs.length q3)/\wr.drew.cell? ⟨b,off+(m+1)*7+6,none⟩=some (.int .i64 ms[m+1].vr):=⟨d0,d1,d2,d3,d4,d5,d6,e0,e1,e2,e3,e4,e5,e6⟩
   clear d0 d1 d2 d3 d4 d5 d6 e0 e1 e2 e3 e4 e5 e6;have HM:=hid HQ.out.1;clear HQ;go_wp2_with fail
   go_region_held3 (fun w'=>w'.cell? ⟨b,off+m*7,none⟩=some (.string ms[m].kd)/\w'.cell? ⟨b,off+m*7+1,none⟩=some (.string ms[m].nm)/\w'.cell? ⟨b,off+m*7+2,none⟩=some (.string ms[m].tm)/\w'.cell? ⟨b,off+m*7+3,none⟩=some (.slice p0 ms[m].vs.length p2)/\w'.cell? ⟨b,off+m*7+4,none⟩=some (.bool ms[m].en)/\w'.cell? ⟨b,off+m*7+5,none⟩=some (.slice p1 ms[m].hs.length p3)/\w'.cell? ⟨b,off+m*7+6,none⟩=some (.int .i64 ms[m].vr)/\w'.cell? ⟨b,off+(m+1)*7,none⟩=some (.string ms[m+1].kd)/\w'.cell? ⟨b,off+(m+1)*7+1,none⟩=some (.string ms[m+1].nm)/\w'.cell? ⟨b,off+(m+1)*7+2,none⟩=some (.string ms[m+1].tm)/\w'.cell? ⟨b,off+(m+1)*7+3,none⟩=some (.slice q0 ms[m+1].vs.length q2)/\w'.cell? ⟨b,off+(m+1)*7+4,none⟩=some (.bool ms[m+1].en)/\w'.cell? ⟨b,off+(m+1)*7+5,none⟩=some (.slice q1 ms[m+1].hs.length q3)/\w'.cell? ⟨b,off+(m+1)*7+6,none⟩=some (.int .i64 ms[m+1].vr)) (exact hS) (first|(go_at_call 154;refine(ziL ms[m] ms[m+1] p0 p1 q0 q1 p2 p3 q2 q3 _).mono ?_;rintro e w2⟨rfl,hb2⟩;have hS:=(⟨(hb2.cell (p:=⟨b,_,none⟩) hb').trans hS.1,(hb2.cell (p:=⟨b,_,none⟩) hb').trans hS.2.1,(hb2.cell (p:=⟨b,_,none⟩) hb').trans hS.2.2.1,(hb2.cell (p:=⟨b,_,none⟩) hb').trans hS.2.2.2.1,(hb2.cell (p:=⟨b,_,none⟩) hb').trans hS.2.2.2.2.1,(hb2.cell (p:=⟨b,_,none⟩) hb').trans hS.2.2.2.2.2.1,(hb2.cell (p:=⟨b,_,none⟩) hb').trans hS.2.2.2.2.2.2.1,(hb2.cell (p:=⟨b,_,none⟩) hb').trans hS.2.2.2.2.2.2.2.1,(hb2.cell (p:=⟨b,_,none⟩) hb').trans hS.2.2.2.2.2.2.2.2.1,(hb2.cell (p:=⟨b,_,none⟩) hb').trans hS.2.2.2.2.2.2.2.2.2.1,(hb2.cell (p:=⟨b,_,none⟩) hb').trans hS.2.2.2.2.2.2.2.2.2.2.1,(hb2.cell (p:=⟨b,_,none⟩) hb').trans hS.2.2.2.2.2.2.2.2.2.2.2.1,(hb2.cell (p:=⟨b,_,none⟩) hb').trans hS.2.2.2.2.2.2.2.2.2.2.2.2.1,(hb2.cell (p:=⟨b,_,none⟩) hb').trans hS.2.2.2.2.2.2.2.2.2.2.2.2.2⟩:_/\_/\_/\_/\_/\_/\_/\_/\_/\_/\_/\_/\_/\_);have hB2:=HBr.out.drew.trans (hb2.mono HBr.out.drew.size);clear hb2))
   by_cases hk:zbD ms[m] ms[m+1]<0
   ·have HA:=hid (zea HM.out hlt hk)
    have hd:decide (0<=zbD ms[m] ms[m+1])=false:=by simp;omega
    rw[hd];clear hk hd;go_wp2_with fail
    exact⟨⟨m+1,by go_num,by omega,HA.out,hB2⟩,zgd (by omega)⟩
   ·have HA:=hid (zgj hlt hk)
    have hd:decide (0<=zbD ms[m] ms[m+1])=true:=by simp;omega
    rw[hd];clear hk hd;go_wp2_with fail
    go_ret;exact⟨ze HA.out.symm,hB2⟩
  ·have HA:Hid (zbZ zbD ms=true):=zgZ HQ.out.1 (by omega)
   have HB:=hid HQ.out.2;clear HQ;go_wp2_with fail
   go_ret;exact⟨ze HA.out.symm,HB.out⟩
theorem ziG (a:Option Addr)(cap:Nat)(ms:List Gr)(w:World)(hw:zc2 w a ms) :
 Calls Tryz.prog 157 #[.slice a ms.length cap,.func (.func 158) #[] #[]] w fun e w'=>e=.returned (.bool (zbZ zcw ms))/\Below w.heap.size w w':=by
 have hl:=hw.len;unfold maxLen at hl;have HW:=hid hw;clear hw;go_enter Tryz.func157,Tryz.ntmps157;go_wp2_with fail
 go_loopw [5] (fun iv wr=>∃m:Nat,iv=.int .i64 ((m:Int)+1)/\m<=ms.length/\Hid (za2 zcw ms (m+1)/\Below w.heap.size w wr)) (fun iv _=>ms.length+1-(intOf iv).toNat)
 case atStart=>exact⟨0,rfl,Nat.zero_le _,fun i h h'=>by omega,bRf _ _⟩
 case round=>
  obtain⟨m,rfl,hml,HQ⟩:=hrel
  by_cases hlt:m+1<ms.length
  ·have hm:m<ms.length:=by omega
   obtain⟨b,off,p0,p1,rfl,hb,_,_,d0,d1,d2,d3,d4,d5,d6⟩:=HW.out.load HQ.out.2 m hm;obtain⟨b2,off2,q0,q1,ha2,hbq,_,_,e0,e1,e2,e3,e4,e5,e6⟩:=HW.out.load HQ.out.2 (m+1) hlt
   obtain⟨rfl,rfl⟩:b=b2/\off=off2:=by
    have h:=ha2
    simpa using h
   have hb':=nLt hb HQ.out.2.size;have hltI:(m:Int)+1<(ms.length:Int):=by omega
   have h0m:(0:Int)<=(m:Int):=by omega
   have h01:(0:Int)<=(m:Int)+1:=by omega
   have hsub:IntKind.i64.wrap ((m:Int)+1-1)=(m:Int):=by rw[IntKind.wrap_i64];omega
   have hsub2:IntKind.i64.wrap (m:Int)=(m:Int):=by rw[IntKind.wrap_i64];omega
   have hsub3:wrap64 (m:Int)=(m:Int):=by unfold wrap64;omega
   have htn:((m:Int)+1).toNat=m+1:=by omega
   have hlmI:(m:Int)<(ms.length:Int):=by omega
   have HBr:=hid HQ.out.2;have hS:wr.drew.cell? ⟨b,off+m*7,none⟩=some (.int .i64 ms[m].no)/\wr.drew.cell? ⟨b,off+m*7+1,none⟩=some (.string ms[m].to)/\wr.drew.cell? ⟨b,off+m*7+2,none⟩=some (.string ms[m].gb)/\wr.drew.cell? ⟨b,off+m*7+3,none⟩=some (.slice p0 ms[m].r.vs.length p1)/\wr.drew.cell? ⟨b,off+m*7+4,none⟩=some (.string ms[m].r.kd)/\wr.drew.cell? ⟨b,off+m*7+5,none⟩=some (.string ms[m].r.tm)/\wr.drew.cell? ⟨b,off+m*7+6,none⟩=some (.string ms[m].r.px)/\wr.drew.cell? ⟨b,off+(m+1)*7,none⟩=some (.int .i64 ms[m+1].no)/\wr.drew.cell? ⟨b,off+(m+1)*7+1,none⟩=some (.string ms[m+1].to)/\wr.drew.cell? ⟨b,off+(m+1)*7+2,none⟩=some (.string ms[m+1].gb)/\wr.drew.cell? ⟨b,off+(m+1)*7+3,none⟩=some (.slice q0 ms[m+1].r.vs.length q1)/\wr.drew.cell? ⟨b,off+(m+1)*7+4,none⟩=some (.string ms[m+1].r.kd)/\wr.drew.cell? ⟨b,off+(m+1)*7+5,none⟩=some (.string ms[m+1].r.tm)/\wr.drew.cell? ⟨b,off+(m+1)*7+6,none⟩=some (.string ms[m+1].r.px):=⟨d0,d1,d2,d3,d4,d5,d6,e0,e1,e2,e3,e4,e5,e6⟩
   clear d0 d1 d2 d3 d4 d5 d6 e0 e1 e2 e3 e4 e5 e6;have HM:=hid HQ.out.1;clear HQ;go_wp2_with fail
   go_region_held3 (fun w'=>w'.cell? ⟨b,off+m*7,none⟩=some (.int .i64 ms[m].no)/\w'.cell? ⟨b,off+m*7+1,none⟩=some (.string ms[m].to)/\w'.cell? ⟨b,off+m*7+2,none⟩=some (.string ms[m].gb)/\w'.cell? ⟨b,off+m*7+3,none⟩=some (.slice p0 ms[m].r.vs.length p1)/\w'.cell? ⟨b,off+m*7+4,none⟩=some (.string ms[m].r.kd)/\w'.cell? ⟨b,off+m*7+5,none⟩=some (.string ms[m].r.tm)/\w'.cell? ⟨b,off+m*7+6,none⟩=some (.string ms[m].r.px)/\w'.cell? ⟨b,off+(m+1)*7,none⟩=some (.int .i64 ms[m+1].no)/\w'.cell? ⟨b,off+(m+1)*7+1,none⟩=some (.string ms[m+1].to)/\w'.cell? ⟨b,off+(m+1)*7+2,none⟩=some (.string ms[m+1].gb)/\w'.cell? ⟨b,off+(m+1)*7+3,none⟩=some (.slice q0 ms[m+1].r.vs.length q1)/\w'.cell? ⟨b,off+(m+1)*7+4,none⟩=some (.string ms[m+1].r.kd)/\w'.cell? ⟨b,off+(m+1)*7+5,none⟩=some (.string ms[m+1].r.tm)/\w'.cell? ⟨b,off+(m+1)*7+6,none⟩=some (.string ms[m+1].r.px)) (exact hS) (first|(go_at_call 158;refine(zjU ms[m] ms[m+1] p0 q0 p1 q1 _).mono ?_;rintro e w2⟨rfl,hb2⟩;have hS:=(⟨(hb2.cell (p:=⟨b,_,none⟩) hb').trans hS.1,(hb2.cell (p:=⟨b,_,none⟩) hb').trans hS.2.1,(hb2.cell (p:=⟨b,_,none⟩) hb').trans hS.2.2.1,(hb2.cell (p:=⟨b,_,none⟩) hb').trans hS.2.2.2.1,(hb2.cell (p:=⟨b,_,none⟩) hb').trans hS.2.2.2.2.1,(hb2.cell (p:=⟨b,_,none⟩) hb').trans hS.2.2.2.2.2.1,(hb2.cell (p:=⟨b,_,none⟩) hb').trans hS.2.2.2.2.2.2.1,(hb2.cell (p:=⟨b,_,none⟩) hb').trans hS.2.2.2.2.2.2.2.1,(hb2.cell (p:=⟨b,_,none⟩) hb').trans hS.2.2.2.2.2.2.2.2.1,(hb2.cell (p:=⟨b,_,none⟩) hb').trans hS.2.2.2.2.2.2.2.2.2.1,(hb2.cell (p:=⟨b,_,none⟩) hb').trans hS.2.2.2.2.2.2.2.2.2.2.1,(hb2.cell (p:=⟨b,_,none⟩) hb').trans hS.2.2.2.2.2.2.2.2.2.2.2.1,(hb2.cell (p:=⟨b,_,none⟩) hb').trans hS.2.2.2.2.2.2.2.2.2.2.2.2.1,(hb2.cell (p:=⟨b,_,none⟩) hb').trans hS.2.2.2.2.2.2.2.2.2.2.2.2.2⟩:_/\_/\_/\_/\_/\_/\_/\_/\_/\_/\_/\_/\_/\_);have hB2:=HBr.out.drew.trans (hb2.mono HBr.out.drew.size);clear hb2))
   by_cases hk:zcw ms[m] ms[m+1]<0
   ·have HA:=hid (zea HM.out hlt hk)
    have hd:decide (0<=zcw ms[m] ms[m+1])=false:=by simp;omega
    rw[hd];clear hk hd;go_wp2_with fail
    exact⟨⟨m+1,by go_num,by omega,HA.out,hB2⟩,zgd (by omega)⟩
   ·have HA:=hid (zgj hlt hk)
    have hd:decide (0<=zcw ms[m] ms[m+1])=true:=by simp;omega
    rw[hd];clear hk hd;go_wp2_with fail
    go_ret;exact⟨ze HA.out.symm,hB2⟩
  ·have HA:Hid (zbZ zcw ms=true):=zgZ HQ.out.1 (by omega)
   have HB:=hid HQ.out.2;clear HQ;go_wp2_with fail
   go_ret;exact⟨ze HA.out.symm,HB.out⟩
theorem zis (a:Option Addr)(cap:Nat)(ms:List Lg)(w:World)(hw:zcX w a ms) :
 Calls Tryz.prog 160 #[.slice a ms.length cap,.func (.func 161) #[] #[]] w fun e w'=>e=.returned (.bool (zbZ qP ms))/\Below w.heap.size w w':=by
 have hl:=hw.len;unfold maxLen at hl;have HW:=hid hw;clear hw;go_enter Tryz.func160,Tryz.ntmps160;go_wp2_with fail
 go_loopw [5] (fun iv wr=>∃m:Nat,iv=.int .i64 ((m:Int)+1)/\m<=ms.length/\Hid (za2 qP ms (m+1)/\Below w.heap.size w wr)) (fun iv _=>ms.length+1-(intOf iv).toNat)
 case atStart=>exact⟨0,rfl,Nat.zero_le _,fun i h h'=>by omega,bRf _ _⟩
 case round=>
  obtain⟨m,rfl,hml,HQ⟩:=hrel
  by_cases hlt:m+1<ms.length
  ·have hm:m<ms.length:=by omega
   obtain⟨b,off,rfl,hb,d0,d1,d2,d3⟩:=HW.out.load HQ.out.2 m hm;obtain⟨b2,off2,ha2,hbq,e0,e1,e2,e3⟩:=HW.out.load HQ.out.2 (m+1) hlt
   obtain⟨rfl,rfl⟩:b=b2/\off=off2:=by
    have h:=ha2
    simpa using h
   have hb':=nLt hb HQ.out.2.size;have hltI:(m:Int)+1<(ms.length:Int):=by omega
   have h0m:(0:Int)<=(m:Int):=by omega
   have h01:(0:Int)<=(m:Int)+1:=by omega
   have hsub:IntKind.i64.wrap ((m:Int)+1-1)=(m:Int):=by rw[IntKind.wrap_i64];omega
   have hsub2:IntKind.i64.wrap (m:Int)=(m:Int):=by rw[IntKind.wrap_i64];omega
   have hsub3:wrap64 (m:Int)=(m:Int):=by unfold wrap64;omega
   have htn:((m:Int)+1).toNat=m+1:=by omega
   have hlmI:(m:Int)<(ms.length:Int):=by omega
   have HBr:=hid HQ.out.2;have hS:wr.drew.cell? ⟨b,off+m*4,none⟩=some (.string ms[m].tm)/\wr.drew.cell? ⟨b,off+m*4+1,none⟩=some (.string ms[m].rs)/\wr.drew.cell? ⟨b,off+m*4+2,none⟩=some (.int .i64 ms[m].mo)/\wr.drew.cell? ⟨b,off+m*4+3,none⟩=some (.int .i64 ms[m].fr)/\wr.drew.cell? ⟨b,off+(m+1)*4,none⟩=some (.string ms[m+1].tm)/\wr.drew.cell? ⟨b,off+(m+1)*4+1,none⟩=some (.string ms[m+1].rs)/\wr.drew.cell? ⟨b,off+(m+1)*4+2,none⟩=some (.int .i64 ms[m+1].mo)/\wr.drew.cell? ⟨b,off+(m+1)*4+3,none⟩=some (.int .i64 ms[m+1].fr):=⟨d0,d1,d2,d3,e0,e1,e2,e3⟩
   clear d0 d1 d2 d3 e0 e1 e2 e3;have HM:=hid HQ.out.1;clear HQ;go_wp2_with fail
   go_region_held3 (fun w'=>w'.cell? ⟨b,off+m*4,none⟩=some (.string ms[m].tm)/\w'.cell? ⟨b,off+m*4+1,none⟩=some (.string ms[m].rs)/\w'.cell? ⟨b,off+m*4+2,none⟩=some (.int .i64 ms[m].mo)/\w'.cell? ⟨b,off+m*4+3,none⟩=some (.int .i64 ms[m].fr)/\w'.cell? ⟨b,off+(m+1)*4,none⟩=some (.string ms[m+1].tm)/\w'.cell? ⟨b,off+(m+1)*4+1,none⟩=some (.string ms[m+1].rs)/\w'.cell? ⟨b,off+(m+1)*4+2,none⟩=some (.int .i64 ms[m+1].mo)/\w'.cell? ⟨b,off+(m+1)*4+3,none⟩=some (.int .i64 ms[m+1].fr)) (exact hS) (first|(go_at_call 161;refine(zcr ms[m] ms[m+1] _).mono ?_;rintro e w2⟨rfl,hb2⟩;have hS:=(⟨(hb2.cell (p:=⟨b,_,none⟩) hb').trans hS.1,(hb2.cell (p:=⟨b,_,none⟩) hb').trans hS.2.1,(hb2.cell (p:=⟨b,_,none⟩) hb').trans hS.2.2.1,(hb2.cell (p:=⟨b,_,none⟩) hb').trans hS.2.2.2.1,(hb2.cell (p:=⟨b,_,none⟩) hb').trans hS.2.2.2.2.1,(hb2.cell (p:=⟨b,_,none⟩) hb').trans hS.2.2.2.2.2.1,(hb2.cell (p:=⟨b,_,none⟩) hb').trans hS.2.2.2.2.2.2.1,(hb2.cell (p:=⟨b,_,none⟩) hb').trans hS.2.2.2.2.2.2.2⟩:_/\_/\_/\_/\_/\_/\_/\_);have hB2:=HBr.out.drew.trans (hb2.mono HBr.out.drew.size);clear hb2))
   by_cases hk:qP ms[m] ms[m+1]<0
   ·have HA:=hid (zea HM.out hlt hk)
    have hd:decide (0<=qP ms[m] ms[m+1])=false:=by simp;omega
    rw[hd];clear hk hd;go_wp2_with fail
    exact⟨⟨m+1,by go_num,by omega,HA.out,hB2⟩,zgd (by omega)⟩
   ·have HA:=hid (zgj hlt hk)
    have hd:decide (0<=qP ms[m] ms[m+1])=true:=by simp;omega
    rw[hd];clear hk hd;go_wp2_with fail
    go_ret;exact⟨ze HA.out.symm,hB2⟩
  ·have HA:Hid (zbZ qP ms=true):=zgZ HQ.out.1 (by omega)
   have HB:=hid HQ.out.2;clear HQ;go_wp2_with fail
   go_ret;exact⟨ze HA.out.symm,HB.out⟩
theorem ziK (a:Option Addr)(cap:Nat)(ms:List Pu)(w:World)(hw:zdF w a ms) :
 Calls Tryz.prog 163 #[.slice a ms.length cap,.func (.func 164) #[] #[]] w fun e w'=>e=.returned (.bool (zbZ zaB ms))/\Below w.heap.size w w':=by
 have hl:=hw.len;unfold maxLen at hl;have HW:=hid hw;clear hw;go_enter Tryz.func163,Tryz.ntmps163;go_wp2_with fail
 go_loopw [5] (fun iv wr=>∃m:Nat,iv=.int .i64 ((m:Int)+1)/\m<=ms.length/\Hid (za2 zaB ms (m+1)/\Below w.heap.size w wr)) (fun iv _=>ms.length+1-(intOf iv).toNat)
 case atStart=>exact⟨0,rfl,Nat.zero_le _,fun i h h'=>by omega,bRf _ _⟩
 case round=>
  obtain⟨m,rfl,hml,HQ⟩:=hrel
  by_cases hlt:m+1<ms.length
  ·have hm:m<ms.length:=by omega
   obtain⟨b,off,rfl,hb,d0,d1,d2,d3,d4⟩:=HW.out.load HQ.out.2 m hm;obtain⟨b2,off2,ha2,hbq,e0,e1,e2,e3,e4⟩:=HW.out.load HQ.out.2 (m+1) hlt
   obtain⟨rfl,rfl⟩:b=b2/\off=off2:=by
    have h:=ha2
    simpa using h
   have hb':=nLt hb HQ.out.2.size;have hltI:(m:Int)+1<(ms.length:Int):=by omega
   have h0m:(0:Int)<=(m:Int):=by omega
   have h01:(0:Int)<=(m:Int)+1:=by omega
   have hsub:IntKind.i64.wrap ((m:Int)+1-1)=(m:Int):=by rw[IntKind.wrap_i64];omega
   have hsub2:IntKind.i64.wrap (m:Int)=(m:Int):=by rw[IntKind.wrap_i64];omega
   have hsub3:wrap64 (m:Int)=(m:Int):=by unfold wrap64;omega
   have htn:((m:Int)+1).toNat=m+1:=by omega
   have hlmI:(m:Int)<(ms.length:Int):=by omega
   have HBr:=hid HQ.out.2;have hS:wr.drew.cell? ⟨b,off+m*5,none⟩=some (.string ms[m].dr)/\wr.drew.cell? ⟨b,off+m*5+1,none⟩=some (.string ms[m].tm)/\wr.drew.cell? ⟨b,off+m*5+2,none⟩=some (.string ms[m].rs)/\wr.drew.cell? ⟨b,off+m*5+3,none⟩=some (.int .i64 ms[m].am)/\wr.drew.cell? ⟨b,off+m*5+4,none⟩=some (.int .i64 ms[m].un)/\wr.drew.cell? ⟨b,off+(m+1)*5,none⟩=some (.string ms[m+1].dr)/\wr.drew.cell? ⟨b,off+(m+1)*5+1,none⟩=some (.string ms[m+1].tm)/\wr.drew.cell? ⟨b,off+(m+1)*5+2,none⟩=some (.string ms[m+1].rs)/\wr.drew.cell? ⟨b,off+(m+1)*5+3,none⟩=some (.int .i64 ms[m+1].am)/\wr.drew.cell? ⟨b,off+(m+1)*5+4,none⟩=some (.int .i64 ms[m+1].un):=⟨d0,d1,d2,d3,d4,e0,e1,e2,e3,e4⟩
   clear d0 d1 d2 d3 d4 e0 e1 e2 e3 e4;have HM:=hid HQ.out.1;clear HQ;go_wp2_with fail
   go_region_held3 (fun w'=>w'.cell? ⟨b,off+m*5,none⟩=some (.string ms[m].dr)/\w'.cell? ⟨b,off+m*5+1,none⟩=some (.string ms[m].tm)/\w'.cell? ⟨b,off+m*5+2,none⟩=some (.string ms[m].rs)/\w'.cell? ⟨b,off+m*5+3,none⟩=some (.int .i64 ms[m].am)/\w'.cell? ⟨b,off+m*5+4,none⟩=some (.int .i64 ms[m].un)/\w'.cell? ⟨b,off+(m+1)*5,none⟩=some (.string ms[m+1].dr)/\w'.cell? ⟨b,off+(m+1)*5+1,none⟩=some (.string ms[m+1].tm)/\w'.cell? ⟨b,off+(m+1)*5+2,none⟩=some (.string ms[m+1].rs)/\w'.cell? ⟨b,off+(m+1)*5+3,none⟩=some (.int .i64 ms[m+1].am)/\w'.cell? ⟨b,off+(m+1)*5+4,none⟩=some (.int .i64 ms[m+1].un)) (exact hS) (first|(go_at_call 164;refine(zjj ms[m] ms[m+1] _).mono ?_;rintro e w2⟨rfl,hb2⟩;have hS:=(⟨(hb2.cell (p:=⟨b,_,none⟩) hb').trans hS.1,(hb2.cell (p:=⟨b,_,none⟩) hb').trans hS.2.1,(hb2.cell (p:=⟨b,_,none⟩) hb').trans hS.2.2.1,(hb2.cell (p:=⟨b,_,none⟩) hb').trans hS.2.2.2.1,(hb2.cell (p:=⟨b,_,none⟩) hb').trans hS.2.2.2.2.1,(hb2.cell (p:=⟨b,_,none⟩) hb').trans hS.2.2.2.2.2.1,(hb2.cell (p:=⟨b,_,none⟩) hb').trans hS.2.2.2.2.2.2.1,(hb2.cell (p:=⟨b,_,none⟩) hb').trans hS.2.2.2.2.2.2.2.1,(hb2.cell (p:=⟨b,_,none⟩) hb').trans hS.2.2.2.2.2.2.2.2.1,(hb2.cell (p:=⟨b,_,none⟩) hb').trans hS.2.2.2.2.2.2.2.2.2⟩:_/\_/\_/\_/\_/\_/\_/\_/\_/\_);have hB2:=HBr.out.drew.trans (hb2.mono HBr.out.drew.size);clear hb2))
   by_cases hk:zaB ms[m] ms[m+1]<0
   ·have HA:=hid (zea HM.out hlt hk)
    have hd:decide (0<=zaB ms[m] ms[m+1])=false:=by simp;omega
    rw[hd];clear hk hd;go_wp2_with fail
    exact⟨⟨m+1,by go_num,by omega,HA.out,hB2⟩,zgd (by omega)⟩
   ·have HA:=hid (zgj hlt hk)
    have hd:decide (0<=zaB ms[m] ms[m+1])=true:=by simp;omega
    rw[hd];clear hk hd;go_wp2_with fail
    go_ret;exact⟨ze HA.out.symm,hB2⟩
  ·have HA:Hid (zbZ zaB ms=true):=zgZ HQ.out.1 (by omega)
   have HB:=hid HQ.out.2;clear HQ;go_wp2_with fail
   go_ret;exact⟨ze HA.out.symm,HB.out⟩
theorem zha (l:Lw)(la lb lc:Option Addr)(lca lcb lcc:Nat)(b:Bk)(a0 a1 a2 a3:Option Addr)(c0 c1 c2 c3:Nat)(team res:ByteArray)(w:World)(hl:jh w l la lb lc)(hb:jk w b a0 a1 a2 a3)(hz:qG b.os<=1048576) :
 Calls Tryz.prog 108 #[.agg (l.cells la lb lc lca lcb lcc),.agg (b.cells a0 a1 a2 a3 c0 c1 c2 c3),.string team,.string res] w fun e w'=>e=.returned (.int .i64 (used l b.os team res))/\Below w.heap.size w w':=by
 have HL:Hid (jh w l la lb lc):=hl;have HK:Hid (jk w b a0 a1 a2 a3):=hb;have HZ:Hid (qG b.os<=1048576/\b.os.length<=1048576):=⟨hz,by unfold qG at hz;omega⟩
 clear hl hb hz;unfold Lw.cells Bk.cells;go_enter Tryz.func108,Tryz.ntmps108;go_wp2_with fail
 obtain⟨hX0,hY0⟩:=qx w #[.slice la l.ss.length lca,.slice lb l.ms.length lcb,.slice lc l.ts.length lcc] #[.int .i64 b.now,.int .i64 b.tick,.int .i64 b.given,.slice a0 b.os.length c0,.slice a1 b.gs.length c1,.slice a2 b.ls.length c2,.slice a3 b.ps.length c3] 41 48;have HB0:Hid (Below w.heap.size w ((w.alloc (.cells #[.slice la l.ss.length lca,.slice lb l.ms.length lcb,.slice lc l.ts.length lcc] 41)).alloc (.cells #[.int .i64 b.now,.int .i64 b.tick,.int .i64 b.given,.slice a0 b.os.length c0,.slice a1 b.gs.length c1,.slice a2 b.ls.length c2,.slice a3 b.ps.length c3] 48))):=zw w _ _;obtain⟨W0,hW0⟩:∃W0,W0=(w.alloc (.cells #[.slice la l.ss.length lca,.slice lb l.ms.length lcb,.slice lc l.ts.length lcc] 41)).alloc (.cells #[.int .i64 b.now,.int .i64 b.tick,.int .i64 b.given,.slice a0 b.os.length c0,.slice a1 b.gs.length c1,.slice a2 b.ls.length c2,.slice a3 b.ps.length c3] 48):=⟨_,rfl⟩
 have hz0:w.heap.size+1<W0.heap.size:=by rw[hW0];simp
 rw[<- hW0]at HB0 hX0 hY0 ⊢;clear hW0
 go_loopw [9,10] (fun nv iv wr=>∃(k:Nat) (s:Int),k<=b.os.length/\iv=.int .i64 k/\nv=.int .i64 s/\Hid (s=zaJ l b.os team res k/\Below W0.heap.size W0 wr)) (fun _ iv _=>b.os.length-(intOf iv).toNat)
 case atStart=>exact⟨0,0,Nat.zero_le _,rfl,rfl,by simp[zaJ],bRf _ _⟩
 case round=>
  obtain⟨k,s,hk,rfl,rfl,HQ⟩:=hrel
  have hsb:0<=s/\s<=20000000000000:=by
   have h1:=HQ.out.1;have h2:=zcd l b.os team res k hk;have h3:=HZ.out;have h4:zbe (b.os.take k)<=zbe b.os:=zcY Ob.sz b.os k;unfold qG at h3;omega
  have hX:=za hX0 (nSl hz0) HQ.out.2;have hY:=za hY0 hz0 HQ.out.2;have hz:=nLt hz0 HQ.out.2.size;have hzX:=nSl hz;have hkn:k<=1048576:=by have:=HZ.out.2;omega
  by_cases hlt:k<b.os.length
  ·obtain⟨ob,off,v0,v1,q0,q1,rfl,hob,hsm,hl0,hl1,d0,d1,d2,d3,d4,d5,d6⟩:=HK.out.os.load (HB0.out.trans (HQ.out.2.mono HB0.out.size)) k hlt
   have hob':=nLt hob (HB0.out.trans (HQ.out.2.mono HB0.out.size)).size;have hltI:(k:Int)<(b.os.length:Int):=by omega
   have HSt:Hid (zaJ l b.os team res (k+1)=zaJ l b.os team res k+zbJ l team res b.os[k]):=zf9 l b.os team res k hlt;have HOo:Hid (jK wr b.os[k] v0 v1):=⟨hsm,hl0,hl1⟩
   have HOl:Hid (b.os[k].vs.length<=1048576):=by
    have h3:=HZ.out.1
    have:=(zmi (left:=1048576) (ms:=b.os) (by omega) (by omega)).2 k hlt
    exact this.1
   have hwb:=zgE l.ss b.os[k] res HOl.out;have HBr:Hid (Below w.heap.size w wr):=HB0.out.trans (HQ.out.2.mono HB0.out.size);clear hsm hl0 hl1;go_wp2_with fail
   have HS:Hid ((∀j,wr.cell? ⟨w.heap.size,j,none⟩=(#[.slice la l.ss.length lca,.slice lb l.ms.length lcb,.slice lc l.ts.length lcc]:Array Value)[j]?)/\(∀j,wr.cell? ⟨w.heap.size+1,j,none⟩=(#[.int .i64 b.now,.int .i64 b.tick,.int .i64 b.given,.slice (some ⟨ob,off,none⟩) b.os.length c0,.slice a1 b.gs.length c1,.slice a2 b.ls.length c2,.slice a3 b.ps.length c3]:Array Value)[j]?)/\wr.cell? ⟨ob,off+k*7,none⟩=some (.string b.os[k].kd)/\wr.cell? ⟨ob,off+k*7+1,none⟩=some (.string b.os[k].nm)/\wr.cell? ⟨ob,off+k*7+2,none⟩=some (.string b.os[k].tm)/\wr.cell? ⟨ob,off+k*7+3,none⟩=some (.slice v0 b.os[k].vs.length q0)/\wr.cell? ⟨ob,off+k*7+4,none⟩=some (.bool b.os[k].en)/\wr.cell? ⟨ob,off+k*7+5,none⟩=some (.slice v1 b.os[k].hs.length q1)/\wr.cell? ⟨ob,off+k*7+6,none⟩=some (.int .i64 b.os[k].vr)):=⟨hX,hY,d0,d1,d2,d3,d4,d5,d6⟩
   have hS:(∀j,wr.drew.cell? ⟨w.heap.size,j,none⟩=(#[.slice la l.ss.length lca,.slice lb l.ms.length lcb,.slice lc l.ts.length lcc]:Array Value)[j]?)/\(∀j,wr.drew.cell? ⟨w.heap.size+1,j,none⟩=(#[.int .i64 b.now,.int .i64 b.tick,.int .i64 b.given,.slice (some ⟨ob,off,none⟩) b.os.length c0,.slice a1 b.gs.length c1,.slice a2 b.ls.length c2,.slice a3 b.ps.length c3]:Array Value)[j]?)/\wr.drew.cell? ⟨ob,off+k*7,none⟩=some (.string b.os[k].kd)/\wr.drew.cell? ⟨ob,off+k*7+1,none⟩=some (.string b.os[k].nm)/\wr.drew.cell? ⟨ob,off+k*7+2,none⟩=some (.string b.os[k].tm)/\wr.drew.cell? ⟨ob,off+k*7+3,none⟩=some (.slice v0 b.os[k].vs.length q0)/\wr.drew.cell? ⟨ob,off+k*7+4,none⟩=some (.bool b.os[k].en)/\wr.drew.cell? ⟨ob,off+k*7+5,none⟩=some (.slice v1 b.os[k].hs.length q1)/\wr.drew.cell? ⟨ob,off+k*7+6,none⟩=some (.int .i64 b.os[k].vr):=HS.out;clear hX hY d0 d1 d2 d3 d4 d5 d6
   go_region_held3 (fun w'=>(∀j,w'.cell? ⟨w.heap.size,j,none⟩=(#[.slice la l.ss.length lca,.slice lb l.ms.length lcb,.slice lc l.ts.length lcc]:Array Value)[j]?)/\(∀j,w'.cell? ⟨w.heap.size+1,j,none⟩=(#[.int .i64 b.now,.int .i64 b.tick,.int .i64 b.given,.slice (some ⟨ob,off,none⟩) b.os.length c0,.slice a1 b.gs.length c1,.slice a2 b.ls.length c2,.slice a3 b.ps.length c3]:Array Value)[j]?)/\w'.cell? ⟨ob,off+k*7,none⟩=some (.string b.os[k].kd)/\w'.cell? ⟨ob,off+k*7+1,none⟩=some (.string b.os[k].nm)/\w'.cell? ⟨ob,off+k*7+2,none⟩=some (.string b.os[k].tm)/\w'.cell? ⟨ob,off+k*7+3,none⟩=some (.slice v0 b.os[k].vs.length q0)/\w'.cell? ⟨ob,off+k*7+4,none⟩=some (.bool b.os[k].en)/\w'.cell? ⟨ob,off+k*7+5,none⟩=some (.slice v1 b.os[k].hs.length q1)/\w'.cell? ⟨ob,off+k*7+6,none⟩=some (.int .i64 b.os[k].vr)) (exact hS) (first|(go_at_call 139;refine(zk3 _ _ l.ts b.os[k].tm team _ (by exact HL.out.ts.mono HBr.out.drew)).mono ?_;rintro e w1⟨rfl,rfl⟩))
   obtain⟨w2,hw2⟩:∃w2,w2=wr.drew:=⟨_,rfl⟩
   have hB2:Below W0.heap.size W0 w2:=by rw[hw2];exact HQ.out.2.drew
   have HBr2:Hid (Below w.heap.size w w2):=by unfold Hid;rw[hw2];exact HBr.out.drew
   have HO2:Hid (jK w2 b.os[k] v0 v1):=by unfold Hid;rw[hw2];exact HOo.out.mono (bRf _ _).drew
   have hS2:(∀j,w2.cell? ⟨w.heap.size,j,none⟩=(#[.slice la l.ss.length lca,.slice lb l.ms.length lcb,.slice lc l.ts.length lcc]:Array Value)[j]?)/\(∀j,w2.cell? ⟨w.heap.size+1,j,none⟩=(#[.int .i64 b.now,.int .i64 b.tick,.int .i64 b.given,.slice (some ⟨ob,off,none⟩) b.os.length c0,.slice a1 b.gs.length c1,.slice a2 b.ls.length c2,.slice a3 b.ps.length c3]:Array Value)[j]?)/\w2.cell? ⟨ob,off+k*7,none⟩=some (.string b.os[k].kd)/\w2.cell? ⟨ob,off+k*7+1,none⟩=some (.string b.os[k].nm)/\w2.cell? ⟨ob,off+k*7+2,none⟩=some (.string b.os[k].tm)/\w2.cell? ⟨ob,off+k*7+3,none⟩=some (.slice v0 b.os[k].vs.length q0)/\w2.cell? ⟨ob,off+k*7+4,none⟩=some (.bool b.os[k].en)/\w2.cell? ⟨ob,off+k*7+5,none⟩=some (.slice v1 b.os[k].hs.length q1)/\w2.cell? ⟨ob,off+k*7+6,none⟩=some (.int .i64 b.os[k].vr):=by rw[hw2];exact hS
   have hz2:w.heap.size+1<w2.heap.size:=by rw[hw2];exact hz
   have hzX2:=nSl hz2;have hob2:ob<w2.heap.size:=by rw[hw2];exact hob'
   have HB2:Hid (Below W0.heap.size W0 w2):=hB2;rw[<- hw2];clear hw2 hS HS hB2 hz hzX hob'
   by_cases hu:under l.ts 4 b.os[k].tm team=true
   ·have HU:Hid (zbJ l team res b.os[k]=qV l.ss b.os[k] res):=by unfold Hid zbJ;rw[if_pos hu]
    rw[hu];clear hu;have hS:(∀j,w2.drew.cell? ⟨w.heap.size,j,none⟩=(#[.slice la l.ss.length lca,.slice lb l.ms.length lcb,.slice lc l.ts.length lcc]:Array Value)[j]?)/\(∀j,w2.drew.cell? ⟨w.heap.size+1,j,none⟩=(#[.int .i64 b.now,.int .i64 b.tick,.int .i64 b.given,.slice (some ⟨ob,off,none⟩) b.os.length c0,.slice a1 b.gs.length c1,.slice a2 b.ls.length c2,.slice a3 b.ps.length c3]:Array Value)[j]?)/\w2.drew.cell? ⟨ob,off+k*7,none⟩=some (.string b.os[k].kd)/\w2.drew.cell? ⟨ob,off+k*7+1,none⟩=some (.string b.os[k].nm)/\w2.drew.cell? ⟨ob,off+k*7+2,none⟩=some (.string b.os[k].tm)/\w2.drew.cell? ⟨ob,off+k*7+3,none⟩=some (.slice v0 b.os[k].vs.length q0)/\w2.drew.cell? ⟨ob,off+k*7+4,none⟩=some (.bool b.os[k].en)/\w2.drew.cell? ⟨ob,off+k*7+5,none⟩=some (.slice v1 b.os[k].hs.length q1)/\w2.drew.cell? ⟨ob,off+k*7+6,none⟩=some (.int .i64 b.os[k].vr):=hS2;clear hS2;go_wp2_with fail
    go_region_held3 (fun w'=>(∀j,w'.cell? ⟨w.heap.size,j,none⟩=(#[.slice la l.ss.length lca,.slice lb l.ms.length lcb,.slice lc l.ts.length lcc]:Array Value)[j]?)/\(∀j,w'.cell? ⟨w.heap.size+1,j,none⟩=(#[.int .i64 b.now,.int .i64 b.tick,.int .i64 b.given,.slice (some ⟨ob,off,none⟩) b.os.length c0,.slice a1 b.gs.length c1,.slice a2 b.ls.length c2,.slice a3 b.ps.length c3]:Array Value)[j]?)/\w'.cell? ⟨ob,off+k*7,none⟩=some (.string b.os[k].kd)/\w'.cell? ⟨ob,off+k*7+1,none⟩=some (.string b.os[k].nm)/\w'.cell? ⟨ob,off+k*7+2,none⟩=some (.string b.os[k].tm)/\w'.cell? ⟨ob,off+k*7+3,none⟩=some (.slice v0 b.os[k].vs.length q0)/\w'.cell? ⟨ob,off+k*7+4,none⟩=some (.bool b.os[k].en)/\w'.cell? ⟨ob,off+k*7+5,none⟩=some (.slice v1 b.os[k].hs.length q1)/\w'.cell? ⟨ob,off+k*7+6,none⟩=some (.int .i64 b.os[k].vr)) (exact hS) (first|(go_at_call 140;refine(zj5 l _ _ _ _ _ _ b.os[k] _ _ _ _ res _ (by exact HL.out.mono HBr2.out.drew) (by exact HO2.out.mono (bRf _ _).drew) HOl.out).mono ?_;rintro e w3⟨rfl,hb3⟩;have hS:=(⟨za hS.1 hzX2 hb3,za hS.2.1 hz2 hb3,(hb3.cell (p:=⟨ob,_,none⟩) hob2).trans hS.2.2.1,(hb3.cell (p:=⟨ob,_,none⟩) hob2).trans hS.2.2.2.1,(hb3.cell (p:=⟨ob,_,none⟩) hob2).trans hS.2.2.2.2.1,(hb3.cell (p:=⟨ob,_,none⟩) hob2).trans hS.2.2.2.2.2.1,(hb3.cell (p:=⟨ob,_,none⟩) hob2).trans hS.2.2.2.2.2.2.1,(hb3.cell (p:=⟨ob,_,none⟩) hob2).trans hS.2.2.2.2.2.2.2.1,(hb3.cell (p:=⟨ob,_,none⟩) hob2).trans hS.2.2.2.2.2.2.2.2⟩:_/\_/\_/\_/\_/\_/\_/\_/\_);have hB3:=HB2.out.drew.trans (hb3.mono HB2.out.drew.size);clear hb3))
    go_wp2_with fail
    refine⟨⟨k+1,s+qV l.ss b.os[k] res,by omega,by go_num,?_,by rw[HSt.out,HU.out,HQ.out.1],hB3⟩,zm hlt⟩
    have hw:IntKind.i64.wrap (s+qV l.ss b.os[k] res)=s+qV l.ss b.os[k] res:=by
     rw[IntKind.wrap_i64];omega
    rw[hw]
   ·have hu':under l.ts 4 b.os[k].tm team=false:=by simpa using hu
    have HU:Hid (zbJ l team res b.os[k]=0):=by unfold Hid zbJ;rw[if_neg hu]
    rw[hu'];clear hu hu';go_wp2_with fail
    exact⟨⟨k+1,s,by omega,by go_num,rfl,by rw[HSt.out,HU.out,HQ.out.1];omega,HB2.out⟩,zm hlt⟩
  ·have e:k=b.os.length:=by omega
   subst e;have HE:Hid (used l b.os team res=s):=by unfold Hid used;rw[HQ.out.1]
   clear hlt hk;go_wp2_with fail
   go_ret;exact⟨zo HE.out.symm,HB0.out.trans (HQ.out.2.mono HB0.out.size)⟩
end Go.Proofs.YtnapmdofidgliaaGreat
