import Derived.Test.YtjnpjkigofldlaaGreatM49
import Derived.Test.YtjnpjkigofldlaaGreatM32
set_option maxRecDepth 20000
set_option maxHeartbeats 4000000
namespace Go.Proofs.YtjnpjkigofldlaaGreat
open Go.RowKit
theorem zkl (o:Ob)(a0 a1:OA)(c0 c1:Nat)(Bg r:Nat)(f:BA->BA->Option Int)(w:World)(hB:w.cell? (aD Bg 0)=some (.map (some r)))(hM:zH w r f)(hs:o.Small) :
 Calls Tryz.prog 94 #[.agg (oC o a0 a1 c0 c1),.pointer (some (aD Bg 0))] w fun e w'=>e=.returned (.bool (f o.kd o.nm).isSome)/\Bw w w':=by
 have HH:=yB hM hs;have hBg:Bg<w.heap.size:=(gES (zc7 hB).choose_spec.choose_spec.choose_spec).1;have hb0:=(bRf w.heap.size w).alloc (Nat.le_refl _) (.cells (oC o a0 a1 c0 c1) 116);have k0:=alloc_at w (.cells (oC o a0 a1 c0 c1) 116);obtain⟨W0,hW0⟩:=xN (w.alloc (.cells (oC o a0 a1 c0 c1) 116));have hz0:W0.heap.size=w.heap.size+1:=by rw[hW0];simp
 clear hM hs;go_in
 go_upto_region 1 with fail
 rw[<- hW0]at hb0 k0 ⊢;clear hW0;have HS:Hid (∀W,Bw W0 W->(∀j,W.cell? (aD w.heap.size j)=(oC o a0 a1 c0 c1)[j]?)/\W.cell? (aD Bg 0)=some (.map (some r))):=fun W hW=>⟨fun j=>cell_of_block ((hW.block _ (by omega)).trans k0),((hb0.trans (hW.mono hb0.size)).cell (p:=(aD Bg 0)) hBg).trans hB⟩
 have HB0:=hid hb0;have hBd:=(bRf W0.heap.size W0).drew;have hS:=HS.o W0.drew hBd;clear hb0 k0 hB
 go_region_held3 (fun W=>(∀j,W.cell? (aD w.heap.size j)=(oC o a0 a1 c0 c1)[j]?)/\W.cell? (aD Bg 0)=some (.map (some r))) (exact hS) (first
  | (go_at_call 91;refine(jr o a0 a1 c0 c1 _).mono ?_;rintro e w5⟨rfl,hb⟩;have hBd:=hBd.trans (hb.mono hBd.size);have hS:=HS.o w5 hBd;clear hb)
  | (go_at_call 95;refine(zeD r f o.kd o.nm _ (HH.o.1.mono (HB0.o.trans (hBd.mono HB0.o.size))) HH.o.2.kd HH.o.2.nm).mono ?_;rintro e w6⟨rfl,hb⟩;have hBd:=hBd.trans (hb.mono hBd.size);have hS:=HS.o w6 hBd;clear hb))
 have HE:=hid (HB0.o.trans (hBd.mono HB0.o.size));go_wp2
 go_ret;exact⟨rfl,HE.o⟩
theorem zoQ (lo g n cap:Nat)(own:Nat->Lb)(fO:Nat->Ob)(Bg r:Nat)(f:BA->BA->Option Int)(w:World)(h:jD lo w own (some (aD g 0)) n fO)(hsm:∀i,i<n->(fO i).Small)(hn:n<=40)(hB:w.cell? (aD Bg 0)=some (.map (some r)))(hM:zH w r f) :
 Calls Tryz.prog 150 #[.l (some (aD g 0)) n cap,.func (.func 94) #[] #[.pointer (some (aD Bg 0))]] w fun e w'=>(∃v:Int,e=.returned (.i v)/\((v=-1/\∀i,i<n->(f (fO i).kd (fO i).nm).isSome=false) \/ ∃k:Nat,v=k/\k<n/\(f (fO k).kd (fO k).nm).isSome=true/\∀i,i<k->(f (fO i).kd (fO i).nm).isSome=false))/\Bw w w':=by
 have HH:=j3 h hsm hB hM;have hBg:Bg<w.heap.size:=(gES (zc7 hB).choose_spec.choose_spec.choose_spec).1;clear h hsm hB hM;go_in;go_wp2
 go_loopw [8] (fun iv wr=>∃k:Nat,k<=n/\iv=.i k/\Hid ((∀i,i<k->(f (fO i).kd (fO i).nm).isSome=false)/\Bw w wr)) (fun iv _=>n-(intOf iv).toNat)
 case atStart=>exact⟨0,Nat.zero_le _,rfl,fun i hi=>absurd hi (Nat.not_lt_zero _),bRf _ _⟩
 case round=>
  obtain⟨k,hk,rfl,HQ⟩:=hrel
  by_cases hlt:k<n
  ·obtain⟨_,C,ha,_,_,hC,_,hrow⟩:=(HH.o.1.mono HQ.o.2).rows (by omega)
   cases ha
   obtain⟨a0,a1,q0,q1,hE⟩:=hrow k hlt;have c0:wr.cell? (aD g (k*7))=some (.s (fO k).kd):=(cell_of_block hC).trans (hE.cell 0 (by omega));have c1:wr.cell? (aD g (k*7+1))=some (.s (fO k).nm):=(cell_of_block hC).trans (hE.cell 1 (by omega));have c2:wr.cell? (aD g (k*7+2))=some (.s (fO k).tm):=(cell_of_block hC).trans (hE.cell 2 (by omega));have c3:wr.cell? (aD g (k*7+3))=some (.l a0 (fO k).vs.length q0):=(cell_of_block hC).trans (hE.cell 3 (by omega));have c4:wr.cell? (aD g (k*7+4))=some (.bool (fO k).en):=(cell_of_block hC).trans (hE.cell 4 (by omega));have c5:wr.cell? (aD g (k*7+5))=some (.l a1 (fO k).hs.length q1):=(cell_of_block hC).trans (hE.cell 5 (by omega));have c6:wr.cell? (aD g (k*7+6))=some (.i (fO k).vr):=(cell_of_block hC).trans (hE.cell 6 (by omega));have hltI:(k:Int)<(n:Int):=by omega
   clear hC hE hrow;go_wp2_with fail
   refine(zkl (fO k) a0 a1 q0 q1 Bg r f wr ((HQ.o.2.cell (p:=(aD Bg 0)) hBg).trans HH.o.2.2.1) (HH.o.2.2.2.mono HQ.o.2) (HH.o.2.1 k hlt)).mono ?_;rintro e w2⟨rfl,hb2⟩;have HB2:=hid (HQ.o.2.trans (hb2.mono HQ.o.2.size));clear hb2 c0 c1 c2 c3 c4 c5 c6
   cases hd:(f (fO k).kd (fO k).nm).isSome with
   | true=>
    have HD:=hid hd;clear hd;go_wp2
    go_ret;exact⟨⟨k,rfl,Or.inr ⟨k,rfl,hlt,HD.o,HQ.o.1⟩⟩,HB2.o⟩
   | false=>
    have HD:=hid hd;clear hd;go_wp2
    exact⟨⟨k+1,by omega,by go_num,fun i hi=>by
     rcases Nat.lt_or_ge i k with h2|h2
     ·exact HQ.o.1 i h2
     ·obtain rfl:i=k:=by omega
      exact HD.o,HB2.o⟩,zi hlt⟩
  ·obtain rfl:k=n:=by omega
   go_wp2
   go_ret;exact⟨⟨-1,rfl,Or.inl ⟨rfl,HQ.o.1⟩⟩,HQ.o.2⟩
theorem zlF {P:Program}(w:World)(t e ty:TypeId)(z:Value)(ht:P.underlying t=some (.slice e))(hv:∀w,(zeroValue e).run P w=.ok z w)(b o n c:Nat)(hn:0<n)(h1:∀u∈(Builtin.zeroCells z.cells n).toList,u.oneCell'=true)
 (hc:∀j,j<(Builtin.zeroCells z.cells n).toList.length->(w.cell? (aD b (o+j))).isSome=true) (hf:∀j,j<(Builtin.zeroCells z.cells n).toList.length->w.frozen? (aD b (o+j))=false) :
 (Builtin.clear_ #[t] ty #[.l (some (aD b o)) n c]).run P w=.ok (.tuple #[]) (w.setCells b o (Builtin.zeroCells z.cells n).toList):=by
 have hst:=run_storeCells_cells (P:=P) b o (Builtin.zeroCells z.cells n).toList 0 w (by simpa using hc) (by simpa using hf) h1;simp only[Nat.add_zero]at hst;obtain⟨m,rfl⟩:∃m,n=m+1:=⟨n-1,by omega⟩
 simp[Builtin.clear_,run_underlying ht,hv,hst]
theorem zcH {s:List Bool}:∀ {k:Nat},(∀i,i<k->s.getD i false=false)->yA s k=List.range k
 | 0,_=>rfl
 | k+1,h=>by
  show yA s k++_=_
  rw[zcH (fun i hi=>h i (by omega)),h k (by omega),List.range_succ];rfl
theorem zde {s:List Bool}{k:Nat}(h:s.getD k false=true):yA s (k+1)=yA s k:=by
 show yA s k++_=_
 rw[h];simp
theorem zrX {s:List Bool}{k:Nat}(h:s.getD k false=false):yA s (k+1)=yA s k++[k]:=by
 show yA s k++_=_
 rw[h];rfl
theorem zhm {s:List Bool}{k:Nat}(hk:s.getD k false=true):∀j,k<j->(yA s j).length<j
 | 0,h=>by omega
 | j+1,h=>by
  by_cases e:k=j
  ·subst e
   rw[zde hk]
   have:=zec (s:=s) k
   omega
  ·have:=zhm hk j (by omega)
   show(yA s j++_).length<_
   rw[List.length_append];split <;> simp <;> omega
theorem zqK {S:Nat->Prop}{w W:World}(h:Left S w W){b:Nat}(hb:S b)(o:Nat)(v0 v1 v2 v3 v4 v5 v6:Value):Left S w (zkM W b o v0 v1 v2 v3 v4 v5 v6):=
 ((((((h.set hb _ v0).set hb _ v1).set hb _ v2).set hb _ v3).set hb _ v4).set hb _ v5).set hb _ v6
structure ztP (g n:Nat)(C:AV)(s:List Bool)(w:World)(j:Nat)(C':AV)(wr:World):Prop where
 blk:wr.heap[g]?=some (.cells C' 116)
 size:C'.size=C.size
 row:∀q (h:q<(yA s j).length) t,t<7->C'[q*7+t]?=C[(yA s j)[q]*7+t]?
 rest:∀q,j*7<=q->C'[q]?=C[q]?
 left:Left (fun q=>q=g) w wr
theorem znB (lo g n cap:Nat)(own:Nat->Lb)(fO:Nat->Ob)(Bg r:Nat)(f:BA->BA->Option Int)(s:List Bool)(w:World)(h:jD lo w own (some (aD g 0)) n fO)(hn0:0<n)(hsm:∀i,i<n->(fO i).Small)(hn:n<=40)(hcap:n<=cap)(hB:w.cell? (aD Bg 0)=some (.map (some r)))(hBg:Bg≠g)(hM:zH w r f)(hd:∀i,i<n->(f (fO i).kd (fO i).nm).isSome=s.getD i false) :
 Calls Tryz.prog 93 #[.l (some (aD g 0)) n cap,.func (.func 94) #[] #[.pointer (some (aD Bg 0))]] w fun e w'=>e=.returned (.l (some (aD g 0)) (yA s n).length cap)/\jD lo w' (zga own (yA s n)) (some (aD g 0)) (yA s n).length (fun q=>fO ((yA s n).getD q 0))/\Left (fun q=>q=g) w w':=by
 have HH:=j3 h hsm hB hM;have HD:=yB hd hBg;have hBl:Bg<w.heap.size:=(gES (zc7 hB).choose_spec.choose_spec.choose_spec).1;obtain⟨_,C,ha,_,_,hC,hs,_⟩:=h.rows hn0
 cases ha
 have hrg:r≠g:=by
  rintro rfl;obtain⟨es,ck,h2,_⟩:=hM.ex;rw[hC]at h2;cases h2
 have HC:=zao hC hs hrg;have hcall:=zoQ lo g n cap own fO Bg r f w h hsm hn hB hM;have HPk:Hid (∀W C',W.heap[g]?=some (.cells C' 116)->C'.size=C.size->Left (fun q=>q=g) w W->(∀q (h:q<(yA s n).length) t,t<7->C'[q*7+t]?=C[(yA s n)[q]*7+t]?)->jD lo W (zga own (yA s n)) (some (aD g 0)) (yA s n).length (fun q=>fO ((yA s n).getD q 0))):=fun W C' h1 h2 h3 h4=>HH.o.1.pick hn0 HC.o.1 h1 h2 _ ((zkb n).imp (fun h=>Nat.ne_of_lt h)) (fun i hi=>(zd7 hi).1) (zec n) h3 h4
 clear h hsm hB hM hd hC hs hBg hrg;go_in;go_wp2_with fail
 refine hcall.mono ?_;rintro e w1⟨⟨v,rfl,hv⟩,hb1⟩;have HB1:=hid hb1;clear hb1 hcall
 rcases hv with⟨rfl,hno⟩|⟨k,rfl,hk,hdk,hno⟩
 ·have HR:Hid (yA s n=List.range n):=zcH (fun i hi=>by rw[<- HD.o.1 i hi];exact hno i hi)
  have HE:Hid (jD lo w1 (zga own (yA s n)) (some (aD g 0)) (yA s n).length (fun q=>fO ((yA s n).getD q 0))/\Left (fun q=>q=g) w w1):=⟨HPk.o w1 C ((HB1.o.block g (gES HC.o.1).1).trans HC.o.1) rfl (Left.of_below _ HB1.o) (fun q hq t _=>by have h2:=HR.o;simp only[h2,List.getElem_range]),Left.of_below _ HB1.o⟩
  clear hno;go_wp2
  go_ret;exact⟨by rw[HR.o,List.length_range];rfl,HE.o⟩
 have HK:Hid (s.getD k false=true/\(yA s (k+1)).length=k):=by
  have h1:s.getD k false=true:=by rw[<- HD.o.1 k hk];exact hdk
  refine⟨h1,?_⟩;rw[zde h1,zcH (fun i hi=>by rw[<- HD.o.1 i (by omega)];exact hno i hi),List.length_range]
 have HS0:Hid (ztP g n C s w (k+1) C w1):=by
  refine⟨(HB1.o.block g (gES HC.o.1).1).trans HC.o.1,rfl,fun q hq t _=>?_,fun _ _=>rfl,Left.of_below _ HB1.o⟩;have e:yA s (k+1)=List.range k:=by rw[zde HK.o.1,zcH (fun i hi=>by rw[<- HD.o.1 i (by omega)];exact hno i hi)]
  simp only[e,List.getElem_range]
 clear hdk hno;have hkn:((k:Int) == -1)=false:=by simp
 go_wp2_with fail
 clear hkn
 go_loopw [5,6] (fun iv jv wr=>∃(j:Nat) (C':AV),k<j/\j<=n/\iv=.i ((yA s j).length:Nat)/\jv=.i j/\Hid (ztP g n C s w j C' wr)) (fun _ jv _=>n-(intOf jv).toNat)
 case atStart=>exact⟨k+1,C,by omega,by omega,by rw[HK.o.2],by go_num,HS0.o⟩
 case round=>
  obtain⟨j,C',hkj,hj,rfl,rfl,HQ⟩:=hrel;have hsh:=zhm HK.o.1 j hkj;obtain⟨m,hm⟩:=xN ((yA s j).length);rw[<- hm]at hsh ⊢
  by_cases hlt:j<n
  ·obtain⟨_,C0,ha,_,_,hC0,hs0,hrow⟩:=HH.o.1.rows (by omega)
   cases ha
   have hCC:=HC.o.1;rw[hCC]at hC0
   cases hC0
   obtain⟨a0,a1,q0,q1,hE⟩:=hrow j hlt;have hc:∀t,t<7->wr.cell? (aD g (j*7+t))=(oC (fO j) a0 a1 q0 q1)[t]?:=fun t ht=>(cell_of_block HQ.o.blk).trans ((HQ.o.rest _ (by omega)).trans (hE.cell t ht))
   have c0:wr.cell? (aD g (j*7))=some (.s (fO j).kd):=hc 0 (by omega);have c1:wr.cell? (aD g (j*7+1))=some (.s (fO j).nm):=hc 1 (by omega);have c2:wr.cell? (aD g (j*7+2))=some (.s (fO j).tm):=hc 2 (by omega);have c3:wr.cell? (aD g (j*7+3))=some (.l a0 (fO j).vs.length q0):=hc 3 (by omega);have c4:wr.cell? (aD g (j*7+4))=some (.bool (fO j).en):=hc 4 (by omega);have c5:wr.cell? (aD g (j*7+5))=some (.l a1 (fO j).hs.length q1):=hc 5 (by omega);have c6:wr.cell? (aD g (j*7+6))=some (.i (fO j).vr):=hc 6 (by omega);have hltI:(j:Int)<(n:Int):=by omega
   have hgr:=(gES HQ.o.blk).1;have HM:=zao hm hsh (fun t ht=>hE.cell t ht);have hba:=(bRf wr.heap.size wr).alloc (Nat.le_refl _) (.cells (oC (fO j) a0 a1 q0 q1) 116);have HBa:=yB hba (alloc_at wr (.cells (oC (fO j) a0 a1 q0 q1) 116));clear hE hrow hs0 hCC hba hc hm
   go_upto_region 8 with fail
   obtain⟨W1,hW1⟩:=xN (wr.alloc (.cells (oC (fO j) a0 a1 q0 q1) 116));have hz1:W1.heap.size=wr.heap.size+1:=by rw[hW1];simp
   rw[<- hW1]at HBa ⊢;clear hW1 c0 c1 c2 c3 c4 c5 c6;have cX:=fun t=>cell_of_block (o:=t) HBa.o.2
   have hcl1:=zkl (fO j) a0 a1 q0 q1 Bg r f W1 ((HBa.o.1.cell (p:=(aD Bg 0)) (by have:=HQ.o.left.size;show Bg<_;omega)).trans ((World.cell?_of_block (a:=(aD Bg 0)) (HQ.o.left.out Bg hBl HD.o.2)).trans HH.o.2.2.1)) ((HH.o.2.2.2.keep (HQ.o.left.out r HH.o.2.2.2.lt HC.o.2.2)).mono HBa.o.1) (HH.o.2.1 j hlt);go_wp2_with fail
   refine hcl1.mono ?_;rintro e w2⟨rfl,hb2⟩;have hg2:=((HBa.o.1.trans (hb2.mono HBa.o.1.size)).block g hgr).trans HQ.o.blk;have cX2:∀t,w2.cell? (aD wr.heap.size t)=(oC (fO j) a0 a1 q0 q1)[t]?:=fun t=>cell_of_block ((hb2.block _ (by omega)).trans HBa.o.2)
   have HB2:=hid (HBa.o.1.trans (hb2.mono HBa.o.1.size));have hz2:wr.heap.size<w2.heap.size:=by have:=hb2.size;omega
   have hg2w:=(gES hg2).1;clear hb2 hcl1 cX;rw[HD.o.1 j hlt]
   cases hsj:s.getD j false with
   | true=>
    have HE:Hid (yA s (j+1)=yA s j/\ztP g n C s w (j+1) C' w2):=by
     refine⟨zde hsj,hg2,HQ.o.size,?_,fun q hq=>HQ.o.rest q (by omega),HQ.o.left.trans (Left.of_below _ HB2.o)⟩;rw[zde hsj];exact HQ.o.row
    clear hg2;go_wp2
    exact⟨⟨j+1,C',by omega,by omega,by rw[HE.o.1,<- HM.o.1],by go_num,HE.o.2⟩,zi hlt⟩
   | false=>
    have hm7:m*7+7<=C'.size:=by have:=HQ.o.size;have:=HC.o.2.1;have:=HM.o.2.1;omega
    have fz:=fun t=>zf (o:=t) hg2
    have hu:∀t,t<7->∃u,w2.cell? (aD g (m*7+t))=some u:=fun t ht=>⟨_,(cell_of_block hg2).trans (Array.getElem?_eq_getElem (show m*7+t<C'.size by omega))⟩
    obtain⟨u0,hu0⟩:=hu 0 (by omega);rw[Nat.add_zero]at hu0;obtain⟨u1,hu1⟩:=hu 1 (by omega);obtain⟨u2,hu2⟩:=hu 2 (by omega);obtain⟨u3,hu3⟩:=hu 3 (by omega);obtain⟨u4,hu4⟩:=hu 4 (by omega);obtain⟨u5,hu5⟩:=hu 5 (by omega);obtain⟨u6,hu6⟩:=hu 6 (by omega);have hmI:(m:Int)<(n:Int):=by omega
    have HE:Hid ((yA s (j+1)).length=m+1/\ztP g n C s w (j+1) (zi8 C' (m*7) (.s (fO j).kd) (.s (fO j).nm) (.s (fO j).tm) (.l a0 (fO j).vs.length q0) (.bool (fO j).en) (.l a1 (fO j).hs.length q1) (.i (fO j).vr)) (zkM w2 g (m*7) (.s (fO j).kd) (.s (fO j).nm) (.s (fO j).tm) (.l a0 (fO j).vs.length q0) (.bool (fO j).en) (.l a1 (fO j).hs.length q1) (.i (fO j).vr))):=by
     have hkx:=zrX hsj;refine⟨by rw[hkx,List.length_append,<- HM.o.1];rfl,ziP hg2 _ _ _ _ _ _ _,(zlu _ _ _ _ _ _ _ _ _).trans HQ.o.size,fun q hq t ht=>?_,fun q hq=>?_,zqK (HQ.o.left.trans (Left.of_below _ HB2.o)) rfl _ _ _ _ _ _ _ _⟩
     ·have hq2:q<m+1:=by rw[hkx,List.length_append,<- HM.o.1]at hq;exact hq
      by_cases e:q=m
      ·subst e
       have e2:(yA s (j+1))[q]=j:=by simp only[hkx];rw[List.getElem_append_right (by rw[<- HM.o.1];exact Nat.le_refl _)];simp
       rw[e2,zoE _ _ _ _ _ _ _ _ _ _ ht hm7];exact(HM.o.2.2 t ht).symm
      ·have hq3:q<(yA s j).length:=by rw[<- HM.o.1];omega
       have e2:(yA s (j+1))[q]=(yA s j)[q]:=by simp only[hkx];rw[List.getElem_append_left hq3]
       rw[e2,zij _ _ _ _ _ _ _ _ _ _ (Or.inl (by omega))];exact HQ.o.row q hq3 t ht
     ·rw[zij _ _ _ _ _ _ _ _ _ _ (Or.inr (by have:=HM.o.2.1;omega))]
      exact HQ.o.rest q (by omega)
    clear hg2 hu hm7;go_wp2
    exact⟨⟨j+1,_,by omega,by omega,by rw[HE.o.1];go_num,by go_num,HE.o.2⟩,zi hlt⟩
  ·obtain rfl:j=n:=by omega
   have hmI:(m:Int)<=(j:Int):=by omega
   have hmc:m<=cap:=by omega
   obtain⟨Z,hZ⟩:=xN ((Builtin.zeroCells oZ (j-m)).toList);have hZl:Z.length=(j-m)*7:=by rw[hZ];simp[Builtin.zeroCells]
   have hZ1:∀u∈Z,u.oneCell'=true:=by
    rw[hZ];intro u hu;simp only[Builtin.zeroCells,Array.toList_map,List.mem_map]at hu;obtain⟨q,_,rfl⟩:=hu;have h7:q % 7<7:=Nat.mod_lt _ (by decide)
    show(oZ[q % 7]!).oneCell'=true
    generalize q % 7=q7 at h7
    have:q7=0 \/ q7=1 \/ q7=2 \/ q7=3 \/ q7=4 \/ q7=5 \/ q7=6:=by omega
    rcases this with rfl|rfl|rfl|rfl|rfl|rfl|rfl <;> rfl
   have hj7:j*7<=C'.size:=by have:=HQ.o.size;have:=HC.o.2.1;omega
   have hcl:∀ty,(Builtin.clear_ #[35] ty #[.l (some (aD g (m*7))) (j-m) (cap-m)]).run Tryz.prog wr=.ok (.tuple #[]) (wr.setCells g (m*7) Z):=by
    intro ty;rw[hZ];rw[hZ]at hZ1 hZl
    exact zlF wr _ 116 ty (.agg oZ) Tryz.underlying35 (fun w=>by rfl) g (m*7) (j-m) (cap-m) (by omega) hZ1 (fun t ht=>by
     have ht2:t<(j-m)*7:=Nat.lt_of_lt_of_eq ht hZl;rw[cell_of_block HQ.o.blk,Array.getElem?_eq_getElem (show m*7+t<C'.size by omega)];rfl) (fun t ht=>zf HQ.o.blk)
   have HE:Hid (jD lo (wr.setCells g (m*7) Z) (zga own (yA s j)) (some (aD g 0)) (yA s j).length (fun q=>fO ((yA s j).getD q 0))/\Left (fun q=>q=g) w (wr.setCells g (m*7) Z)):=by
    obtain⟨C2,h1,h2,_,h4⟩:=zfh Z (m*7) wr C' HQ.o.blk (by rw[hZl];omega);have hL:=zgg (S:=fun q=>q=g) rfl Z (m*7) wr HQ.o.left;exact⟨HPk.o _ C2 h1 (h2.trans HQ.o.size) hL (fun q hq t ht=>by rw[h4 _ (Or.inl (by omega))];exact HQ.o.row q hq t ht),hL⟩
   have HM:=hid hm;clear hZ hZl hZ1 hj7 hm;go_wp2
   go_ret;exact⟨by rw[HM.o];rfl,HE.o⟩
end Go.Proofs.YtjnpjkigofldlaaGreat
