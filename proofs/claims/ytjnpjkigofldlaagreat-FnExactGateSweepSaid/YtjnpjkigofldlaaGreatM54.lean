import Derived.Test.YtjnpjkigofldlaaGreatM53
set_option maxRecDepth 20000
set_option maxHeartbeats 8000000
namespace Go.Proofs.YtjnpjkigofldlaaGreat
open Go.RowKit
variable {l:Lw}{b:Bk}{os:List Ob}{s:List Bool}
theorem zrJ {R:Nat}{w w1:World}{r:Bk × Int}(hr:r=(zc6,1))(hB:Bw w w1)(hwR:w.heap.size<=R)(v0 v1 v2 v3 v4 v5 v6:Value) :
 zlc w.heap.size (zb2 w1 R v0 v1 v2 v3 v4 v5 v6) (.returned (.tuple #[.agg bZ,.i 1])) r/\Bw w (zb2 w1 R v0 v1 v2 v3 v4 v5 v6):=by
 subst hr;have h1:=qI hB R hwR v0 v1 v2 v3 v4 v5 v6;refine⟨⟨(zb2 w1 R v0 v1 v2 v3 v4 v5 v6).heap.size,fun _=>(9,0,0),none,none,none,none,0,0,0,0,rfl,?_⟩,h1⟩;exact⟨⟨fun h=>absurd h (by simp[zc6])⟩,⟨fun h=>absurd h (by simp[zc6])⟩,⟨fun h=>absurd h (by simp[zc6])⟩,⟨fun h=>absurd h (by simp[zc6])⟩,fun _ _=>rfl,h1.size,Nat.le_refl _⟩
noncomputable def idle (l:Lw)(os:List Ob):Bool:=decide ((marks l os).length=0)&&decide ((zdH l os).length=0)
theorem zpJ (h:qG l b=false):zcx l b=(zc6,1):=by unfold zcx;rw[if_neg (by simp[h])]
theorem zkY (h:qG l b=true)(hi:idle l b.os=true):zcx l b=(b,2):=by
 unfold idle at hi;simp only[Bool.and_eq_true,decide_eq_true_eq]at hi;unfold zcx;rw[if_pos h,if_pos ⟨List.length_eq_zero_iff.1 hi.1,List.length_eq_zero_iff.1 hi.2⟩]
theorem zlG (hi:idle l os=false):¬(marks l os=[]/\zdH l os=[]):=fun h=>by
 unfold idle at hi;rw[h.1,h.2]at hi;simp at hi
theorem zsz (hi:idle l os=false):0<os.length:=by
 refine Nat.pos_of_ne_zero fun h=>zlG hi ?_
 have e:=List.length_eq_zero_iff.1 h;subst e;exact⟨rfl,rfl⟩
theorem zlt (h:qG l b=true)(hi:idle l b.os=false)(hn:1000000<(za7 l b).now):zcx l b=(b,3):=by
 unfold zcx;rw[if_pos h,if_neg (zlG hi),if_pos hn]
theorem zm1 (h:qG l b=true)(hi:idle l b.os=false)(hn:¬1000000<(za7 l b).now):zcx l b=(za7 l b,0):=by
 unfold zcx;rw[if_pos h,if_neg (zlG hi),if_neg hn]
theorem zgq (l:Lw)(la lb lc:OA)(lca lcb lcc:Nat)(b:Bk)(a0 a1 a2 a3:OA)(c0 c1 c2 c3:Nat)(w:World)(hl:qp w l la lb lc)(hb:qj w b a0 a1 a2 a3)(hlf:l.Few)(hbf:b.Few)(hz:qK b.os<=1048576) :
 Calls Tryz.prog 9 #[.agg (l.cells la lb lc lca lcb lcc),.agg (b.cells a0 a1 a2 a3 c0 c1 c2 c3)] w fun e w'=>zlc w.heap.size w' e (zcx l b)/\Bw w w':=by
 have HK:=yB hl hb;have HF:=zao hlf hbf hz;clear hb hl hlf hbf hz;unfold Lw.cells Bk.cells;obtain⟨W0,hW0,k0,hB0,hz0⟩:=zsc w (.cells (lC l la lb lc lca lcb lcc) 47) (.cells (bC b a0 a1 a2 a3 c0 c1 c2 c3) 40) (.cells bZ 40);go_in;go_wp2_with fail
 rw[<- hW0];clear hW0;refine(zkV l la lb lc lca lcb lcc b a0 a1 a2 a3 c0 c1 c2 c3 W0 (HK.o.1.mono hB0) (HK.o.2.mono hB0) HF.o.1 HF.o.2.1 HF.o.2.2).mono ?_;rintro e w1⟨rfl,hb1⟩
 have HKK:Hid (∀W,Bw W0 W->(∀j,W.cell? (aD w.heap.size j)=(lC l la lb lc lca lcb lcc)[j]?)/\(∀j,W.cell? (aD (w.heap.size+1) j)=(bC b a0 a1 a2 a3 c0 c1 c2 c3)[j]?)/\(∀j,W.cell? (aD (w.heap.size+1+1) j)=bZ[j]?)/\(∀j,W.frozen? (aD (w.heap.size+1+1) j)=false)/\w.heap.size+1+1<W.heap.size/\w.heap.size+1<W.heap.size/\w.heap.size<W.heap.size/\Bw w W):=fun W hW=>by
  have h1:=hW.size;exact⟨fun j=>cell_of_block ((hW.block _ (by omega)).trans k0.1),fun j=>cell_of_block ((hW.block _ (by omega)).trans k0.2.1),fun j=>cell_of_block ((hW.block _ (by omega)).trans k0.2.2),fun j=>zf ((hW.block _ (by omega)).trans k0.2.2),by omega,by omega,by omega,hB0.trans (hW.mono hB0.size)⟩
 have HB1:=hid hb1;have HZ:=hid hz0;clear hb1 k0 hB0 hz0;obtain⟨cL,cB,cR,fR,zR,zB,zL,hBw⟩:=HKK.o w1 HB1.o
 by_cases hok:qG l b=true
 rotate_left
 ·have hno:qG l b=false:=bFi hok
  have HBw:=hid hBw;rw[hno];go_wp2
  refine bodyPost_ret (v:=.tuple #[.agg bZ,.i 1]) (by simp[results,Tryz.results9,go_sem,cR]) rfl ?_;exact zrJ (zpJ hno) HBw.o (by omega) _ _ _ _ _ _ _
 have HF2:=hid (book_facts hok);have HOK:=hid hok;have HBw:=hid hBw;rw[hok];clear hok hBw
 go_upto_region 3 with fail
 refine zca (fun A A' w'=>∃u12 u13 u14 u15 u16 u17 u18 u19 u20 u21 u22,A'=((((((((((((A.put (some 12) u12).put (some 13) u13).put (some 14) u14).put (some 15) u15).put (some 16) u16).put (some 17) u17).put (some 18) u18).put (some 19) u19).put (some 20) u20).put (some 21) u21).put (some 22) u22).put (some 23) (.bool (idle l b.os)))/\Bw W0 w') ?_ ?_
 ·go_wp2_with fail
  refine(zkz l la lb lc lca lcb lcc b a0 a1 a2 a3 c0 c1 c2 c3 w1 (HK.o.1.mono HBw.o) (HK.o.2.mono HBw.o) HF2.o.1 HF2.o.2).mono ?_;rintro e w2⟨v,rfl,hv,hb2⟩;obtain⟨ma,mc,rfl,_⟩:=z8.zbC hv;have HB2:=hid (HB1.o.trans (hb2.mono HB1.o.size));clear cL cB cR fR zR zB zL hv hb2;obtain⟨cL,cB,cR,fR,zR,zB,zL,hBw⟩:=HKK.o w2 HB2.o;have HBw2:=hid hBw;clear hBw
  by_cases hm:(marks l b.os).length=0
  ·have hme:(((marks l b.os).length:Int) == 0)=true:=by simp[hm]
   have HM:=hid hm;clear hm;go_wp2_with fail
   refine(zm5 l la lb lc lca lcb lcc b a0 a1 a2 a3 c0 c1 c2 c3 w2 (HK.o.1.mono HBw2.o) (HK.o.2.mono HBw2.o) (zcZ.of HF2.o)).mono ?_;rintro e w3⟨v,rfl,hv,hb3⟩;obtain⟨pa,pc,rfl,_⟩:=z8.zbC hv;have HB3:=hid (HB2.o.trans (hb3.mono HB2.o.size))
   have HI:Hid (idle l b.os=(((zdH l b.os).length:Int) == 0)):=by
    unfold Hid idle;rw[HM.o]
    by_cases hg:(zdH l b.os).length=0 <;> simp[hg]
   clear cL cB cR fR zR zB zL hv hb3;go_wp2_with fail
   exact⟨HI.o.symm,HB3.o⟩
  ·have hme:(((marks l b.os).length:Int) == 0)=false:=by simp[hm]
   have HI:Hid (idle l b.os=false):=by unfold Hid idle;simp[hm]
   clear hm;go_wp2_with fail
   exact⟨HI.o,HB2.o⟩
 ·rintro A' w2⟨u12,u13,u14,u15,u16,u17,u18,u19,u20,u21,u22,rfl,hb2⟩
  have HB2:=hid hb2;clear cL cB cR fR zR zB zL hb2;obtain⟨cL,cB,cR,fR,zR,zB,zL,hBw⟩:=HKK.o w2 HB2.o;have HBw2:=hid hBw;clear hBw
  (try simp only[Act.put,sA,s0,sS])
  cases hi:idle l b.os with
  | true=>
   have HR:=hid (zkY HOK.o hi);go_wp2_with fail
   refine(zg6 b a0 a1 a2 a3 c0 c1 c2 c3 w2 (HK.o.2.mono HBw2.o) HF.o.2.1).mono ?_;rintro e w3⟨own,d0,d1,d2,d3,e0,e1,e2,e3,rfl,hbk,_,hb3⟩;have HN:=yB hbk hb3;have HB3:=HB2.o.trans (hb3.mono HB2.o.size);have zR2:=zR;clear cL cB cR fR zR zB zL hbk hb3;obtain⟨_,_,cR,fR,zR,_,_,hBw⟩:=HKK.o w3 HB3;have HBw3:=hid hBw;clear hBw HB3;go_wp2
   refine bodyPost_ret (v:=.tuple #[.agg (bC b d0 d1 d2 d3 e0 e1 e2 e3),.i 2]) (by simp[results,Tryz.results9,go_sem,cR]) rfl ?_;exact zfS HR.o HN.o.1 (bRf _ _) HBw3.o (by omega) (by omega) _ _ _ _ _ _ _
  | false=>
   go_wp2_with fail
   refine(zsv l la lb lc lca lcb lcc b a0 a1 a2 a3 c0 c1 c2 c3 w2 (HK.o.1.mono HBw2.o) (HK.o.2.mono HBw2.o) HF.o.2.1 HOK.o (zsz hi)).mono ?_;rintro e w3⟨⟨hi3,own,d0,d1,d2,d3,e0,e1,e2,e3,rfl,hbk⟩,hb3⟩;obtain⟨W3,hW3,kX,hba,zX⟩:=zpa w3 (.cells (bC (za7 l b) d0 d1 d2 d3 e0 e1 e2 e3) 40);have HN:=zao hbk hb3 hba;have zR2:=zR;clear cL cB cR fR zR zB zL hbk
   go_upto_region 6 with fail
   replace zX:w3.heap.size<W3.heap.size:=by omega
   rw[<- hW3];clear hW3;have cX:=fun j=>cell_of_block (o:=j) kX
   have HB3:=hid (HB2.o.trans ((hb3.trans (hba.mono hb3.size)).mono HB2.o.size));obtain⟨cL,cB,cR,fR,zR,zB,zL,hBw⟩:=HKK.o W3 HB3.o;have HBw3:=yB hBw (HBw2.o.trans (hb3.mono HBw2.o.size));clear hBw hba hb3 kX
   by_cases hn:1000000<(za7 l b).now
   ·have HR:=hid (zlt HOK.o hi hn)
    go_wp2_with fail
    refine(zg6 b a0 a1 a2 a3 c0 c1 c2 c3 W3 (HK.o.2.mono HBw3.o.1) HF.o.2.1).mono ?_;rintro e w4⟨own,d0,d1,d2,d3,e0,e1,e2,e3,rfl,hbk,_,hb4⟩;have HN4:=yB hbk hb4;have HB4:=HB3.o.trans (hb4.mono HB3.o.size);have zR3:=zR;clear cL cB cR fR zR zB zL hbk hb4 cX;obtain⟨_,_,cR,fR,zR,_,_,hBw⟩:=HKK.o w4 HB4;have HBw4:=hid hBw;clear hBw HB4;go_wp2
    refine bodyPost_ret (v:=.tuple #[.agg (bC b d0 d1 d2 d3 e0 e1 e2 e3),.i 3]) (by simp[results,Tryz.results9,go_sem,cR]) rfl ?_;exact zfS HR.o HN4.o.1 (bRf _ _) HBw4.o (by omega) (by omega) _ _ _ _ _ _ _
   ·have HR:=hid (zm1 HOK.o hi hn)
    go_wp2
    refine bodyPost_ret (v:=.tuple #[.agg (bC (za7 l b) d0 d1 d2 d3 e0 e1 e2 e3),.i 0]) (by simp[results,Tryz.results9,go_sem,cR]) rfl ?_;exact zfS HR.o HN.o.1 HN.o.2.2 HBw3.o.2 (by omega) (by omega) _ _ _ _ _ _ _
theorem zcG.left {S:Nat->Prop}{w w':World}{a:OA}(h:zcG w a s)(hl:Left S w w')(hS:∀g,a=some g->¬S g.block):zcG w' a s:=
 ⟨h.len,fun hne=>by
  obtain⟨b,off,ha,hbs,hc⟩:=h.cells hne;exact⟨b,off,ha,nLt hbs hl.size,fun i hi=>(World.cell?_of_block (a:=(aD b (off+i))) (hl.out b hbs (hS _ ha))).trans (hc i hi)⟩⟩
theorem zpv (o:Ob)(y:Ob)(j:Nat)(v:Value)(h:∀a0 a1 c0 c1,oC y a0 a1 c0 c1=(oC o a0 a1 c0 c1).setIfInBounds j v)(hj:j<7):∀a0 a1 c0 c1 k,k<7->(oC y a0 a1 c0 c1)[k]?=if k=j then some v else (oC o a0 a1 c0 c1)[k]?:=fun a0 a1 c0 c1 k _=>by
 rw[h]
 by_cases e:k=j
 ·subst e;rw[if_pos rfl,Array.getElem?_setIfInBounds_self_of_lt (by simpa using hj)]
 ·rw[if_neg e,Array.getElem?_setIfInBounds_ne (fun h=>e h.symm)]
theorem zpD (l:Lw)(G:BA->BA->Bool)(n:Int)(o:Ob):(zae l G n o).1={ o with vs:=zS G (lks l o) o.vs,vr:=bif leans l G o then n+1 else o.vr }/\(zae l G n o).2=bif leans l G o then n+1 else n:=by
 cases h:leans l G o with
 | true=>rw[zmQ h];exact⟨rfl,rfl⟩
 | false=>rw[zpy h,zqb h];exact⟨rfl,rfl⟩
theorem zo5 {k:Nat}(h:k<os.length)(hs:s.getD k false=false):qx os s (k+1)=qx os s k++[os[k]]:=by
 unfold qx
 show(yA s k++_).map _=_
 rw[hs,List.map_append]
 simp[qW h]
theorem zoB {k:Nat}(hs:s.getD k false=true):qx os s (k+1)=qx os s k:=by
 unfold qx
 show(yA s k++_).map _=_
 rw[hs];simp
theorem zmR (os:List Ob)(s:List Bool)(k:Nat):(qx os s k).length<=k:=by rw[zev];exact zec k
theorem zgG (l:Lw)(os:List Ob):∀(ps:List Int) (ls:List Lg),(∀g∈ls,g.Small)->∀g∈lets l os ps ls,g.Small
 | [],_,h=>h
 | p :: ps,ls,h=>zgG l os ps (ls.map (ze0 l (jo os p.toNat))) fun g hg=>by
  obtain⟨g0,h0,rfl⟩:=List.mem_map.1 hg
  have:=h g0 h0
  unfold ze0
  split
  ·exact⟨this.1,this.2⟩
  ·exact this
theorem zqi (l:Lw)(la lb lc:OA)(lca lcb lcc:Nat)(b:Bk)(a0 a1 a2 a3:OA)(c0 c1 c2 c3:Nat)(w:World)(hl:qp w l la lb lc)(hb:qj w b a0 a1 a2 a3)(hh:zb1 w a0 b.os)(hbf:b.Few)(hok:qG l b=true) :
 Calls Tryz.prog 23 #[.agg (lC l la lb lc lca lcb lcc),.agg (bC b a0 a1 a2 a3 c0 c1 c2 c3)] w fun e w'=>(∃hi own d0 d1 d2 d3 e0 e1 e2 e3,e=.returned (.tuple #[.agg (bC (za7 l b) d0 d1 d2 d3 e0 e1 e2 e3),.i (((marks l b.os).length+(places (goS l (zd3 l b))).length:Nat):Int)])/\BkL w.heap.size hi w' own (za7 l b) d0 d1 d2 d3)/\Bw w w':=by
 obtain⟨i0,hi0,hzi0,hsi0,hbi0⟩:=info_parts Tryz.zrj;have HI0:=j3 hi0 hzi0 hsi0 hbi0;have HK:=j3 hl hb hbf hh;have HF:=zao (book_facts hok) (zcZ.of (book_facts hok)) (zrw hok)
 have HNW:Hid (0<=b.now/\b.now<=1000000):=by
  unfold qG zaz at hok;simp only[Bool.and_eq_true]at hok;exact zls hok.2.1
 clear hl hb hbf hok hh hi0 hzi0 hsi0 hbi0;obtain⟨W0,hW0,k0,hB0,hz0⟩:=zsc w (.cells (lC l la lb lc lca lcb lcc) 47) (.cells (bC b a0 a1 a2 a3 c0 c1 c2 c3) 40) (.cells bZ 40);go_in;go_wp2_with fail
 rw[<- hW0];clear hW0;refine(zlh b a0 a1 a2 a3 c0 c1 c2 c3 W0 (HK.o.2.1.mono hB0) (HK.o.2.2.2.mono hB0) HK.o.2.2.1).mono ?_;rintro e w1⟨own,d0,d1,d2,d3,e0,e1,e2,e3,rfl,hbk,_,hb1⟩;obtain⟨W1,hW1,kX,hba,hz1⟩:=zpa w1 (.cells (bC b d0 d1 d2 d3 e0 e1 e2 e3) 40)
 go_upto_region 2 with fail
 rw[<- hW1];clear hW1;have hb01:=hb1.trans (hba.mono hb1.size);have HX1:Hid (BkB (W0.heap.size+1+1+1) w1.heap.size w1.heap.size W1 own b d0 d1 d2 d3 e0 e1 e2 e3):=⟨kX,BkL.mono hbk hba,hbk.out _ (Or.inr (Nat.le_refl _))⟩
 obtain⟨x,hx⟩:=xN (w1.heap.size);have hxz:W0.heap.size<=x:=by rw[hx];exact hb1.size
 rw[<- hx]at HX1 hz1 ⊢;have hK1:=fun W (hW:Bw W0 W)=>And.intro ((hW.block w.heap.size (by omega)).trans k0.1) (And.intro ((hW.block (w.heap.size+1) (by omega)).trans k0.2.1) (hW.block (w.heap.size+1+1) (by omega) |>.trans k0.2.2))
 have HK1:=hid hK1;have HB0:=hid hB0;have HB01:=hid hb01;have HZ:=yB hz0 hz1;clear hK1 hB0 hb01 hb1 hba kX hbk k0 hx;obtain⟨kL,_,_⟩:=HK1.o W1 HB01.o;have cL:=fun j=>cell_of_block (o:=j) kL
 have cX:=fun j=>cell_of_block (o:=j) HX1.o.box
 have hzL:w.heap.size<W1.heap.size:=by omega
 have hzX:x<W1.heap.size:=by omega
 clear kL hz0 hz1;go_wp2_with fail
 refine(zq3 l la lb lc lca lcb lcc b d0 d1 d2 d3 e0 e1 e2 e3 W1 (HK.o.1.mono (HB0.o.trans (HB01.o.mono HB0.o.size))) (BkL.at HX1.o.bk HK.o.2.1.small) HF.o.1.1 HF.o.1.2 (fun i h=>(HK.o.2.2.1.os.2 i h).1)).mono ?_;rintro e w2⟨v,rfl,hv,hb2⟩;obtain⟨ma,mc,rfl,hm⟩:=z8.zbC hv;have HB02:=hid (HB01.o.trans (hb2.mono HB01.o.size));have HX2:=zao (HX1.o.mono hb2) hm hb2.size;clear hv hm hb2 cL cX;go_wp2_with fail
 obtain⟨ms,hms⟩:=xN (marks l b.os);have HMS:=hid hms;rw[<- hms]at HX2 ⊢;clear hms;have h9:∀q,q<W0.heap.size+1+1+1->(own q).1=9:=HX1.o.zuh;have h99:∀q,x<=q->(own q).1=9:=fun q hq=>HX1.o.bk.out q (Or.inr hq)
 have hml:ms.length<=40:=by have h1:=zoP l b.os;rw[<- HMS.o]at h1;have:=HF.o.2.1.few;omega
 go_loopw [8] (fun iv wr=>∃k:Nat,k<=ms.length/\iv=.i k/\Hid (BkB (W0.heap.size+1+1+1) x x wr own { b with now:=b.now+k,os:=upTo ms b.now b.os k } d0 d1 d2 d3 e0 e1 e2 e3/\Left (fun q=>q=x \/ (own q).1=0) w2 wr)) (fun iv _=>ms.length-(intOf iv).toNat)
 case atStart=>exact⟨0,Nat.zero_le _,rfl,by
  have e:({ b with now:=b.now+((0:Nat):Int),os:=upTo ms b.now b.os 0 }:Bk)=b:=by simp[upTo]
  rw[e];exact HX2.o.1,Left.refl _ _⟩
 case round=>
  obtain⟨k,hk,rfl,HQ⟩:=hrel
  by_cases hlt:k<ms.length
  ·obtain⟨j,hj,hjl⟩:∃j:Nat,ms[k]=(j:Int)/\j<b.os.length:=by have h:=HMS.o;subst h;exact zoz hlt
   obtain⟨mb,moff,e9,hmb,hmc⟩:=((HX2.o.2.1.left HQ.o.2 (fun g hg e=>by have h1:=HX2.o.2.1.ge g hg;have h2:=HZ.o.2;have h3:=h99 g.block (by omega);omega)).at (by unfold maxLen;omega)).cells (by intro h;rw[h]at hlt;simp at hlt);have hmb9:x<mb:=by have h1:=HX2.o.2.1.ge _ e9;have h2:=HZ.o.2;have:W1.heap.size<=mb:=h1;omega
   subst e9;have cM:=hmc k hlt;rw[hj]at cM;obtain⟨g,C,rfl,hlo,hgo,hC,hs,hr⟩:=HQ.o.1.bk.os.rows (by show 0<(upTo _ _ _ _).length;rw[zeb];omega);have hl1:=zeb ms b.now b.os k;have hjl1:j<(upTo ms b.now b.os k).length:=by omega
   obtain⟨b1,hb1⟩:∃b1:Bk,b1={ b with now:=b.now+(k:Int),os:=upTo ms b.now b.os k }:=⟨_,rfl⟩
   have hX:=HQ.o.1;rw[<- hb1]at hX;have hjb:j<b1.os.length:=by rw[hb1];exact hjl1
   have hlb:b1.os.length=b.os.length:=by rw[hb1];exact hl1
   have hnow:b1.now=b.now+(k:Int):=by rw[hb1]
   have cX0:wr.cell? (aD x 0)=some (.i b1.now):=cell_of_block (o:=0) hX.box;have fX0:wr.frozen? (aD x 0)=false:=zf hX.box;have hxr:=hX.lt;have hltI:(k:Int)<(ms.length:Int):=by omega
   have hjI:(j:Int)<(b.os.length:Int):=by omega
   have hw1:wrap64 (b1.now+1)=b1.now+1:=zx _ ⟨by have:=HNW.o;omega,by have:=HNW.o;omega⟩;have HXN:=hid (hX.now (b1.now+1));have hgx:g≠x:=by rintro rfl;have:=HX1.o.out;rw[hgo]at this;cases this
   have hgm:g≠mb:=by rintro rfl;have:=h99 g (by omega);rw[hgo]at this;cases this
   have HG:=zty hgo hj hb1 hlb hgx hgm;have HMb:Hid (∀W,Left (fun q=>q=x \/ q=g) wr W->W.cell? (aD mb (moff+k))=some (.i j)):=fun W hW=>(World.cell?_of_block (a:=(aD mb (moff+k))) (hW.out mb hmb (fun e=>e.elim (fun e=>by omega) (fun e=>hgm e.symm)))).trans cM
   clear hr hs hC hmc hgo hlo hj hX hb1 hl1 hnow hlb
   go_upto_region 7 with fail
   refine jG (fun W=>BkB (W0.heap.size+1+1+1) x x W own { b1 with now:=b1.now+1 } (some (aD g 0)) d1 d2 d3 e0 e1 e2 e3/\Left (fun q=>q=x \/ q=g) wr W) ⟨HXN.o,(Left.one _ _ _ _).wide (fun q hq=>Or.inl hq)⟩ ?_;rintro W3⟨hX3,hL3⟩;clear cX0 fX0 hxr hw1 HXN;have hjbI:(j:Int)<(b1.os.length:Int):=by omega
   obtain⟨_,C3,ha3,_,_,hC3,_,hr3⟩:=hX3.bk.os.rows (by show 0<b1.os.length;omega)
   cases ha3
   have hEn:W3.drew.cell? (aD g (j*7+4))=some (.bool (jo b1.os j).en):=by
    obtain⟨a0,a1,c0,c1,hx⟩:=hr3 j hjb;exact(cell_of_block (w:=W3.drew) hC3).trans (hx.cell 4 (by omega))
   have fEn:W3.drew.frozen? (aD g (j*7+4))=false:=zf (w:=W3.drew) hC3;have hgw:g<W3.drew.heap.size:=(gES hC3).1;have hS:(∀t,W3.drew.cell? (aD x t)=(bC { b1 with now:=b1.now+1 } (some (aD g 0)) d1 d2 d3 e0 e1 e2 e3)[t]?)/\W3.drew.cell? (aD mb (moff+k))=some (.i j):=⟨fun t=>cell_of_block (w:=W3.drew) hX3.box,HMb.o W3 hL3⟩
   have hSe:∀v,(∀t,(W3.drew.setCell (aD g (j*7+4)) v).cell? (aD x t)=(bC { b1 with now:=b1.now+1 } (some (aD g 0)) d1 d2 d3 e0 e1 e2 e3)[t]?)/\(W3.drew.setCell (aD g (j*7+4)) v).cell? (aD mb (moff+k))=some (.i j):=fun v=>⟨fun t=>(World.cell?_setCell_far _ _ _ _ HG.o.2.2.2.2.1).trans (hS.1 t),(World.cell?_setCell_far _ _ _ _ HG.o.2.2.2.2.2).trans hS.2⟩
   have HE4:=yB ((hX3.mono (bRf _ _).drew).cell j 4 hjb (by omega) (.bool true) { b1.os[j] with en:=true } rfl rfl (zpv _ _ 4 _ (fun _ _ _ _=>rfl) (by omega))) ((hL3.trans (Left.of_below _ (bRf _ _).drew)).set (b:=g) (Or.inr rfl) (j*7+4) (.bool true));clear hC3 hr3 hX3 hL3;refine wp_region_held_drew (S:=fun W=>(∀t,W.cell? (aD x t)=(bC { b1 with now:=b1.now+1 } (some (aD g 0)) d1 d2 d3 e0 e1 e2 e3)[t]?)/\W.cell? (aD mb (moff+k))=some (.i j)) (by kernel_rfl) hS (fun H_=>?_);refine tG 0 ?_;refine tG 1 ?_;refine tG 2 ?_;refine tG 3 ?_;refine tG 4 ?_;refine tG 5 ?_;refine cH 6 rfl fun K hK=>?_
   go_simp
   refine hK.out _ _ hS (fun H_=>?_);clear hK K
   (try simp only[Act.put,sA,s0,sS])
   refine tG 7 ?_;refine cH 8 rfl fun K hK=>?_
   go_simp
   refine hK.out _ _ (hSe _) (fun H_=>?_);clear hK K H_ hS
   (try simp only[Act.put,sA,s0,sS])
   refine wpAnyH_done (by kernel_rfl) ?_ _;clear hSe hEn fEn hgw
   go_upto_region 8 with fail
   refine jG (fun W=>BkB (W0.heap.size+1+1+1) x x W own { b1 with now:=b1.now+1,os:=b1.os.set j { b1.os[j] with en:=true } } (some (aD g 0)) d1 d2 d3 e0 e1 e2 e3/\Left (fun q=>q=x \/ q=g) wr W) HE4.o ?_;clear HE4;rintro W4 hE4;have HE4:=hid hE4;clear hE4;have hjb4:j<(b1.os.set j { b1.os[j] with en:=true }).length:=by rw[List.length_set];exact hjb
   have hL4:(b1.os.set j { b1.os[j] with en:=true }).length=b1.os.length:=List.length_set;obtain⟨_,C3,ha3,_,_,hC3,_,hr3⟩:=HE4.o.1.bk.os.rows (by show 0<(b1.os.set j _).length;rw[hL4];omega)
   cases ha3
   have hVr:W4.drew.cell? (aD g (j*7+6))=some (.i (jo (b1.os.set j { b1.os[j] with en:=true }) j).vr):=by
    obtain⟨a0,a1,c0,c1,hx⟩:=hr3 j hjb4;exact(cell_of_block (w:=W4.drew) hC3).trans (hx.cell 6 (by omega))
   have fVr:W4.drew.frozen? (aD g (j*7+6))=false:=zf (w:=W4.drew) hC3;have hgw:g<W4.drew.heap.size:=(gES hC3).1
   have hcX:∀t,W4.drew.cell? (aD x t)=(bC { b1 with now:=b1.now+1 } (some (aD g 0)) d1 d2 d3 e0 e1 e2 e3)[t]?:=fun t=>by
    have h1:=cell_of_block (w:=W4.drew) (o:=t) HE4.o.1.box;simp only[bC,hL4]at h1;exact h1
   have hS:(∀t,W4.drew.cell? (aD x t)=(bC { b1 with now:=b1.now+1 } (some (aD g 0)) d1 d2 d3 e0 e1 e2 e3)[t]?)/\W4.drew.cell? (aD mb (moff+k))=some (.i j):=⟨hcX,HMb.o W4 HE4.o.2⟩
   have hSe:∀v,(∀t,(W4.drew.setCell (aD g (j*7+6)) v).cell? (aD x t)=(bC { b1 with now:=b1.now+1 } (some (aD g 0)) d1 d2 d3 e0 e1 e2 e3)[t]?)/\(W4.drew.setCell (aD g (j*7+6)) v).cell? (aD mb (moff+k))=some (.i j):=fun v=>⟨fun t=>(World.cell?_setCell_far _ _ _ _ HG.o.2.2.2.2.1).trans (hS.1 t),(World.cell?_setCell_far _ _ _ _ HG.o.2.2.2.2.2).trans hS.2⟩
   have HE5:=yB ((HE4.o.1.mono (bRf _ _).drew).cell j 6 hjb4 (by omega) (.i (b1.now+1)) { (b1.os.set j { b1.os[j] with en:=true })[j] with vr:=b1.now+1 } rfl rfl (zpv _ _ 6 _ (fun _ _ _ _=>rfl) (by omega))) ((HE4.o.2.trans (Left.of_below _ (bRf _ _).drew)).set (b:=g) (Or.inr rfl) (j*7+6) (.i (b1.now+1)));clear hC3 hr3 hcX hL4;refine wp_region_held_drew (S:=fun W=>(∀t,W.cell? (aD x t)=(bC { b1 with now:=b1.now+1 } (some (aD g 0)) d1 d2 d3 e0 e1 e2 e3)[t]?)/\W.cell? (aD mb (moff+k))=some (.i j)) (by kernel_rfl) hS (fun H_=>?_);refine tG 0 ?_;refine tG 1 ?_;refine tG 2 ?_;refine tG 3 ?_;refine tG 4 ?_;refine tG 5 ?_;refine tG 6 ?_;refine tG 7 ?_;refine cH 8 rfl fun K hK=>?_
   go_simp
   refine hK.out _ _ hS (fun H_=>?_);clear hK K
   (try simp only[Act.put,sA,s0,sS])
   refine tG 9 ?_;refine cH 10 rfl fun K hK=>?_
   go_simp
   refine hK.out _ _ (hSe _) (fun H_=>?_);clear hK K H_ hS
   (try simp only[Act.put,sA,s0,sS])
   refine wpAnyH_done (by kernel_rfl) ?_ _
   have HE:Hid (BkB (W0.heap.size+1+1+1) x x (W4.drew.setCell (aD g (j*7+6)) (.i (b1.now+1))) own { b with now:=b.now+((k+1:Nat):Int),os:=upTo ms b.now b.os (k+1) } (some (aD g 0)) d1 d2 d3 e0 e1 e2 e3/\Left (fun q=>q=x \/ (own q).1=0) w2 (W4.drew.setCell (aD g (j*7+6)) (.i (b1.now+1)))):=by
    refine⟨?_,HQ.o.2.trans (HE5.o.2.wide (fun q hq=>hq.imp id (fun e=>by rw[e,HG.o.1])))⟩;have h1:=HG.o.2.2.1;have h2:=HE5.o.1;subst h1;rw[zpS HMS.o hlt HG.o.2.1 hjl1 (by rw[List.length_set];exact hjl1)];exact h2
   clear HE5 HE4 hSe hVr fVr hgw;go_wp2
   exact⟨⟨k+1,by omega,by go_num,HE.o⟩,zi hlt⟩
  ·obtain rfl:k=ms.length:=by omega
   obtain⟨W4,rfl⟩:=xN (wr);have HB04:Hid (Bw W0 W4):=HB02.o.trans (HQ.o.2.below (fun q hq e=>e.elim (fun e=>by omega) (fun e=>by have:=h9 q (by omega);omega)) HB02.o.size);obtain⟨b1,hb1⟩:∃b1:Bk,b1={ b with now:=zru l b,os:=zd3 l b }:=⟨_,rfl⟩
   have hX4:BkB (W0.heap.size+1+1+1) x x W4 own b1 d0 d1 d2 d3 e0 e1 e2 e3:=by
    have h1:=HQ.o.1;rw[HMS.o]at h1;rw[hb1];exact h1
   have hal:Alike b.os b1.os:=by rw[hb1];exact zeE _ _ _ _
   have hO1:zcZ l b1.os:=hal.ok HF.o.2.1
   have hsm1:b1.Small:=by
    have h1:=HK.o.2.1.small;have h2:=hal.1;have h3:=h1.lo;exact⟨hal.small h1.os,by omega,by rw[hb1];exact h1.gs,by rw[hb1];exact h1.lg,by rw[hb1];exact h1.ls,by rw[hb1];exact h1.ll,by rw[hb1];exact h1.ps,by rw[hb1];exact h1.lp⟩
   have hfw1:=hal.few HK.o.2.2.1.os.2;have hln1:b1.ls.length<=10:=by rw[hb1];exact HF.o.2.2.len
   have hn1:0<=b1.now/\b1.now<=1000040:=by
    have e1:b1.now=b.now+(ms.length:Int):=by rw[hb1,HMS.o];rfl
    have:=HNW.o
    omega
   have hln2:b1.os.length<=40:=hO1.few;have HO1:=zty hO1 hsm1 hfw1 hal.1 hb1 hn1;have HX4:=hid hX4;have hzX4:=hX4.lt;have HEl:Hid ((endings b1.os).length=b1.os.length):=by simp[Hid,endings]
   have hzL4:w.heap.size<W4.heap.size:=by have:=HB04.o.size;have:=HZ.o;omega
   have HS:Hid (∀W,Bw W4 W->(∀j,W.cell? (aD w.heap.size j)=(lC l la lb lc lca lcb lcc)[j]?)/\(∀j,W.cell? (aD x j)=(bC b1 d0 d1 d2 d3 e0 e1 e2 e3)[j]?)):=fun W hW=>⟨fun j=>cell_of_block (HK1.o W (HB04.o.trans (hW.mono HB04.o.size))).1,fun j=>cell_of_block ((hW.block x hzX4).trans HX4.o.box)⟩
   clear hb1 hal hO1 hsm1 hfw1 hX4 HQ hlt hk hn1
   go_upto_region 9 with fail
   have hBd:=(bRf W4.heap.size W4).drew;have hS:=HS.o _ hBd;refine wp_region_held_drew (S:=fun W=>(∀j,W.cell? (aD w.heap.size j)=(lC l la lb lc lca lcb lcc)[j]?)/\(∀j,W.cell? (aD x j)=(bC b1 d0 d1 d2 d3 e0 e1 e2 e3)[j]?)) (by kernel_rfl) hS (fun H_=>?_);refine tG 0 ?_;refine tG 1 ?_;refine tG 2 ?_;refine cH 3 rfl fun K hK=>?_
   go_simp
   refine(zow b1 d0 d1 d2 d3 e0 e1 e2 e3 _ (BkL.at (HX4.o.mono hBd).bk HO1.o.2.1) (by omega)).mono ?_;rintro e w3⟨ge,gc,rfl,hbl3,hb3⟩;have hB3:=hBd.trans (hb3.mono hBd.size);have hS3:=HS.o w3 hB3
   (try go_wp2_with fail)
   refine hK.out _ _ hS3 (fun H_=>?_);clear hK K hS hBd hb3
   (try simp only[Act.put,sA,s0,sS])
   refine cH 4 rfl fun K hK=>?_
   go_simp
   have hgr:=zkS l la lb lc lca lcb lcc b1 d0 d1 d2 d3 e0 e1 e2 e3 ge 0 gc (endings b1.os) w3 (HK.o.1.mono (HB0.o.trans ((HB04.o.trans (hB3.mono HB04.o.size)).mono HB0.o.size))) (BkL.at (HX4.o.mono hB3).bk HO1.o.2.1) hbl3 HEl.o ⟨hln2,HO1.o.1.whole⟩ (fun i h=>(HO1.o.2.2.1 i h).1);rw[HEl.o]at hgr;refine hgr.mono ?_;rintro e w5⟨ga,gac,rfl,hbl5,hb5,hge⟩;have hB5:=hB3.trans (hb5.mono hB3.size);have hS5:=HS.o w5 hB5
   (try go_wp2_with fail)
   refine hK.out _ _ hS5 (fun H_=>?_);obtain⟨s,hs⟩:=xN (goS l b1.os);have hsl:s.length=b1.os.length:=by rw[hs];exact zgW l b1.os
   have HS5:Hid (zcG w5 ga s/\s=goS l b1.os/\s.length=b1.os.length/\(∀g,ga=some g->W4.heap.size<=g.block)/\Bw W4 w5):=⟨by rw[hs];exact hbl5,hs,hsl,fun g hg=>Nat.le_trans hB3.size (hge g hg),hB5⟩
   clear hK K hS3 hgr hbl3 hbl5 hb5 hge hs hsl hB3 hB5
   (try simp only[Act.put,sA,s0,sS])
   refine tG 5 ?_;refine wpAnyH_done (by kernel_rfl) ?_ _;clear H_ hS5;have HB05:=hid (HB04.o.trans (HS5.o.2.2.2.2.mono HB04.o.size));have HX5:=hid (HX4.o.mono HS5.o.2.2.2.2);have hz5:=HS5.o.2.2.2.2.size
   have HR5:Hid (zd2 w5.heap.size (w5.alloc (.cells #[] 116)) (fun q=>if q<w5.heap.size then (9,0,0) else (0,0,0)) (.l (some (aD w5.heap.size 0)) 0 0) []):=
    ⟨[],rfl,⟨rfl,.inr ⟨w5.heap.size,0,#[],rfl,Nat.le_refl _,World.alloc_heap_new _ _,Nat.le_refl _,by simp[maxLen],rfl,rfl⟩⟩,fun k hk=>by cases hk;exact if_neg (Nat.lt_irrefl _),fun i hi=>absurd hi (by simp)⟩
   have HBa:=hid ((bRf w5.heap.size w5).alloc (Nat.le_refl _) (.cells #[] 116));obtain⟨G,hG⟩:=xN (zcF b1.os (places s));have HG:=hid hG;clear hG;go_wp2
   go_loopw [12,10,11] (fun iv vv nv wr=>∃(k:Nat) (v:Value) (ownL:Nat->Lb),v=vv/\k<=b1.os.length/\iv=.i k/\nv=.i ((ms.length+(yE s k).length:Nat):Int)/\Hid (BkB (W0.heap.size+1+1+1) x x wr own { b1 with now:=(fixes l G (qx b1.os s k) b1.now).2,ls:=lets l b1.os (yE s k) b1.ls } d0 d1 d2 d3 e0 e1 e2 e3/\zd2 w5.heap.size wr ownL v (fixes l G (qx b1.os s k) b1.now).1/\(∀q,q<w5.heap.size->ownL q=(9,0,0))/\Left (fun q=>q=x \/ (own q).1=2) w5 wr)) (fun iv _ _ _=>b1.os.length-(intOf iv).toNat)
   case atStart=>exact⟨0,_,_,rfl,Nat.zero_le _,rfl,rfl,HX5.o.mono HBa.o,HR5.o,fun q hq=>if_pos hq,Left.of_below _ HBa.o⟩
   case round=>
    obtain⟨k,v,ownL,rfl,hk,rfl,rfl,HQ⟩:=hrel;have hzr:=HQ.o.2.2.2.size;have HBr:Hid (Bw W0 wr):=HB05.o.trans (HQ.o.2.2.2.below (fun q hq e=>e.elim (fun e=>by omega) (fun e=>by have:=h9 q (by omega);omega)) HB05.o.size);obtain⟨kL,_,kR⟩:=HK1.o wr HBr.o;have hnow:=zmL l G b1.now (qx b1.os s k);have hkl:=zmR b1.os s k;have hpl:=zdA s k
    have h2L:∀q,(ownL q).1=0->¬(q=x \/ (own q).1=2):=fun q hq e=>by
     by_cases hq5:q<w5.heap.size
     ·rw[HQ.o.2.2.1 q hq5]at hq;cases hq
     ·have h3:=h99 q (by omega);rcases e with e|e <;> omega
    have hz0:=HZ.o.1;have hzr0:=HBr.o.size
    by_cases hlt:k<b1.os.length
    ·have hks:k<s.length:=by have:=HS5.o.2.2.1;omega
     obtain⟨sb,soff,e9,hsb,hsc⟩:=(HS5.o.1.left HQ.o.2.2.2 (fun g hg e=>by have h1:=HS5.o.2.2.2.1 g hg;have h3:=h99 g.block (by omega);rcases e with e|e <;> omega)).cells (by intro h;rw[h]at hks;simp at hks);have HSB:=hid (HS5.o.1.left HQ.o.2.2.2 (fun g hg e=>by have h1:=HS5.o.2.2.2.1 g hg;have h3:=h99 g.block (by omega);rcases e with e|e <;> omega));subst e9;have cS:=hsc k hks;have cL:=fun j=>cell_of_block (o:=j) kL
     have cX:=fun j=>cell_of_block (o:=j) HQ.o.1.box
     have hzX5:=HQ.o.1.lt;have hzL5:w.heap.size<wr.heap.size:=by omega
     have hltI:(k:Int)<(b1.os.length:Int):=by omega
     have hgd:s.getD k false=s[k]:=by rw[List.getD_eq_getElem?_getD,List.getElem?_eq_getElem hks];rfl
     have HGD:=hid hgd;clear hsc hgd kL kR;obtain⟨bb,hbb⟩:∃bb:Bk,bb={ b1 with now:=(fixes l G (qx b1.os s k) b1.now).2,ls:=lets l b1.os (yE s k) b1.ls }:=⟨_,rfl⟩
     have hXb:=HQ.o.1;rw[<- hbb]at hXb cX;have hlB:k<bb.os.length:=by rw[hbb];exact hlt
     have hsmB:zbJ bb.os:=by rw[hbb];exact HO1.o.2.1.os
     obtain⟨o,ho⟩:=xN (b1.os[k]);have hoB:bb.os[k]=o:=by subst hbb;exact ho.symm
     have hltB:(k:Int)<(bb.os.length:Int):=by omega
     have HBB:=zkq hbb ho hoB hXb hsmB;have HN2:=yB h2L hnow;clear hbb ho hXb hsmB h2L hnow
     cases hsk:s[k] with
     | true=>
      rw[hsk]at cS;obtain⟨g,va,ha,q0,q1,rfl,hgo,hgr,hcell0,hOb0⟩:=HBB.o.2.2.2.1.ob k hlB HBB.o.2.2.2.2;rw[hoB]at hcell0 hOb0;clear hoB
      have HSS:Hid (∀(S0:Nat->Prop) W,Left S0 wr W->(∀q,S0 q->(own q).1≠9/\(own q).1≠0)->(∀j,W.cell? (aD w.heap.size j)=(lC l la lb lc lca lcb lcc)[j]?)/\(∀j,W.cell? (aD x j)=(bC bb (some (aD g 0)) d1 d2 d3 e0 e1 e2 e3)[j]?)/\W.cell? (aD g (k*7))=some (.s o.kd)/\W.cell? (aD g (k*7+1))=some (.s o.nm)/\W.cell? (aD g (k*7+2))=some (.s o.tm)/\W.cell? (aD g (k*7+3))=some (.l va o.vs.length q0)/\W.cell? (aD g (k*7+4))=some (.bool o.en)/\W.cell? (aD g (k*7+5))=some (.l ha o.hs.length q1)/\W.cell? (aD g (k*7+6))=some (.i o.vr)):=fun S0 W hW hS0=>by
       have h1:∀t,t<7->W.cell? (aD g (k*7+t))=(oC o va ha q0 q1)[t]?:=fun t ht=>(World.cell?_of_block (a:=(aD g (k*7+t))) (hW.out g hgr (fun h=>(hS0 g h).2 (by rw[hgo])))).trans (hcell0 t ht)
       exact⟨fun j=>(World.cell?_of_block (a:=(aD w.heap.size j)) (hW.out w.heap.size hzL5 (fun h=>(hS0 _ h).1 (h9 w.heap.size (by omega))))).trans (cL j),fun j=>(World.cell?_of_block (a:=(aD x j)) (hW.out x hzX5 (fun h=>(hS0 _ h).1 (h99 x (Nat.le_refl _))))).trans (cX j),h1 0 (by omega),h1 1 (by omega),h1 2 (by omega),h1 3 (by omega),h1 4 (by omega),h1 5 (by omega),h1 6 (by omega)⟩
      have HOb:=yB hOb0 hgo;clear hOb0 hcell0
      go_upto_region 16 with fail
      clear cS cL cX;have hBd:=(bRf wr.heap.size wr).drew;have hS:=HSS.o (fun _=>False) wr.drew (Left.of_below _ hBd) (fun _ h=>h.elim);refine wp_region_held_drew (S:=fun W=>(∀j,W.cell? (aD w.heap.size j)=(lC l la lb lc lca lcb lcc)[j]?)/\(∀j,W.cell? (aD x j)=(bC bb (some (aD g 0)) d1 d2 d3 e0 e1 e2 e3)[j]?)/\W.cell? (aD g (k*7))=some (.s o.kd)/\W.cell? (aD g (k*7+1))=some (.s o.nm)/\W.cell? (aD g (k*7+2))=some (.s o.tm)/\W.cell? (aD g (k*7+3))=some (.l va o.vs.length q0)/\W.cell? (aD g (k*7+4))=some (.bool o.en)/\W.cell? (aD g (k*7+5))=some (.l ha o.hs.length q1)/\W.cell? (aD g (k*7+6))=some (.i o.vr)) (by kernel_rfl) hS (fun H_=>?_);refine tG 0 ?_;refine tG 1 ?_;refine tG 2 ?_;refine tG 3 ?_;refine tG 4 ?_;refine tG 5 ?_;refine tG 6 ?_;refine cH 7 rfl fun K hK=>?_
      go_simp
      refine(zsg _ _ x own bb _ d1 d2 d3 e0 e1 e2 e3 l la lb lc lca lcb lcc o va ha q0 q1 wr.drew (HBB.o.2.2.2.1.mono hBd) (fun W hW=>?_) (by rw[HBB.o.2.1];exact(HO1.o.2.2.1 k hlt).1) (by rw[HBB.o.1];show(lets _ _ _ _).length<=10;rw[zd0];exact hln1)).mono ?_
      ·have hW':Left (fun q=>(own q).1=2) wr W:=(Left.of_below _ hBd).trans hW
       have h1:=HBr.o.trans (hW'.below (B:=W0.heap.size) (fun q hq e=>by have:=h9 q (by omega);omega) HBr.o.size);exact⟨HK.o.1.mono (HB0.o.trans (h1.mono HB0.o.size)),HOb.o.1 _ W hW' (fun q hq=>by omega)⟩
      rintro e w7⟨rfl,hB7,hL7⟩;have hL7':Left (fun q=>(own q).1=2) wr w7:=(Left.of_below _ hBd).trans hL7;have hS7:=HSS.o _ w7 hL7' (fun q hq=>by omega)
      have HE:Hid (BkB (W0.heap.size+1+1+1) x x w7 own { b1 with now:=(fixes l G (qx b1.os s (k+1)) b1.now).2,ls:=lets l b1.os (yE s (k+1)) b1.ls } (some (aD g 0)) d1 d2 d3 e0 e1 e2 e3/\zd2 w5.heap.size w7 ownL v (fixes l G (qx b1.os s (k+1)) b1.now).1/\(∀q,q<w5.heap.size->ownL q=(9,0,0))/\Left (fun q=>q=x \/ (own q).1=2) w5 w7):=by
       rw[zoB (HGD.o.trans hsk),zeH hks hsk,zmV,Int.toNat_natCast,qW hlt,<- HBB.o.2.1];refine⟨?_,HQ.o.2.1.left hL7' (fun q hq e=>HN2.o.1 q hq (Or.inr e)),HQ.o.2.2.1,HQ.o.2.2.2.trans (hL7'.wide (fun q hq=>Or.inr hq))⟩;have h1:=HBB.o.1;subst h1;exact hB7
      have HNN:Hid (((ms.length+(yE s (k+1)).length:Nat):Int)=(ms.length:Int)+((yE s k).length:Int)+1):=by rw[Hid,zeH hks hsk,List.length_append];simp;omega
      (try go_wp2_with fail)
      refine hK.out _ _ hS7 (fun H_=>?_);clear hK K hS hBd hB7 hL7 hL7' hS7
      (try simp only[Act.put,sA,s0,sS])
      refine wpAnyH_done (by kernel_rfl) ?_ _;clear H_;go_wp2
      exact⟨⟨k+1,v,ownL,rfl,by omega,by go_num,by rw[HNN.o],HE.o⟩,zi hlt⟩
     | false=>
      rw[hsk]at cS
      have hsm:bb.Small:=by
       have h1:=HO1.o.2.1;rw[HBB.o.1];refine⟨h1.os,h1.lo,h1.gs,h1.lg,fun i hi=>?_,?_,h1.ps,h1.lp⟩
       ·exact zgG l b1.os _ _ (fun g hg=>by obtain⟨z,hz,rfl⟩:=List.mem_iff_getElem.1 hg;exact h1.ls z hz) _ (List.getElem_mem hi)
       ·show(lets _ _ _ _).length<=_
        rw[zd0];exact h1.ll
      have hEm:=zoW l la lb lc lca lcb lcc bb d0 d1 d2 d3 e0 e1 e2 e3 (some (aD sb soff)) gac s k o G wr (HK.o.1.mono (HB0.o.trans (HBr.o.mono HB0.o.size))) (BkL.at HBB.o.2.2.2.1.bk hsm) HSB.o (by rw[HBB.o.1];exact HS5.o.2.2.1) hlB hoB (by rw[HBB.o.1];exact HO1.o.1) (by rw[HBB.o.2.1];exact HO1.o.2.2.1 k hlt) (by
       have h1:=HBB.o.1;subst h1;intro j hj;rw[HG.o,HS5.o.2.1];exact zmX HO1.o.1.one j hj)
      rw[HS5.o.2.2.1]at hEm;obtain⟨tt,htt⟩:=xN (leans l G o);rw[<- htt]at hEm;have HTT:=yB htt (jY (G:=G) (lks l o) o.vs);clear hsm htt;go_wp2_with fail
      refine hEm.mono ?_;rintro e w7⟨a,dap,a',dap',m,rfl,ht,hm,hwm,ht',hb7⟩;obtain⟨W8,hW8,kO,hba,hz8⟩:=zpa w7 (.cells (oC o a a' dap dap') 116);clear hEm cS cL cX
      go_upto_if 84 with fail
      rw[<- hW8];clear hW8;have hz7:=hb7.size;have hB8:=hb7.trans (hba.mono hb7.size);have hX8:=HBB.o.2.2.2.1.mono hB8;have ha7:∀g,a=some g->wr.heap.size<=g.block/\g.block<w7.heap.size:=fun g hg=>⟨zka ht g hg,ht.lt g hg⟩
      have ha7':∀g,a'=some g->wr.heap.size<=g.block/\g.block<w7.heap.size:=fun g hg=>⟨Nat.le_trans hwm (zka ht' g hg),ht'.lt g hg⟩
      have H8:=zty hX8 kO (ht.mono hba) (ht'.mono hba) hB8 (And.intro ha7 ha7');have HM:=yB hm hwm;clear hm hwm ht ht' hb7 hba kO hB8 hX8 ha7 ha7'
      go_cut [14] from 56 to 95 (fun vx W=>vx=.bool tt/\Hid (BkB (W0.heap.size+1+1+1) x x W own { bb with now:=bif tt then bb.now+1 else bb.now } d0 d1 d2 d3 e0 e1 e2 e3/\W.heap[w7.heap.size]?=some (.cells (oC { o with vr:=bif tt then bb.now+1 else o.vr } a a' dap dap') 116)/\zk wr.heap.size W a (zS G (lks l o) o.vs)/\zk m W a' o.hs/\∃wr',wr'.heap.size=wr.heap.size/\Left (fun q=>q=x) wr wr'/\Below wr.heap.size wr' W))
      case first=>
       cases tt with
       | false=>
        go_wp2
        go_meet
        case rel=>exact⟨rfl,H8.o.1,H8.o.2.1,H8.o.2.2.1,H8.o.2.2.2.1,wr,rfl,Left.refl _ _,H8.o.2.2.2.2.1⟩
       | true=>
        have cX:=cell_of_block (o:=0) H8.o.1.box;have fX:=zf (o:=0) H8.o.1.box;have cO:=fun j=>cell_of_block (o:=j) H8.o.2.1
        have fO:=fun j=>zf (o:=j) H8.o.2.1
        have hzX8:=H8.o.1.lt;have hzO8:w7.heap.size<W8.heap.size:=by omega
        have hxO:x≠w7.heap.size:=by omega
        have hn9:0<=bb.now/\bb.now<=1000080:=by rw[HBB.o.1];have h1:=HN2.o.2;have h2:=HO1.o.2.2.2.2.2;show 0<=(fixes _ _ _ _).2/\(fixes _ _ _ _).2<=_;omega
        have hw1:wrap64 (bb.now+1)=bb.now+1:=zx _ ⟨by omega,by omega⟩
        have HE:Hid (BkB (W0.heap.size+1+1+1) x x ((W8.setCell (aD x 0) (.i (bb.now+1))).setCell (aD w7.heap.size 6) (.i (bb.now+1))) own { bb with now:=bb.now+1 } d0 d1 d2 d3 e0 e1 e2 e3/\((W8.setCell (aD x 0) (.i (bb.now+1))).setCell (aD w7.heap.size 6) (.i (bb.now+1))).heap[w7.heap.size]?=some (.cells (oC { o with vr:=bb.now+1 } a a' dap dap') 116)/\zk wr.heap.size ((W8.setCell (aD x 0) (.i (bb.now+1))).setCell (aD w7.heap.size 6) (.i (bb.now+1))) a (zS G (lks l o) o.vs)/\zk m ((W8.setCell (aD x 0) (.i (bb.now+1))).setCell (aD w7.heap.size 6) (.i (bb.now+1))) a' o.hs/\∃wr',wr'.heap.size=wr.heap.size/\Left (fun q=>q=x) wr wr'/\Below wr.heap.size wr' ((W8.setCell (aD x 0) (.i (bb.now+1))).setCell (aD w7.heap.size 6) (.i (bb.now+1)))):=by
         have hL1:Left (fun q=>q=x \/ q=w7.heap.size) W8 ((W8.setCell (aD x 0) (.i (bb.now+1))).setCell (aD w7.heap.size 6) (.i (bb.now+1))):=Left.set (S:=fun q=>q=x \/ q=w7.heap.size) (Left.set (S:=fun q=>q=x \/ q=w7.heap.size) (Left.refl _ _) (Or.inl rfl) 0 _) (Or.inr rfl) 6 _;have hX1:=(H8.o.1.now (bb.now+1)).left (Left.one _ w7.heap.size 6 (.i (bb.now+1))) (fun q hq e=>by have:=h99 q (by omega);omega) hxO;refine⟨hX1,?_,H8.o.2.2.1.left hL1 (fun g hg e=>by have:=H8.o.2.2.2.2.2.1 g hg;omega),H8.o.2.2.2.1.left hL1 (fun g hg e=>by have:=H8.o.2.2.2.2.2.2 g hg;omega),wr.setCell (aD x 0) (.i (bb.now+1)),World.size_setCell _ _ _,Left.one _ _ _ _,?_⟩
         ·exact zh ((zA (fun e=>hxO e.symm)).trans H8.o.2.1) _
         ·refine⟨hL1.os.trans H8.o.2.2.2.2.1.os,hL1.tape.trans H8.o.2.2.2.2.1.tape,hL1.output.trans H8.o.2.2.2.2.1.output,by rw[World.size_setCell,World.size_setCell,World.size_setCell];omega,fun q hq=>?_⟩
          by_cases e:q=x
          ·subst e
           exact hX1.box.trans (HBB.o.2.2.2.1.now (bb.now+1)).box.symm
          ·rw[hL1.out q (by omega) (by omega),H8.o.2.2.2.2.1.block q hq]
           exact(zA e).symm
        clear hn9;go_wp2
        go_meet
        case rel=>exact⟨rfl,HE.o⟩
      case rest=>
       obtain⟨rfl,H9⟩:=hcut;obtain⟨W9,rfl⟩:=xN (wc);obtain⟨hX9,kO9,ht9,ht9',wr',hz',hL',hB'⟩:=H9.o;obtain⟨vr2,hvr2⟩:∃vr2:Int,vr2=bif tt then bb.now+1 else o.vr:=⟨_,rfl⟩
       rw[<- hvr2]at kO9;have cO:=fun j=>cell_of_block (o:=j) kO9
       have hzO9:=(gES kO9).1;obtain⟨ps,hps,hown,hlab,hent⟩:=HQ.o.2.1.left hL' (fun q hq e=>HN2.o.1 q hq (Or.inl e))
       have hpl9:ps.length=(qx b1.os s k).length:=by
        have h1:=congrArg List.length hps;rw[List.length_map,zdS]at h1;exact h1
       have HPL:Hid (ps.length<=40):=by show _<=_;omega
       rw[<- hz']at hB';have hownW:=yc hown hB';have HPS:=j3 hps hown hlab hent;have HW9:=zty hX9 ht9 ht9' hz' hL' hB';have HV2:=hid hvr2;have hz9:w7.heap.size<W9.heap.size:=hzO9;clear hpl9 hps hown hlab hent hX9 ht9 ht9' hL' hB' hvr2 H9
       go_wp2_with (at_builtin;refine zcr ?_)
       show wpList _ _ _ _ _ _
       refine wpList_append_own_at _ rfl (.tmp 92) (.tmp 94) 35 rfl w5.heap.size 116 i0 (.agg oZ) 7 112 Tryz.underlying35 HI0.o.1 HI0.o.2.1 HI0.o.2.2.1 HI0.o.2.2.2 rfl (by decide) _ _ _ rfl (hownW.alloc _) (aD W9.heap.size 0) 1 1 [.s o.kd,.s o.nm,.s o.tm,.l a o.vs.length dap,.bool o.en,.l a' o.hs.length dap',.i vr2] rfl rfl (zfi _ _ _) (by intro u hu;simp at hu;rcases hu with rfl|rfl|rfl|rfl|rfl|rfl|rfl <;> rfl) (by have:=HPL.o;unfold maxLen;omega) (by have:=HPL.o;omega) (by simp;omega) ?_;intro v' w10 hown' hgr _ hat;obtain⟨hX9,ht9,ht9',hz',hL',hB'⟩:=HW9.o;have hrow:w10.ownsRow w5.heap.size 116 7 v' (ps.length+1) (ps.flatMap ObP.row++[.s o.kd,.s o.nm,.s o.tm,.l a (zS G (lks l o) o.vs).length dap,.bool o.en,.l a' o.hs.length dap',.i vr2]):=by rw[HTT.o.2];exact hown'
       obtain⟨own',ho1,ho2⟩:=zd2.snoc (x:={ o with vs:=zS G (lks l o) o.vs,vr:=vr2 }) HPS.o.1 HPS.o.2.1 HPS.o.2.2.1 HPS.o.2.2.2 (by omega) hB' (by rw[hz'];exact ht9) HM.o.1 (by rw[hz'];exact HM.o.2) ht9' hgr hrow hat;have hvb:∀z,v.ownBlock=some z->w5.heap.size<=z/\z<wr'.heap.size:=fun z hz=>HPS.o.2.1.lt z hz
       have hL10:Left (fun z=>v.ownBlock=some z) W9 w10:=(Left.of_below _ (bAl _ _)).grown hgr (fun _ h=>h);have hfx:=zpD l G bb.now o
       have HE:Hid (BkB (W0.heap.size+1+1+1) x x w10 own { b1 with now:=(fixes l G (qx b1.os s (k+1)) b1.now).2,ls:=lets l b1.os (yE s (k+1)) b1.ls } d0 d1 d2 d3 e0 e1 e2 e3/\zd2 w5.heap.size w10 own' v' (fixes l G (qx b1.os s (k+1)) b1.now).1/\(∀q,q<w5.heap.size->own' q=(9,0,0))/\Left (fun q=>q=x \/ (own q).1=2) w5 w10):=by
        rw[zo5 hlt (HGD.o.trans hsk),zfp hks hsk,zgC,<- HBB.o.2.1];have hN:bb.now=(fixes l G (qx b1.os s k) b1.now).2:=by rw[HBB.o.1]
        rw[<- hN,hfx.1,hfx.2,<- HTT.o.1,<- HV2.o];refine⟨?_,ho2,fun q hq=>(ho1 q (by omega)).trans (HQ.o.2.2.1 q hq),hL10.os.trans ((hB'.os.trans hL'.os).trans HQ.o.2.2.2.os),hL10.tape.trans ((hB'.tape.trans hL'.tape).trans HQ.o.2.2.2.tape),hL10.output.trans ((hB'.output.trans hL'.output).trans HQ.o.2.2.2.output),by have:=hL10.size;omega,fun q hq hn=>?_⟩
        ·have h1:=hX9.left hL10 (fun q hq e=>by have h8:=hvb q e;have:=h99 q (by omega);omega) (fun e=>by have h8:=hvb x e;omega)
         have h2:=HBB.o.1;subst h2;exact h1
        ·rw[hL10.out q (by omega) (fun e=>by have h8:=hvb q e;omega),hB'.block q (by omega),hL'.out q (by omega) (fun e=>hn (Or.inl e)),HQ.o.2.2.2.out q hq hn]
       have HNN:Hid (((ms.length+(yE s (k+1)).length:Nat):Int)=(ms.length:Int)+((yE s k).length:Int)):=by rw[Hid,zfp hks hsk];simp
       clear hX9 ht9 ht9' hL' hB' hrow ho1 ho2 hL10 hown' hgr hat hownW cO kO9 hfx;go_wp2
       exact⟨⟨k+1,v',own',rfl,by omega,by go_num,by rw[HNN.o],HE.o⟩,zi hlt⟩
    ·obtain rfl:k=b1.os.length:=by omega
     obtain⟨va,vc,rfl,hos⟩:=HQ.o.2.1.lie;obtain⟨b3,hb3⟩:∃b3:Bk,b3={ b1 with now:=(fixes l G (qx b1.os s b1.os.length) b1.now).2,ls:=lets l b1.os (yE s b1.os.length) b1.ls,os:=(fixes l G (qx b1.os s b1.os.length) b1.now).1 }:=⟨_,rfl⟩
     have HPP:Hid (yE s b1.os.length=places s):=by unfold Hid places;rw[HS5.o.2.2.1]
     have HSW:Hid (za7 l b=b3):=by
      have h2:=HO1.o.2.2.2.1;have h3:=HO1.o.2.2.2.2.1;unfold Hid;rw[hb3,HPP.o,HG.o,HS5.o.2.1];unfold za7;subst h3
      simp only at h2 ⊢
      rw[h2]
     have HNN:Hid ((((marks l b.os).length+(places (goS l (zd3 l b))).length:Nat):Int)=(ms.length:Int)+((yE s b1.os.length).length:Int)):=by
      have h3:=HO1.o.2.2.2.2.1;rw[Hid,HPP.o,HS5.o.2.1,HMS.o,h3];simp
     have hXq:=HQ.o.1;have kX3:=zh (o:=3) hXq.box (.l va (fixes l G (qx b1.os s b1.os.length) b1.now).1.length vc);have cX:=fun j=>cell_of_block (o:=j) hXq.box
     have fX:=fun j=>zf (o:=j) hXq.box
     have hzXq:=hXq.lt;have cR:=fun j=>cell_of_block (o:=j) kR
     have fR:=fun j=>zf (o:=j) kR
     have hzR:w.heap.size+1+1<wr.heap.size:=by omega
     have hxR:x≠w.heap.size+1+1:=by omega
     have HE:Hid (∀v0 v1 v2 v3 v4 v5 v6,(∃hi own3,BkL w.heap.size hi (zb2 (wr.setCell (aD x 3) (.l va (fixes l G (qx b1.os s b1.os.length) b1.now).1.length vc)) (w.heap.size+1+1) v0 v1 v2 v3 v4 v5 v6) own3 b3 va d1 d2 d3)/\Bw w (zb2 (wr.setCell (aD x 3) (.l va (fixes l G (qx b1.os s b1.os.length) b1.now).1.length vc)) (w.heap.size+1+1) v0 v1 v2 v3 v4 v5 v6)):=fun v0 v1 v2 v3 v4 v5 v6=>by
      refine⟨?_,qI ((HB0.o.trans (HBr.o.mono HB0.o.size)).setCell (p:=(aD x 3)) (by show w.heap.size<=x;omega) _) _ (by omega) v0 v1 v2 v3 v4 v5 v6⟩;obtain⟨own3,ho3⟩:∃own3:Nat->Lb,own3=fun q=>if q<w5.heap.size then (if (own q).1=0 then (9,0,0) else own q) else if q<wr.heap.size then ownL q else (9,0,0):=⟨_,rfl⟩
      have h3a:∀q,q<w5.heap.size->(own q).1≠0->own3 q=own q:=fun q h1 h2=>by rw[ho3];show(if _ then _ else _:Lb)=_;rw[if_pos h1,if_neg h2]
      have h3b:∀q,w5.heap.size<=q->q<wr.heap.size->own3 q=ownL q:=fun q h1 h2=>by rw[ho3];show(if _ then _ else _:Lb)=_;rw[if_neg (by omega),if_pos h2]
      have hxL:∀c,c≠0->c≠9->∀q,q<wr.heap.size->(own q).1=c->own3 q=own q:=fun c h1 h2 q _ hq=>h3a q (Nat.lt_of_not_le fun h=>by have:=h99 q (by omega);omega) (by omega)
      have h3x:(own3 x).1=9:=by rw[h3a x (by omega) (by rw[h99 x (Nat.le_refl _)];omega)];exact h99 x (Nat.le_refl _)
      have hN:BkL w.heap.size wr.heap.size wr own3 b3 va d1 d2 d3:=by
       have hbk:=hXq.bk;rw[hb3];refine⟨((hos.own (fun q hq h1=>?_))).low (by omega),(hbk.gs.own (hxL 1 (by omega) (by omega))).low (by omega),(hbk.ls.own (hxL 2 (by omega) (by omega))).low (by omega),(hbk.ps.own (hxL 3 (by omega) (by omega))).low (by omega),fun q hq=>?_,by omega,Nat.le_refl _⟩
       ·refine h3b q (Nat.le_of_not_lt fun h=>?_) hq
        rw[HQ.o.2.2.1 q h]at h1;cases h1
       ·rcases hq with hq|hq
        ·have h8:=h9 q (by omega)
         rw[h3a q (by omega) (by omega)];exact h8
        ·rw[ho3];show(if _ then _ else _:Lb).1=_;rw[if_neg (by omega),if_neg (by omega)]
      refine⟨wr.heap.size,own3,BkF.left hN (S:=fun q=>q=x \/ q=w.heap.size+1+1) ((Left.set (S:=fun q=>q=x \/ q=w.heap.size+1+1) (Left.refl _ _) (Or.inl rfl) 3 _).zb2 (Or.inr rfl) v0 v1 v2 v3 v4 v5 v6) (fun q hq e=>?_)⟩
      rcases e with e|e
      ·rw[e,h3x]at hq;omega
      ·have h8:=h9 q (by omega)
       rw[h3a q (by omega) (by omega)]at hq;omega
     clear kX3 hXq hos kL kR;go_wp2
     refine bodyPost_ret (v:=.tuple #[.agg (bC b3 va d1 d2 d3 vc e1 e2 e3),.i ((ms.length:Int)+((yE s b1.os.length).length:Int))]) (by simp[results,Tryz.results23,go_sem,cR,hb3]) rfl ?_;obtain⟨⟨hi3,own3,hbk⟩,hbw⟩:=HE.o _ _ _ _ _ _ _;refine⟨⟨hi3,own3,va,d1,d2,d3,vc,e1,e2,e3,by rw[HSW.o,HNN.o],?_⟩,hbw⟩;rw[HSW.o];exact hbk
theorem zqe (l:Lw)(b:Bk):((((marks l b.os).length+(places (goS l (zd3 l b))).length:Nat):Int) == 0)=idle l b.os:=by
 unfold idle
 by_cases h:(marks l b.os).length=0
 ·have e:zd3 l b=b.os:=by unfold zd3;rw[h];rfl
  rw[e]
  show _=(decide ((marks l b.os).length=0)&&decide ((places (goS l b.os)).length=0))
  rw[h]
  by_cases h2:(places (goS l b.os)).length=0
  ·rw[h2];rfl
  ·rw[decide_eq_false h2,beq_eq_false_iff_ne.2 (by omega)];rfl
 ·rw[decide_eq_false h,beq_eq_false_iff_ne.2 (by omega)];rfl
theorem zl8 (l:Lw)(la lb lc:OA)(lca lcb lcc:Nat)(b:Bk)(a0 a1 a2 a3:OA)(c0 c1 c2 c3:Nat)(w:World)(hl:qp w l la lb lc)(hb:qj w b a0 a1 a2 a3)(hh:zb1 w a0 b.os)(hbf:b.Few)(hz:qK b.os<=1048576) :
 Calls Tryz.prog 6 #[.agg (l.cells la lb lc lca lcb lcc),.agg (b.cells a0 a1 a2 a3 c0 c1 c2 c3)] w fun e w'=>zlc w.heap.size w' e (zcx l b)/\Bw w w':=by
 have HK:=yB hl hb;have HF:=zao hh hbf hz;clear hb hl hh hbf hz;unfold Lw.cells Bk.cells;obtain⟨W0,hW0,k0,hB0,hz0⟩:=zsc w (.cells (lC l la lb lc lca lcb lcc) 47) (.cells (bC b a0 a1 a2 a3 c0 c1 c2 c3) 40) (.cells bZ 40);go_in;go_wp2_with fail
 rw[<- hW0];clear hW0;refine(zll l la lb lc lca lcb lcc b a0 a1 a2 a3 c0 c1 c2 c3 W0 (HK.o.1.mono hB0) (HK.o.2.mono hB0) (HF.o.1.mono hB0) HF.o.2.1 HF.o.2.2).mono ?_;rintro e w1⟨rfl,hb1⟩
 have HKK:Hid (∀W,Bw W0 W->(∀j,W.cell? (aD w.heap.size j)=(lC l la lb lc lca lcb lcc)[j]?)/\(∀j,W.cell? (aD (w.heap.size+1) j)=(bC b a0 a1 a2 a3 c0 c1 c2 c3)[j]?)/\(∀j,W.cell? (aD (w.heap.size+1+1) j)=bZ[j]?)/\(∀j,W.frozen? (aD (w.heap.size+1+1) j)=false)/\w.heap.size+1+1<W.heap.size/\w.heap.size+1<W.heap.size/\w.heap.size<W.heap.size/\Bw w W):=fun W hW=>by
  have h1:=hW.size;exact⟨fun j=>cell_of_block ((hW.block _ (by omega)).trans k0.1),fun j=>cell_of_block ((hW.block _ (by omega)).trans k0.2.1),fun j=>cell_of_block ((hW.block _ (by omega)).trans k0.2.2),fun j=>zf ((hW.block _ (by omega)).trans k0.2.2),by omega,by omega,by omega,hB0.trans (hW.mono hB0.size)⟩
 have HB1:=hid hb1;have HZ:=hid hz0;clear hb1 k0 hB0 hz0;obtain⟨cL,cB,cR,fR,zR,zB,zL,hBw⟩:=HKK.o w1 HB1.o
 by_cases hok:qG l b=true
 rotate_left
 ·have hno:qG l b=false:=bFi hok
  have HBw:=hid hBw;rw[hno];go_wp2
  refine bodyPost_ret (v:=.tuple #[.agg bZ,.i 1]) (by simp[results,Tryz.results6,go_sem,cR]) rfl ?_;exact zrJ (zpJ hno) HBw.o (by omega) _ _ _ _ _ _ _
 have HOK:=hid hok;have HBw:=hid hBw;rw[hok];clear hok hBw;go_wp2_with fail
 refine(zqi l la lb lc lca lcb lcc b a0 a1 a2 a3 c0 c1 c2 c3 w1 (HK.o.1.mono HBw.o) (HK.o.2.mono HBw.o) (HF.o.1.mono HBw.o) HF.o.2.1 HOK.o).mono ?_;rintro e w3⟨⟨hi3,own,d0,d1,d2,d3,e0,e1,e2,e3,rfl,hbk⟩,hb3⟩;obtain⟨W3,hW3,kX,hba,zX⟩:=zpa w3 (.cells (bC (za7 l b) d0 d1 d2 d3 e0 e1 e2 e3) 40);have HN:=zao hbk hb3 hba;have zR2:=zR;obtain⟨n,hn⟩:∃n:Nat,n=(marks l b.os).length+(places (goS l (zd3 l b))).length:=⟨_,rfl⟩
 rw[<- hn];have HNC:Hid (((n:Int) == 0)=idle l b.os):=by rw[Hid,hn];exact zqe l b
 clear cL cB cR fR zR zB zL hbk hn
 go_upto_region 4 with fail
 replace zX:w3.heap.size<W3.heap.size:=by omega
 rw[<- hW3];clear hW3;have cX:=fun j=>cell_of_block (o:=j) kX
 have HB3:=hid (HB1.o.trans ((hb3.trans (hba.mono hb3.size)).mono HB1.o.size));obtain⟨cL,cB,cR,fR,zR,zB,zL,hBw⟩:=HKK.o W3 HB3.o;have HBw3:=yB hBw (HBw.o.trans (hb3.mono HBw.o.size));clear hBw hba hb3 kX;have hCopy:=zlh b a0 a1 a2 a3 c0 c1 c2 c3 W3 (HK.o.2.mono HBw3.o.1) (HF.o.1.mono HBw3.o.1) HF.o.2.1
 cases hi:idle l b.os with
 | true=>
  have HR:=hid (zkY HOK.o hi);have hn0:((n:Int) == 0)=true:=HNC.o.trans hi;go_wp2_with fail
  refine hCopy.mono ?_;rintro e w4⟨own,d0,d1,d2,d3,e0,e1,e2,e3,rfl,hbk,_,hb4⟩;have HN4:=yB hbk hb4;have HB4:=HB3.o.trans (hb4.mono HB3.o.size);have zR3:=zR;clear cL cB cR fR zR zB zL hbk hb4 cX hCopy;obtain⟨_,_,cR,fR,zR,_,_,hBw⟩:=HKK.o w4 HB4;have HBw4:=hid hBw;clear hBw HB4;go_wp2
  refine bodyPost_ret (v:=.tuple #[.agg (bC b d0 d1 d2 d3 e0 e1 e2 e3),.i 2]) (by simp[results,Tryz.results6,go_sem,cR]) rfl ?_;exact zfS HR.o HN4.o.1 (bRf _ _) HBw4.o (by omega) (by omega) _ _ _ _ _ _ _
 | false=>
  have hn0:((n:Int) == 0)=false:=HNC.o.trans hi
  by_cases hn:1000000<(za7 l b).now
  ·have HR:=hid (zlt HOK.o hi hn)
   go_wp2_with fail
   refine hCopy.mono ?_;rintro e w4⟨own,d0,d1,d2,d3,e0,e1,e2,e3,rfl,hbk,_,hb4⟩;have HN4:=yB hbk hb4;have HB4:=HB3.o.trans (hb4.mono HB3.o.size);have zR3:=zR;clear cL cB cR fR zR zB zL hbk hb4 cX hCopy;obtain⟨_,_,cR,fR,zR,_,_,hBw⟩:=HKK.o w4 HB4;have HBw4:=hid hBw;clear hBw HB4;go_wp2
   refine bodyPost_ret (v:=.tuple #[.agg (bC b d0 d1 d2 d3 e0 e1 e2 e3),.i 3]) (by simp[results,Tryz.results6,go_sem,cR]) rfl ?_;exact zfS HR.o HN4.o.1 (bRf _ _) HBw4.o (by omega) (by omega) _ _ _ _ _ _ _
  ·have HR:=hid (zm1 HOK.o hi hn)
   clear hCopy;go_wp2
   refine bodyPost_ret (v:=.tuple #[.agg (bC (za7 l b) d0 d1 d2 d3 e0 e1 e2 e3),.i 0]) (by simp[results,Tryz.results6,go_sem,cR]) rfl ?_;exact zfS HR.o HN.o.1 HN.o.2.2 HBw3.o.2 (by omega) (by omega) _ _ _ _ _ _ _
theorem zse {G:BA->BA->Bool}{P:Ob->Prop}(hP:∀o n,P o->P (zae l G n o).1)(n:Int)(xs:List Ob)(h:∀o∈xs,P o):∀o∈(fixes l G xs n).1,P o:=by
 have h2:∀(xs:List Ob) (s:List Ob × Int),(∀o∈xs,P o)->(∀o∈s.1,P o)->∀o∈(xs.foldl (fun s o=>(s.1++[(zae l G s.2 o).1],(zae l G s.2 o).2)) s).1,P o:=by
  intro xs
  induction xs with
  | nil=>intro s _ h;exact h
  | cons x xs ih=>
   intro s h1 h3;rw[List.foldl_cons];refine ih _ (fun o ho=>h1 o (List.mem_cons_of_mem _ ho)) (fun o ho=>?_)
   rcases List.mem_append.1 ho with ho|ho
   ·exact h3 o ho
   ·rw[List.mem_singleton.1 ho];exact hP x s.2 (h1 x (List.mem_cons_self ..))
 exact h2 xs ([],n) h (fun o ho=>by cases ho)
theorem zm2 {P:Ob->Prop}(hP:∀(o:Ob) (vs:List BA) (en:Bool) (vr:Int),P o->vs.length=o.vs.length->(∀s∈vs,s=ByteArray.empty \/ s∈o.vs)->P { o with vs:=vs,en:=en,vr:=vr })(h:∀o∈b.os,P o):∀o∈(za7 l b).os,P o:=by
 refine zse (fun o n ho=>?_) _ _ (fun o ho=>?_)
 ·rw[(zpD _ _ _ _).1]
  refine hP o _ o.en _ ho (jY _ _) (fun s hs=>?_);unfold zS at hs;obtain⟨k,hk,rfl⟩:=List.mem_mapIdx.1 hs
  split
  ·exact .inl rfl
  ·exact .inr (List.getElem_mem _)
 ·unfold qx at ho
  obtain⟨i,hi,rfl⟩:=List.mem_map.1 ho;have hi2:=(zd7 hi).1;have hA:Alike b.os (zd3 l b):=zeE _ _ _ _;have hi3:i<(zd3 l b).length:=by have:=hA.1;omega
  rw[qW hi3];obtain⟨e,v,h3⟩:=hA.2 i hi2 hi3;rw[h3];exact hP b.os[i] b.os[i].vs e v (h _ (List.getElem_mem _)) rfl (fun s hs=>.inr hs)
theorem zm0 (l:Lw)(b:Bk):(za7 l b).os.length<=b.os.length:=by
 show(fixes _ _ _ _).1.length<=_
 rw[zdS];exact zmR _ _ _
theorem zsm {rb:Bk}{rc:Int}(h:zcx l b=(rb,rc))(hf:b.Few):rb.Few:=by
 have e:rb=(zcx l b).1:=by rw[h]
 rw[e];unfold zcx
 split
 ·split
  ·exact hf
  split
  ·exact hf
  ·have hl:=zm0 l b
   refine⟨⟨Nat.le_trans hl hf.os.1,fun i hi=>?_⟩,hf.gs,?_,hf.ps⟩
   ·exact zm2 (P:=fun o=>o.vs.length<=1048576/\o.hs.length<=1048576) (fun o vs en vr ho hv _=>⟨by show vs.length<=_;rw[hv];exact ho.1,ho.2⟩) (fun o ho=>by obtain⟨z,hz,rfl⟩:=List.mem_iff_getElem.1 ho;exact hf.os.2 z hz) _ (List.getElem_mem hi)
   ·show(lets _ _ _ _).length<=_
    rw[zd0];exact hf.ls
 ·exact⟨⟨Nat.zero_le _,fun i hi=>absurd hi (Nat.not_lt_zero i)⟩,⟨Nat.zero_le _,fun i hi=>absurd hi (Nat.not_lt_zero i)⟩,Nat.zero_le _,Nat.zero_le _⟩
theorem zpZ {rb:Bk}{rc:Int}(h:zcx l b=(rb,rc))(hs:b.Small):rb.Small:=by
 have e:rb=(zcx l b).1:=by rw[h]
 rw[e];unfold zcx
 split
 ·split
  ·exact hs
  split
  ·exact hs
  ·have hl:=zm0 l b
   refine⟨⟨fun i hi=>?_⟩,Nat.le_trans hl hs.lo,hs.gs,hs.lg,fun i hi=>?_,?_,hs.ps,hs.lp⟩
   ·exact zm2 (P:=fun o=>o.Small/\(o.vs.length<=maxLen/\∀s∈o.vs,s.size<=maxLen)/\(o.hs.length<=maxLen/\∀s∈o.hs,s.size<=maxLen)) (fun o vs en vr ho hv hm=>⟨⟨ho.1.kd,ho.1.nm,ho.1.tm⟩,⟨by show vs.length<=_;rw[hv];exact ho.2.1.1,fun s hs=>(hm s hs).elim (fun e=>by rw[e];exact Nat.zero_le _) (ho.2.1.2 s)⟩,ho.2.2⟩) (fun o ho=>by obtain⟨z,hz,rfl⟩:=List.mem_iff_getElem.1 ho;exact hs.os.small z hz) _ (List.getElem_mem hi)
   ·exact zgG l _ _ _ (fun g hg=>by obtain⟨z,hz,rfl⟩:=List.mem_iff_getElem.1 hg;exact hs.ls z hz) _ (List.getElem_mem hi)
   ·show(lets _ _ _ _).length<=_
    rw[zd0];exact hs.ll
 ·refine⟨⟨fun i hi=>absurd hi (Nat.not_lt_zero i)⟩,Nat.zero_le _,⟨fun i hi=>absurd hi (Nat.not_lt_zero i)⟩,Nat.zero_le _,fun i hi=>absurd hi (Nat.not_lt_zero i),Nat.zero_le _,fun i hi=>absurd hi (Nat.not_lt_zero i),Nat.zero_le _⟩
end Go.Proofs.YtjnpjkigofldlaaGreat
