import Derived.Test.YtcgpjfcocmcodaaGreatM51
set_option maxHeartbeats 8000000
namespace Go.Proofs.YtcgpjfcocmcodaaGreat
open Go.RowKit
theorem zoZ {b:Bk}{g:Lg}(h:¬b.ls.findIdx (j3 g.tm g.rs)<b.ls.length):ze3 b g=if g.fr<0 then (b,3) else if b.ls.length=10 then (b,4) else ({ b with ls:=zbp b.ls g },0):=by
 by_cases h1:g.fr<0
 ·rw[if_pos h1];exact zhj (by unfold qZ;rw[dif_neg h,if_pos h1])
 ·rw[if_neg h1]
  by_cases h2:b.ls.length=10
  ·rw[if_pos h2];exact zhj (by unfold qZ;rw[dif_neg h,if_neg h1,if_pos h2])
  ·rw[if_neg h2];unfold ze3 qZ;rw[dif_neg h,if_neg h1,if_neg h2]
noncomputable def zf0 (ls:List Lg)(g:Lg)(j:Nat):List Lg:=if j<=jg ls g then ls.take j else ls.take (jg ls g)++g :: (ls.take j).drop (jg ls g)
theorem zfl {ls:List Lg}{g:Lg}{j:Nat}(h:j<=jg ls g):zf0 ls g j=ls.take j:=if_pos h
theorem zfy {ls:List Lg}{g:Lg}{j:Nat}(h:jg ls g<j):zf0 ls g j=ls.take (jg ls g)++g :: (ls.take j).drop (jg ls g):=if_neg (by omega)
theorem zoo {ls:List Lg}{g:Lg}{j:Nat}(hj:j<ls.length)(h:j<jg ls g):zf0 ls g (j+1)=zf0 ls g j++[ls[j]]:=by
 rw[zfl h,zfl (by omega),tSe hj]
theorem zro {ls:List Lg}{g:Lg}{j:Nat}(hj:j<ls.length)(h:j=jg ls g):zf0 ls g (j+1)=zf0 ls g j++[g]++[ls[j]]:=by
 rw[zfy (by omega),zfl (by omega),<- h,tSe hj,List.drop_append,List.drop_eq_nil_of_le (by rw[List.length_take];omega),List.length_take,Nat.min_eq_left (by omega),Nat.sub_self]
 simp
theorem zoP {ls:List Lg}{g:Lg}{j:Nat}(hj:j<ls.length)(h:jg ls g<j):zf0 ls g (j+1)=zf0 ls g j++[ls[j]]:=by
 rw[zfy (by omega),zfy h,tSe hj,List.drop_append_of_le_length (by rw[List.length_take];omega),List.append_assoc]
 rfl
theorem zq0 {ls:List Lg}{g:Lg}(h:jg ls g<ls.length):zf0 ls g ls.length=zbp ls g:=by
 rw[zfy h,List.take_length];rfl
theorem zqo {ls:List Lg}{g:Lg}(h:¬jg ls g<ls.length):zbp ls g=zf0 ls g ls.length++[g]:=by
 rw[zfl (by omega),List.take_length];unfold zbp;rw[tOl (by omega),List.drop_eq_nil_of_le (by omega)]
theorem zn1 {ls:List Lg}{g:Lg}{j:Nat}:(zf0 ls g j).length<=ls.length+1:=by
 unfold zf0
 split
 ·rw[List.length_take];omega
 ·rw[List.length_append,List.length_take,List.length_cons,List.length_drop,List.length_take];omega
theorem zoC {ls:List Lg}{tm rs:BA}{mo u:Int}{j:Nat}(hj:j<ls.length)(h:j<jg ls ⟨tm,rs,mo,u⟩):¬0<key2 ls[j].tm ls[j].rs tm rs:=by
 have h1:decide (0<y9 ls[j] ⟨tm,rs,mo,u⟩)=false:=List.not_of_lt_findIdx h;exact of_decide_eq_false h1
theorem zpO {ls:List Lg}{tm rs:BA}{mo u:Int}{j:Nat}(hj:j<ls.length)(h:j=jg ls ⟨tm,rs,mo,u⟩):0<key2 ls[j].tm ls[j].rs tm rs:=by
 subst h;have h1:decide (0<y9 (ls[jg ls ⟨tm,rs,mo,u⟩]) ⟨tm,rs,mo,u⟩)=true:=List.findIdx_getElem (w:=hj);exact of_decide_eq_true h1
theorem zea {w w1:World}{v:Value}{o:Obj}{b:Nat}(hg:(w.alloc o).grownBy w1 v.ownBlock)(hb:b<w.heap.size)(hn:∀q,v.ownBlock=some q->q≠b):w1.heap[b]?=w.heap[b]?:=(hg.block b (by simp;omega) (fun e=>hn b e.symm rfl)).trans ((MapKept.heap_alloc w o).2 b hb)
theorem zh6 {w w1:World}{v:Value}{o:Obj}{b:Nat}(hg:(w.alloc o).grownBy w1 v.ownBlock)(hb:b<w.heap.size)(hn:∀q,v.ownBlock=some q->q≠b)(j:Nat):w1.cell? (aD b j)=w.cell? (aD b j):=World.cell?_of_block (zea hg hb hn)
theorem zbx {B:Nat}{w0 w w1:World}{v:Value}{o:Obj}(h:Below B w0 w)(hB:B<=w.heap.size)(hg:(w.alloc o).grownBy w1 v.ownBlock)(hr:∀k,v.ownBlock=some k->B<=k):Below B w0 w1:=(h.alloc hB _).grown hg (by simp;omega) hr
theorem zdF (w:World)(p:Lg)(t:TypeId):∀j u,p.row[j]?=some u->(w.alloc (.cells #[.s p.tm,.s p.rs,.i p.mo,.i p.fr] t)).cell? (((aD w.heap.size 0):Addr).add j)=some u:=zeV w p.row t
set_option maxRecDepth 20000 in
theorem zk7 (l:Lw)(la lb lc:OA)(lca lcb lcc:Nat)(b:Bk)(a0 a1 a2 a3:OA)(c0 c1 c2 c3:Nat)(tm rs:BA)(mo:Int)(w:World)(hl:jA w l la lb lc)(hb:ji w b a0 a1 a2 a3)(hh:zcp w a0 b.os)(hbf:b.Few)(hz:qH b.os<=1048576)(hd:rs.size<=maxLen) :
 Calls Tryz.prog 6 #[.agg (l.cells la lb lc lca lcb lcc),.agg (b.cells a0 a1 a2 a3 c0 c1 c2 c3),.s tm,.s rs,.i mo] w fun e w'=>zka w.heap.size w' e (bound l b tm rs mo)/\Bw w w':=by
 have HK:=hid hb;have HL:=hid hl;have HF:=zbQ hh hbf hz;have HD:=hid hd;clear hb hl hh hbf hz hd;unfold Lw.cells Bk.cells;have k0:=zob w (.cells #[.l la l.ss.length lca,.l lb l.ms.length lcb,.l lc l.ts.length lcc] 47) (.cells (bC b a0 a1 a2 a3 c0 c1 c2 c3) 40) (.cells bZ 40);have hB0:=below3' w (.cells #[.l la l.ss.length lca,.l lb l.ms.length lcb,.l lc l.ts.length lcc] 47) (.cells (bC b a0 a1 a2 a3 c0 c1 c2 c3) 40) (.cells bZ 40);obtain⟨W0,hW0⟩:=xN (((w.alloc (.cells #[.l la l.ss.length lca,.l lb l.ms.length lcb,.l lc l.ts.length lcc] 47)).alloc (.cells (bC b a0 a1 a2 a3 c0 c1 c2 c3) 40)).alloc (.cells bZ 40));have hz0:W0.heap.size=w.heap.size+1+1+1:=by rw[hW0];simp
 go_enter Tryz.func6,Tryz.ntmps6;go_wp2_with fail
 rw[<- hW0]at k0 hB0 ⊢;clear hW0;refine(zj9 l la lb lc lca lcb lcc b a0 a1 a2 a3 c0 c1 c2 c3 W0 (HL.o.mono hB0) (HK.o.mono hB0) (HF.o.1.mono hB0) HF.o.2.1 HF.o.2.2).mono ?_;rintro e w1⟨rfl,hb1⟩;have hz1:=hb1.size;have HB1:=hid (hB0.trans (hb1.mono hB0.size));have kB:=(hb1.block (w.heap.size+1) (by omega)).trans k0.2.1;have HKL:=hid ((hb1.block w.heap.size (by omega)).trans k0.1);have kR:=(hb1.block (w.heap.size+1+1) (by omega)).trans k0.2.2;have cB:=fun j=>cell_of_block (o:=j) kB
 have cR:=fun j=>cell_of_block (o:=j) kR
 have fR:=fun j=>zh (o:=j) kR
 have hzB:w.heap.size+1<w1.heap.size:=by omega
 have hzR:w.heap.size+1+1<w1.heap.size:=by omega
 have HKB:=ql kB kR;clear hb1 k0 hB0 kB kR
 by_cases hok:jI l b=true
 rotate_left
 ·have hno:jI l b=false:=bFi hok
  have HR:Hid (bound l b tm rs mo=(zaO,1)):=by unfold Hid bound;rw[hno];rfl
  rw[hno];go_wp2_with fail
  refine bodyPost_ret (v:=.tuple #[.agg #[.i 0,.i 0,.i 0,.l none 0 0,.l none 0 0,.l none 0 0,.l none 0 0],.i 1]) (by simp[results,Tryz.results6,go_sem,cR]) rfl ?_;refine⟨⟨w1.heap.size,fun _=>(9,0,0),none,none,none,none,0,0,0,0,by rw[HR.o];rfl,?_⟩,?_⟩
  ·rw[HR.o]
   exact⟨⟨fun h=>absurd h (by simp[zaO])⟩,⟨fun h=>absurd h (by simp[zaO])⟩,⟨fun h=>absurd h (by simp[zaO])⟩,⟨fun h=>absurd h (by simp[zaO])⟩,fun _ _=>rfl,HB1.o.size,by simp[World.setCell]⟩
  ·have h1:w.heap.size<=w.heap.size+1+1:=by omega
   iterate 7 refine Below.setCell ?_ h1 _
   exact HB1.o
 have HT:=hid (zjk hok);have HRG:=hid (zfM hok);rw[hok];go_wp2_with fail
 refine(zoK b a0 a1 a2 a3 c0 c1 c2 c3 w1 (HK.o.mono HB1.o) (HF.o.1.mono HB1.o) HF.o.2.1).mono ?_;rintro e w2⟨own,d0,d1,d2,d3,e0,e1,e2,e3,rfl,hbk,hrr,hb2⟩;have hz2:=hb2.size;have HB2:=hid hb2;have HN2:=hid hbk;have HRP:=hid hrr;have kR2:=(hb2.block (w.heap.size+1+1) hzR).trans HKB.o.2;have kB2:=(hb2.block (w.heap.size+1) hzB).trans HKB.o.1;have hba:=(bRf w2.heap.size w2).alloc (Nat.le_refl _) (.cells (bC b d0 d1 d2 d3 e0 e1 e2 e3) 40);have kX:=alloc_at w2 (.cells (bC b d0 d1 d2 d3 e0 e1 e2 e3) 40);have kL2:=(hb2.block w.heap.size (by omega)).trans HKL.o;have cL:=fun j=>cell_of_block (o:=j) kL2
 have hzL:w.heap.size<w2.heap.size:=by omega
 clear hb2 hbk hrr cB cR fR;have cB2:=fun j=>cell_of_block (o:=j) kB2
 have hzB2:w.heap.size+1<w2.heap.size:=by omega
 go_wp2_with fail
 clear cB2 hzB2;obtain⟨W3,hW3⟩:=xN (w2.alloc (.cells (bC b d0 d1 d2 d3 e0 e1 e2 e3) 40));rw[<- hW3]at hba kX ⊢;have hz3:W3.heap.size=w2.heap.size+1:=by rw[hW3];simp
 clear hW3;have hB3:=(HB1.o.trans (HB2.o.mono HB1.o.size)).trans (hba.mono (by omega));have HN3:=zbQ (BkF.mono HN2.o hba) (HRP.o.1.left (Left.of_below (fun _=>False) hba) (fun _ _ h=>h)) (HRP.o.2.left (Left.of_below (fun _=>False) hba) (fun _ _ h=>h));have kR3:=(hba.block _ (by omega)).trans kR2;have kB3:=(hba.block _ (by omega)).trans kB2;have kL3:=(hba.block _ (by omega)).trans kL2;have HB3:=hid hB3;obtain⟨x,hx⟩:=xN (w2.heap.size);rw[<- hx]at kX hz3 HN3 ⊢;have hxw:w1.heap.size+1+1+1<=x:=HN3.o.1.le;have hw1:w.heap.size+1+1<w1.heap.size:=hzR;have hxz:x<W3.heap.size:=by omega
 have hzR3:w.heap.size+1+1<W3.heap.size:=by omega
 have hzB3:w.heap.size+1<W3.heap.size:=by omega
 have hzL3:w.heap.size<W3.heap.size:=by omega
 have cX:=fun j=>cell_of_block (o:=j) kX
 have cB:=fun j=>cell_of_block (o:=j) kB3
 have cL:=fun j=>cell_of_block (o:=j) kL3
 have cR:=fun j=>cell_of_block (o:=j) kR3
 have fR:=fun j=>zh (o:=j) kR3
 have HTm:Hid (Calls Tryz.prog 24 #[.l lc l.ts.length lcc,.s tm] W3 fun e w'=>e=.returned (.bool (z8 l.ts tm))/\w'=W3):=zc5 lc lcc l.ts tm W3 (HL.o.ts.mono hB3);have HNm:Hid (∀W,Calls Tryz.prog 25 #[.s rs] W fun e w'=>e=.returned (.bool (zx rs))/\w'=W):=fun W=>zk rs W HD.o
 have HIn:Hid (∀W,Calls Tryz.prog 26 #[.i mo,.i 0,.i 1000000] W fun e w'=>e=.returned (.bool (within mo 0 1000000))/\w'=W):=fun W=>yt mo 0 1000000 W
 have HNO:Hid ((z8 l.ts tm&&(zx rs&&within mo 0 1000000))=false->bound l b tm rs mo=(b,2)):=fun h=>by unfold bound;rw[if_pos hok,if_neg (by rw[h];simp)]
 clear kR2 kB2 kL2 hba HN2 HRP hz3 hx hB3 hzL;refine HTm.o.mono ?_;rintro e w'⟨rfl,hw⟩;rw[hw];clear hw w'
 by_cases h1:z8 l.ts tm=true
 rotate_left
 ·have h1':z8 l.ts tm=false:=bFi h1
  rw[h1'];go_wp2_with fail
  refine bodyPost_ret (v:=.tuple #[.agg #[.i b.now,.i b.tick,.i b.given,.l d0 b.os.length e0,.l d1 b.gs.length e1,.l d2 b.ls.length e2,.l d3 b.ps.length e3],.i 2]) (by simp[results,Tryz.results6,go_sem,cR]) rfl ?_;exact zcw (HNO.o (by rw[h1'];rfl)) HN3.o.1 (bRf _ _) HB3.o (by omega) (by omega) _ _ _ _ _ _ _
 rw[h1]
 by_cases h2:zx rs=true
 rotate_left
 ·have h2':zx rs=false:=bFi h2
  clear h2
  go_wp2_with (go_at_call 25;refine(HNm.o _).mono ?_;rintro e w'⟨rfl,hw⟩;rw[hw,h2'];clear hw w')
  refine bodyPost_ret (v:=.tuple #[.agg #[.i b.now,.i b.tick,.i b.given,.l d0 b.os.length e0,.l d1 b.gs.length e1,.l d2 b.ls.length e2,.l d3 b.ps.length e3],.i 2]) (by simp[results,Tryz.results6,go_sem,cR]) rfl ?_;exact zcw (HNO.o (by rw[h1,h2'];rfl)) HN3.o.1 (bRf _ _) HB3.o (by omega) (by omega) _ _ _ _ _ _ _
 by_cases h3:within mo 0 1000000=true
 rotate_left
 ·have h3':within mo 0 1000000=false:=bFi h3
  clear h3
  go_wp2_with (first|(go_at_call 25;refine(HNm.o _).mono ?_;rintro e w'⟨rfl,hw⟩;rw[hw,h2];clear hw w')|(go_at_call 26;refine(HIn.o _).mono ?_;rintro e w'⟨rfl,hw⟩;rw[hw,h3'];clear hw w'))
  refine bodyPost_ret (v:=.tuple #[.agg #[.i b.now,.i b.tick,.i b.given,.l d0 b.os.length e0,.l d1 b.gs.length e1,.l d2 b.ls.length e2,.l d3 b.ps.length e3],.i 2]) (by simp[results,Tryz.results6,go_sem,cR]) rfl ?_;exact zcw (HNO.o (by rw[h1,h2,h3'];rfl)) HN3.o.1 (bRf _ _) HB3.o (by omega) (by omega) _ _ _ _ _ _ _
 have HMO:Hid (0<=mo/\mo<=1000000):=by unfold within at h3;unfold Hid;simpa using h3
 have HE:Hid (bound l b tm rs mo=ze3 b ⟨tm,rs,mo,mo-used l b.os tm rs⟩):=by unfold Hid bound;rw[if_pos hok,if_pos (by rw[h1,h2,h3];rfl)]
 have HUB:=hid (zav l b.os tm rs b.os.length (Nat.le_refl _))
 go_wp2_with (first|(go_at_call 25;refine(HNm.o _).mono ?_;rintro e w'⟨rfl,hw⟩;rw[hw,h2];clear hw w')|(go_at_call 26;refine(HIn.o _).mono ?_;rintro e w'⟨rfl,hw⟩;rw[hw,h3];clear hw w'))
 have hQ:=zez b a0 a1 a2 a3 c0 c1 c2 c3 tm rs W3 (HK.o.mono HB3.o) (by have:=HT.o.len;omega);unfold Bk.cells at hQ;refine hQ.mono ?_;rintro e w4⟨rfl,hb4⟩;have hz4:=hb4.size;have kX4:=(hb4.block _ hxz).trans kX;have kB4:=(hb4.block _ hzB3).trans kB3;have kL4:=(hb4.block _ hzL3).trans kL3;have kR4:=(hb4.block _ hzR3).trans kR3;have HN4:=ql (BkL.mono HN3.o.1 hb4) (HN3.o.2.1.left (Left.of_below (fun _=>False) hb4) (fun _ _ h=>h));have HB4:=hid (HB3.o.trans (hb4.mono HB3.o.size));have HX9:=hid (HN4.o.1.out x (Or.inr (Nat.le_refl _)));have cX:=fun j=>cell_of_block (o:=j) kX4
 have cB:=fun j=>cell_of_block (o:=j) kB4
 have cL:=fun j=>cell_of_block (o:=j) kL4
 have cR:=fun j=>cell_of_block (o:=j) kR4
 have fR:=fun j=>zh (o:=j) kR4
 have hxz4:x<w4.heap.size:=by omega
 have hzR4:w.heap.size+1+1<w4.heap.size:=by omega
 have hzB4:w.heap.size+1<w4.heap.size:=by omega
 have hzL4:w.heap.size<w4.heap.size:=by omega
 have hln:=HT.o.len;clear hQ hb4 kX kB3 kL3 kR3 HN3 HB3 HTm HNm HIn HNO h1 h2 h3 hzR3 hzB3 hzL3
 by_cases hh:yJ b.ls tm rs=true
 ·obtain⟨hix,hkl⟩:=zqr hh
  rw[hix];have HBT:Hid (qZ b.ls ⟨tm,rs,mo,mo-used l b.os tm rs⟩=if b.ls[b.ls.findIdx (j3 tm rs)].fr+mo-b.ls[b.ls.findIdx (j3 tm rs)].mo<0 then (b.ls,3) else (b.ls.set (b.ls.findIdx (j3 tm rs)) ⟨tm,rs,mo,b.ls[b.ls.findIdx (j3 tm rs)].fr+mo-b.ls[b.ls.findIdx (j3 tm rs)].mo⟩,0)):=by unfold Hid qZ;rw[dif_pos hkl]
  have HKE:Hid (b.ls[b.ls.findIdx (j3 tm rs)].tm=tm/\b.ls[b.ls.findIdx (j3 tm rs)].rs=rs):=by
   have h5:j3 tm rs b.ls[b.ls.findIdx (j3 tm rs)]=true:=List.findIdx_getElem (w:=hkl);unfold j3 at h5;rw[Bool.and_eq_true,decide_eq_true_eq,decide_eq_true_eq]at h5;exact h5
  obtain⟨k,hk⟩:=xN (b.ls.findIdx (j3 tm rs))
  revert hkl HBT HKE
  rw[<- hk];intro hkl HBT HKE;clear hk hix hh;obtain⟨gb,goff,rfl,hgb,q0,q1,q2,q3⟩:=HK.o.ls.load HB4.o k hkl;have hgb4:gb<w4.heap.size:=nLt hgb HB4.o.size;have hkI:(k:Int)<(b.ls.length:Int):=by omega
  have hlf:=HRG.o _ (List.getElem_mem hkl);have HLF:=hid hlf;have hw1:IntKind.i64.wrap (b.ls[k].fr+mo)=b.ls[k].fr+mo:=by have:=HMO.o;rw[IntKind.wrap_i64];omega
  have hw2:IntKind.i64.wrap (b.ls[k].fr+mo-b.ls[k].mo)=b.ls[k].fr+mo-b.ls[k].mo:=by have:=HMO.o;rw[IntKind.wrap_i64];omega
  have hS:(∀j,w4.drew.cell? (aD (w.heap.size+1) j)=(#[.i b.now,.i b.tick,.i b.given,.l a0 b.os.length c0,.l a1 b.gs.length c1,.l (some (aD gb goff)) b.ls.length c2,.l a3 b.ps.length c3]:AV)[j]?)/\w4.drew.cell? (aD gb (goff+k*4+2))=some (.i b.ls[k].mo)/\w4.drew.cell? (aD gb (goff+k*4+3))=some (.i b.ls[k].fr):=⟨cB,q2,q3⟩
  clear hlf q0 q1 q2 q3;go_wp2_with fail
  go_region_held3 (fun w'=>(∀j,w'.cell? (aD (w.heap.size+1) j)=(#[.i b.now,.i b.tick,.i b.given,.l a0 b.os.length c0,.l a1 b.gs.length c1,.l (some (aD gb goff)) b.ls.length c2,.l a3 b.ps.length c3]:AV)[j]?)/\w'.cell? (aD gb (goff+k*4+2))=some (.i b.ls[k].mo)/\w'.cell? (aD gb (goff+k*4+3))=some (.i b.ls[k].fr)) (exact hS) (fail)
  obtain⟨V,hV⟩:=xN (w4.drew);have hbV:Bw w4 V:=by rw[hV];exact(bRf _ _).drew
  rw[<- hV];clear hV hS;have hzV:=hbV.size;have kXV:=(hbV.block x hxz4).trans kX4;have kRV:=(hbV.block _ hzR4).trans kR4;have cX:=fun j=>cell_of_block (o:=j) kXV
  have cR:=fun j=>cell_of_block (o:=j) kRV
  have fR:=fun j=>zh (o:=j) kRV
  have hxzV:x<V.heap.size:=by omega
  have hzRV:w.heap.size+1+1<V.heap.size:=by omega
  have HBV:=hid hbV;clear hbV
  by_cases hng:b.ls[k].fr+mo-b.ls[k].mo<0
  ·have hE3:bound l b tm rs mo=(b,3):=by rw[HE.o];exact zhj (by rw[HBT.o,if_pos hng])
   have HE3:=hid hE3;clear hE3;have hng':decide (b.ls[k].fr+mo-b.ls[k].mo<0)=true:=decide_eq_true hng;clear hng;go_wp2_with fail
   refine bodyPost_ret (v:=.tuple #[.agg #[.i b.now,.i b.tick,.i b.given,.l d0 b.os.length e0,.l d1 b.gs.length e1,.l d2 b.ls.length e2,.l d3 b.ps.length e3],.i 3]) (by simp[results,Tryz.results6,go_sem,cR]) rfl ?_;exact zcw HE3.o HN4.o.1 HBV.o HB4.o (by omega) (by omega) _ _ _ _ _ _ _
  ·have HE0:Hid (bound l b tm rs mo=({ b with ls:=b.ls.set k ⟨tm,rs,mo,b.ls[k].fr+mo-b.ls[k].mo⟩ },0)):=by unfold Hid;rw[HE.o];unfold ze3;rw[HBT.o,if_neg hng]
   have hng':decide (b.ls[k].fr+mo-b.ls[k].mo<0)=false:=decide_eq_false hng;clear hng;have hbV:=HBV.o;obtain⟨g,C,hga,hgl,hg4,hCz,hCc⟩:=zee HN4.o.2.1 (by omega);subst hga;have hgo:=HN4.o.2.2 g rfl;have kgV:=(hbV.block g (gES hg4).1).trans hg4;have hgx:g≠x:=by rintro rfl;have:=HX9.o;rw[hgo]at this;cases this
   have hgR:g≠w.heap.size+1+1:=by omega
   have m2:V.cell? (aD g (k*4+2))=some (.i b.ls[k].mo):=by rw[cell_of_block kgV,hCc _ (by omega),zaz Lg.row 4 (fun _=>rfl) b.ls k hkl 2 (by omega)];rfl
   have m3:V.cell? (aD g (k*4+3))=some (.i b.ls[k].fr):=by rw[cell_of_block kgV,hCc _ (by omega),zaz Lg.row 4 (fun _=>rfl) b.ls k hkl 3 (by omega)];rfl
   have fV:=fun o=>zh (o:=o) kgV
   have hgz:g<V.heap.size:=(gES kgV).1;have hrow:=zfu (zfu (yC HN4.o.2.1 hbV) (k*4+2) (.i mo)) (k*4+3) (.i (b.ls[k].fr+mo-b.ls[k].mo));have e1':=zc3 Lg.row 4 (fun _=>rfl) b.ls k hkl 2 (.i mo) ⟨b.ls[k].tm,b.ls[k].rs,mo,b.ls[k].fr⟩ (by omega) rfl;have e2':=zc3 Lg.row 4 (fun _=>rfl) (b.ls.set k ⟨b.ls[k].tm,b.ls[k].rs,mo,b.ls[k].fr⟩) k (by simpa using hkl) 3 (.i (b.ls[k].fr+mo-b.ls[k].mo)) ⟨tm,rs,mo,b.ls[k].fr+mo-b.ls[k].mo⟩ (by omega) (by rw[List.getElem_set_self];unfold Lg.row;simp[HKE.o.1,HKE.o.2]);rw[List.set_set]at e2';rw[<- e1',<- e2']at hrow;have hL9:=((Left.refl (fun q=>(own q).1=2 \/ (own q).1=9) V).set (b:=g) (Or.inl (by rw[hgo])) (k*4+2) (.i mo)).set (b:=g) (Or.inl (by rw[hgo])) (k*4+3) (.i (b.ls[k].fr+mo-b.ls[k].mo));have hgw:w.heap.size<=g:=by omega
   have hB9:=((HB4.o.trans (hbV.mono HB4.o.size)).setCell (p:=(aD g (k*4+2))) hgw (.i mo)).setCell (p:=(aD g (k*4+3))) hgw (.i (b.ls[k].fr+mo-b.ls[k].mo));have H9:=zbQ hrow hL9 hB9;have HNV:=hid (BkL.mono HN4.o.1 hbV);clear hrow e1' e2' hL9 hB9 hCz hCc hgl cL cB;go_wp2_with fail
   refine bodyPost_ret (v:=.tuple #[.agg #[.i b.now,.i b.tick,.i b.given,.l d0 b.os.length e0,.l d1 b.gs.length e1,.l (some (aD g 0)) b.ls.length e2,.l d3 b.ps.length e3],.i 0]) (by simp[results,Tryz.results6,go_sem,cR]) rfl ?_;have hF:=zey (w3:=V) (own:=own) (own':=own) HE0.o HNV.o H9.o.2.1 (fun _ _=>rfl) ⟨by rw[List.length_set];exact H9.o.1,HN4.o.2.2⟩ H9.o.2.2 (R:=w.heap.size+1+1) (by omega) (by omega) (e0:=e0) (e1:=e1) (e3:=e3) (.i b.now) (.i b.tick) (.i b.given) (.l d0 b.os.length e0) (.l d1 b.gs.length e1) (.l (some (aD g 0)) b.ls.length e2) (.l d3 b.ps.length e3);simp only[List.length_set]at hF;exact hF
 ·have hno:yJ b.ls tm rs=false:=bFi hh
  rw[(zmC hno).1];go_wp2_with fail
  have hQ:=zer l la lb lc lca lcb lcc b a0 a1 a2 a3 c0 c1 c2 c3 tm rs w4 (HL.o.mono HB4.o) (HK.o.mono HB4.o) HF.o.2.2;unfold Lw.cells Bk.cells at hQ;refine hQ.mono ?_;rintro e w5⟨rfl,hb5⟩;have hz5:=hb5.size;have kX5:=(hb5.block _ hxz4).trans kX4;have kB5:=(hb5.block _ hzB4).trans kB4;have kR5:=(hb5.block _ hzR4).trans kR4;have HN5:=ql (BkL.mono HN4.o.1 hb5) (HN4.o.2.left (Left.of_below (fun _=>False) hb5) (fun _ _ h=>h));have HB5:=hid (HB4.o.trans (hb5.mono HB4.o.size));obtain⟨u,hu⟩:=xN (mo-used l b.os tm rs)
  have hwu:IntKind.i64.wrap (mo-used l b.os tm rs)=u:=by
   have h8:=HUB.o;have h9:=HF.o.2.2;have h7:=HMO.o;rw[List.take_length]at h8;unfold qH at h9;rw[hu];unfold used;rw[IntKind.wrap_i64];omega
  have HBT:Hid (bound l b tm rs mo=if u<0 then (b,3) else if b.ls.length=10 then (b,4) else ({ b with ls:=zbp b.ls ⟨tm,rs,mo,u⟩ },0)):=by
   unfold Hid;rw[HE.o,<- hu];exact zoZ (g:=⟨tm,rs,mo,u⟩) (zmC hno).2
  obtain⟨i0,hi,hzi,hz1',hz2'⟩:=info_parts Tryz.zhq;have HI:=zbX hi hzi hz1' hz2';have hxz5:x<w5.heap.size:=by omega
  have hzB5:w.heap.size+1<w5.heap.size:=by omega
  have hzR5:w.heap.size+1+1<w5.heap.size:=by omega
  have hxne:x≠w.heap.size+1+1:=by omega
  have hBA:=(bRf w5.heap.size w5).alloc (Nat.le_refl _) (.cells #[.s tm,.s rs,.i mo,.i u] 69);have kY6:(w5.alloc (.cells #[.s tm,.s rs,.i mo,.i u] 69)).heap[w5.heap.size]?=some (.cells #[.s tm,.s rs,.i mo,.i u] 69):=alloc_at _ _;have hz6:(w5.alloc (.cells #[.s tm,.s rs,.i mo,.i u] 69)).heap.size=w5.heap.size+1:=by simp
  obtain⟨W6,hW6⟩:∃W6,w5.alloc (.cells #[.s tm,.s rs,.i mo,.i u] 69)=W6:=⟨_,rfl⟩
  rw[hW6]at hBA kY6 hz6;have HBA:=hid hBA;have kX6:=(hBA.block _ hxz5).trans kX5;have kB6:=(hBA.block _ hzB5).trans kB5;have kR6:=(hBA.block _ hzR5).trans kR5;have cX:=fun j=>cell_of_block (o:=j) kX6
  have cB:=fun j=>cell_of_block (o:=j) kB6
  have cR:=fun j=>cell_of_block (o:=j) kR6
  have cY:=fun j=>cell_of_block (o:=j) kY6
  have fR:=fun j=>zh (o:=j) kR6
  have hx6:x<W6.heap.size:=by omega
  have hR6:w.heap.size+1+1<W6.heap.size:=by omega
  clear hQ hb5 kL4 kB4 kX4 kR4 HN4 hh hBA hi hzi hz1' hz2' HE hno hu HUB
  by_cases hng:u<0
  ·have HE3:Hid (bound l b tm rs mo=(b,3)):=by unfold Hid;rw[HBT.o,if_pos hng]
   have hng':decide (u<0)=true:=decide_eq_true hng;clear hng;go_wp2_with fail
   refine bodyPost_ret (v:=.tuple #[.agg #[.i b.now,.i b.tick,.i b.given,.l d0 b.os.length e0,.l d1 b.gs.length e1,.l d2 b.ls.length e2,.l d3 b.ps.length e3],.i 3]) (by simp[results,Tryz.results6,go_sem,cR]) rfl ?_;exact zcw HE3.o HN5.o.1 HBA.o HB5.o (by omega) (by omega) _ _ _ _ _ _ _
  have hng':decide (u<0)=false:=decide_eq_false hng
  by_cases hten:b.ls.length=10
  ·have HE3:Hid (bound l b tm rs mo=(b,4)):=by unfold Hid;rw[HBT.o,if_neg hng,if_pos hten]
   have hten':decide ((10:Int)<=(b.ls.length:Int))=true:=decide_eq_true (by omega);clear hng hten;go_wp2_with fail
   refine bodyPost_ret (v:=.tuple #[.agg #[.i b.now,.i b.tick,.i b.given,.l d0 b.os.length e0,.l d1 b.gs.length e1,.l d2 b.ls.length e2,.l d3 b.ps.length e3],.i 4]) (by simp[results,Tryz.results6,go_sem,cR]) rfl ?_;exact zcw HE3.o HN5.o.1 HBA.o HB5.o (by omega) (by omega) _ _ _ _ _ _ _
  have HE0:Hid (bound l b tm rs mo=({ b with ls:=zbp b.ls ⟨tm,rs,mo,u⟩ },0)):=by unfold Hid;rw[HBT.o,if_neg hng,if_neg hten]
  have hten':decide ((10:Int)<=(b.ls.length:Int))=false:=decide_eq_false (by omega);have hl9:b.ls.length<=9:=by omega
  clear hng hten HBT;go_wp2_with fail
  have hA:(W6.alloc (.cells #[] 69)).heap[w5.heap.size]?=some (.cells #[.s tm,.s rs,.i mo,.i u] 69):=by rw[<- hW6];exact(zQ w5 (.cells #[.s tm,.s rs,.i mo,.i u] 69) (.cells #[] 69)).1
  have hC:(W6.alloc (.cells #[] 69)).heap[w5.heap.size+1]?=some (.cells #[] 69):=by rw[<- hW6];exact(zQ w5 (.cells #[.s tm,.s rs,.i mo,.i u] 69) (.cells #[] 69)).2
  have HB0:=hid (HBA.o.alloc (by omega) (.cells #[] 69));obtain⟨W0,hW0⟩:=xN (W6.alloc (.cells #[] 69));have hz0:w5.heap.size+1<W0.heap.size:=by rw[hW0];simp;omega
  rw[<- hW0]at HB0 hA hC ⊢;clear hW0 cX cB cR fR cY kX6 kB6 kR6 kY6 HBA hng' hten' hW6 hx6 hR6 hz6;have HR0:Hid (W0.ownsRow (w5.heap.size+1) 69 4 (.l (some (aD (w5.heap.size+1) 0)) 0 0) 0 []):=⟨rfl,.inr ⟨w5.heap.size+1,0,#[],rfl,Nat.le_refl _,hC,Nat.le_refl _,by simp[maxLen],rfl,rfl⟩⟩
  have HA:=hid hA;clear hA hC
  go_loopw [16,17,18] (fun v0 dd iv wr=>∃(k:Nat) (v:Value),v=v0/\k<=b.ls.length/\dd=.bool (decide (jg b.ls ⟨tm,rs,mo,u⟩<k))/\iv=.i k/\Hid (wr.ownsRow (w5.heap.size+1) 69 4 v (zf0 b.ls ⟨tm,rs,mo,u⟩ k).length ((zf0 b.ls ⟨tm,rs,mo,u⟩ k).flatMap Lg.row)/\Below (w5.heap.size+1) W0 wr)) (fun _ _ iv _=>b.ls.length-(intOf iv).toNat)
  case atStart=>exact⟨0,_,rfl,Nat.zero_le _,rfl,rfl,by rw[zfl (Nat.zero_le _),List.take_zero];exact HR0.o,bRf _ _⟩
  case round=>
   obtain⟨k,v,hv,hk,rfl,rfl,HQ⟩:=hrel;subst hv;have HBr:Hid (Bw w5 wr):=HB0.o.trans (HQ.o.2.mono (by have:=HB0.o.size;omega));have hz1:w5.heap.size+1<wr.heap.size:=by have:=HQ.o.2.size;omega
   have kXr:=(HBr.o.block x hxz5).trans kX5;have kRr:=(HBr.o.block _ hzR5).trans kR5;have kYr:=(HQ.o.2.block w5.heap.size (by omega)).trans HA.o;have hxr:x<wr.heap.size:=by omega
   have HLL:Hid ((zf0 b.ls ⟨tm,rs,mo,u⟩ k).length<=10):=by have:=zn1 (ls:=b.ls) (g:=⟨tm,rs,mo,u⟩) (j:=k);show _<=_;omega
   have HGB:Hid (∀(u:Value) (W:World) (n:Nat) (xs:List Value),W.ownsRow (w5.heap.size+1) 69 4 u n xs->∀g',u.ownBlock=some g'->w5.heap.size+1<=g'):=fun u W n xs h g' hg'=>(h.lt g' hg').1
   by_cases hlt:k<b.ls.length
   ·obtain⟨gb,C,hga,hgl,hg5,hCz,hCc⟩:=zee HN5.o.2.1 (by omega)
    subst hga;have hgz5:=(gES hg5).1;have kgr:=(HBr.o.block gb hgz5).trans hg5;have hgr:gb<wr.heap.size:=by omega
    have hltI:(k:Int)<(b.ls.length:Int):=by omega
    have f0:C[k*4]?=some (.s b.ls[k].tm):=by have h:=hCc (k*4+0) (by omega);rw[zaz Lg.row 4 (fun _=>rfl) b.ls k hlt 0 (by omega)]at h;exact h
    have f1:C[k*4+1]?=some (.s b.ls[k].rs):=by rw[hCc _ (by omega),zaz Lg.row 4 (fun _=>rfl) b.ls k hlt 1 (by omega)];rfl
    have f2:C[k*4+2]?=some (.i b.ls[k].mo):=by rw[hCc _ (by omega),zaz Lg.row 4 (fun _=>rfl) b.ls k hlt 2 (by omega)];rfl
    have f3:C[k*4+3]?=some (.i b.ls[k].fr):=by rw[hCc _ (by omega),zaz Lg.row 4 (fun _=>rfl) b.ls k hlt 3 (by omega)];rfl
    have HS:Hid (∀W,Bw wr W->(∀j,W.cell? (aD x j)=(#[.i b.now,.i b.tick,.i b.given,.l d0 b.os.length e0,.l d1 b.gs.length e1,.l (some (aD gb 0)) b.ls.length e2,.l d3 b.ps.length e3]:AV)[j]?)/\(∀j,W.cell? (aD w5.heap.size j)=(#[.s tm,.s rs,.i mo,.i u]:AV)[j]?)/\W.cell? (aD gb (k*4))=some (.s b.ls[k].tm)/\W.cell? (aD gb (k*4+1))=some (.s b.ls[k].rs)/\W.cell? (aD gb (k*4+2))=some (.i b.ls[k].mo)/\W.cell? (aD gb (k*4+3))=some (.i b.ls[k].fr)):=fun W hW=>⟨fun j=>cell_of_block ((hW.block _ hxr).trans kXr),fun j=>cell_of_block ((hW.block _ (by omega)).trans kYr),(cell_of_block ((hW.block _ hgr).trans kgr)).trans f0,(cell_of_block ((hW.block _ hgr).trans kgr)).trans f1,(cell_of_block ((hW.block _ hgr).trans kgr)).trans f2,(cell_of_block ((hW.block _ hgr).trans kgr)).trans f3⟩
    have hS:=HS.o wr.drew (bRf wr.heap.size wr).drew;have cX:=(HS.o wr (bRf _ _)).1;have HNX:Hid (∀q,v.ownBlock=some q->q≠x):=fun q hq=>by have:=HGB.o _ _ _ _ HQ.o.1 q hq;omega
    have HNG:Hid (∀q,v.ownBlock=some q->q≠gb):=fun q hq=>by have:=HGB.o _ _ _ _ HQ.o.1 q hq;omega
    clear f0 f1 f2 f3 hCz hCc hg5 kgr kXr kYr kRr
    rcases Nat.lt_trichotomy k (jg b.ls ⟨tm,rs,mo,u⟩) with h1|h1|h1
    ·have hdn:decide (jg b.ls ⟨tm,rs,mo,u⟩<k)=false:=decide_eq_false (by omega)
     have hgt:decide (0<key2 b.ls[k].tm b.ls[k].rs tm rs)=false:=decide_eq_false (zoC hlt h1);have HEk:=ql (zoo hlt h1) h1;rw[hdn];clear h1 hdn;go_wp2_with fail
     go_region_held3 (fun w'=>(∀j,w'.cell? (aD x j)=(#[.i b.now,.i b.tick,.i b.given,.l d0 b.os.length e0,.l d1 b.gs.length e1,.l (some (aD gb 0)) b.ls.length e2,.l d3 b.ps.length e3]:AV)[j]?)/\(∀j,w'.cell? (aD w5.heap.size j)=(#[.s tm,.s rs,.i mo,.i u]:AV)[j]?)/\w'.cell? (aD gb (k*4))=some (.s b.ls[k].tm)/\w'.cell? (aD gb (k*4+1))=some (.s b.ls[k].rs)/\w'.cell? (aD gb (k*4+2))=some (.i b.ls[k].mo)/\w'.cell? (aD gb (k*4+3))=some (.i b.ls[k].fr)) (exact hS) (first|(go_at_call 29;refine(zd1 _ _ _ _ _).mono ?_;rintro e w8⟨rfl,rfl⟩))
     obtain⟨V,hV⟩:=xN (wr.drew);have hBd:Bw wr V:=by rw[hV];exact(bRf _ _).drew
     rw[<- hV];clear hV hS;have HOv:=hid (yC HQ.o.1 hBd);have HBV:=hid (HQ.o.2.trans (hBd.mono (by have:=HQ.o.2.size;omega)));have HLV:Hid (w5.heap.size+1<=V.heap.size):=by have:=hBd.size;show _<=_;omega
     obtain⟨cX,cY,c0,c1,c2',c3'⟩:=HS.o V hBd;have hxV:x<V.heap.size:=by have:=HLV.o;omega
     have hyV:w5.heap.size<V.heap.size:=by have:=HLV.o;omega
     have hgV:gb<V.heap.size:=by have:=HLV.o;omega
     clear hBd HS
     go_wp2_with (at_builtin;refine wpList_append_own _ rfl (.tmp 131) (.tmp 137) 37 rfl (w5.heap.size+1) 69 i0 (.agg #[.s ByteArray.empty,.s ByteArray.empty,.i 0,.i 0]) 4 48 Tryz.underlying37 HI.o.1 HI.o.2.1 HI.o.2.2.1 HI.o.2.2.2 rfl (by decide) _ _ _ rfl (HOv.o.alloc _) (aD V.heap.size 0) 1 1 b.ls[k].row rfl rfl (zdF _ b.ls[k] _) (fun y hy=>zcC (xs:=[b.ls[k]]) y (by simpa using hy)) (by have:=HLL.o;unfold maxLen;omega) (by have:=HLL.o;omega) (by have:=HLV.o;simp;omega) ?_;intro v7 w7 ho7 hg7 _)
     refine⟨⟨k+1,_,rfl,by omega,by rw[decide_eq_false (by have:=HEk.o.2;omega)],by go_num,?_,zbx HBV.o HLV.o hg7 (HGB.o _ _ _ _ HOv.o)⟩,zq hlt⟩;rw[HEk.o.1,List.length_append,List.flatMap_append]
     simpa using ho7
    ·have hdn:decide (jg b.ls ⟨tm,rs,mo,u⟩<k)=false:=decide_eq_false (by omega)
     have hgt:decide (0<key2 b.ls[k].tm b.ls[k].rs tm rs)=true:=decide_eq_true (zpO hlt h1);have HEk:=ql (zro hlt h1) h1;rw[hdn];clear h1 hdn;go_wp2_with fail
     go_region_held3 (fun w'=>(∀j,w'.cell? (aD x j)=(#[.i b.now,.i b.tick,.i b.given,.l d0 b.os.length e0,.l d1 b.gs.length e1,.l (some (aD gb 0)) b.ls.length e2,.l d3 b.ps.length e3]:AV)[j]?)/\(∀j,w'.cell? (aD w5.heap.size j)=(#[.s tm,.s rs,.i mo,.i u]:AV)[j]?)/\w'.cell? (aD gb (k*4))=some (.s b.ls[k].tm)/\w'.cell? (aD gb (k*4+1))=some (.s b.ls[k].rs)/\w'.cell? (aD gb (k*4+2))=some (.i b.ls[k].mo)/\w'.cell? (aD gb (k*4+3))=some (.i b.ls[k].fr)) (exact hS) (first|(go_at_call 29;refine(zd1 _ _ _ _ _).mono ?_;rintro e w8⟨rfl,rfl⟩))
     obtain⟨V,hV⟩:=xN (wr.drew);have hBd:Bw wr V:=by rw[hV];exact(bRf _ _).drew
     rw[<- hV];clear hV hS;have HOv:=hid (yC HQ.o.1 hBd);have HBV:=hid (HQ.o.2.trans (hBd.mono (by have:=HQ.o.2.size;omega)));have HLV:Hid (w5.heap.size+1<=V.heap.size):=by have:=hBd.size;show _<=_;omega
     obtain⟨cX,cY,c0,c1,c2',c3'⟩:=HS.o V hBd;have hxV:x<V.heap.size:=by have:=HLV.o;omega
     have hyV:w5.heap.size<V.heap.size:=by have:=HLV.o;omega
     have hgV:gb<V.heap.size:=by have:=HLV.o;omega
     clear hBd HS
     go_wp2_with (first|(at_builtin;refine wpList_append_own _ rfl (.tmp 127) (.tmp 129) 37 rfl (w5.heap.size+1) 69 i0 (.agg #[.s ByteArray.empty,.s ByteArray.empty,.i 0,.i 0]) 4 48 Tryz.underlying37 HI.o.1 HI.o.2.1 HI.o.2.2.1 HI.o.2.2.2 rfl (by decide) _ _ _ rfl (HOv.o.alloc _) (aD V.heap.size 0) 1 1 (⟨tm,rs,mo,u⟩:Lg).row rfl rfl (zdF _ (⟨tm,rs,mo,u⟩:Lg) _) (fun y hy=>zcC (xs:=[(⟨tm,rs,mo,u⟩:Lg)]) y (by simpa using hy)) (by have:=HLL.o;unfold maxLen;omega) (by have:=HLL.o;omega) (by have:=HLV.o;simp;omega) ?_;intro v7 w7 ho7 hg7 _;have cX:=fun j=>(zh6 hg7 hxV HNX.o j).trans (cX j);have cc:=zh6 hg7 hgV HNG.o;have c0:=(cc _).trans c0;have c1:=(cc _).trans c1;have c2':=(cc _).trans c2';have c3':=(cc _).trans c3';have hgV:gb<w7.heap.size:=by have:=hg7.size;simp at this;omega)|(at_builtin;refine zbB ?_))
     have hz7:=hg7.size;have HO7:=hid ho7;have HL7:Hid (w5.heap.size+1<=w7.heap.size):=by have:=HLV.o;simp at hz7;show _<=_;omega
     have HB7:=hid (zbx HBV.o HLV.o hg7 (HGB.o _ _ _ _ HOv.o));clear cc hg7 ho7;refine wpList_append_own _ rfl (.tmp 131) (.tmp 137) 37 rfl (w5.heap.size+1) 69 i0 (.agg #[.s ByteArray.empty,.s ByteArray.empty,.i 0,.i 0]) 4 48 Tryz.underlying37 HI.o.1 HI.o.2.1 HI.o.2.2.1 HI.o.2.2.2 rfl (by decide) _ _ _ rfl (HO7.o.alloc _) (aD w7.heap.size 0) 1 1 b.ls[k].row rfl rfl (zdF _ b.ls[k] _) (fun y hy=>zcC (xs:=[b.ls[k]]) y (by simpa using hy)) (by have:=HLL.o;unfold maxLen;omega) (by have:=HLL.o;omega) (by have:=HL7.o;simp;omega) ?_;intro v8 w8 ho8 hg8 _;go_wp2_with fail
     refine⟨⟨k+1,_,rfl,by omega,by rw[decide_eq_true (by have:=HEk.o.2;omega)],by go_num,?_,zbx HB7.o HL7.o hg8 (HGB.o _ _ _ _ HO7.o)⟩,zq hlt⟩;rw[HEk.o.1,List.length_append,List.length_append,List.flatMap_append,List.flatMap_append]
     simpa using ho8
    ·have hdn:decide (jg b.ls ⟨tm,rs,mo,u⟩<k)=true:=decide_eq_true h1
     have HEk:=ql (zoP hlt h1) h1;rw[hdn];clear h1 hdn;go_wp2_with fail
     refine wp_region_held_drew (S:=fun _=>True) (by kernel_rfl) trivial (fun H_=>?_);refine tG 0 ?_;refine tG 1 ?_;refine tG 2 ?_;refine kG 3 ?_;refine kG 4 ?_;refine kG 5 ?_;refine kG 6 ?_;refine kG 7 ?_;refine kG 8 ?_;refine kG 9 ?_;refine kG 10 ?_;refine kG 11 ?_;refine kG 12 ?_;refine kG 13 ?_;refine kG 14 ?_;refine kG 15 ?_;refine kG 16 ?_;refine kG 17 ?_;refine kG 18 ?_;refine tG 19 ?_;refine wpAnyH_done (by kernel_rfl) ?_ _;obtain⟨V,hV⟩:=xN (wr.drew);have hBd:Bw wr V:=by rw[hV];exact(bRf _ _).drew
     rw[<- hV];clear hV hS;have HOv:=hid (yC HQ.o.1 hBd);have HBV:=hid (HQ.o.2.trans (hBd.mono (by have:=HQ.o.2.size;omega)));have HLV:Hid (w5.heap.size+1<=V.heap.size):=by have:=hBd.size;show _<=_;omega
     obtain⟨cX,cY,c0,c1,c2',c3'⟩:=HS.o V hBd;have hxV:x<V.heap.size:=by have:=HLV.o;omega
     have hyV:w5.heap.size<V.heap.size:=by have:=HLV.o;omega
     have hgV:gb<V.heap.size:=by have:=HLV.o;omega
     clear hBd HS
     go_wp2_with (at_builtin;refine wpList_append_own _ rfl (.tmp 131) (.tmp 137) 37 rfl (w5.heap.size+1) 69 i0 (.agg #[.s ByteArray.empty,.s ByteArray.empty,.i 0,.i 0]) 4 48 Tryz.underlying37 HI.o.1 HI.o.2.1 HI.o.2.2.1 HI.o.2.2.2 rfl (by decide) _ _ _ rfl (HOv.o.alloc _) (aD V.heap.size 0) 1 1 b.ls[k].row rfl rfl (zdF _ b.ls[k] _) (fun y hy=>zcC (xs:=[b.ls[k]]) y (by simpa using hy)) (by have:=HLL.o;unfold maxLen;omega) (by have:=HLL.o;omega) (by have:=HLV.o;simp;omega) ?_;intro v7 w7 ho7 hg7 _)
     refine⟨⟨k+1,_,rfl,by omega,by rw[decide_eq_true (by have:=HEk.o.2;omega)],by go_num,?_,zbx HBV.o HLV.o hg7 (HGB.o _ _ _ _ HOv.o)⟩,zq hlt⟩;rw[HEk.o.1,List.length_append,List.flatMap_append]
     simpa using ho7
   ·have e:k=b.ls.length:=by omega
    subst e;have hRr:w.heap.size+1+1<wr.heap.size:=by omega
    have hyr:w5.heap.size<wr.heap.size:=by omega
    have HLr:Hid (w5.heap.size+1<=wr.heap.size):=Nat.le_of_lt hz1;have cX:=fun j=>cell_of_block (o:=j) kXr
    have fX:=fun j=>zh (o:=j) kXr
    have cR:=fun j=>cell_of_block (o:=j) kRr
    have fR:=fun j=>zh (o:=j) kRr
    have cY:=fun j=>cell_of_block (o:=j) kYr
    by_cases hd:jg b.ls ⟨tm,rs,mo,u⟩<b.ls.length
    ·have HOw:Hid (wr.ownsRow (w5.heap.size+1) 69 4 v (zbp b.ls ⟨tm,rs,mo,u⟩).length ((zbp b.ls ⟨tm,rs,mo,u⟩).flatMap Lg.row)):=by rw[<- zq0 hd];exact HQ.o.1
     rw[decide_eq_true hd];clear hd;obtain⟨va,vc,hv⟩:=jm HOw.o;subst hv;go_wp2_with fail
     refine bodyPost_ret (v:=.tuple #[.agg #[.i b.now,.i b.tick,.i b.given,.l d0 b.os.length e0,.l d1 b.gs.length e1,.l va (zbp b.ls ⟨tm,rs,mo,u⟩).length vc,.l d3 b.ps.length e3],.i 0]) (by simp[results,Tryz.results6,go_sem,cR]) rfl ?_;exact zey (w3:=w5) (own:=own) (own':=fun q=>if q<w5.heap.size then own q else (2,0,0)) HE0.o HN5.o.1 ((Left.of_below _ HBr.o).trans ((Left.refl (fun z=>(own z).1=2 \/ (own z).1=9) wr).set (b:=x) (Or.inr HX9.o) 5 (.l va (zbp b.ls ⟨tm,rs,mo,u⟩).length vc))) (fun q hq=>if_pos hq) ⟨zji (qG HOw.o (fun z hz=>Below.heap_setCell _ _ _ _ (by show z≠x;have:=(HOw.o.lt z hz).1;omega))) (by omega),fun z hz=>if_neg (by have:=(HOw.o.lt z hz).1;omega)⟩ ((HB5.o.trans (HBr.o.mono HB5.o.size)).setCell (show w.heap.size<=x by omega) _) (by omega) (by omega) _ _ _ _ _ _ _
    ·have HEk:=hid (zqo hd)
     have HOv:=hid HQ.o.1;have HNX:Hid (∀q,v.ownBlock=some q->q≠x):=fun q hq=>by have:=HGB.o _ _ _ _ HQ.o.1 q hq;omega
     have HNR:Hid (∀q,v.ownBlock=some q->q≠w.heap.size+1+1):=fun q hq=>by have:=HGB.o _ _ _ _ HQ.o.1 q hq;omega
     have HKK:=ql kXr kRr;rw[decide_eq_false hd];clear hd kXr kRr kYr
     go_wp2_with (at_builtin;refine zbB ?_)
     refine wpList_append_own _ rfl (.tmp 141) (.tmp 143) 37 rfl (w5.heap.size+1) 69 i0 (.agg #[.s ByteArray.empty,.s ByteArray.empty,.i 0,.i 0]) 4 48 Tryz.underlying37 HI.o.1 HI.o.2.1 HI.o.2.2.1 HI.o.2.2.2 rfl (by decide) _ _ _ rfl (HOv.o.alloc _) (aD wr.heap.size 0) 1 1 (⟨tm,rs,mo,u⟩:Lg).row rfl rfl (zdF _ (⟨tm,rs,mo,u⟩:Lg) _) (fun y hy=>zcC (xs:=[(⟨tm,rs,mo,u⟩:Lg)]) y (by simpa using hy)) (by have:=HLL.o;unfold maxLen;omega) (by have:=HLL.o;omega) (by have:=HLr.o;simp;omega) ?_;intro v7 w7 ho7 hg7 _;have ho8:w7.ownsRow (w5.heap.size+1) 69 4 v7 (zbp b.ls ⟨tm,rs,mo,u⟩).length ((zbp b.ls ⟨tm,rs,mo,u⟩).flatMap Lg.row):=by rw[HEk.o,List.length_append,List.flatMap_append];simpa using ho7
     have HB7:=hid (zbx HBr.o (Nat.le_of_lt hyr) hg7 (fun q hq=>Nat.le_of_succ_le (HGB.o _ _ _ _ HOv.o q hq)));have kX7:=(zea hg7 hxr HNX.o).trans HKK.o.1;have kR7:=(zea hg7 hRr HNR.o).trans HKK.o.2;have hz7:=hg7.size;have hx7:x<w7.heap.size:=by simp at hz7;omega
     have hR7:w.heap.size+1+1<w7.heap.size:=by simp at hz7;omega
     have cX:=fun j=>cell_of_block (o:=j) kX7
     have fX:=fun j=>zh (o:=j) kX7
     have cR:=fun j=>cell_of_block (o:=j) kR7
     have fR:=fun j=>zh (o:=j) kR7
     have HO8:=hid ho8;clear ho7 hg7 hz7;obtain⟨va,vc,hv⟩:=jm ho8;subst hv;clear ho8;go_wp2_with fail
     refine bodyPost_ret (v:=.tuple #[.agg #[.i b.now,.i b.tick,.i b.given,.l d0 b.os.length e0,.l d1 b.gs.length e1,.l va (zbp b.ls ⟨tm,rs,mo,u⟩).length vc,.l d3 b.ps.length e3],.i 0]) (by simp[results,Tryz.results6,go_sem,cR]) rfl ?_;exact zey (w3:=w5) (own:=own) (own':=fun q=>if q<w5.heap.size then own q else (2,0,0)) HE0.o HN5.o.1 ((Left.of_below _ HB7.o).trans ((Left.refl (fun z=>(own z).1=2 \/ (own z).1=9) w7).set (b:=x) (Or.inr HX9.o) 5 (.l va (zbp b.ls ⟨tm,rs,mo,u⟩).length vc))) (fun q hq=>if_pos hq) ⟨zji (qG HO8.o (fun z hz=>Below.heap_setCell _ _ _ _ (by show z≠x;have:=(HO8.o.lt z hz).1;omega))) (by omega),fun z hz=>if_neg (by have:=(HO8.o.lt z hz).1;omega)⟩ ((HB5.o.trans (HB7.o.mono HB5.o.size)).setCell (show w.heap.size<=x by omega) _) (by omega) (by omega) _ _ _ _ _ _ _
end Go.Proofs.YtcgpjfcocmcodaaGreat
