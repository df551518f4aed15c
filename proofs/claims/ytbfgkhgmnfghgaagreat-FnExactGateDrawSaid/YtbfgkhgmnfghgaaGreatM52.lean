import Derived.Test.YtbfgkhgmnfghgaaGreatM51
set_option maxHeartbeats 8000000
namespace Go.Proofs.YtbfgkhgmnfghgaaGreat
open Go.RowKit
set_option maxRecDepth 20000 in
theorem zmD (l:Lw)(la lb lc:OA)(lca lcb lcc:Nat)(b:Bk)(a0 a1 a2 a3:OA)(c0 c1 c2 c3:Nat)(dr tm rs:BA)(am:Int)(w:World)(hl:jA w l la lb lc)(hb:jk w b a0 a1 a2 a3)(hh:zcv w a0 b.os)(hbf:b.Few)(hz:qO b.os<=1048576)(hd:dr.size<=maxLen) :
 Calls Tryz.prog 6 #[.agg (l.cells la lb lc lca lcb lcc),.agg (b.cells a0 a1 a2 a3 c0 c1 c2 c3),.s dr,.s tm,.s rs,.i am] w fun e w'=>zkr w.heap.size w' e (draw l b dr tm rs am)/\Bw w w':=by
 have HK:=hid hb;have HL:=hid hl;have HF:=za6 hh hbf hz;have HD:=hid hd;clear hb hl hh hbf hz hd;unfold Lw.cells Bk.cells;have k0:=zny w (.cells #[.l la l.ss.length lca,.l lb l.ms.length lcb,.l lc l.ts.length lcc] 47) (.cells (bC b a0 a1 a2 a3 c0 c1 c2 c3) 40) (.cells bZ 40);have hB0:=below3' w (.cells #[.l la l.ss.length lca,.l lb l.ms.length lcb,.l lc l.ts.length lcc] 47) (.cells (bC b a0 a1 a2 a3 c0 c1 c2 c3) 40) (.cells bZ 40);obtain⟨W0,hW0⟩:=nm (((w.alloc (.cells #[.l la l.ss.length lca,.l lb l.ms.length lcb,.l lc l.ts.length lcc] 47)).alloc (.cells (bC b a0 a1 a2 a3 c0 c1 c2 c3) 40)).alloc (.cells bZ 40));have hz0:W0.heap.size=w.heap.size+1+1+1:=by rw[hW0];simp
 go_enter Tryz.func6,Tryz.ntmps6;go_wp2_with fail
 rw[<- hW0]at k0 hB0 ⊢;clear hW0;refine(zj0 l la lb lc lca lcb lcc b a0 a1 a2 a3 c0 c1 c2 c3 W0 (HL.o.mono hB0) (HK.o.mono hB0) (HF.o.1.mono hB0) HF.o.2.1 HF.o.2.2).mono ?_;rintro e w1⟨rfl,hb1⟩;have hz1:=hb1.size;have HB1:=hid (hB0.trans (hb1.mono hB0.size));have kB:=(hb1.block (w.heap.size+1) (by omega)).trans k0.2.1;have kR:=(hb1.block (w.heap.size+1+1) (by omega)).trans k0.2.2;have cB:=fun j=>cell_of_block (o:=j) kB
 have cR:=fun j=>cell_of_block (o:=j) kR
 have fR:=fun j=>zf (o:=j) kR
 have hzB:w.heap.size+1<w1.heap.size:=by omega
 have hzR:w.heap.size+1+1<w1.heap.size:=by omega
 have HKB:=yU kB kR;clear hb1 k0 hB0 kB kR
 by_cases hok:jG l b=true
 rotate_left
 ·have hno:jG l b=false:=bFi hok
  have HR:Hid (draw l b dr tm rs am=(zaR,1)):=by unfold Hid draw;rw[hno];rfl
  rw[hno];go_wp2_with fail
  refine bodyPost_ret (v:=.tuple #[.agg #[.i 0,.i 0,.i 0,.l none 0 0,.l none 0 0,.l none 0 0,.l none 0 0],.i 1]) (by simp[results,Tryz.results6,go_sem,cR]) rfl ?_;refine⟨⟨w1.heap.size,fun _=>(9,0,0),none,none,none,none,0,0,0,0,by rw[HR.o];rfl,?_⟩,?_⟩
  ·rw[HR.o]
   exact⟨⟨fun h=>absurd h (by simp[zaR])⟩,⟨fun h=>absurd h (by simp[zaR])⟩,⟨fun h=>absurd h (by simp[zaR])⟩,⟨fun h=>absurd h (by simp[zaR])⟩,fun _ _=>rfl,HB1.o.size,by simp[World.setCell]⟩
  ·have h1:w.heap.size<=w.heap.size+1+1:=by omega
   iterate 7 refine Below.setCell ?_ h1 _
   exact HB1.o
 have HT:=yU (zpI hok) (ziz hok);rw[hok];go_wp2_with fail
 refine(zoN b a0 a1 a2 a3 c0 c1 c2 c3 w1 (HK.o.mono HB1.o) (HF.o.1.mono HB1.o) HF.o.2.1).mono ?_;rintro e w2⟨own,d0,d1,d2,d3,e0,e1,e2,e3,rfl,hbk,hrr,hb2⟩;have hz2:=hb2.size;have HB2:=hid hb2;have HN2:=hid hbk;have HRP:=hid hrr;have kR2:=(hb2.block (w.heap.size+1+1) hzR).trans HKB.o.2;have kB2:=(hb2.block (w.heap.size+1) hzB).trans HKB.o.1;have hba:=(bRf w2.heap.size w2).alloc (Nat.le_refl _) (.cells (bC b d0 d1 d2 d3 e0 e1 e2 e3) 40);have kX:=alloc_at w2 (.cells (bC b d0 d1 d2 d3 e0 e1 e2 e3) 40);clear hb2 hbk hrr cB cR fR;have cB2:=fun j=>cell_of_block (o:=j) kB2
 have hzB2:w.heap.size+1<w2.heap.size:=by omega
 go_wp2_with fail
 clear cB2 hzB2;obtain⟨W3,hW3⟩:=nm (w2.alloc (.cells (bC b d0 d1 d2 d3 e0 e1 e2 e3) 40));rw[<- hW3]at hba kX ⊢;have hz3:W3.heap.size=w2.heap.size+1:=by rw[hW3];simp
 clear hW3;have hB3:=(HB1.o.trans (HB2.o.mono HB1.o.size)).trans (hba.mono (by omega));have HN3:=za6 (BkF.mono HN2.o hba) (HRP.o.1.left (Left.of_below (fun _=>False) hba) (fun _ _ h=>h)) (HRP.o.2.left (Left.of_below (fun _=>False) hba) (fun _ _ h=>h));have hQ:=zeh b a0 a1 a2 a3 c0 c1 c2 c3 tm rs W3 (HK.o.mono hB3) (by have:=HT.o.1.len;omega);unfold Bk.cells at hQ;refine hQ.mono ?_;rintro e w4⟨rfl,hb4⟩;have hz4:=hb4.size;have kR4:=((hb4.block _ (by omega)).trans (hba.block _ (by omega))).trans kR2;have kB4:=((hb4.block _ (by omega)).trans (hba.block _ (by omega))).trans kB2;have kX4:=(hb4.block _ (by omega)).trans kX;have HN4:=za6 (BkF.mono HN3.o.1 hb4) (HN3.o.2.1.left (Left.of_below (fun _=>False) hb4) (fun _ _ h=>h)) (HN3.o.2.2.left (Left.of_below (fun _=>False) hb4) (fun _ _ h=>h));have HB4:=hid (hB3.trans (hb4.mono (by omega)));obtain⟨x,hx⟩:=nm (w2.heap.size);rw[<- hx]at kX4 hz3 HN4 ⊢;have hxR:w.heap.size+1+1<x:=by omega
 have hxz:x<w4.heap.size:=by omega
 have hxw:w1.heap.size+1+1+1<=x:=HN4.o.1.le;have hzR4:w.heap.size+1+1<w4.heap.size:=by omega
 have hzB4:w.heap.size+1<w4.heap.size:=by omega
 have hw1:w.heap.size+1+1<w1.heap.size:=hzR;have cX:=fun j=>cell_of_block (o:=j) kX4
 have cB:=fun j=>cell_of_block (o:=j) kB4
 have cR:=fun j=>cell_of_block (o:=j) kR4
 have fR:=fun j=>zf (o:=j) kR4
 have HR:Hid (draw l b dr tm rs am=zeC b dr tm rs am):=by unfold Hid draw;rw[if_pos hok]
 have HNm:Hid (∀W,Calls Tryz.prog 25 #[.s dr] W fun e w'=>e=.returned (.bool (zx dr))/\w'=W):=fun W=>zk dr W HD.o
 have HIn:Hid (∀W,Calls Tryz.prog 26 #[.i am,.i 1,.i 1000000] W fun e w'=>e=.returned (.bool (within am 1 1000000))/\w'=W):=fun W=>yt am 1 1000000 W
 clear kR2 kB2 hba HN2 HN3 HRP kX hb4 hz3 hx hQ hB3
 by_cases h1:zx dr=true
 rotate_left
 ·have h1':zx dr=false:=bFi h1
  have HE:=hid (HR.o.trans (zho (am:=am) (zb5 (Or.inl h1'))));clear h1
  go_wp2_with (go_at_call 25;refine(HNm.o _).mono ?_;rintro e w'⟨rfl,hw⟩;rw[hw,h1'];clear hw w')
  refine bodyPost_ret (v:=.tuple #[.agg #[.i b.now,.i b.tick,.i b.given,.l d0 b.os.length e0,.l d1 b.gs.length e1,.l d2 b.ls.length e2,.l d3 b.ps.length e3],.i 2]) (by simp[results,Tryz.results6,go_sem,cR]) rfl ?_;exact zhe HE.o HN4.o.1 (bRf _ _) HB4.o (by omega) (by omega) _ _ _ _ _ _ _
 by_cases h2:yN b.ls tm rs=true
 rotate_left
 ·have h2':yN b.ls tm rs=false:=bFi h2
  have HE:=hid (HR.o.trans (zho (am:=am) (zb5 (Or.inr (Or.inl h2')))));rw[(zpP h2').1];clear h2 h2'
  go_wp2_with (go_at_call 25;refine(HNm.o _).mono ?_;rintro e w'⟨rfl,hw⟩;rw[hw,h1];clear hw w')
  refine bodyPost_ret (v:=.tuple #[.agg #[.i b.now,.i b.tick,.i b.given,.l d0 b.os.length e0,.l d1 b.gs.length e1,.l d2 b.ls.length e2,.l d3 b.ps.length e3],.i 2]) (by simp[results,Tryz.results6,go_sem,cR]) rfl ?_;exact zhe HE.o HN4.o.1 (bRf _ _) HB4.o (by omega) (by omega) _ _ _ _ _ _ _
 obtain⟨hix,hkl⟩:=zq4 h2;rw[hix];clear hix
 by_cases h3:within am 1 1000000=true
 rotate_left
 ·have h3':within am 1 1000000=false:=bFi h3
  have HE:=hid (HR.o.trans (zho (am:=am) (zb5 (Or.inr (Or.inr h3')))));clear h3 hkl
  go_wp2_with (first|(go_at_call 25;refine(HNm.o _).mono ?_;rintro e w'⟨rfl,hw⟩;rw[hw,h1];clear hw w')|(go_at_call 26;refine(HIn.o _).mono ?_;rintro e w'⟨rfl,hw⟩;rw[hw,h3'];clear hw w'))
  refine bodyPost_ret (v:=.tuple #[.agg #[.i b.now,.i b.tick,.i b.given,.l d0 b.os.length e0,.l d1 b.gs.length e1,.l d2 b.ls.length e2,.l d3 b.ps.length e3],.i 2]) (by simp[results,Tryz.results6,go_sem,cR]) rfl ?_;exact zhe HE.o HN4.o.1 (bRf _ _) HB4.o (by omega) (by omega) _ _ _ _ _ _ _
 have HAM:Hid (1<=am/\am<=1000000):=by unfold within at h3;unfold Hid;simpa using h3
 have HDR:Hid (zeC b dr tm rs am=if b.ls[b.ls.findIdx (zam tm rs)].fr<am then (b,3) else if 24<(fill b.ps dr tm rs am (b.tick+10)).length then (b,4) else ({ b with ls:=b.ls.set (b.ls.findIdx (zam tm rs)) ⟨b.ls[b.ls.findIdx (zam tm rs)].tm,b.ls[b.ls.findIdx (zam tm rs)].rs,b.ls[b.ls.findIdx (zam tm rs)].mo,b.ls[b.ls.findIdx (zam tm rs)].fr-am⟩,ps:=fill b.ps dr tm rs am (b.tick+10) },0)):=by
  unfold Hid zeC jL;rw[dif_pos ⟨by rw[h1,h3];rfl,hkl⟩]
  split
  ·rfl
  ·split <;> rfl
 obtain⟨k,hk⟩:=nm (b.ls.findIdx (zam tm rs))
 revert hkl HDR
 rw[<- hk];intro hkl HDR;clear hk;obtain⟨gb,goff,rfl,hgb,q0,q1,q2,q3⟩:=HK.o.ls.load HB4.o k hkl;have hgb4:gb<w4.heap.size:=nLt hgb HB4.o.size;have hkI:(k:Int)<(b.ls.length:Int):=by omega
 have hln:=HT.o.1.len
 by_cases hf:b.ls[k].fr<am
 ·have HE:Hid (draw l b dr tm rs am=(b,3)):=by unfold Hid;rw[HR.o,HDR.o,if_pos hf]
  go_wp2_with (first|(go_at_call 25;refine(HNm.o _).mono ?_;rintro e w'⟨rfl,hw⟩;rw[hw,h1];clear hw w')|(go_at_call 26;refine(HIn.o _).mono ?_;rintro e w'⟨rfl,hw⟩;rw[hw,h3];clear hw w'))
  refine bodyPost_ret (v:=.tuple #[.agg #[.i b.now,.i b.tick,.i b.given,.l d0 b.os.length e0,.l d1 b.gs.length e1,.l d2 b.ls.length e2,.l d3 b.ps.length e3],.i 3]) (by simp[results,Tryz.results6,go_sem,cR]) rfl ?_;exact zhe HE.o HN4.o.1 (bRf _ _) HB4.o (by omega) (by omega) _ _ _ _ _ _ _
 have HF0:=hid hf;have hwt:wrap64 (b.tick+10)=b.tick+10:=by have:=HT.o.1.tick;exact zA _ ⟨by omega,by omega⟩
 have hf':decide (b.ls[k].fr<am)=false:=decide_eq_false hf;clear hf
 go_wp2_with (first|(go_at_call 25;refine(HNm.o _).mono ?_;rintro e w'⟨rfl,hw⟩;rw[hw,h1];clear hw w')|(go_at_call 26;refine(HIn.o _).mono ?_;rintro e w'⟨rfl,hw⟩;rw[hw,h3];clear hw w'))
 have hba5:=(bRf w4.heap.size w4).alloc (Nat.le_refl _) (.cells #[.s dr,.s tm,.s rs,.i am,.i (b.tick+10)] 70);have kP5:=alloc_at w4 (.cells #[.s dr,.s tm,.s rs,.i am,.i (b.tick+10)] 70);obtain⟨W5,hW5⟩:=nm (w4.alloc (.cells #[.s dr,.s tm,.s rs,.i am,.i (b.tick+10)] 70));have hz5:W5.heap.size=w4.heap.size+1:=by rw[hW5];simp
 rw[<- hW5]at hba5 kP5 ⊢;clear hW5;have hQ:=znc b a0 a1 (some (aD gb goff)) a3 c0 c1 c2 c3 dr tm rs W5 (HK.o.ps.mono (HB4.o.trans (hba5.mono HB4.o.size))) (by have:=HT.o.1.plen;omega);unfold Bk.cells at hQ;refine hQ.mono ?_;rintro e w6⟨rfl,hb6⟩;have hz6:=hb6.size;have hb46:Bw w4 w6:=hba5.trans (hb6.mono hba5.size);have kX6:=(hb46.block _ hxz).trans kX4;have kB6:=(hb46.block _ hzB4).trans kB4;have kR6:=(hb46.block _ hzR4).trans kR4;have kP6:=(hb6.block w4.heap.size (by omega)).trans kP5;have HN6:=za6 (BkL.mono HN4.o.1 hb46) (HN4.o.2.1.left (Left.of_below (fun _=>False) hb46) (fun _ _ h=>h)) (HN4.o.2.2.left (Left.of_below (fun _=>False) hb46) (fun _ _ h=>h));have HB6:=hid (HB4.o.trans (hb46.mono HB4.o.size));obtain⟨y,hy⟩:=nm (w4.heap.size);rw[<- hy]at kP6 ⊢;have hxy:x<y:=by omega
 have hyz:y<w6.heap.size:=by omega
 have HH:=yU h1 h3;clear hba5 kP5 hz5 hQ hb6 hb46 hy q0 q1 q2 q3 cX cB cR fR kX4 kB4 kR4 HNm HIn h1 h3 hf' hwt hgb4 hz6 hz4 HN4 HB4;have cX:=fun j=>cell_of_block (o:=j) kX6
 have cB:=fun j=>cell_of_block (o:=j) kB6
 have cR:=fun j=>cell_of_block (o:=j) kR6
 have fR:=fun j=>zf (o:=j) kR6
 have cY:=fun j=>cell_of_block (o:=j) kP6
 have fY:=fun j=>zf (o:=j) kP6
 have hxz6:x<w6.heap.size:=by omega
 have hzR6:w.heap.size+1+1<w6.heap.size:=by omega
 have hzB6:w.heap.size+1<w6.heap.size:=by omega
 have hpn:=HT.o.1.plen
 by_cases hh:yP b.ps dr tm rs=true
 focus
  obtain⟨hjx,hpl⟩:=zrn hh;rw[hjx];have HQ:Hid (zeN b.ps dr tm rs=b.ps[b.ps.findIdx (zcB dr tm rs)].am):=by unfold Hid zeN;rw[dif_pos hpl]
  have HLE:Hid (¬24<(fill b.ps dr tm rs am (b.tick+10)).length):=by
   have hp:=zkg HT.o.2 dr tm rs;obtain⟨hk9,_⟩:=(hp.found HT.o.2).1 hh
   have:=(znN hp HT.o.2 hh hk9 am (b.tick+10)).2
   show ¬_
   omega
  obtain⟨j,hj⟩:=nm (b.ps.findIdx (zcB dr tm rs))
  revert hpl HQ
  rw[<- hj];intro hpl HQ;clear hj hjx hh;obtain⟨pb,poff,rfl,hpb,r0,r1,r2,r3,r4⟩:=HK.o.ps.load HB6.o j hpl;have hjI:(j:Int)<(b.ps.length:Int):=by omega
  have hpb6:pb<w6.heap.size:=nLt hpb HB6.o.size;have hpa:=HT.o.1.am _ (List.getElem_mem hpl);have HPA:=hid hpa;clear r0 r1 r2 r4 hpa;go_wp2_with fail
  have HS:Hid (∀W,Left (fun z=>z=y) w6 W->(∀i,W.cell? (aD (w.heap.size+1) i)=(#[.i b.now,.i b.tick,.i b.given,.l a0 b.os.length c0,.l a1 b.gs.length c1,.l (some (aD gb goff)) b.ls.length c2,.l (some (aD pb poff)) b.ps.length c3]:AV)[i]?)/\W.cell? (aD pb (poff+j*5+3))=some (.i b.ps[j].am)):=fun W hW=>⟨fun i=>by rw[cell_of_block ((hW.out (w.heap.size+1) hzB6 (by omega)).trans kB6)],by
   rw[<- r3]
   exact World.cell?_of_block (hW.out pb hpb6 (by have:=HB6.o.size;have h9:w.heap.size<=x:=by omega
                                                  omega))⟩
  have hSd:=HS.o w6.drew ⟨rfl,rfl,rfl,Nat.le_refl _,fun _ _ _=>rfl⟩;have kY7:=zi (o:=3) (show w6.drew.heap[y]?=some (.cells #[.s dr,.s tm,.s rs,.i am,.i (b.tick+10)] 70) from kP6) (.i (am+b.ps[j].am));have hL7:Left (fun z=>z=y) w6 (w6.drew.setCell (aD y 3) (.i (am+b.ps[j].am))):=Left.set (S:=fun z=>z=y) (b:=y) (Left.of_below _ (bRf w6.heap.size w6).drew) rfl 3 _;have hSe:=HS.o _ hL7;have hw7:IntKind.i64.wrap (am+b.ps[j].am)=am+b.ps[j].am:=by have:=HPA.o;have:=HAM.o;rw[IntKind.wrap_i64];omega
  have cYd:w6.drew.cell? (aD y 3)=some (.i am):=cY 3;have fYd:w6.drew.frozen? (aD y 3)=false:=fY 3;have hyd:y<w6.drew.heap.size:=hyz;have HY7:=yU kY7 hL7;clear kY7 hL7;refine zbX (fun A A' w'=>∃u75 u76 u77 u78 u79 u80 u81 u82 u83 u84,A'=((((((((((A.put (some 75) u75).put (some 76) u76).put (some 77) u77).put (some 78) u78).put (some 79) u79).put (some 80) u80).put (some 81) u81).put (some 82) u82).put (some 83) u83).put (some 84) u84)/\w'.heap[y]?=some (.cells #[.s dr,.s tm,.s rs,.i (am+b.ps[j].am),.i (b.tick+10)] 70)/\Left (fun z=>z=y) w6 w') ?_ ?_
  ·refine wp_region_held_drew (S:=fun w'=>(∀i,w'.cell? (aD (w.heap.size+1) i)=(#[.i b.now,.i b.tick,.i b.given,.l a0 b.os.length c0,.l a1 b.gs.length c1,.l (some (aD gb goff)) b.ls.length c2,.l (some (aD pb poff)) b.ps.length c3]:AV)[i]?)/\w'.cell? (aD pb (poff+j*5+3))=some (.i b.ps[j].am)) (by kernel_rfl) hSd (fun H_=>?_)
   refine tG 0 ?_ (hQ:=fun _ _ _ h=>by cases h.1);refine tG 2 ?_ (hQ:=fun _ _ _ h=>by cases h.1);refine tG 3 ?_ (hQ:=fun _ _ _ h=>by cases h.1);refine tG 4 ?_ (hQ:=fun _ _ _ h=>by cases h.1);refine tG 5 ?_ (hQ:=fun _ _ _ h=>by cases h.1);refine tG 6 ?_ (hQ:=fun _ _ _ h=>by cases h.1);refine tG 7 ?_ (hQ:=fun _ _ _ h=>by cases h.1);refine cH 1 rfl fun K hK=>?_
   go_simp
   refine hK.out _ _ hSd (fun H_=>?_);clear hK K
   (try simp only[Act.put,sA,s0,sS])
   refine tG 8 ?_ (hQ:=fun _ _ _ h=>by cases h.1);refine tG 9 ?_ (hQ:=fun _ _ _ h=>by cases h.1);refine cH 10 rfl fun K hK=>?_
   go_simp
   refine hK.out _ _ hSe (fun H_=>?_);clear hK K
   (try simp only[Act.put,sA,s0,sS])
   refine wpAnyH_done (by kernel_rfl) ?_ _;exact⟨rfl,_,_,_,_,_,_,_,_,_,_,rfl,HY7.o.1,HY7.o.2⟩
  rintro A' w7⟨u75,u76,u77,u78,u79,u80,u81,u82,u83,u84,rfl,kY7,hL7⟩
  (try simp only[Act.put,sA,s0,sS])
  obtain⟨q,hq⟩:=nm (am+b.ps[j].am);have HQQ:Hid (q=zeN b.ps dr tm rs+am):=by unfold Hid;rw[HQ.o,hq];omega
  rw[<- hq]at kY7;clear hq HS hSd hSe hw7 cYd fYd hyd HY7 r3 cX cB cR fR cY fY;go_wp2_with fail
 rotate_left
 focus
  have hno:yP b.ps dr tm rs=false:=bFi hh;rw[(zmg hno).1];have HLF:=hid (zpO (zkg HT.o.2 dr tm rs) hno am (b.tick+10)).2;have HQQ:Hid (am=zeN b.ps dr tm rs+am):=by unfold Hid zeN;rw[dif_neg (zmg hno).2];omega
  clear hh hno
  by_cases hlen:24<=b.ps.length
  ·have HE:Hid (draw l b dr tm rs am=(b,4)):=by unfold Hid;rw[HR.o,HDR.o,if_neg (by have:=HF0.o;omega),if_pos (by have:=HLF.o;omega)]
   have hlI:(24:Int)<=(b.ps.length:Int):=by omega
   go_wp2_with fail
   refine bodyPost_ret (v:=.tuple #[.agg #[.i b.now,.i b.tick,.i b.given,.l d0 b.os.length e0,.l d1 b.gs.length e1,.l d2 b.ls.length e2,.l d3 b.ps.length e3],.i 4]) (by simp[results,Tryz.results6,go_sem,cR]) rfl ?_;exact zhe HE.o HN6.o.1 (bRf _ _) HB6.o (by omega) (by omega) _ _ _ _ _ _ _
  have HLE:Hid (¬24<(fill b.ps dr tm rs am (b.tick+10)).length):=by have:=HLF.o;show ¬_;omega
  have hlI:decide ((24:Int)<=(b.ps.length:Int))=false:=by simp;omega
  go_wp2_with fail
  have hL7:=Left.refl (fun z=>z=y) w6;obtain⟨w7,hw7⟩:=nm (w6);have kY7:w7.heap[y]?=some (.cells #[.s dr,.s tm,.s rs,.i am,.i (b.tick+10)] 70):=by rw[hw7];exact kP6
  have hL7:Left (fun z=>z=y) w6 w7:=by rw[hw7];exact Left.refl _ _
  rw[<- hw7];obtain⟨q,hq⟩:=nm (am);have HQQ:Hid (q=zeN b.ps dr tm rs+am):=by rw[hq];exact HQQ.o
  rw[<- hq]at kY7;clear hq hw7 hlI hlen HLF cX cB cR fR cY fY
 all_goals
  have hz7:=hL7.size;have kX7:=(hL7.out x hxz6 (by show ¬x=y;omega)).trans kX6;have kR7:=(hL7.out (w.heap.size+1+1) hzR6 (by show ¬w.heap.size+1+1=y;omega)).trans kR6;have hy9:=HN6.o.1.out y (Or.inr (by omega));have hx9:=HN6.o.1.out x (Or.inr (Nat.le_refl _));have hR9:=HN6.o.1.out (w.heap.size+1+1) (Or.inl (by omega));have HR7:=hid (HN6.o.2.1.left hL7 (fun z h8 h9=>by subst h9;omega));obtain⟨g,C,hga,hgl,hgb7,hCz,hCc⟩:=zds HR7.o.1 (by omega);subst hga;have hgo:=HR7.o.2 g rfl;have hgx:g≠x:=by rintro rfl;rw[hgo]at hx9;cases hx9
  have hcF:w7.drew.cell? (aD g (k*4+3))=some (.i b.ls[k].fr):=by
   show w7.cell? _=_
   rw[cell_of_block hgb7,hCc _ (by omega),zaZ Lg.row 4 (fun _=>rfl) b.ls k hkl 3 (by omega)];rfl
  have fzF:w7.drew.frozen? (aD g (k*4+3))=false:=zf (w:=w7) hgb7;have hgz:g<w7.drew.heap.size:=(gES hgb7).1;have hlf:=HT.o.1.fr.fr _ (List.getElem_mem hkl);have hw8:IntKind.i64.wrap (b.ls[k].fr-am)=b.ls[k].fr-am:=by have:=HAM.o;rw[IntKind.wrap_i64];omega
  have hSd:∀i,w7.drew.cell? (aD x i)=(#[.i b.now,.i b.tick,.i b.given,.l d0 b.os.length e0,.l d1 b.gs.length e1,.l (some (aD g 0)) b.ls.length e2,.l d3 b.ps.length e3]:AV)[i]?:=fun i=>cell_of_block (w:=w7) kX7
  have hL8:Left (fun z=>(own z).1=2) w7 (w7.drew.setCell (aD g (k*4+3)) (.i (b.ls[k].fr-am))):=Left.set (S:=fun z=>(own z).1=2) (b:=g) (Left.of_below _ (bRf w7.heap.size w7).drew) (by rw[hgo]) _ _;have hSe:∀i,(w7.drew.setCell (aD g (k*4+3)) (.i (b.ls[k].fr-am))).cell? (aD x i)=(#[.i b.now,.i b.tick,.i b.given,.l d0 b.os.length e0,.l d1 b.gs.length e1,.l (some (aD g 0)) b.ls.length e2,.l d3 b.ps.length e3]:AV)[i]?:=fun i=>cell_of_block ((hL8.out x (by omega) (by omega)).trans kX7)
  have hrow:=zjt (show w7.drew.ownsRow _ _ _ _ _ _ from yE HR7.o.1 (bRf w7.heap.size w7).drew) (k*4+3) (.i (b.ls[k].fr-am));rw[<- ze0 Lg.row 4 (fun _=>rfl) b.ls k hkl 3 (.i (b.ls[k].fr-am)) ⟨b.ls[k].tm,b.ls[k].rs,b.ls[k].mo,b.ls[k].fr-am⟩ (by omega) rfl]at hrow;have HE8:Hid (zdl (w1.heap.size+1+1+1) (w7.drew.setCell (aD g (k*4+3)) (.i (b.ls[k].fr-am))) own (.l (some (aD g 0)) b.ls.length e2) (b.ls.set k ⟨b.ls[k].tm,b.ls[k].rs,b.ls[k].mo,b.ls[k].fr-am⟩)/\Left (fun z=>(own z).1=2) w7 (w7.drew.setCell (aD g (k*4+3)) (.i (b.ls[k].fr-am)))):=⟨⟨by rw[List.length_set];exact hrow,HR7.o.2⟩,hL8⟩
  clear hrow hL8 hCz hCc hgl;refine zbX (fun A A' w'=>∃u85 u86 u87 u88 u89 u90 u91 u92 u93 u94 u95 u96 u97,A'=(((((((((((((A.put (some 85) u85).put (some 86) u86).put (some 87) u87).put (some 88) u88).put (some 89) u89).put (some 90) u90).put (some 91) u91).put (some 92) u92).put (some 93) u93).put (some 94) u94).put (some 95) u95).put (some 96) u96).put (some 97) u97)/\zdl (w1.heap.size+1+1+1) w' own (.l (some (aD g 0)) b.ls.length e2) (b.ls.set k ⟨b.ls[k].tm,b.ls[k].rs,b.ls[k].mo,b.ls[k].fr-am⟩)/\Left (fun z=>(own z).1=2) w7 w') ?_ ?_
  ·refine wp_region_held_drew (S:=fun w'=>∀i,w'.cell? (aD x i)=(#[.i b.now,.i b.tick,.i b.given,.l d0 b.os.length e0,.l d1 b.gs.length e1,.l (some (aD g 0)) b.ls.length e2,.l d3 b.ps.length e3]:AV)[i]?) (by kernel_rfl) hSd (fun H_=>?_)
   refine tG 0 ?_ (hQ:=fun _ _ _ h=>by cases h.1);refine tG 1 ?_ (hQ:=fun _ _ _ h=>by cases h.1);refine tG 2 ?_ (hQ:=fun _ _ _ h=>by cases h.1);refine tG 3 ?_ (hQ:=fun _ _ _ h=>by cases h.1);refine tG 4 ?_ (hQ:=fun _ _ _ h=>by cases h.1);refine tG 5 ?_ (hQ:=fun _ _ _ h=>by cases h.1);refine tG 6 ?_ (hQ:=fun _ _ _ h=>by cases h.1);refine tG 7 ?_ (hQ:=fun _ _ _ h=>by cases h.1);refine tG 9 ?_ (hQ:=fun _ _ _ h=>by cases h.1);refine cH 8 rfl fun K hK=>?_
   go_simp
   refine hK.out _ _ hSd (fun H_=>?_);clear hK K
   (try simp only[Act.put,sA,s0,sS])
   refine tG 10 ?_ (hQ:=fun _ _ _ h=>by cases h.1);refine tG 11 ?_ (hQ:=fun _ _ _ h=>by cases h.1);refine tG 12 ?_ (hQ:=fun _ _ _ h=>by cases h.1);refine cH 13 rfl fun K hK=>?_
   go_simp
   refine hK.out _ _ hSe (fun H_=>?_);clear hK K
   (try simp only[Act.put,sA,s0,sS])
   refine wpAnyH_done (by kernel_rfl) ?_ _;exact⟨rfl,_,_,_,_,_,_,_,_,_,_,_,_,_,rfl,HE8.o.1,HE8.o.2⟩
  rintro A' w8⟨u85,u86,u87,u88,u89,u90,u91,u92,u93,u94,u95,u96,u97,rfl,hr8,hL8⟩
  (try simp only[Act.put,sA,s0,sS])
  have hz8:=hL8.size;have kX8:=(hL8.out x (by omega) (by omega)).trans kX7;have kR8:=(hL8.out (w.heap.size+1+1) (by omega) (by omega)).trans kR7;have kY8:=(hL8.out y (by omega) (by omega)).trans kY7
  have hP8:zaP w8 d3 b.ps:=by
   obtain⟨a',c',he,hp⟩:=((HN6.o.2.2.left hL7 (fun z h8 h9=>by subst h9;omega)).left hL8 (fun z h8 h9=>by omega)).lie
   cases he
   exact hp.at HK.o.ps.small (by unfold maxLen;omega)
  have HP8:=hid hP8;have HR8:=za6 hr8 hL7 hL8;have cX:=fun i=>cell_of_block (o:=i) kX8
  have cY:=fun i=>cell_of_block (o:=i) kY8
  have hxz8:x<w8.heap.size:=by omega
  have hyz8:y<w8.heap.size:=by omega
  clear hSd hSe HE8 hcF fzF hgz hw8 hP8 hr8 hL8 hL7;go_wp2_with fail
  refine(zp6 d3 e3 b.ps ⟨dr,tm,rs,q,b.tick+10⟩ w8 HP8.o hpn HT.o.2).mono ?_;have e5:zkb b.ps ⟨dr,tm,rs,q,b.tick+10⟩=fill b.ps dr tm rs am (b.tick+10):=by rw[zqR,<- HQQ.o]
  rw[e5];rintro e w9⟨v,rfl,ho9,hb9⟩;obtain⟨va,vc,rfl⟩:=jc ho9;have hz9:=hb9.size;have kX9:=(hb9.block x hxz8).trans kX8;have kR9:=(hb9.block (w.heap.size+1+1) (by omega)).trans kR8;have cX:=fun i=>cell_of_block (o:=i) kX9
  have fX:=fun i=>zf (o:=i) kX9
  have cR:=fun i=>cell_of_block (o:=i) kR9
  have fR:=fun i=>zf (o:=i) kR9
  have hxz9:x<w9.heap.size:=by omega
  have hzR9:w.heap.size+1+1<w9.heap.size:=by omega
  have hxne:x≠w.heap.size+1+1:=by omega
  have HW9:=yU ho9 hb9;clear e5 cY ho9 hb9;go_wp2_with fail
  refine bodyPost_ret (v:=.tuple #[.agg #[.i b.now,.i b.tick,.i b.given,.l d0 b.os.length e0,.l d1 b.gs.length e1,.l (some (aD g 0)) b.ls.length e2,.l va (fill b.ps dr tm rs am (b.tick+10)).length vc],.i 0]) (by simp[results,Tryz.results6,go_sem,cR]) rfl ?_;have hE:draw l b dr tm rs am=({ b with ls:=b.ls.set k ⟨b.ls[k].tm,b.ls[k].rs,b.ls[k].mo,b.ls[k].fr-am⟩,ps:=fill b.ps dr tm rs am (b.tick+10) },0):=by rw[HR.o,HDR.o,if_neg (by have:=HF0.o;omega),if_neg HLE.o]
  have hs9:=(Left.refl (fun z=>(own z).1=2 \/ (own z).1=9) w9).set (b:=x) (Or.inr hx9) 6 (.l va (fill b.ps dr tm rs am (b.tick+10)).length vc);have hL9:=(((HR8.o.2.1.wide (S':=fun z=>(own z).1=2 \/ (own z).1=9) (fun z h=>Or.inr (by rw[h];exact hy9))).trans (HR8.o.2.2.wide (fun z h=>Or.inl h))).trans (Left.of_below _ HW9.o.2)).trans hs9;refine zqa (w3:=w6) (own:=own) hE HN6.o.1 hL9 ((HR8.o.1.left (Left.of_below (fun _=>False) HW9.o.2) (fun _ _ h=>h)).left ((Left.refl (fun z=>z=x) w9).set (b:=x) rfl 6 _) (fun z h8 h9=>by subst h9;omega)) (zb9 (qx HW9.o.1 (fun z hz=>Below.heap_setCell _ _ _ _ (by show z≠x;have:=(HW9.o.1.lt z hz).1;omega))) (by omega)) ((((HB6.o.trans (HR8.o.2.1.below (fun z hz h=>by omega) (by omega))).trans (HR8.o.2.2.below (fun z hz h=>by have:=HN6.o.1.out z (Or.inl (by omega));omega) (by omega))).trans (HW9.o.2.mono (by omega))).setCell (show w.heap.size<=x by omega) _) (by omega) (by omega) _ _ _ _ _ _ _
end Go.Proofs.YtbfgkhgmnfghgaaGreat
