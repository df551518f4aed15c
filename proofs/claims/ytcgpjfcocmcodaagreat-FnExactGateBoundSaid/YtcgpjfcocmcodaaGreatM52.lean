import Derived.Test.YtcgpjfcocmcodaaGreatM51
set_option maxHeartbeats 8000000
namespace Go.Proofs.YtcgpjfcocmcodaaGreat
open Go.RowKit
set_option maxRecDepth 20000 in
theorem zfP (l:Lw)(la lb lc:OA)(lca lcb lcc:Nat)(b:Bk)(a0 a1 a2 a3:OA)(c0 c1 c2 c3:Nat)(tm rs:BA)(mo:Int)(w:World)(hl:jA w l la lb lc)(hb:ji w b a0 a1 a2 a3)(hlf:l.Few)(hbf:b.Few)(hz:qH b.os<=1048576)(hd:rs.size<=maxLen) :
 Calls Tryz.prog 9 #[.agg (l.cells la lb lc lca lcb lcc),.agg (b.cells a0 a1 a2 a3 c0 c1 c2 c3),.s tm,.s rs,.i mo] w fun e w'=>zka w.heap.size w' e (bound l b tm rs mo)/\Bw w w':=by
 have HK:=hid hb;have HL:=hid hl;have HF:=zbQ hlf hbf hz;have HD:=hid hd;clear hb hl hlf hbf hz hd;unfold Lw.cells Bk.cells;have k0:=zob w (.cells #[.l la l.ss.length lca,.l lb l.ms.length lcb,.l lc l.ts.length lcc] 47) (.cells (bC b a0 a1 a2 a3 c0 c1 c2 c3) 40) (.cells bZ 40);have hB0:=below3' w (.cells #[.l la l.ss.length lca,.l lb l.ms.length lcb,.l lc l.ts.length lcc] 47) (.cells (bC b a0 a1 a2 a3 c0 c1 c2 c3) 40) (.cells bZ 40);obtain⟨W0,hW0⟩:=xN (((w.alloc (.cells #[.l la l.ss.length lca,.l lb l.ms.length lcb,.l lc l.ts.length lcc] 47)).alloc (.cells (bC b a0 a1 a2 a3 c0 c1 c2 c3) 40)).alloc (.cells bZ 40));have hz0:W0.heap.size=w.heap.size+1+1+1:=by rw[hW0];simp
 go_enter Tryz.func9,Tryz.ntmps9;go_wp2_with fail
 rw[<- hW0]at k0 hB0 ⊢;clear hW0;refine(zj6 l la lb lc lca lcb lcc b a0 a1 a2 a3 c0 c1 c2 c3 W0 (HL.o.mono hB0) (HK.o.mono hB0) HF.o.1 HF.o.2.1 HF.o.2.2).mono ?_;rintro e w1⟨rfl,hb1⟩;have hz1:=hb1.size;have HB1:=hid (hB0.trans (hb1.mono hB0.size));have kB:=(hb1.block (w.heap.size+1) (by omega)).trans k0.2.1;have HKL:=hid ((hb1.block w.heap.size (by omega)).trans k0.1);have kR:=(hb1.block (w.heap.size+1+1) (by omega)).trans k0.2.2;have cB:=fun j=>cell_of_block (o:=j) kB
 have cR:=fun j=>cell_of_block (o:=j) kR
 have fR:=fun j=>zh (o:=j) kR
 have hzB:w.heap.size+1<w1.heap.size:=by omega
 have hzR:w.heap.size+1+1<w1.heap.size:=by omega
 have HKB:=ql kB kR;clear hb1 k0 hB0 kB kR
 by_cases hok:jI l b=true
 rotate_left
 ·have hno:jI l b=false:=bFi hok
  have HR:Hid (bound l b tm rs mo=(zaO,1)):=by unfold Hid bound;rw[hno];rfl
  rw[hno];go_wp2_with fail
  refine bodyPost_ret (v:=.tuple #[.agg #[.i 0,.i 0,.i 0,.l none 0 0,.l none 0 0,.l none 0 0,.l none 0 0],.i 1]) (by simp[results,Tryz.results9,go_sem,cR]) rfl ?_;refine⟨⟨w1.heap.size,fun _=>(9,0,0),none,none,none,none,0,0,0,0,by rw[HR.o];rfl,?_⟩,?_⟩
  ·rw[HR.o]
   exact⟨⟨fun h=>absurd h (by simp[zaO])⟩,⟨fun h=>absurd h (by simp[zaO])⟩,⟨fun h=>absurd h (by simp[zaO])⟩,⟨fun h=>absurd h (by simp[zaO])⟩,fun _ _=>rfl,HB1.o.size,by simp[World.setCell]⟩
  ·have h1:w.heap.size<=w.heap.size+1+1:=by omega
   iterate 7 refine Below.setCell ?_ h1 _
   exact HB1.o
 have HT:=hid (zjk hok);have HRG:=hid (zfM hok);rw[hok];go_wp2_with fail
 refine(zml b a0 a1 a2 a3 c0 c1 c2 c3 w1 (HK.o.mono HB1.o) HF.o.2.1).mono ?_;rintro e w2⟨own,d0,d1,d2,d3,e0,e1,e2,e3,rfl,hbk,⟨hlr,hpr⟩,hb2⟩;have hz2:=hb2.size;have HB2:=hid hb2;have HN2:=zbQ hbk hlr hpr;clear hpr hlr;have kR2:=(hb2.block (w.heap.size+1+1) hzR).trans HKB.o.2;have kB2:=(hb2.block (w.heap.size+1) hzB).trans HKB.o.1;have hba:=(bRf w2.heap.size w2).alloc (Nat.le_refl _) (.cells (bC b d0 d1 d2 d3 e0 e1 e2 e3) 40);have kX:=alloc_at w2 (.cells (bC b d0 d1 d2 d3 e0 e1 e2 e3) 40);have kL2:=(hb2.block w.heap.size (by omega)).trans HKL.o;have cL:=fun j=>cell_of_block (o:=j) kL2
 have hzL:w.heap.size<w2.heap.size:=by omega
 clear hb2 hbk cB cR fR;go_wp2_with fail
 obtain⟨W3,hW3⟩:=xN (w2.alloc (.cells (bC b d0 d1 d2 d3 e0 e1 e2 e3) 40));rw[<- hW3]at hba kX ⊢;have hz3:W3.heap.size=w2.heap.size+1:=by rw[hW3];simp
 clear hW3;have HN3:=zbQ (BkF.mono HN2.o.1 hba) (HN2.o.2.1.left (Left.of_below (fun _=>False) hba) (fun _ _ h=>h)) (HN2.o.2.2.left (Left.of_below (fun _=>False) hba) (fun _ _ h=>h));have hB3:=(HB1.o.trans (HB2.o.mono HB1.o.size)).trans (hba.mono (by omega));refine(zbW lc lcc l.ts tm W3 (HL.o.ts.mono hB3)).mono ?_;rintro e w4⟨rfl,hb4⟩;have hz4:=hb4.size;have kR4:=((hb4.block _ (by omega)).trans (hba.block _ (by omega))).trans kR2;have kB4:=((hb4.block _ (by omega)).trans (hba.block _ (by omega))).trans kB2;have kL4:=((hb4.block _ (by omega)).trans (hba.block _ (by omega))).trans kL2;have kX4:=(hb4.block _ (by omega)).trans kX;have HN4:=ql (BkF.mono HN3.o.1 hb4) (HN3.o.2.1.left (Left.of_below (fun _=>False) hb4) (fun _ _ h=>h));have HB4:=hid (hB3.trans (hb4.mono (by omega)));obtain⟨x,hx⟩:=xN (w2.heap.size);rw[<- hx]at kX4 hz3 HN4 ⊢;have hxw:w1.heap.size+1+1<=x:=HN4.o.1.le;have hw1:w.heap.size+1+1<w1.heap.size:=hzR;have hxz:x<w4.heap.size:=by omega
 have hzR4:w.heap.size+1+1<w4.heap.size:=by omega
 have hzB4:w.heap.size+1<w4.heap.size:=by omega
 have hzL4:w.heap.size<w4.heap.size:=by omega
 have HX:=ql (HN4.o.1.out x (Or.inr (Nat.le_refl _))) (fun q (hq:x<=q)=>HN4.o.1.out q (Or.inr hq));have cX:=fun j=>cell_of_block (o:=j) kX4
 have cB:=fun j=>cell_of_block (o:=j) kB4
 have cL:=fun j=>cell_of_block (o:=j) kL4
 have cR:=fun j=>cell_of_block (o:=j) kR4
 have fR:=fun j=>zh (o:=j) kR4
 have HNm:Hid (∀W,Calls Tryz.prog 40 #[.s rs] W fun e w'=>e=.returned (.bool (zx rs))/\w'=W):=fun W=>zH rs W HD.o
 have HIn:Hid (∀W,Calls Tryz.prog 41 #[.i mo,.i 0,.i 1000000] W fun e w'=>e=.returned (.bool (within mo 0 1000000))/\w'=W):=fun W=>qR mo 0 1000000 W
 have HNO:Hid ((z8 l.ts tm&&(zx rs&&within mo 0 1000000))=false->bound l b tm rs mo=(b,2)):=fun h=>by unfold bound;rw[if_pos hok,if_neg (by rw[h];simp)]
 clear kR2 kB2 kL2 hba HN2 HN3 kX hb4 hz3 hx hB3 hzL
 by_cases h1:z8 l.ts tm=true
 rotate_left
 ·have h1':z8 l.ts tm=false:=bFi h1
  rw[h1'];go_wp2_with fail
  refine bodyPost_ret (v:=.tuple #[.agg (bC b d0 d1 d2 d3 e0 e1 e2 e3),.i 2]) (by simp[results,Tryz.results9,go_sem,cR]) rfl ?_;exact zcw (HNO.o (by rw[h1'];rfl)) HN4.o.1 (bRf _ _) HB4.o (by omega) (by omega) _ _ _ _ _ _ _
 rw[h1]
 by_cases h2:zx rs=true
 rotate_left
 ·have h2':zx rs=false:=bFi h2
  clear h2
  go_wp2_with (go_at_call 40;refine(HNm.o _).mono ?_;rintro e w'⟨rfl,hw⟩;rw[hw,h2'];clear hw w')
  refine bodyPost_ret (v:=.tuple #[.agg (bC b d0 d1 d2 d3 e0 e1 e2 e3),.i 2]) (by simp[results,Tryz.results9,go_sem,cR]) rfl ?_;exact zcw (HNO.o (by rw[h1,h2'];rfl)) HN4.o.1 (bRf _ _) HB4.o (by omega) (by omega) _ _ _ _ _ _ _
 by_cases h3:within mo 0 1000000=true
 rotate_left
 ·have h3':within mo 0 1000000=false:=bFi h3
  clear h3
  go_wp2_with (first|(go_at_call 40;refine(HNm.o _).mono ?_;rintro e w'⟨rfl,hw⟩;rw[hw,h2];clear hw w')|(go_at_call 41;refine(HIn.o _).mono ?_;rintro e w'⟨rfl,hw⟩;rw[hw,h3'];clear hw w'))
  refine bodyPost_ret (v:=.tuple #[.agg (bC b d0 d1 d2 d3 e0 e1 e2 e3),.i 2]) (by simp[results,Tryz.results9,go_sem,cR]) rfl ?_;exact zcw (HNO.o (by rw[h1,h2,h3'];rfl)) HN4.o.1 (bRf _ _) HB4.o (by omega) (by omega) _ _ _ _ _ _ _
 have HMO:Hid (0<=mo/\mo<=1000000):=by unfold within at h3;unfold Hid;simpa using h3
 have HE:Hid (bound l b tm rs mo=ze3 b ⟨tm,rs,mo,mo-used l b.os tm rs⟩):=by unfold Hid bound;rw[if_pos hok,if_pos (by rw[h1,h2,h3];rfl)]
 have HUB:=hid (zav l b.os tm rs b.os.length (Nat.le_refl _))
 go_wp2_with (first|(go_at_call 40;refine(HNm.o _).mono ?_;rintro e w'⟨rfl,hw⟩;rw[hw,h2];clear hw w')|(go_at_call 41;refine(HIn.o _).mono ?_;rintro e w'⟨rfl,hw⟩;rw[hw,h3];clear hw w'))
 have hQ:=zgD l la lb lc lca lcb lcc b a0 a1 a2 a3 c0 c1 c2 c3 tm rs w4 (HL.o.mono HB4.o) (HK.o.mono HB4.o) HF.o.2.2;unfold Lw.cells Bk.cells at hQ;refine hQ.mono ?_;rintro e w5⟨rfl,hb5⟩;have hz5:=hb5.size;have kX5:=(hb5.block _ hxz).trans kX4;have kR5:=(hb5.block _ hzR4).trans kR4;have HN5:=ql (BkL.mono HN4.o.1 hb5) (HN4.o.2.left (Left.of_below (fun _=>False) hb5) (fun _ _ h=>h));have HB5:=hid (HB4.o.trans (hb5.mono HB4.o.size))
 have hwu:wrap64 (mo-used l b.os tm rs)=mo-used l b.os tm rs:=by
  have h8:=HUB.o;have h9:=HF.o.2.2;have h7:=HMO.o;rw[List.take_length]at h8;unfold qH at h9;unfold used;exact zA _ ⟨by omega,by omega⟩
 clear hQ hb5 cX cB cL cR fR kL4 kB4 HNm HIn HNO kX4 kR4 h1 h2 h3;go_wp2_with fail
 refine(zrh (w1.heap.size+1+1) x own b.now b.tick b.given (.l d0 b.os.length e0) (.l d1 b.gs.length e1) (.l d3 b.ps.length e3) d2 e2 b.ls ⟨tm,rs,mo,mo-used l b.os tm rs⟩ w5 kX5 HN5.o.2 (by have:=HX.o.1;omega) (fun q hq=>by have:=HX.o.2 q (by omega);omega) (by omega) ⟨fun g hg=>by obtain⟨i,hi,rfl⟩:=List.mem_iff_getElem.1 hg;exact HK.o.ls.small i hi,HT.o.len,HT.o.rise,HRG.o,HMO.o⟩).mono ?_;rintro e w6⟨rfl,v,own',hag,kX6,hr6,hL6⟩;obtain⟨va,vc,rfl⟩:=jm hr6.1;have hz6:=hL6.size;have hR9:=HN5.o.1.out (w.heap.size+1+1) (Or.inl (by omega));have kR6:=(hL6.out (w.heap.size+1+1) (by omega) (by show ¬(_ \/ _);omega)).trans kR5;have cX:=fun j=>cell_of_block (o:=j) kX6
 have cR:=fun j=>cell_of_block (o:=j) kR6
 have fR:=fun j=>zh (o:=j) kR6
 have hxz6:x<w6.heap.size:=by omega
 have hzR6:w.heap.size+1+1<w6.heap.size:=by omega
 have hxne:x≠w.heap.size+1+1:=by omega
 have H6:=zbQ hag hr6 hL6;clear hag hr6 hL6 kX6 kR6 kX5 kR5 hwu;go_wp2_with fail
 refine bodyPost_ret (v:=.tuple #[.agg #[.i b.now,.i b.tick,.i b.given,.l d0 b.os.length e0,.l d1 b.gs.length e1,.l va (qZ b.ls ⟨tm,rs,mo,mo-used l b.os tm rs⟩).1.length vc,.l d3 b.ps.length e3],.i (qZ b.ls ⟨tm,rs,mo,mo-used l b.os tm rs⟩).2]) (by simp[results,Tryz.results9,go_sem,cR]) rfl ?_;exact zey (w3:=w5) (own:=own) (own':=own') HE.o HN5.o.1 (H6.o.2.2.wide (fun q h=>by rcases h with rfl|h;exact Or.inr HX.o.1;exact Or.inl h)) H6.o.1 H6.o.2.1 (HB5.o.trans (H6.o.2.2.below (fun q hq h=>by have:=HN5.o.1.out q (Or.inl (by omega));rcases h with h|h <;> omega) (by omega))) (by omega) (by omega) _ _ _ _ _ _ _
end Go.Proofs.YtcgpjfcocmcodaaGreat
