import Derived.Test.YtecncindgjdbiaaGreatM50
set_option maxHeartbeats 8000000
namespace Go.Proofs.YtecncindgjdbiaaGreat
open Go.RowKit
theorem zmx {l:Lw}{b:Bk}(h:jH l b=true):rising ql b.ps:=by
 unfold jH zaL at h;simp only[Bool.and_eq_true]at h;have h1:=h.2.2.2.2.2.1;unfold yS at h1;simp only[Bool.and_eq_true]at h1;exact(zjl _ _).1 h1.2.1
set_option maxRecDepth 20000 in
theorem zgZ (l:Lw)(la lb lc:OA)(lca lcb lcc:Nat)(b:Bk)(a0 a1 a2 a3:OA)(c0 c1 c2 c3:Nat)(dr tm rs:BA)(w:World)(hl:jr w l la lb lc)(hb:jc w b a0 a1 a2 a3)(hlf:l.Few)(hbf:b.Few)(hz:qO b.os<=1048576) :
 Calls Tryz.prog 9 #[.agg (l.cells la lb lc lca lcb lcc),.agg (b.cells a0 a1 a2 a3 c0 c1 c2 c3),.s dr,.s tm,.s rs] w fun e w'=>znL w.heap.size w' e (back l b dr tm rs)/\Bw w w':=by
 have HK:=hid hb;have HL:=hid hl;have HF:=zcR hlf hbf hz;clear hb hl hlf hbf hz;unfold Lw.cells Bk.cells;have k0:=zmR w (.cells #[.l la l.ss.length lca,.l lb l.ms.length lcb,.l lc l.ts.length lcc] 47) (.cells (bC b a0 a1 a2 a3 c0 c1 c2 c3) 40) (.cells bZ 40);have hB0:=below3' w (.cells #[.l la l.ss.length lca,.l lb l.ms.length lcb,.l lc l.ts.length lcc] 47) (.cells (bC b a0 a1 a2 a3 c0 c1 c2 c3) 40) (.cells bZ 40);obtain⟨W0,hW0⟩:=nm (((w.alloc (.cells #[.l la l.ss.length lca,.l lb l.ms.length lcb,.l lc l.ts.length lcc] 47)).alloc (.cells (bC b a0 a1 a2 a3 c0 c1 c2 c3) 40)).alloc (.cells bZ 40));have hz0:W0.heap.size=w.heap.size+1+1+1:=by rw[hW0];simp
 go_enter Tryz.func9,Tryz.ntmps9;go_wp2_with fail
 rw[<- hW0]at k0 hB0 ⊢;clear hW0;refine(zjx l la lb lc lca lcb lcc b a0 a1 a2 a3 c0 c1 c2 c3 W0 (HL.o.mono hB0) (HK.o.mono hB0) HF.o.1 HF.o.2.1 HF.o.2.2).mono ?_;rintro e w1⟨rfl,hb1⟩;have hz1:=hb1.size;have HB1:=hid (hB0.trans (hb1.mono hB0.size));have kB:=(hb1.block (w.heap.size+1) (by omega)).trans k0.2.1;have kR:=(hb1.block (w.heap.size+1+1) (by omega)).trans k0.2.2;have cB:=fun j=>cell_of_block (o:=j) kB
 have cR:=fun j=>cell_of_block (o:=j) kR
 have fR:=fun j=>zh (o:=j) kR
 have hzB:w.heap.size+1<w1.heap.size:=by omega
 have hzR:w.heap.size+1+1<w1.heap.size:=by omega
 have HKB:=qw kB kR;clear hb1 k0 hB0 kB kR
 by_cases hok:jH l b=true
 rotate_left
 ·have hno:jH l b=false:=bFi hok
  have HR:Hid (back l b dr tm rs=(zaQ,1)):=by unfold Hid back;rw[hno];rfl
  rw[hno];go_wp2_with fail
  refine bodyPost_ret (v:=.tuple #[.agg #[.i 0,.i 0,.i 0,.l none 0 0,.l none 0 0,.l none 0 0,.l none 0 0],.i 1]) (by simp[results,Tryz.results9,go_sem,cR]) rfl ?_;refine⟨⟨w1.heap.size,fun _=>(9,0,0),none,none,none,none,0,0,0,0,by rw[HR.o];rfl,?_⟩,?_⟩
  ·rw[HR.o]
   exact⟨⟨fun h=>absurd h (by simp[zaQ])⟩,⟨fun h=>absurd h (by simp[zaQ])⟩,⟨fun h=>absurd h (by simp[zaQ])⟩,⟨fun h=>absurd h (by simp[zaQ])⟩,fun _ _=>rfl,HB1.o.size,by simp[World.setCell]⟩
  ·have h1:w.heap.size<=w.heap.size+1+1:=by omega
   iterate 7 refine Below.setCell ?_ h1 _
   exact HB1.o
 have HT:=qw (zpa hok) (zmx hok);rw[hok];go_wp2_with fail
 refine(zlN b a0 a1 a2 a3 c0 c1 c2 c3 w1 (HK.o.mono HB1.o) HF.o.2.1).mono ?_;rintro e w2⟨own,d0,d1,d2,d3,e0,e1,e2,e3,rfl,hbk,⟨_,hpr⟩,hb2⟩;have hz2:=hb2.size;have HB2:=hid hb2;have HN2:=qw hbk hpr;clear hpr;have kR2:=(hb2.block (w.heap.size+1+1) hzR).trans HKB.o.2;have kB2:=(hb2.block (w.heap.size+1) hzB).trans HKB.o.1;have hba:=(bRf w2.heap.size w2).alloc (Nat.le_refl _) (.cells (bC b d0 d1 d2 d3 e0 e1 e2 e3) 40);have kX:=alloc_at w2 (.cells (bC b d0 d1 d2 d3 e0 e1 e2 e3) 40);clear hb2 hbk cB cR fR;go_wp2_with fail
 obtain⟨W3,hW3⟩:=nm (w2.alloc (.cells (bC b d0 d1 d2 d3 e0 e1 e2 e3) 40));rw[<- hW3]at hba kX ⊢;have hz3:W3.heap.size=w2.heap.size+1:=by rw[hW3];simp
 clear hW3;have HN3:=qw (BkF.mono HN2.o.1 hba) (HN2.o.2.left (Left.of_below (fun _=>False) hba) (fun _ _ h=>h));have HS:=hid (HK.o.ps.small);have hpl:b.ps.length<=maxLen:=by have:=HT.o.1.plen;unfold maxLen;omega
 refine(zkf d3 e3 b.ps dr tm rs W3 (HN3.o.1.ps.at HS.o hpl) (by have:=HT.o.1.plen;omega) HT.o.2).mono ?_;rintro e w4⟨⟨p,rfl,hp⟩,hb4⟩;have hz4:=hb4.size;have kR4:=((hb4.block _ (by omega)).trans (hba.block _ (by omega))).trans kR2;have kX4:=(hb4.block _ (by omega)).trans kX;have HN4:=qw (BkF.mono HN3.o.1 hb4) (HN3.o.2.left (Left.of_below (fun _=>False) hb4) (fun _ _ h=>h));have HB4:=hid (((HB1.o.trans (HB2.o.mono HB1.o.size)).trans (hba.mono (by omega))).trans (hb4.mono (by omega)));obtain⟨x,hx⟩:=nm (w2.heap.size);rw[<- hx]at kX4 hz3 HN4 ⊢;have hxR:w.heap.size+1+1<x:=by omega
 have hxz:x<w4.heap.size:=by omega
 have hxw:w1.heap.size<=x:=by omega
 have hzR4:w.heap.size+1+1<w4.heap.size:=by omega
 have cX:=fun j=>cell_of_block (o:=j) kX4
 have fX:=fun j=>zh (o:=j) kX4
 have HP:=hid hp;clear kR2 kB2 hba HN2 HN3 kX hb4 hp hz3 hx
 by_cases hh:jJ b.ps dr tm rs=true
 rotate_left
 ·have hno:jJ b.ps dr tm rs=false:=bFi hh
  have HR:Hid (back l b dr tm rs=(b,2)):=by unfold Hid back;rw[if_pos hok,dif_neg (zlR hno).2]
  rw[hno];have cR:=fun j=>cell_of_block (o:=j) kR4
  have fR:=fun j=>zh (o:=j) kR4
  clear hh hno;go_wp2_with fail
  refine bodyPost_ret (v:=.tuple #[.agg #[.i b.now,.i b.tick,.i b.given,.l d0 b.os.length e0,.l d1 b.gs.length e1,.l d2 b.ls.length e2,.l d3 b.ps.length e3],.i 2]) (by simp[results,Tryz.results9,go_sem,cR]) rfl ?_;have hLs:∀(W:World) (o:Nat) (v:Value),Left (fun k=>k=w.heap.size+1+1) w4 W->Left (fun k=>k=w.heap.size+1+1) w4 (W.setCell (aD (w.heap.size+1+1) o) v):=fun W o v h=>h.set rfl o v
  refine⟨⟨x,own,d0,d1,d2,d3,e0,e1,e2,e3,by rw[HR.o];rfl,?_⟩,?_⟩
  ·rw[HR.o]
   refine BkF.low (BkF.left (S:=fun k=>k=w.heap.size+1+1) HN4.o.1 ?_ (fun k hk h2=>by have:=HN4.o.1.out k (Or.inl (by omega));omega)) (by omega)
   iterate 7 refine hLs _ _ _ ?_
   exact Left.refl _ _
  ·have h1:w.heap.size<=w.heap.size+1+1:=by omega
   iterate 7 refine Below.setCell ?_ h1 _
   exact HB4.o
 ·obtain⟨hpn,hpe⟩:=(HP.o.found HT.o.2).1 hh
  have HPE:=hid hpe;clear hpe
  have HR:Hid (back l b dr tm rs=(zfP b p hpn,0)):=by
   have h1:=HP.o.idx HT.o.2 hh;unfold Hid back;rw[if_pos hok];simp only[h1];rw[dif_pos hpn]
  rw[hh];obtain⟨gb,gf,hga,hgl,q0,q1,q2,q3,q4⟩:=(HN4.o.1.ps.at HS.o hpl).load (bRf _ _) p hpn;have HGA:=hid hga;have hnp:=HT.o.1.plen;rw[hga]at cX;clear hga hh;go_wp2_with fail
  have HLS:Hid (∀g∈b.ls,g.Small):=fun g hg=>by obtain⟨i,hi,rfl⟩:=List.mem_iff_getElem.1 hg;exact HK.o.ls.small i hi
  have hx9:=HN4.o.1.out x (Or.inr (Nat.le_refl _));refine(zmr (w1.heap.size+1+1) x own b.now b.tick b.given (.l d0 b.os.length e0) (.l d1 b.gs.length e1) (.l d3 b.ps.length e3) d2 e2 b.ls b.ps[p] w4 kX4 HN4.o.1.ls (by omega) HLS.o HT.o.1.len HT.o.1.rise (HT.o.1.has p hpn) (fun g hg=>by have:=HT.o.1.fr.fr g hg;omega) (HT.o.1.am _ (List.getElem_mem _))).mono ?_;rintro e w5⟨rfl,hl5,hL5⟩;have hz5:=hL5.size;have kX5:=(hL5.out x hxz (by omega)).trans kX4;have kR5:=(hL5.out _ hzR4 (by have:=HN4.o.1.out (w.heap.size+1+1) (Or.inl (by omega));omega)).trans kR4;have HP5:=hid (HN4.o.2.left hL5 (fun k h1 h2=>by omega));have HL5:=qw hl5 hL5;have cX5:=fun j=>cell_of_block (o:=j) kX5
  have fX5:=fun j=>zh (o:=j) kX5
  have hxz5:x<w5.heap.size:=by omega
  have hwp:wrap64 ((p:Int)+1)=(p:Int)+1:=zA _ ⟨by omega,by omega⟩;clear cX fX q0 q1 q2 q3 q4 hl5 hL5;go_wp2_with fail
  have hD:=ziB (w1.heap.size+1+1) own d3 e3 b.ps p (p+1) w5 HP5.o hpn rfl;rw[show((p+1:Nat):Int)=(p:Int)+1 by omega]at hD;refine hD.mono ?_;rintro e w6⟨rfl,hp6,hL6⟩;have hz6:=hL6.size;have hR9:=HN4.o.1.out (w.heap.size+1+1) (Or.inl (by omega));have kX6:=(hL6.out x hxz5 (by omega)).trans kX5;have kR6:=(hL6.out _ (by omega) (by omega)).trans kR5;have HLE:Hid (Left (fun q=>(own q).1=2 \/ (own q).1=3) w4 w6):=(HL5.o.2.wide (fun _ h=>Or.inl h)).trans (hL6.wide (fun _ h=>Or.inr h));have HP6:=qw hp6 hL6;have cX6:=fun j=>cell_of_block (o:=j) kX6
  have fX6:=fun j=>zh (o:=j) kX6
  have cR:=fun j=>cell_of_block (o:=j) kR6
  have fR:=fun j=>zh (o:=j) kR6
  have hxz6:x<w6.heap.size:=by omega
  have hzR6:w.heap.size+1+1<w6.heap.size:=by omega
  have hxne:x≠w.heap.size+1+1:=by omega
  have HX9:=qw hx9 hR9;clear cX5 fX5 hp6 hL6 hD hx9 hR9 hwp kX4 kX5 kR4 kR5;go_wp2_with fail
  refine bodyPost_ret (v:=.tuple #[.agg #[.i b.now,.i b.tick,.i b.given,.l d0 b.os.length e0,.l d1 b.gs.length e1,.l d2 b.ls.length e2,.l d3 (b.ps.length-1) e3],.i 0]) (by simp[results,Tryz.results9,go_sem,cR]) rfl ?_;obtain⟨a',c',he,hps⟩:=HP6.o.1.lie;simp only[Value.slice.injEq]at he;obtain⟨rfl,_,rfl⟩:=he
  have hN:BkL (w1.heap.size+1+1) x w6 own (zfP b p hpn) d0 d1 d2 d3:=by
   refine⟨HN4.o.1.os.left HLE.o (fun k h1 h2=>by omega),HN4.o.1.gs.left HLE.o (fun k h1 h2=>by omega),?_,hps,HN4.o.1.out,HN4.o.1.le,Nat.le_of_lt hxz6⟩
   show zar _ _ _ _ (pay b.ls b.ps[p]).length (za6 (pay b.ls b.ps[p]))
   rw[zaO];exact HL5.o.1.left HP6.o.2 (fun k h1 h2=>by omega)
  have hLs:∀(W:World) (o:Nat) (v:Value),Left (fun k=>k=x \/ k=w.heap.size+1+1) w6 W->Left (fun k=>k=x \/ k=w.heap.size+1+1) w6 (W.setCell (aD (w.heap.size+1+1) o) v):=fun W o v h=>h.set (Or.inr rfl) o v
  refine⟨⟨x,own,d0,d1,d2,d3,e0,e1,e2,e3,?_,?_⟩,?_⟩
  ·rw[HR.o]
   unfold Bk.cells zfP;simp only[zaO,List.length_eraseIdx,if_pos hpn]
  ·rw[HR.o]
   refine BkF.low (BkF.left (S:=fun k=>k=x \/ k=w.heap.size+1+1) hN ?_ (fun k hk h2=>by have:=HX9.o;rcases h2 with rfl|rfl <;> omega)) (by omega)
   iterate 7 refine hLs _ _ _ ?_
   exact(Left.refl _ _).set (Or.inl rfl) _ _
  ·have h1:w.heap.size<=w.heap.size+1+1:=by omega
   have h2:w.heap.size<=x:=by omega
   iterate 7 refine Below.setCell ?_ h1 _
   refine Below.setCell ?_ h2 _;exact HB4.o.trans (HLE.o.below (fun k hk h3=>by have:=HN4.o.1.out k (Or.inl (by omega));omega) (by omega))
end Go.Proofs.YtecncindgjdbiaaGreat
