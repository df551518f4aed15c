import Derived.Test.YtecncindgjdbiaaGreatM52
set_option maxHeartbeats 8000000
namespace Go.Proofs.YtecncindgjdbiaaGreat
open Go.RowKit
set_option maxRecDepth 20000 in
theorem zlV (l:Lw)(la lb lc:OA)(lca lcb lcc:Nat)(b:Bk)(a0 a1 a2 a3:OA)(c0 c1 c2 c3:Nat)(dr tm rs:BA)(w:World)(hl:jr w l la lb lc)(hb:jc w b a0 a1 a2 a3)(hh:zcn w a0 b.os)(hbf:b.Few)(hz:qO b.os<=1048576) :
 Calls Tryz.prog 6 #[.agg (l.cells la lb lc lca lcb lcc),.agg (b.cells a0 a1 a2 a3 c0 c1 c2 c3),.s dr,.s tm,.s rs] w fun e w'=>znL w.heap.size w' e (back l b dr tm rs)/\Bw w w':=by
 have HK:=hid hb;have HL:=hid hl;have HF:=zcR hh hbf hz;clear hb hl hh hbf hz;unfold Lw.cells Bk.cells;have k0:=zmR w (.cells #[.l la l.ss.length lca,.l lb l.ms.length lcb,.l lc l.ts.length lcc] 47) (.cells (bC b a0 a1 a2 a3 c0 c1 c2 c3) 40) (.cells bZ 40);have hB0:=below3' w (.cells #[.l la l.ss.length lca,.l lb l.ms.length lcb,.l lc l.ts.length lcc] 47) (.cells (bC b a0 a1 a2 a3 c0 c1 c2 c3) 40) (.cells bZ 40);obtain⟨W0,hW0⟩:=nm (((w.alloc (.cells #[.l la l.ss.length lca,.l lb l.ms.length lcb,.l lc l.ts.length lcc] 47)).alloc (.cells (bC b a0 a1 a2 a3 c0 c1 c2 c3) 40)).alloc (.cells bZ 40));have hz0:W0.heap.size=w.heap.size+1+1+1:=by rw[hW0];simp
 go_enter Tryz.func6,Tryz.ntmps6;go_wp2_with fail
 rw[<- hW0]at k0 hB0 ⊢;clear hW0;refine(zjt l la lb lc lca lcb lcc b a0 a1 a2 a3 c0 c1 c2 c3 W0 (HL.o.mono hB0) (HK.o.mono hB0) (HF.o.1.mono hB0) HF.o.2.1 HF.o.2.2).mono ?_;rintro e w1⟨rfl,hb1⟩;have hz1:=hb1.size;have HB1:=hid (hB0.trans (hb1.mono hB0.size));have kB:=(hb1.block (w.heap.size+1) (by omega)).trans k0.2.1;have kR:=(hb1.block (w.heap.size+1+1) (by omega)).trans k0.2.2;have cB:=fun j=>cell_of_block (o:=j) kB
 have cR:=fun j=>cell_of_block (o:=j) kR
 have fR:=fun j=>zh (o:=j) kR
 have hzB:w.heap.size+1<w1.heap.size:=by omega
 have hzR:w.heap.size+1+1<w1.heap.size:=by omega
 have HKB:=qw kB kR;clear hb1 k0 hB0 kB kR
 by_cases hok:jH l b=true
 rotate_left
 ·have hno:jH l b=false:=bFi hok
  have HR:Hid (back l b dr tm rs=(zaQ,1)):=by unfold Hid back;rw[hno];rfl
  rw[hno];go_wp2_with fail
  refine bodyPost_ret (v:=.tuple #[.agg #[.i 0,.i 0,.i 0,.l none 0 0,.l none 0 0,.l none 0 0,.l none 0 0],.i 1]) (by simp[results,Tryz.results6,go_sem,cR]) rfl ?_;refine⟨⟨w1.heap.size,fun _=>(9,0,0),none,none,none,none,0,0,0,0,by rw[HR.o];rfl,?_⟩,?_⟩
  ·rw[HR.o]
   exact⟨⟨fun h=>absurd h (by simp[zaQ])⟩,⟨fun h=>absurd h (by simp[zaQ])⟩,⟨fun h=>absurd h (by simp[zaQ])⟩,⟨fun h=>absurd h (by simp[zaQ])⟩,fun _ _=>rfl,HB1.o.size,by simp[World.setCell]⟩
  ·have h1:w.heap.size<=w.heap.size+1+1:=by omega
   iterate 7 refine Below.setCell ?_ h1 _
   exact HB1.o
 have HT:=hid (zpa hok);rw[hok];go_wp2_with fail
 refine(zoP b a0 a1 a2 a3 c0 c1 c2 c3 w1 (HK.o.mono HB1.o) (HF.o.1.mono HB1.o) HF.o.2.1).mono ?_;rintro e w2⟨own,d0,d1,d2,d3,e0,e1,e2,e3,rfl,hbk,hrr,hb2⟩;have hz2:=hb2.size;have HB2:=hid hb2;have HN2:=hid hbk;have HRP:=hid hrr.2;have kR2:=(hb2.block (w.heap.size+1+1) hzR).trans HKB.o.2;have kB2:=(hb2.block (w.heap.size+1) hzB).trans HKB.o.1;have hba:=(bRf w2.heap.size w2).alloc (Nat.le_refl _) (.cells (bC b d0 d1 d2 d3 e0 e1 e2 e3) 40);have kX:=alloc_at w2 (.cells (bC b d0 d1 d2 d3 e0 e1 e2 e3) 40);clear hb2 hbk hrr cB cR fR;have cB2:=fun j=>cell_of_block (o:=j) kB2
 have hzB2:w.heap.size+1<w2.heap.size:=by omega
 go_wp2_with fail
 clear cB2 hzB2;obtain⟨W3,hW3⟩:=nm (w2.alloc (.cells (bC b d0 d1 d2 d3 e0 e1 e2 e3) 40));rw[<- hW3]at hba kX ⊢;have hz3:W3.heap.size=w2.heap.size+1:=by rw[hW3];simp
 clear hW3;have hB3:=(HB1.o.trans (HB2.o.mono HB1.o.size)).trans (hba.mono (by omega));have HN3:=qw (BkF.mono HN2.o hba) (HRP.o.left (Left.of_below (fun _=>False) hba) (fun _ _ h=>h));have hQ:=zmO b a0 a1 a2 a3 c0 c1 c2 c3 dr tm rs W3 (HK.o.ps.mono hB3) (by have:=HT.o.plen;omega);unfold Bk.cells at hQ;refine hQ.mono ?_;rintro e w4⟨rfl,hb4⟩;have hz4:=hb4.size;have kR4:=((hb4.block _ (by omega)).trans (hba.block _ (by omega))).trans kR2;have kX4:=(hb4.block _ (by omega)).trans kX;have HN4:=qw (BkF.mono HN3.o.1 hb4) (HN3.o.2.left (Left.of_below (fun _=>False) hb4) (fun _ _ h=>h));have HB4:=hid (hB3.trans (hb4.mono (by omega)));obtain⟨x,hx⟩:=nm (w2.heap.size);rw[<- hx]at kX4 hz3 HN4 ⊢;have hxR:w.heap.size+1+1<x:=by omega
 have hxz:x<w4.heap.size:=by omega
 have hxw:w1.heap.size<=x:=by omega
 have hzR4:w.heap.size+1+1<w4.heap.size:=by omega
 have cX:=fun j=>cell_of_block (o:=j) kX4
 have fX:=fun j=>zh (o:=j) kX4
 clear kR2 kB2 hba HN2 HN3 HRP kX hb4 hz3 hx hQ hB3
 by_cases hh:jJ b.ps dr tm rs=true
 rotate_left
 ·have hno:jJ b.ps dr tm rs=false:=bFi hh
  have HR:Hid (back l b dr tm rs=(b,2)):=by unfold Hid back;rw[if_pos hok,dif_neg (zlR hno).2]
  rw[(zlR hno).1];have cR:=fun j=>cell_of_block (o:=j) kR4
  have fR:=fun j=>zh (o:=j) kR4
  clear hh hno;go_wp2_with fail
  refine bodyPost_ret (v:=.tuple #[.agg #[.i b.now,.i b.tick,.i b.given,.l d0 b.os.length e0,.l d1 b.gs.length e1,.l d2 b.ls.length e2,.l d3 b.ps.length e3],.i 2]) (by simp[results,Tryz.results6,go_sem,cR]) rfl ?_;have hLs:∀(W:World) (o:Nat) (v:Value),Left (fun k=>k=w.heap.size+1+1) w4 W->Left (fun k=>k=w.heap.size+1+1) w4 (W.setCell (aD (w.heap.size+1+1) o) v):=fun W o v h=>h.set rfl o v
  refine⟨⟨x,own,d0,d1,d2,d3,e0,e1,e2,e3,by rw[HR.o];rfl,?_⟩,?_⟩
  ·rw[HR.o]
   refine BkF.low (BkF.left (S:=fun k=>k=w.heap.size+1+1) HN4.o.1 ?_ (fun k hk h2=>by have:=HN4.o.1.out k (Or.inl (by omega));omega)) (by omega)
   iterate 7 refine hLs _ _ _ ?_
   exact Left.refl _ _
  ·have h1:w.heap.size<=w.heap.size+1+1:=by omega
   iterate 7 refine Below.setCell ?_ h1 _
   exact HB4.o
 ·obtain⟨hix,hpn⟩:=zp5 hh
  rw[hix]
  have HR:Hid (back l b dr tm rs=(zfP b _ hpn,0)):=by
   unfold Hid back;rw[if_pos hok,dif_pos hpn]
  clear hix;obtain⟨p,hp⟩:=nm (b.ps.findIdx (zbO dr tm rs))
  revert hpn HR
  rw[<- hp];intro hpn HR;clear hp hh;have hnp:=HT.o.plen;go_wp2_with fail
  have hsm:=jc.small HK.o;have hx9:=HN4.o.1.out x (Or.inr (Nat.le_refl _));have hR9:=HN4.o.1.out (w.heap.size+1+1) (Or.inl (by omega));refine(zon (w1.heap.size+1+1+1) own b p d0 d1 d2 d3 e0 e1 e2 e3 w4 (BkL.at HN4.o.1 hsm) HN4.o.1.ls HN4.o.2 hpn ⟨by omega,HT.o.len,HT.o.rise,fun g hg=>by have:=HT.o.fr.fr g hg;omega,HT.o.has p hpn,HT.o.am _ (List.getElem_mem _)⟩).mono ?_;rintro e w5⟨v,rfl,hrow,hl5,hL5⟩;obtain⟨va,vc,rfl⟩:=jD hrow;have hz5:=hL5.size;have kR5:=(hL5.out _ hzR4 (by omega)).trans kR4;have cR:=fun j=>cell_of_block (o:=j) kR5
  have fR:=fun j=>zh (o:=j) kR5
  have hzR5:w.heap.size+1+1<w5.heap.size:=by omega
  have HW5:=zcR hrow hl5 hL5;have HX9:=zcR hx9 hR9 hz5;clear cX fX hrow hl5 hL5 hx9 hR9 hsm kX4 kR4;go_wp2_with fail
  refine bodyPost_ret (v:=.tuple #[.agg #[.i b.now,.i b.tick,.i b.given,.l d0 b.os.length e0,.l d1 b.gs.length e1,.l d2 b.ls.length e2,.l va (b.ps.eraseIdx p).length vc],.i 0]) (by simp[results,Tryz.results6,go_sem,cR]) rfl ?_;obtain⟨own',ho'⟩:∃own':Nat->Lb,own'=fun k=>if k<w4.heap.size then own k else if k<w5.heap.size then (3,0,0) else (9,0,0):=⟨_,rfl⟩
  have hoo:∀k,(own k).1≠9->own' k=own k:=fun k hk=>by
   rw[ho'];refine if_pos (Nat.lt_of_not_le fun h=>hk (HN4.o.1.out k (Or.inr (by omega))))
  have hP5:zdj (w1.heap.size+1+1+1) w5 own' (.l va (b.ps.eraseIdx p).length vc) (b.ps.eraseIdx p):=⟨zi5 HW5.o.1 (by have:=HN4.o.1.le;omega),fun z hz=>by
   have h8:=HW5.o.1.lt z hz;rw[ho']
   show(if _ then _ else _:Lb)=_
   rw[if_neg (by omega),if_pos h8.2]⟩
  obtain⟨a',c',he,hps⟩:=hP5.lie;simp only[Value.slice.injEq]at he;obtain⟨rfl,_,rfl⟩:=he;have hle:=HN4.o.1.le
  have hN:BkL (w1.heap.size+1+1+1) w5.heap.size w5 own' (zfP b p hpn) d0 d1 d2 va:=by
   refine⟨(HN4.o.1.os.left HW5.o.2.2 (fun k h1 h2=>by omega)).own (fun k _ h=>hoo k (by omega)),(HN4.o.1.gs.left HW5.o.2.2 (fun k h1 h2=>by omega)).own (fun k _ h=>hoo k (by omega)),?_,hps,fun k hk=>?_,by have:=HX9.o.2.2;omega,Nat.le_refl _⟩
   ·show zar _ _ _ _ (pay b.ls b.ps[p]).length (za6 (pay b.ls b.ps[p]))
    rw[zaO];exact HW5.o.2.1.own (fun k _ h=>hoo k (by omega))
   ·rw[ho']
    show(if _ then _ else _:Lb).1=_
    rcases hk with hk|hk
    ·rw[if_pos (by omega)];exact HN4.o.1.out k (Or.inl hk)
    ·rw[if_neg (by have:=HX9.o.2.2;omega),if_neg (by omega)]
  have hLs:∀(W:World) (o:Nat) (v:Value),Left (fun k=>k=w.heap.size+1+1) w5 W->Left (fun k=>k=w.heap.size+1+1) w5 (W.setCell (aD (w.heap.size+1+1) o) v):=fun W o v h=>h.set rfl o v
  refine⟨⟨w5.heap.size,own',d0,d1,d2,va,e0,e1,e2,vc,?_,?_⟩,?_⟩
  ·rw[HR.o]
   unfold Bk.cells zfP;simp only[zaO]
  ·rw[HR.o]
   refine BkF.low (BkF.left (S:=fun k=>k=w.heap.size+1+1) hN ?_ (fun k hk h2=>by have:=hN.out k (Or.inl (by omega));omega)) (by omega)
   iterate 7 refine hLs _ _ _ ?_
   exact Left.refl _ _
  ·have h1:w.heap.size<=w.heap.size+1+1:=by omega
   iterate 7 refine Below.setCell ?_ h1 _
   exact HB4.o.trans (HW5.o.2.2.below (fun k hk h3=>by have:=HN4.o.1.out k (Or.inl (by omega));omega) (by omega))
end Go.Proofs.YtecncindgjdbiaaGreat
