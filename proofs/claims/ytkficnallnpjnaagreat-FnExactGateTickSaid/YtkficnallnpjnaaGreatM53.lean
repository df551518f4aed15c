import Derived.Test.YtkficnallnpjnaaGreatM52
set_option maxHeartbeats 8000000
namespace Go.Proofs.YtkficnallnpjnaaGreat
open Go.RowKit
theorem zlS {t:Int}{ps:List Pu}{i:Nat}(h:i<ps.length)(hd:¬ps[i].un<t):ps.take i++stay t (ps.drop i)=ps.take (i+1)++stay t (ps.drop (i+1)):=by
 rw[List.drop_eq_getElem_cons h,tSe h];unfold stay;rw[List.filter_cons_of_pos (by simpa using hd),List.append_assoc];rfl
theorem zkZ {t:Int}{ps:List Pu}{i:Nat}(h:i<ps.length)(hd:ps[i].un<t):ps.take i++stay t (ps.drop i)=(ps.take (i+1)++stay t (ps.drop (i+1))).eraseIdx i:=by
 rw[List.drop_eq_getElem_cons h,tSe h];unfold stay;rw[List.filter_cons_of_neg (by simpa using hd),List.append_assoc,List.eraseIdx_append_of_length_le (by simp;omega)]
 congr 1
 have:i-(ps.take i).length=0:=by simp;omega
 rw[this];rfl
theorem zp0 {t:Int}{ps:List Pu}{i:Nat}(h:i<ps.length)(ls:List Lg):pays t (ps.drop i) ls=ji t (pays t (ps.drop (i+1)) ls) ps[i]:=by rw[List.drop_eq_getElem_cons h,zcF]
theorem zrp {t:Int}{ps:List Pu}{i:Nat}(h:i<ps.length):∃hq:i<(ps.take (i+1)++stay t (ps.drop (i+1))).length,(ps.take (i+1)++stay t (ps.drop (i+1)))[i]=ps[i]:=by
 have hl:(ps.take (i+1)).length=i+1:=by rw[List.length_take];omega
 refine⟨by rw[List.length_append];omega,?_⟩;rw[List.getElem_append_left (by omega)]
 simp
theorem zrj {t:Int}{ps:List Pu}{j:Nat}:∀p∈ps.take j++stay t (ps.drop j),p∈ps:=by
 intro p hp
 rcases List.mem_append.1 hp with h|h
 ·exact List.mem_of_mem_take h
 ·exact List.mem_of_mem_drop (List.mem_filter.1 h).1
theorem zrh {t:Int}{ps:List Pu}{j:Nat}:(ps.take j++stay t (ps.drop j)).length<=ps.length:=by
 have h1:=List.length_filter_le (fun p:Pu=>!decide (p.un<t)) (ps.drop j);rw[List.length_append];unfold stay;rw[List.length_drop]at h1;rw[List.length_take];omega
set_option maxRecDepth 20000 in
theorem zlR (l:Lw)(la lb lc:Option Addr)(lca lcb lcc:Nat)(b:Bk)(a0 a1 a2 a3:Option Addr)(c0 c1 c2 c3:Nat)(w:World)(hl:jr w l la lb lc)(hb:q8 w b a0 a1 a2 a3)(hh:zcj w a0 b.os)(hbf:b.Few)(hz:qL b.os<=1048576) :
 Calls Tryz.prog 6 #[.agg (l.cells la lb lc lca lcb lcc),.agg (b.cells a0 a1 a2 a3 c0 c1 c2 c3)] w fun e w'=>znz w.heap.size w' e (tick l b)/\Below w.heap.size w w':=by
 have HK:=hid hb;have HL:=hid hl;have HF:=zdp hh hbf hz;obtain⟨i3,hi3,hzi3,hsi3,hbi3⟩:=info_parts Tryz.zjN;have HI3:=zbJ hi3 hzi3 hsi3 hbi3;clear hi3 hzi3 hsi3 hbi3;clear hb hl hh hbf hz;unfold Lw.cells Bk.cells;have k0:=znu w (.cells #[.slice la l.ss.length lca,.slice lb l.ms.length lcb,.slice lc l.ts.length lcc] 47) (.cells (bC b a0 a1 a2 a3 c0 c1 c2 c3) 40) (.cells bZ 40);have hB0:=below3' w (.cells #[.slice la l.ss.length lca,.slice lb l.ms.length lcb,.slice lc l.ts.length lcc] 47) (.cells (bC b a0 a1 a2 a3 c0 c1 c2 c3) 40) (.cells bZ 40);obtain⟨W0,hW0⟩:∃W0,W0=((w.alloc (.cells #[.slice la l.ss.length lca,.slice lb l.ms.length lcb,.slice lc l.ts.length lcc] 47)).alloc (.cells (bC b a0 a1 a2 a3 c0 c1 c2 c3) 40)).alloc (.cells bZ 40):=⟨_,rfl⟩
 have hz0:W0.heap.size=w.heap.size+1+1+1:=by rw[hW0];simp
 go_enter Tryz.func6,Tryz.ntmps6;go_wp2_with fail
 rw[<- hW0]at k0 hB0 ⊢;clear hW0;refine(zkf l la lb lc lca lcb lcc b a0 a1 a2 a3 c0 c1 c2 c3 W0 (HL.out.mono hB0) (HK.out.mono hB0) (HF.out.1.mono hB0) HF.out.2.1 HF.out.2.2).mono ?_;rintro e w1⟨rfl,hb1⟩;have hz1:=hb1.size;have HB1:=hid (hB0.trans (hb1.mono hB0.size));have kB:=(hb1.block (w.heap.size+1) (by omega)).trans k0.2.1;have kR:=(hb1.block (w.heap.size+1+1) (by omega)).trans k0.2.2;have cB:=fun j=>cell_of_block (o:=j) kB
 have cR:=fun j=>cell_of_block (o:=j) kR
 have fR:=fun j=>zh (o:=j) kR
 have hzB:w.heap.size+1<w1.heap.size:=by omega
 have hzR:w.heap.size+1+1<w1.heap.size:=by omega
 have HKB:=qE kB kR;clear hb1 k0 hB0 kB kR
 by_cases hok:jX l b=true
 rotate_left
 ·have hno:jX l b=false:=bFi hok
  have HR:Hid (tick l b=(zaP,1)):=by unfold Hid tick;rw[hno];rfl
  rw[hno];go_wp2_with fail
  refine bodyPost_ret (v:=.tuple #[.agg #[.int .i64 0,.int .i64 0,.int .i64 0,.slice none 0 0,.slice none 0 0,.slice none 0 0,.slice none 0 0],.int .i64 1]) (by simp[results,Tryz.results6,go_sem,cR]) rfl ?_;refine⟨⟨w1.heap.size,fun _=>(9,0,0),none,none,none,none,0,0,0,0,by rw[HR.out];rfl,?_⟩,?_⟩
  ·rw[HR.out]
   exact⟨⟨fun h=>absurd h (by simp[zaP])⟩,⟨fun h=>absurd h (by simp[zaP])⟩,⟨fun h=>absurd h (by simp[zaP])⟩,⟨fun h=>absurd h (by simp[zaP])⟩,fun _ _=>rfl,HB1.out.size,by simp[World.setCell]⟩
  ·have h1:w.heap.size<=w.heap.size+1+1:=by omega
   iterate 7 refine Below.setCell ?_ h1 _
   exact HB1.out
 have HT:=hid (zoX hok);rw[hok];go_wp2_with fail
 refine(zoB b a0 a1 a2 a3 c0 c1 c2 c3 w1 (HK.out.mono HB1.out) (HF.out.1.mono HB1.out) HF.out.2.1).mono ?_;rintro e w2⟨own,d0,d1,d2,d3,e0,e1,e2,e3,rfl,hbk,hrr,hb2⟩;have hz2:=hb2.size;have HB2:=hid hb2;have HN2:=hid hbk;have HRP:=hid hrr.2;have kR2:=(hb2.block (w.heap.size+1+1) hzR).trans HKB.out.2;have kB2:=(hb2.block (w.heap.size+1) hzB).trans HKB.out.1;have hba:=(bRf w2.heap.size w2).alloc (Nat.le_refl _) (.cells (bC b d0 d1 d2 d3 e0 e1 e2 e3) 40);have kX:=alloc_at w2 (.cells (bC b d0 d1 d2 d3 e0 e1 e2 e3) 40);clear hb2 hbk hrr cB cR fR;have cB2:=fun j=>cell_of_block (o:=j) kB2
 have hzB2:w.heap.size+1<w2.heap.size:=by omega
 go_upto_if 17 with fail
 clear cB2 hzB2;obtain⟨W3,hW3⟩:∃W3,W3=w2.alloc (.cells (bC b d0 d1 d2 d3 e0 e1 e2 e3) 40):=⟨_,rfl⟩
 rw[<- hW3]at hba kX ⊢;have hz3:W3.heap.size=w2.heap.size+1:=by rw[hW3];simp
 clear hW3;have kR3:=(hba.block _ (by omega)).trans kR2;have kB3:=(hba.block _ (by omega)).trans kB2;have HN3:=hid (BkF.mono HN2.out hba);have HRP3:=hid (HRP.out.left (Left.of_below (fun _=>False) hba) (fun _ _ h=>h));have HB3:=hid ((HB1.out.trans (HB2.out.mono HB1.out.size)).trans (hba.mono (by omega)));obtain⟨x,hx⟩:∃x,x=w2.heap.size:=⟨_,rfl⟩
 rw[<- hx]at kX hz3 HN3 ⊢;have hxR:w.heap.size+1+1<x:=by omega
 clear kR2 kB2 hba HN2;have cX:=fun j=>cell_of_block (o:=j) kX
 have fX:=fun j=>zh (o:=j) kX
 have hxz:x<W3.heap.size:=by omega
 have HZX:=qE hx hz3;have hxw:w1.heap.size<=x:=by omega
 clear hx hz3
 by_cases ht:b.tick=1000000
 ·have HR:Hid (tick l b=(b,2)):=by unfold Hid tick;rw[hok,ht];rfl
  have cR:=fun j=>cell_of_block (o:=j) kR3
  have fR:=fun j=>zh (o:=j) kR3
  have hzR2:w.heap.size+1+1<W3.heap.size:=by omega
  have hte:(1000000:Int)<=b.tick:=by omega
  clear ht;go_wp2_with fail
  refine bodyPost_ret (v:=.tuple #[.agg #[.int .i64 b.now,.int .i64 b.tick,.int .i64 b.given,.slice d0 b.os.length e0,.slice d1 b.gs.length e1,.slice d2 b.ls.length e2,.slice d3 b.ps.length e3],.int .i64 2]) (by simp[results,Tryz.results6,go_sem,cR]) rfl ?_;have hLs:∀(W:World) (o:Nat) (v:Value),Left (fun k=>k=w.heap.size+1+1) W3 W->Left (fun k=>k=w.heap.size+1+1) W3 (W.setCell ⟨w.heap.size+1+1,o,none⟩ v):=fun W o v h=>h.set rfl o v
  refine⟨⟨x,own,d0,d1,d2,d3,e0,e1,e2,e3,by rw[HR.out];rfl,?_⟩,?_⟩
  ·rw[HR.out]
   refine BkF.low (BkF.left (S:=fun k=>k=w.heap.size+1+1) HN3.out ?_ (fun k hk h2=>by have:=HN3.out.out k (Or.inl (by omega));omega)) (by omega)
   iterate 7 refine hLs _ _ _ ?_
   exact Left.refl _ _
  ·have h1:w.heap.size<=w.heap.size+1+1:=by omega
   iterate 7 refine Below.setCell ?_ h1 _
   exact HB3.out
 ·have HR:Hid (tick l b=(zfY b,0)):=by unfold Hid tick;rw[hok,if_neg ht];rfl
  have htl:b.tick<1000000:=by have:=HT.out.tick;omega
  have hte:decide (1000000<=b.tick)=false:=by simp;omega
  have hwt:wrap64 (b.tick+1)=b.tick+1:=zy _ ⟨by have:=HT.out.tick;omega,by have:=HT.out.tick;omega⟩;have HTT:=hid ht;clear ht;have cB:=fun j=>cell_of_block (o:=j) kB3
  have hzB3:w.heap.size+1<W3.heap.size:=by omega
  have hxB:x≠w.heap.size+1:=by omega
  have kX1:=zi (o:=1) kX (.int .i64 (b.tick+1));have hsx:=(Left.refl (fun k=>k=x) W3).set (b:=x) rfl 1 (.int .i64 (b.tick+1));have hox:∀q,(q<(w1.heap.size+1+1+1) \/ q=x)->(own q).1=9:=fun q hq=>HN3.out.out q (by have:=HZX.out;omega)
  have HXL:Hid ((w1.heap.size+1+1+1)<=x):=HN3.out.le
  have HS0:Hid ((W3.setCell ⟨x,1,none⟩ (.int .i64 (b.tick+1))).heap[x]?=some (.cells #[.int .i64 b.now,.int .i64 (b.tick+1),.int .i64 b.given,.slice d0 b.os.length e0,.slice d1 b.gs.length e1,.slice d2 b.ls.length e2,.slice d3 b.ps.length e3] 40)/\(zat (w1.heap.size+1+1+1) (W3.setCell ⟨x,1,none⟩ (.int .i64 (b.tick+1))) own d0 b.os.length (zac b.os)/\zaT (w1.heap.size+1+1+1) (W3.setCell ⟨x,1,none⟩ (.int .i64 (b.tick+1))) own d1 b.gs.length (zaS b.gs)/\jy (w1.heap.size+1+1+1) (W3.setCell ⟨x,1,none⟩ (.int .i64 (b.tick+1))) own d2 b.ls.length (zab (pays (b.tick+1) (b.ps.drop b.ps.length) b.ls)))/\zbT (w1.heap.size+1+1+1) (W3.setCell ⟨x,1,none⟩ (.int .i64 (b.tick+1))) own (.slice d3 b.ps.length e3) (b.ps.take b.ps.length++stay (b.tick+1) (b.ps.drop b.ps.length))/\(∀q,(q<(w1.heap.size+1+1+1) \/ q=x)->(own q).1=9)/\Below (w1.heap.size+1+1+1) W3 (W3.setCell ⟨x,1,none⟩ (.int .i64 (b.tick+1)))):=by
   have h9:=hox x (Or.inr rfl);rw[tOl (Nat.le_refl _),List.drop_eq_nil_of_le (Nat.le_refl _)];refine⟨kX1,⟨HN3.out.os.left hsx (fun k h1 h2=>by subst h2;omega),HN3.out.gs.left hsx (fun k h1 h2=>by subst h2;omega),HN3.out.ls.left hsx (fun k h1 h2=>by subst h2;omega)⟩,?_,hox,(bRf _ _).setCell HXL.out _⟩;have h8:b.ps++stay (b.tick+1) []=b.ps:=List.append_nil _;rw[h8];exact HRP3.out.left hsx (fun k h1 h2=>by subst h2;omega)
  have hps0:wrap64 ((b.ps.length:Int)-1)=(b.ps.length:Int)-1:=zy _ ⟨by omega,by have:=HT.out.plen;omega⟩;clear hox hsx kX1 HN3 HRP3 HRP;have cX1:=fun j=>cell_of_block (o:=j) HS0.out.1
  go_wp2_with fail
  (try simp only[hte,hwt,hps0])
  clear hte hwt hps0 cX1 cX fX cB htl
  go_loopw [7] (fun iv wr=>∃(j:Nat) (v:Value) (own:Nat->Lb),j<=b.ps.length/\iv=.int .i64 ((j:Int)-1)/\Hid (wr.heap[x]?=some (.cells #[.int .i64 b.now,.int .i64 (b.tick+1),.int .i64 b.given,.slice d0 b.os.length e0,.slice d1 b.gs.length e1,.slice d2 b.ls.length e2,v] 40)/\(zat (w1.heap.size+1+1+1) wr own d0 b.os.length (zac b.os)/\zaT (w1.heap.size+1+1+1) wr own d1 b.gs.length (zaS b.gs)/\jy (w1.heap.size+1+1+1) wr own d2 b.ls.length (zab (pays (b.tick+1) (b.ps.drop j) b.ls)))/\zbT (w1.heap.size+1+1+1) wr own (v) (b.ps.take j++stay (b.tick+1) (b.ps.drop j))/\(∀q,(q<(w1.heap.size+1+1+1) \/ q=x)->(own q).1=9)/\Below (w1.heap.size+1+1+1) W3 wr)) (fun iv _=>(intOf iv+1).toNat)
  case atStart=>exact⟨b.ps.length,_,own,Nat.le_refl _,rfl,HS0.out⟩
  case round=>
   clear HS0;obtain⟨j,v,own,hj,rfl,HQ⟩:=hrel;have hBr:Below w.heap.size w wr:=HB3.out.trans (HQ.out.2.2.2.2.mono (by omega));have hxr:x<wr.heap.size:=(gES HQ.out.1).1
   rcases j with _|i
   ·have em:(((0:Nat):Int)-1)=-1:=rfl
    rw[em];clear em;have HE:=HQ;rw[List.take_zero,List.drop_zero,List.nil_append]at HE;obtain⟨d3',e3',hve,hpn⟩:=HE.out.2.2.1.lie;have kR4:=(HE.out.2.2.2.2.block (w.heap.size+1+1) (by omega)).trans kR3;have cR:=fun j=>cell_of_block (o:=j) kR4
    have fR:=fun j=>zh (o:=j) kR4
    have hzR4:w.heap.size+1+1<wr.heap.size:=by omega
    have hkX:=HE.out.1;subst hve;have cXX:=fun j=>cell_of_block (o:=j) hkX
    have HPN:=hid hpn;have HBR:=hid hBr;clear HQ hpn hBr hkX hj;go_wp2_with fail
    refine bodyPost_ret (v:=.tuple #[.agg #[.int .i64 b.now,.int .i64 (b.tick+1),.int .i64 b.given,.slice d0 b.os.length e0,.slice d1 b.gs.length e1,.slice d2 b.ls.length e2,(.slice d3' (stay (b.tick+1) b.ps).length e3')],.int .i64 0]) (by simp[results,Tryz.results6,go_sem,cR]) rfl ?_;have hLs:∀(W:World) (o:Nat) (v:Value),Left (fun k=>k=w.heap.size+1+1) wr W->Left (fun k=>k=w.heap.size+1+1) wr (W.setCell ⟨w.heap.size+1+1,o,none⟩ v):=fun W o v h=>h.set rfl o v
    obtain⟨own',ho'⟩:∃own':Nat->Lb,own'=fun k=>if k<wr.heap.size then own k else (9,0,0):=⟨_,rfl⟩
    have hoo:∀k,k<wr.heap.size->own' k=own k:=fun k hk=>by rw[ho'];exact if_pos hk
    have hN:BkL (w1.heap.size+1+1+1) wr.heap.size wr own' (zfY b) d0 d1 d2 d3':=by
     refine⟨HE.out.2.1.1.own (fun z hz _=>hoo z hz),HE.out.2.1.2.1.own (fun z hz _=>hoo z hz),?_,HPN.out.own (fun z hz _=>hoo z hz),fun z hz=>?_,by have:=HXL.out;omega,Nat.le_refl _⟩
     ·show jy _ _ _ _ (pays (b.tick+1) b.ps b.ls).length (zab (pays (b.tick+1) b.ps b.ls))
      rw[zaj];exact HE.out.2.1.2.2.own (fun z hz _=>hoo z hz)
     ·rcases hz with hz|hz
      ·rw[hoo z (by have:=HXL.out;omega)];exact HE.out.2.2.2.1 z (Or.inl hz)
      ·rw[ho'];show(if _ then _ else _:Lb).1=_;rw[if_neg (by omega)]
    refine⟨⟨wr.heap.size,own',d0,d1,d2,d3',e0,e1,e2,e3',?_,?_⟩,?_⟩
    ·rw[HR.out]
     unfold Bk.cells zfY;simp only[zaj]
    ·rw[HR.out]
     refine BkF.low (BkF.left (S:=fun k=>k=w.heap.size+1+1) hN ?_ (fun k hk h2=>by have:=hN.out k (Or.inl (by omega));omega)) (by omega)
     iterate 7 refine hLs _ _ _ ?_
     exact Left.refl _ _
    ·have h1:w.heap.size<=w.heap.size+1+1:=by omega
     iterate 7 refine Below.setCell ?_ h1 _
     exact HBR.out
   ·have hil:i<b.ps.length:=by omega
    have ei:(((i+1:Nat):Int)-1)=(i:Int):=by omega
    rw[ei];have hqx:=zrp (t:=b.tick+1) hil;have hqn:=zrh (t:=b.tick+1) (ps:=b.ps) (j:=i+1);have HQB:=hid (zrj (t:=b.tick+1) (ps:=b.ps) (j:=i+1));have HY1:Hid (¬b.ps[i].un<b.tick+1->(b.ps.take i++stay (b.tick+1) (b.ps.drop i))=(b.ps.take (i+1)++stay (b.tick+1) (b.ps.drop (i+1)))):=zlS hil;have HY2:Hid (b.ps[i].un<b.tick+1->(b.ps.take i++stay (b.tick+1) (b.ps.drop i))=((b.ps.take (i+1)++stay (b.tick+1) (b.ps.drop (i+1)))).eraseIdx i):=zkZ hil;have HY3:Hid ((pays (b.tick+1) (b.ps.drop i) b.ls)=ji (b.tick+1) (pays (b.tick+1) (b.ps.drop (i+1)) b.ls) b.ps[i]):=zp0 hil b.ls;obtain⟨qs,hqs⟩:∃qs,qs=(b.ps.take (i+1)++stay (b.tick+1) (b.ps.drop (i+1))):=⟨_,rfl⟩
    have HLE:Hid (((pays (b.tick+1) (b.ps.drop (i+1)) b.ls)).length=b.ls.length/\rising qj (pays (b.tick+1) (b.ps.drop (i+1)) b.ls)/\(∀g∈(pays (b.tick+1) (b.ps.drop (i+1)) b.ls),g.Small)/\(∀g∈(pays (b.tick+1) (b.ps.drop (i+1)) b.ls),0<=g.fr/\g.fr<=1000000000)/\yH (pays (b.tick+1) (b.ps.drop (i+1)) b.ls) b.ps[i].tm b.ps[i].rs=true):=by
     have hwi:=zh5 HT.out.fr (b.tick+1) (b.ps.drop (i+1)) (fun p hp=>HT.out.am p (List.mem_of_mem_drop hp));have hdl:(b.ps.drop (i+1)).length<=24:=by have:=HT.out.plen;rw[List.length_drop];omega
     exact⟨zaj _ _ _,zhT HT.out.rise _ _,zfJ (fun g hg=>by obtain⟨z,hz,rfl⟩:=List.mem_iff_getElem.1 hg;exact HK.out.ls.small z hz) _ _,fun g hg=>by have:=hwi.fr g hg;constructor <;> omega,by rw[znt];exact HT.out.has i hil⟩
    obtain⟨ls,hls⟩:∃ls,ls=(pays (b.tick+1) (b.ps.drop (i+1)) b.ls):=⟨_,rfl⟩
    rw[<- hqs]at hqx hqn HQB HY1 HY2 HQ;rw[<- hls]at HLE HY3 HQ;clear hqs hls;obtain⟨hiq,hqi⟩:=hqx;obtain⟨va,vc,rfl⟩:=q9 HQ.out.2.2.1.1;obtain⟨g,Cp,rfl,hglo,hgC,_⟩:=zfg HQ.out.2.2.1.1 (by omega);have hgw:g<wr.heap.size:=(gES hgC).1;have cU:wr.cell? ⟨g,i*5+4,none⟩=some (.int .i64 b.ps[i].un):=zlg HQ.out.2.2.1.1 (i*5+4) _ (by rw[zdc Pu.row 5 (fun _=>rfl) qs i hiq 4 (by omega),hqi];rfl);have hiI:(i:Int)<(qs.length:Int):=by omega
    have hi0:(0:Int)<=(i:Int):=by omega
    have hiu:i<=1048576:=by have:=HF.out.2.1.ps;omega
    have hwi:wrap64 ((i:Int)-1)=(i:Int)-1:=zy _ ⟨by omega,by omega⟩;have hSd:(∀z,wr.drew.cell? ⟨x,z,none⟩=(#[.int .i64 b.now,.int .i64 (b.tick+1),.int .i64 b.given,.slice d0 b.os.length e0,.slice d1 b.gs.length e1,.slice d2 b.ls.length e2,.slice (some ⟨g,0,none⟩) qs.length vc]:Array Value)[z]?)/\wr.drew.cell? ⟨g,i*5+4,none⟩=some (.int .i64 b.ps[i].un):=⟨fun z=>cell_of_block HQ.out.1,cU⟩
    have hBd:Below wr.heap.size wr wr.drew:=(bRf _ _).drew;clear hgC hglo ei hj cU
    by_cases hd:b.ps[i].un<b.tick+1
    rotate_left
    ·have HE4:Hid (wr.drew.heap[x]?=some (.cells #[.int .i64 b.now,.int .i64 (b.tick+1),.int .i64 b.given,.slice d0 b.os.length e0,.slice d1 b.gs.length e1,.slice d2 b.ls.length e2,.slice (some ⟨g,0,none⟩) qs.length vc] 40)/\(zat (w1.heap.size+1+1+1) wr.drew own d0 b.os.length (zac b.os)/\zaT (w1.heap.size+1+1+1) wr.drew own d1 b.gs.length (zaS b.gs)/\jy (w1.heap.size+1+1+1) wr.drew own d2 b.ls.length (zab (pays (b.tick+1) (b.ps.drop i) b.ls)))/\zbT (w1.heap.size+1+1+1) wr.drew own (.slice (some ⟨g,0,none⟩) qs.length vc) (b.ps.take i++stay (b.tick+1) (b.ps.drop i))/\(∀q,(q<(w1.heap.size+1+1+1) \/ q=x)->(own q).1=9)/\Below (w1.heap.size+1+1+1) W3 wr.drew):=by
      have h3:=HY3.out;unfold ji at h3;rw[if_neg hd]at h3;rw[h3,HY1.out hd];exact⟨HQ.out.1,⟨HQ.out.2.1.1.mono hBd,HQ.out.2.1.2.1.mono hBd,HQ.out.2.1.2.2.mono hBd⟩,HQ.out.2.2.1.left (Left.of_below (fun _=>False) hBd) (fun _ _ h=>h),HQ.out.2.2.2.1,HQ.out.2.2.2.2.drew⟩
     have hdd:decide (b.ps[i].un<b.tick+1)=false:=decide_eq_false hd;have hdl:b.tick+1<=b.ps[i].un:=by omega
     clear hd HY1 HY2 HY3 HLE HQ hqi;go_wp2_with fail
     go_region_held3 (fun w'=>(∀z,w'.cell? ⟨x,z,none⟩=(#[.int .i64 b.now,.int .i64 (b.tick+1),.int .i64 b.given,.slice d0 b.os.length e0,.slice d1 b.gs.length e1,.slice d2 b.ls.length e2,.slice (some ⟨g,0,none⟩) qs.length vc]:Array Value)[z]?)/\w'.cell? ⟨g,i*5+4,none⟩=some (.int .i64 b.ps[i].un)) (exact hSd) (fail)
     go_wp2_with fail
     exact⟨⟨i,_,own,by omega,rfl,HE4.out⟩,by simp[intOf]⟩
    ·have hdd:decide (b.ps[i].un<b.tick+1)=true:=decide_eq_true hd
     have HD:=hid hd;go_wp2_with fail
     go_region_held3 (fun w'=>(∀z,w'.cell? ⟨x,z,none⟩=(#[.int .i64 b.now,.int .i64 (b.tick+1),.int .i64 b.given,.slice d0 b.os.length e0,.slice d1 b.gs.length e1,.slice d2 b.ls.length e2,.slice (some ⟨g,0,none⟩) qs.length vc]:Array Value)[z]?)/\w'.cell? ⟨g,i*5+4,none⟩=some (.int .i64 b.ps[i].un)) (exact hSd) (fail)
     have cXd:=hSd.1;go_wp2_with fail
     clear cXd hd hdd;have hsm:=HK.out.small
     have hpn:zcB (w1.heap.size+1+1+1) wr own (some ⟨g,0,none⟩) qs.length (zez qs):=by
      obtain⟨a9,c9,e9,h9⟩:=HQ.out.2.2.1.lie
      cases e9
      exact h9
     have hqsm:∀z (hz:z<qs.length),qs[z].Small:=fun z hz=>by
      have hm:=HQB.out _ (List.getElem_mem hz);obtain⟨y,hy,e⟩:=List.mem_iff_getElem.1 hm;rw[<- e];exact hsm.ps y hy
     have hbk:q8 wr.drew ⟨b.now,b.tick+1,b.given,b.os,b.gs,ls,qs⟩ d0 d1 d2 (some ⟨g,0,none⟩):=q8.mono ⟨HQ.out.2.1.1.at hsm.os hsm.lo,HQ.out.2.1.2.1.at hsm.gs hsm.lg,jy.at (by rw[HLE.out.1];exact HQ.out.2.1.2.2) (fun z hz=>HLE.out.2.2.1 _ (List.getElem_mem hz)) (by rw[HLE.out.1];exact hsm.ll),hpn.at hqsm (by have:=hsm.lp;omega)⟩ hBd;have h:=zn5 (w1.heap.size+1+1+1) own ⟨b.now,b.tick+1,b.given,b.os,b.gs,ls,qs⟩ i d0 d1 d2 (some ⟨g,0,none⟩) e0 e1 e2 vc wr.drew hbk (by show jy _ _ _ _ ls.length (zab ls);rw[HLE.out.1];exact HQ.out.2.1.2.2.mono hBd) (HQ.out.2.2.1.left (Left.of_below (fun _=>False) hBd) (fun _ _ h=>h)) hiq ⟨by have:=HT.out.plen;show qs.length<=_;omega,by show ls.length<=_;rw[HLE.out.1];exact HT.out.len,HLE.out.2.1,HLE.out.2.2.2.1,by show yH ls qs[i].tm qs[i].rs=true;rw[hqi];exact HLE.out.2.2.2.2,by show 1<=qs[i].am/\_;rw[hqi];exact HT.out.am _ (List.getElem_mem hil)⟩;dsimp only at h;rw[HLE.out.1]at h;refine h.mono ?_;clear h hbk hpn hqsm hsm;rintro e w4⟨v,rfl,hrow4,hl4,hL4⟩;obtain⟨va,vc',rfl⟩:=q9 hrow4;have hx9:=HQ.out.2.2.2.1 x (Or.inr rfl);have hL5:Left (fun q=>(own q).1=2) wr w4:=(Left.of_below _ hBd).trans hL4;obtain⟨own',ho'⟩:∃own':Nat->Lb,own'=fun k=>if k<wr.heap.size then own k else (3,0,0):=⟨_,rfl⟩
     have hoo:∀k,k<wr.heap.size->own' k=own k:=fun k hk=>by rw[ho'];exact if_pos hk
     have kX4:=(hL5.out x hxr (by omega)).trans HQ.out.1;have hB4:Below (w1.heap.size+1+1+1) W3 w4:=HQ.out.2.2.2.2.trans (hL5.below (fun q hq h2=>by have:=HQ.out.2.2.2.1 q (Or.inl hq);omega) (by have:=HXL.out;omega));have hP4:zbT (w1.heap.size+1+1+1) w4 own' (.slice va (qs.eraseIdx i).length vc') (qs.eraseIdx i):=⟨zi3 hrow4 (by have:=HXL.out;show _<=wr.heap.size;omega),fun z hz=>by have h8:wr.heap.size<=z:=(hrow4.lt z hz).1;rw[ho'];exact if_neg (by omega)⟩
     rw[hqi]at hl4;have hz4:x<w4.heap.size:=(gES kX4).1;have hwo:∀q,(q<(w1.heap.size+1+1+1) \/ q=x)->(own' q).1=9:=fun q hq=>by rw[hoo q (by have:=HXL.out;omega)];exact HQ.out.2.2.2.1 q hq
     have hx9':=hwo x (Or.inr rfl)
     have hl4':jy (w1.heap.size+1+1+1) w4 own' d2 b.ls.length (zab (pay ls b.ps[i])):=by
      refine⟨fun hn=>?_⟩;obtain⟨b9,C9,r1,r2,r3,r4,r5,r6⟩:=hl4.rows hn;obtain⟨b8,C8,s1,_,_,s4,_⟩:=HQ.out.2.1.2.2.rows hn;rw[r1]at s1
      cases s1
      exact⟨b9,C9,r1,r2,(hoo b9 (gES s4).1).trans r3,r4,r5,r6⟩
     have hs7:=(((((((Left.refl (fun z=>z=x) w4).set (b:=x) rfl 0 (.int .i64 b.now)).set (b:=x) rfl 1 (.int .i64 (b.tick+1))).set (b:=x) rfl 2 (.int .i64 b.given)).set (b:=x) rfl 3 (.slice d0 b.os.length e0)).set (b:=x) rfl 4 (.slice d1 b.gs.length e1)).set (b:=x) rfl 5 (.slice d2 b.ls.length e2)).set (b:=x) rfl 6 (.slice va (qs.eraseIdx i).length vc')
     have HE4:Hid ((((((((w4.setCell ⟨x,0,none⟩ (.int .i64 b.now)).setCell ⟨x,1,none⟩ (.int .i64 (b.tick+1))).setCell ⟨x,2,none⟩ (.int .i64 b.given)).setCell ⟨x,3,none⟩ (.slice d0 b.os.length e0)).setCell ⟨x,4,none⟩ (.slice d1 b.gs.length e1)).setCell ⟨x,5,none⟩ (.slice d2 b.ls.length e2)).setCell ⟨x,6,none⟩ (.slice va (qs.eraseIdx i).length vc')).heap[x]?=some (.cells #[.int .i64 b.now,.int .i64 (b.tick+1),.int .i64 b.given,.slice d0 b.os.length e0,.slice d1 b.gs.length e1,.slice d2 b.ls.length e2,.slice va (qs.eraseIdx i).length vc'] 40)/\(zat (w1.heap.size+1+1+1) (((((((w4.setCell ⟨x,0,none⟩ (.int .i64 b.now)).setCell ⟨x,1,none⟩ (.int .i64 (b.tick+1))).setCell ⟨x,2,none⟩ (.int .i64 b.given)).setCell ⟨x,3,none⟩ (.slice d0 b.os.length e0)).setCell ⟨x,4,none⟩ (.slice d1 b.gs.length e1)).setCell ⟨x,5,none⟩ (.slice d2 b.ls.length e2)).setCell ⟨x,6,none⟩ (.slice va (qs.eraseIdx i).length vc')) own' d0 b.os.length (zac b.os)/\zaT (w1.heap.size+1+1+1) (((((((w4.setCell ⟨x,0,none⟩ (.int .i64 b.now)).setCell ⟨x,1,none⟩ (.int .i64 (b.tick+1))).setCell ⟨x,2,none⟩ (.int .i64 b.given)).setCell ⟨x,3,none⟩ (.slice d0 b.os.length e0)).setCell ⟨x,4,none⟩ (.slice d1 b.gs.length e1)).setCell ⟨x,5,none⟩ (.slice d2 b.ls.length e2)).setCell ⟨x,6,none⟩ (.slice va (qs.eraseIdx i).length vc')) own' d1 b.gs.length (zaS b.gs)/\jy (w1.heap.size+1+1+1) (((((((w4.setCell ⟨x,0,none⟩ (.int .i64 b.now)).setCell ⟨x,1,none⟩ (.int .i64 (b.tick+1))).setCell ⟨x,2,none⟩ (.int .i64 b.given)).setCell ⟨x,3,none⟩ (.slice d0 b.os.length e0)).setCell ⟨x,4,none⟩ (.slice d1 b.gs.length e1)).setCell ⟨x,5,none⟩ (.slice d2 b.ls.length e2)).setCell ⟨x,6,none⟩ (.slice va (qs.eraseIdx i).length vc')) own' d2 b.ls.length (zab (pays (b.tick+1) (b.ps.drop i) b.ls)))/\zbT (w1.heap.size+1+1+1) (((((((w4.setCell ⟨x,0,none⟩ (.int .i64 b.now)).setCell ⟨x,1,none⟩ (.int .i64 (b.tick+1))).setCell ⟨x,2,none⟩ (.int .i64 b.given)).setCell ⟨x,3,none⟩ (.slice d0 b.os.length e0)).setCell ⟨x,4,none⟩ (.slice d1 b.gs.length e1)).setCell ⟨x,5,none⟩ (.slice d2 b.ls.length e2)).setCell ⟨x,6,none⟩ (.slice va (qs.eraseIdx i).length vc')) own' (.slice va (qs.eraseIdx i).length vc') (b.ps.take i++stay (b.tick+1) (b.ps.drop i))/\(∀q,(q<(w1.heap.size+1+1+1) \/ q=x)->(own' q).1=9)/\Below (w1.heap.size+1+1+1) W3 (((((((w4.setCell ⟨x,0,none⟩ (.int .i64 b.now)).setCell ⟨x,1,none⟩ (.int .i64 (b.tick+1))).setCell ⟨x,2,none⟩ (.int .i64 b.given)).setCell ⟨x,3,none⟩ (.slice d0 b.os.length e0)).setCell ⟨x,4,none⟩ (.slice d1 b.gs.length e1)).setCell ⟨x,5,none⟩ (.slice d2 b.ls.length e2)).setCell ⟨x,6,none⟩ (.slice va (qs.eraseIdx i).length vc'))):=by
      have h3:=HY3.out;unfold ji at h3;rw[if_pos HD.out]at h3;rw[h3,HY2.out HD.out];exact⟨zi (o:=6) (zi (o:=5) (zi (o:=4) (zi (o:=3) (zi (o:=2) (zi (o:=1) (zi (o:=0) (kX4) (.int .i64 b.now)) (.int .i64 (b.tick+1))) (.int .i64 b.given)) (.slice d0 b.os.length e0)) (.slice d1 b.gs.length e1)) (.slice d2 b.ls.length e2)) (.slice va (qs.eraseIdx i).length vc'),⟨((HQ.out.2.1.1.own (fun z hz _=>hoo z hz)).left hL5 (fun z h1 h2=>by by_cases hz:z<wr.heap.size;(rw[hoo z hz]at h1;omega);(rw[ho']at h1;simp[hz]at h1))).left hs7 (fun z h1 h2=>by subst h2;omega),((HQ.out.2.1.2.1.own (fun z hz _=>hoo z hz)).left hL5 (fun z h1 h2=>by by_cases hz:z<wr.heap.size;(rw[hoo z hz]at h1;omega);(rw[ho']at h1;simp[hz]at h1))).left hs7 (fun z h1 h2=>by subst h2;omega),hl4'.left hs7 (fun z h1 h2=>by subst h2;omega)⟩,hP4.left hs7 (fun z h1 h2=>by subst h2;omega),hwo,(((((((hB4).setCell (p:=⟨x,0,none⟩) HXL.out (.int .i64 b.now)).setCell (p:=⟨x,1,none⟩) HXL.out (.int .i64 (b.tick+1))).setCell (p:=⟨x,2,none⟩) HXL.out (.int .i64 b.given)).setCell (p:=⟨x,3,none⟩) HXL.out (.slice d0 b.os.length e0)).setCell (p:=⟨x,4,none⟩) HXL.out (.slice d1 b.gs.length e1)).setCell (p:=⟨x,5,none⟩) HXL.out (.slice d2 b.ls.length e2)).setCell (p:=⟨x,6,none⟩) HXL.out (.slice va (qs.eraseIdx i).length vc')⟩
     have cX4:=fun z=>cell_of_block (o:=z) kX4
     have fX4:=fun z=>zh (o:=z) kX4
     clear hx9 hL4 hL5 hoo ho' kX4 hB4 hP4 hl4 hl4' hwo hx9' hs7 hrow4 HQ HY1 HY2 HY3 HLE HQB hSd hBd hqi;go_wp2_with fail
     exact⟨⟨i,_,own',by omega,rfl,HE4.out⟩,by simp[intOf]⟩
theorem zo2 {w:World}{b:Nat}{x0 x1 x2 x3 x4 x5 x6:Value}{t:TypeId}(h:w.heap[b]?=some (.cells #[x0,x1,x2,x3,x4,x5,x6] t))(v0 v1 v2 v3 v4 v5 v6:Value):(zj5 w b v0 v1 v2 v3 v4 v5 v6).heap[b]?=some (.cells #[v0,v1,v2,v3,v4,v5,v6] t):=by
 unfold zj5;rw[zi (zi (zi (zi (zi (zi (zi h v0) v1) v2) v3) v4) v5) v6]
 rfl
theorem Left.zj5 {S:Nat->Prop}{w W:World}(h:Left S w W){b:Nat}(hb:S b)(v0 v1 v2 v3 v4 v5 v6:Value):Left S w (zj5 W b v0 v1 v2 v3 v4 v5 v6):=
 ((((((h.set hb 0 v0).set hb 1 v1).set hb 2 v2).set hb 3 v3).set hb 4 v4).set hb 5 v5).set hb 6 v6
theorem BkL.mono {lo hi:Nat}{w w':World}{own:Nat->Lb}{b:Bk}{a0 a1 a2 a3:Option Addr}(h:BkL lo hi w own b a0 a1 a2 a3)(hb:Below w.heap.size w w'):BkL lo hi w' own b a0 a1 a2 a3:=BkF.mono h hb
theorem BkM.mono {lo hi:Nat}{w w':World}{own:Nat->Lb}{b:Bk}{a0 a1 a2 a3:Option Addr}(h:BkM lo hi w own b a0 a1 a2 a3)(hb:Below w.heap.size w w'):BkM lo hi w' own b a0 a1 a2 a3:=BkF.mono h hb
theorem BkL.zj5 {lo hi:Nat}{w:World}{own:Nat->Lb}{b:Bk}{a0 a1 a2 a3:Option Addr}(h:BkL lo hi w own b a0 a1 a2 a3)(z:Nat)(hz:z<lo)(v0 v1 v2 v3 v4 v5 v6:Value):BkL lo hi (zj5 w z v0 v1 v2 v3 v4 v5 v6) own b a0 a1 a2 a3:=
 BkF.left h ((Left.refl (fun k=>k=z) w).zj5 rfl v0 v1 v2 v3 v4 v5 v6) (fun k hk h2=>by subst h2;have:=BkF.out h k (Or.inl hz);omega)
theorem Left.box {S:Nat->Prop}{b:Nat}{w w':World}{X:Array Value}(h:Left S w w')(hX:∀o,w.cell? ⟨b,o,none⟩=X[o]?)(hb:b<w.heap.size)(hn:¬S b):∀o,w'.cell? ⟨b,o,none⟩=X[o]?:=
 fun o=>by rw[<- hX o];unfold World.cell?;rw[h.out b hb hn]
structure zpc (w:World)(b:Bk)(a0 a1 a2 a3:Option Addr):Prop where
 bk:q8 w b a0 a1 a2 a3
 has:zcj w a0 b.os
theorem zpc.mono {w w':World}{b:Bk}{a0 a1 a2 a3:Option Addr}(h:zpc w b a0 a1 a2 a3)(hb:Below w.heap.size w w'):zpc w' b a0 a1 a2 a3:=⟨h.bk.mono hb,h.has.mono hb⟩
theorem zp8 {l:Lw}{b rb:Bk}{rc:Int}(h:tick l b=(rb,rc))(hf:b.Few):rb.Few:=by
 have e:rb=(tick l b).1:=by rw[h]
 rw[e];unfold tick
 split
 ·split
  ·exact hf
  ·refine⟨hf.os,hf.gs,?_,?_⟩
   ·show(pays _ _ _).length<=_
    rw[zaj];exact hf.ls
   ·have h1:=List.length_filter_le (fun p:Pu=>!decide (p.un<b.tick+1)) b.ps
    have h2:=hf.ps
    show(stay _ _).length<=_
    unfold stay;omega
 ·exact⟨⟨Nat.zero_le _,fun i hi=>absurd hi (Nat.not_lt_zero i)⟩,⟨Nat.zero_le _,fun i hi=>absurd hi (Nat.not_lt_zero i)⟩,Nat.zero_le _,Nat.zero_le _⟩
theorem zoF {l:Lw}{b rb:Bk}{rc:Int}(h:tick l b=(rb,rc))(hs:b.Small):rb.Small:=by
 have e:rb=(tick l b).1:=by rw[h]
 rw[e];unfold tick
 split
 ·split
  ·exact hs
  ·refine⟨hs.os,hs.lo,hs.gs,hs.lg,fun i hi=>?_,?_,fun i hi=>?_,?_⟩
   ·exact zfJ (fun g hg=>by obtain⟨z,hz,rfl⟩:=List.mem_iff_getElem.1 hg;exact hs.ls z hz) _ _ _ (List.getElem_mem hi)
   ·show(pays _ _ _).length<=_
    rw[zaj];exact hs.ll
   ·have hm:(stay (b.tick+1) b.ps)[i]∈b.ps:=(List.mem_filter.1 (List.getElem_mem hi)).1
    obtain⟨z,hz,e9⟩:=List.mem_iff_getElem.1 hm
    show((stay (b.tick+1) b.ps)[i]).Small
    rw[<- e9];exact hs.ps z hz
   ·have h1:=List.length_filter_le (fun p:Pu=>!decide (p.un<b.tick+1)) b.ps
    have h2:=hs.lp
    show(stay _ _).length<=_
    unfold stay;omega
 ·refine⟨⟨fun i hi=>absurd hi (Nat.not_lt_zero i)⟩,Nat.zero_le _,⟨fun i hi=>absurd hi (Nat.not_lt_zero i)⟩,Nat.zero_le _,fun i hi=>absurd hi (Nat.not_lt_zero i),Nat.zero_le _,fun i hi=>absurd hi (Nat.not_lt_zero i),Nat.zero_le _⟩
theorem zfp (b:Bk)(a0 a1 a2 a3:Option Addr)(c0 c1 c2 c3:Nat)(w:World)(hl:q8 w b a0 a1 a2 a3)(hf:b.Few) :
 Calls Tryz.prog 8 #[.agg (b.cells a0 a1 a2 a3 c0 c1 c2 c3)] w fun e w'=>∃d e' f g,e=.returned (.agg (b.cells d e' f g b.os.length b.gs.length b.ls.length b.ps.length))/\zpc w' b d e' f g/\Below w.heap.size w w':=by
 refine(zj7 b a0 a1 a2 a3 c0 c1 c2 c3 w hl hf).mono ?_;rintro e w'⟨d,e',f,g,rfl,h1,h2,hb⟩;exact⟨d,e',f,g,rfl,⟨h1,h2⟩,hb⟩
def zra (lo:Nat)(w:World)(e:Ending)(rb:Bk)(rc:Int):Prop:=∃hi own d0 d1 d2 d3 e0 e1 e2 e3,e=.returned (.tuple #[.agg #[.int .i64 rb.now,.int .i64 rb.tick,.int .i64 rb.given,.slice d0 rb.os.length e0,.slice d1 rb.gs.length e1,.slice d2 rb.ls.length e2,.slice d3 rb.ps.length e3],.int .i64 rc])/\BkL lo hi w own rb d0 d1 d2 d3
theorem znz.res {lo:Nat}{w:World}{e:Ending}{r:Bk × Int}{rb:Bk}{rc:Int}(h:znz lo w e r)(hr:r=(rb,rc)):zra lo w e rb rc:=by
 obtain⟨hi,own,d0,d1,d2,d3,e0,e1,e2,e3,h1,h2⟩:=h.ex;subst hr;exact⟨hi,own,d0,d1,d2,d3,e0,e1,e2,e3,h1,h2⟩
theorem zhO {f:Nat}{args:Array Value}{w:World}{r:Bk × Int}{rb:Bk}{rc:Int}(hr:r=(rb,rc))(h:Calls Tryz.prog f args w fun e w'=>znz w.heap.size w' e r/\Below w.heap.size w w'):Calls Tryz.prog f args w fun e w'=>zra w.heap.size w' e rb rc/\Below w.heap.size w w':=h.mono fun _ _ h=>⟨h.1.res hr,h.2⟩
end Go.Proofs.YtkficnallnpjnaaGreat
