import Derived.Test.YtecncindgjdbiaaGreatM50
set_option maxHeartbeats 4000000
namespace Go.Proofs.YtecncindgjdbiaaGreat
open Go.RowKit
theorem zmO (b:Bk)(a0 a1 a2 a3:OA)(c0 c1 c2 c3:Nat)(dr tm rs:BA)(w:World)(hb:zbj w a3 b.ps)(hl:b.ps.length<=1048576) :
 Calls Tryz.prog 24 #[.agg (b.cells a0 a1 a2 a3 c0 c1 c2 c3),.s dr,.s tm,.s rs] w fun e w'=>e=.returned (.i (zcj (zbO dr tm rs) b.ps))/\Bw w w':=by
 have HK:=hid hb;clear hb;unfold Bk.cells;go_enter Tryz.func24,Tryz.ntmps24;go_wp2_with fail
 have hX0:=zl w (bC b a0 a1 a2 a3 c0 c1 c2 c3) 40;have HB0:=hid ((bRf w.heap.size w).alloc (Nat.le_refl _) (.cells (bC b a0 a1 a2 a3 c0 c1 c2 c3) 40));obtain⟨W0,hW0⟩:=nm (w.alloc (.cells (bC b a0 a1 a2 a3 c0 c1 c2 c3) 40));have hz0:w.heap.size<W0.heap.size:=by rw[hW0];simp
 rw[<- hW0]at HB0 hX0 ⊢;clear hW0
 go_loopw [9] (fun iv wr=>∃k:Nat,k<=b.ps.length/\iv=.i k/\Hid (∀i (hi:i<b.ps.length),i<k->zbO dr tm rs b.ps[i]=false)/\wr=W0) (fun iv _=>b.ps.length-(intOf iv).toNat)
 case atStart=>exact⟨0,Nat.zero_le _,rfl,fun i hi h=>by omega,rfl⟩
 case round=>
  obtain⟨k,hk,rfl,HQ,rfl⟩:=hrel;have hkn:k<=1048576:=by omega
  by_cases hlt:k<b.ps.length
  ·obtain⟨ob,off,rfl,hob,d0,d1,d2,d3,d4⟩:=HK.o.load HB0.o k hlt
   have hltI:(k:Int)<(b.ps.length:Int):=by omega
   clear d3 d4
   have hno:∀h:zbO dr tm rs b.ps[k]=false,Hid (∀i (hi:i<b.ps.length),i<k+1->zbO dr tm rs b.ps[i]=false):=by
    intro h0 i hi h
    rcases Nat.eq_or_lt_of_le (Nat.le_of_lt_succ h) with e|h'
    ·subst e;exact h0
    ·exact HQ.o i hi h'
   have HNO:=hid hno;clear hno
   by_cases h1:b.ps[k].dr=dr
   ·have e1:(b.ps[k].dr.toList == dr.toList)=true:=by rw[beq_toList];simpa using h1
    by_cases h2:b.ps[k].tm=tm
    ·have e2:(b.ps[k].tm.toList == tm.toList)=true:=by rw[beq_toList];simpa using h2
     by_cases h3:b.ps[k].rs=rs
     ·have e3:(b.ps[k].rs.toList == rs.toList)=true:=by rw[beq_toList];simpa using h3
      have HF:Hid (zcj (zbO dr tm rs) b.ps=k):=zlS hlt HQ.o (by unfold zbO;simp[h1,h2,h3]);clear h1 h2 h3 HNO;go_wp2_with fail
      go_ret;exact⟨zo HF.o.symm,HB0.o⟩
     ·have e3:(b.ps[k].rs.toList == rs.toList)=false:=by rw[beq_toList];simpa using h3
      have HN:=HNO.o (by unfold zbO;simp[h3]);clear h1 h2 h3 HNO;go_wp2_with fail
      exact⟨⟨k+1,by omega,by go_num,HN.o,trivial⟩,zq hlt⟩
    ·have e2:(b.ps[k].tm.toList == tm.toList)=false:=by rw[beq_toList];simpa using h2
     have HN:=HNO.o (by unfold zbO;simp[h2]);clear h1 h2 HNO;go_wp2_with fail
     exact⟨⟨k+1,by omega,by go_num,HN.o,trivial⟩,zq hlt⟩
   ·have e1:(b.ps[k].dr.toList == dr.toList)=false:=by rw[beq_toList];simpa using h1
    have HN:=HNO.o (by unfold zbO;simp[h1]);clear h1 HNO;go_wp2_with fail
    exact⟨⟨k+1,by omega,by go_num,HN.o,trivial⟩,zq hlt⟩
  ·have HF:Hid (zcj (zbO dr tm rs) b.ps=-1):=zhs fun i hi=>HQ.o i hi (by omega)
   clear HQ;go_wp2_with fail
   go_ret;exact⟨zo HF.o.symm,HB0.o⟩
theorem zqr {ls:List Lg}{tm rs:BA}(h:qx ls tm rs=true):∃q:Nat,zcj (zcf tm rs) ls=q/\∃hq:q<ls.length,ls[q].tm=tm/\ls[q].rs=rs:=by
 have h1:ls.any (zcf tm rs)=true:=h;have h2:∃x∈ls,zcf tm rs x=true:=List.any_eq_true.1 h1;have h3:=List.findIdx_lt_length.2 h2;refine⟨ls.findIdx (zcf tm rs),if_pos h1,h3,?_⟩;have h4:=List.findIdx_getElem (w:=h3);have h5:(decide (ls[ls.findIdx (zcf tm rs)].tm=tm)&&decide (ls[ls.findIdx (zcf tm rs)].rs=rs))=true:=h4;rw[Bool.and_eq_true,decide_eq_true_eq,decide_eq_true_eq]at h5;exact h5
structure zrf (b:Bk)(k:Nat)(hk:k<b.ps.length):Prop where
 pl:b.ps.length<=1000
 len:b.ls.length<=10
 rise:rising qz b.ls
 fr:∀g∈b.ls,0<=g.fr/\g.fr<=1000000000
 has:qx b.ls b.ps[k].tm b.ps[k].rs=true
 am:1<=b.ps[k].am/\b.ps[k].am<=1000000
set_option maxRecDepth 20000 in
theorem zon (lo:Nat)(own:Nat->Lb)(b:Bk)(k:Nat)(d0 d1 d2 d3:OA)(e0 e1 e2 e3:Nat)(w:World)(hb:jc w b d0 d1 d2 d3)(hl:zar lo w own d2 b.ls.length (za6 b.ls))(hp:zdj lo w own (.l d3 b.ps.length e3) b.ps)(hkl:k<b.ps.length)(ho:zrf b k hkl) :
 Calls Tryz.prog 25 #[.agg #[.i b.now,.i b.tick,.i b.given,.l d0 b.os.length e0,.l d1 b.gs.length e1,.l d2 b.ls.length e2,.l d3 b.ps.length e3],.i k] w fun e w'=>∃v,e=.returned (.agg #[.i b.now,.i b.tick,.i b.given,.l d0 b.os.length e0,.l d1 b.gs.length e1,.l d2 b.ls.length e2,v])/\w'.ownsRow w.heap.size 79 5 v (b.ps.eraseIdx k).length ((b.ps.eraseIdx k).flatMap Pu.row)/\zar lo w' own d2 b.ls.length (za6 (pay b.ls b.ps[k]))/\Left (fun q=>(own q).1=2) w w':=by
 have HO:=hid ho;have HB:=hid hb;have HL:=hid hl;have HP:=hid hp;obtain⟨q,hqi,hql,hqe⟩:=zqr ho.has;obtain⟨g,C,rfl,hlo,hgo,hC,hsz,hrow⟩:=hl.rows (by omega);have hgw:g<w.heap.size:=(gES hC).1;have hy:=hrow q hql;rw[zfh hql]at hy;have HR0:Hid (qH w g 130 C 4 q #[.s b.ls[q].tm,.s b.ls[q].rs,.i b.ls[q].mo,.i b.ls[q].fr]):=qH.new hC hy.cell;have HG:=zcg hqe hgo hC hsz;obtain⟨pb,Cp,rfl,_⟩:=zf5 hp.1 (by omega);obtain⟨pb',off,hpe,hpb,q0,q1,q2,q3,q4⟩:=hb.ps.load (bRf w.heap.size w) k hkl
 cases hpe
 rw[Nat.zero_add]at q0 q1 q2 q3 q4;have hpz:pb<w.heap.size:=(hp.1.lt pb rfl).2;have hkI:(k:Int)<(b.ps.length:Int):=by omega
 clear hb hl hp ho hlo hgo hC hsz hrow hy hqe;have k0:=zmR w (.cells (bC b d0 d1 (some (aD g 0)) (some (aD pb 0)) e0 e1 e2 e3) 40) (.cells bZ 40) (.cells #[.s b.ps[k].dr,.s b.ps[k].tm,.s b.ps[k].rs,.i b.ps[k].am,.i b.ps[k].un] 79);have hB0:=below3' w (.cells (bC b d0 d1 (some (aD g 0)) (some (aD pb 0)) e0 e1 e2 e3) 40) (.cells bZ 40) (.cells #[.s b.ps[k].dr,.s b.ps[k].tm,.s b.ps[k].rs,.i b.ps[k].am,.i b.ps[k].un] 79);obtain⟨W0,hW0⟩:=nm (((w.alloc (.cells (bC b d0 d1 (some (aD g 0)) (some (aD pb 0)) e0 e1 e2 e3) 40)).alloc (.cells bZ 40)).alloc (.cells #[.s b.ps[k].dr,.s b.ps[k].tm,.s b.ps[k].rs,.i b.ps[k].am,.i b.ps[k].un] 79));have hz0:W0.heap.size=w.heap.size+1+1+1:=by rw[hW0];simp
 go_enter Tryz.func25,Tryz.ntmps25;go_wp2_with fail
 rw[<- hW0]at k0 hB0 ⊢;clear hW0 q0 q1 q2 q3 q4;refine(zd2 b d0 d1 _ _ e0 e1 e2 e3 b.ps[k].tm b.ps[k].rs W0 (HB.o.mono hB0) (by have:=HO.o.len;omega)).mono ?_;rintro e w1⟨rfl,hb1⟩;rw[hqi];have hB1:=hB0.trans (hb1.mono hB0.size);have kX:=(hb1.block w.heap.size (by omega)).trans k0.1;have kR:=(hb1.block (w.heap.size+1) (by omega)).trans k0.2.1;have kP:=(hb1.block (w.heap.size+1+1) (by omega)).trans k0.2.2;have hz1:=hb1.size;have hR:qH w1.drew g 130 C 4 q #[.s b.ls[q].tm,.s b.ls[q].rs,.i b.ls[q].mo,.i b.ls[q].fr]:=HR0.o.left (Left.of_below (fun _=>False) hB1.drew) (fun h=>h);have c3:w1.drew.cell? (aD g (q*4+3))=some (.i b.ls[q].fr):=hR.cell 3 (by omega);have fz:=fun o=>hR.fz o
 have hgd:=hR.lt;have hR2:qH (w1.drew.setCell (aD g (q*4+3)) (.i (b.ls[q].fr+b.ps[k].am))) g 130 C 4 q #[.s b.ls[q].tm,.s b.ls[q].rs,.i b.ls[q].mo,.i (b.ls[q].fr+b.ps[k].am)]:=hR.set 3 (.i (b.ls[q].fr+b.ps[k].am)) (by omega) (by have:=HG.o.2.2.2;omega) rfl;have hbk:=HO.o.fr _ (List.getElem_mem hql);have ham:=HO.o.am;have hw2:IntKind.i64.wrap (b.ls[q].fr+b.ps[k].am)=b.ls[q].fr+b.ps[k].am:=by rw[IntKind.wrap_i64];omega
 have hqI:(q:Int)<(b.ls.length:Int):=by omega
 have hSd:(∀j,w1.drew.cell? (aD w.heap.size j)=((bC b d0 d1 (some (aD g 0)) (some (aD pb 0)) e0 e1 e2 e3):AV)[j]?)/\∀j,w1.drew.cell? (aD (w.heap.size+1+1) j)=(#[.s b.ps[k].dr,.s b.ps[k].tm,.s b.ps[k].rs,.i b.ps[k].am,.i b.ps[k].un]:AV)[j]?:=⟨fun j=>cell_of_block kX,fun j=>cell_of_block kP⟩
 have hSe:∀v:Value,(∀j,(w1.drew.setCell (aD g (q*4+3)) v).cell? (aD w.heap.size j)=((bC b d0 d1 (some (aD g 0)) (some (aD pb 0)) e0 e1 e2 e3):AV)[j]?)/\∀j,(w1.drew.setCell (aD g (q*4+3)) v).cell? (aD (w.heap.size+1+1) j)=(#[.s b.ps[k].dr,.s b.ps[k].tm,.s b.ps[k].rs,.i b.ps[k].am,.i b.ps[k].un]:AV)[j]?:=fun v=>⟨fun j=>(World.cell?_setCell_far _ _ _ _ (by show g≠w.heap.size;omega)).trans (hSd.1 j),fun j=>(World.cell?_setCell_far _ _ _ _ (by show g≠w.heap.size+1+1;omega)).trans (hSd.2 j)⟩
 have HE:Hid (zar lo (w1.drew.setCell (aD g (q*4+3)) (.i (b.ls[q].fr+b.ps[k].am))) own (some (aD g 0)) b.ls.length (za6 (pay b.ls b.ps[k]))/\Left (fun q=>(own q).1=2) w (w1.drew.setCell (aD g (q*4+3)) (.i (b.ls[q].fr+b.ps[k].am)))/\((w1.drew.setCell (aD g (q*4+3)) (.i (b.ls[q].fr+b.ps[k].am)))).heap[w.heap.size]?=some (.cells (bC b d0 d1 (some (aD g 0)) (some (aD pb 0)) e0 e1 e2 e3) 40)/\((w1.drew.setCell (aD g (q*4+3)) (.i (b.ls[q].fr+b.ps[k].am)))).heap[w.heap.size+1]?=some (.cells bZ 40)/\((w1.drew.setCell (aD g (q*4+3)) (.i (b.ls[q].fr+b.ps[k].am)))).heap.size=w1.heap.size):=by
  refine⟨HL.o.py HO.o.rise hql HG.o.1 rfl HG.o.2.2.1 hR2,((Left.of_below _ hB1).trans (Left.of_below _ (bRf _ _).drew)).set (by rw[HG.o.2.1]) _ _,(zG (by omega)).trans kX,(zG (by omega)).trans kR,World.size_setCell _ _ _⟩
 clear hb1 hB0 hB1 k0 kX kR kP hR hR2 hbk ham hqi HB HL HR0;go_wp2_with fail
 refine zbW (fun A A' w'=>∃u18 u19 u20 u21 u22 u23 u24 u25 u26 u27 u28 u29 u30 u31,A'=((((((((((((((A.put (some 18) u18).put (some 19) u19).put (some 20) u20).put (some 21) u21).put (some 22) u22).put (some 23) u23).put (some 24) u24).put (some 25) u25).put (some 26) u26).put (some 27) u27).put (some 28) u28).put (some 29) u29).put (some 30) u30).put (some 31) u31)/\w'=(w1.drew.setCell (aD g (q*4+3)) (.i (b.ls[q].fr+b.ps[k].am)))) ?_ ?_
 ·refine wp_region_held_drew (S:=fun w'=>(∀j,w'.cell? (aD w.heap.size j)=((bC b d0 d1 (some (aD g 0)) (some (aD pb 0)) e0 e1 e2 e3):AV)[j]?)/\∀j,w'.cell? (aD (w.heap.size+1+1) j)=(#[.s b.ps[k].dr,.s b.ps[k].tm,.s b.ps[k].rs,.i b.ps[k].am,.i b.ps[k].un]:AV)[j]?) (by kernel_rfl) hSd (fun H_=>?_)
  refine tG 0 ?_ (hQ:=fun _ _ _ h=>by cases h.1);refine tG 1 ?_ (hQ:=fun _ _ _ h=>by cases h.1);refine tG 2 ?_ (hQ:=fun _ _ _ h=>by cases h.1);refine tG 3 ?_ (hQ:=fun _ _ _ h=>by cases h.1);refine tG 4 ?_ (hQ:=fun _ _ _ h=>by cases h.1);refine tG 5 ?_ (hQ:=fun _ _ _ h=>by cases h.1);refine tG 6 ?_ (hQ:=fun _ _ _ h=>by cases h.1);refine tG 7 ?_ (hQ:=fun _ _ _ h=>by cases h.1);refine tG 9 ?_ (hQ:=fun _ _ _ h=>by cases h.1);refine tG 10 ?_ (hQ:=fun _ _ _ h=>by cases h.1);refine cH 8 rfl fun K hK=>?_
  go_simp
  refine hK.out _ _ hSd (fun H_=>?_);clear hK K
  (try simp only[Act.put,sA,s0,sS])
  refine tG 11 ?_ (hQ:=fun _ _ _ h=>by cases h.1);refine tG 12 ?_ (hQ:=fun _ _ _ h=>by cases h.1);refine tG 13 ?_ (hQ:=fun _ _ _ h=>by cases h.1);refine cH 14 rfl fun K hK=>?_
  go_simp
  refine hK.out _ _ (hSe _) (fun H_=>?_);clear hK K
  (try simp only[Act.put,sA,s0,sS])
  refine wpAnyH_done (by kernel_rfl) ?_ _;exact⟨rfl,_,_,_,_,_,_,_,_,_,_,_,_,_,_,rfl,rfl⟩
 ·rintro A' w'⟨u18,u19,u20,u21,u22,u23,u24,u25,u26,u27,u28,u29,u30,u31,rfl,rfl⟩
  generalize (w1.drew.setCell (aD g (q*4+3)) (.i (b.ls[q].fr+b.ps[k].am)))=W3 at *
  clear c3 fz hgd hSd hSe hw2
  (try simp only[Act.put,sA,s0,sS])
  have cX:=fun j=>cell_of_block (o:=j) HE.o.2.2.1
  have hz3:w.heap.size<W3.heap.size:=by have:=HE.o.2.2.2.2;omega
  have hrW:=(HP.o.left HE.o.2.1 (fun z h1 h2=>by omega)).1;go_wp2_with fail
  refine(zpA lo pb e3 k b.ps W3 hrW hkl HO.o.pl).mono ?_;rintro e w4⟨v,rfl,ho4,hb4⟩;obtain⟨va,vc,rfl⟩:=jD ho4;have kX4:=(hb4.block w.heap.size hz3).trans HE.o.2.2.1;have hz1:w.heap.size+1<W3.heap.size:=(gES HE.o.2.2.2.1).1;have kR4:=(hb4.block (w.heap.size+1) hz1).trans HE.o.2.2.2.1;have HE4:=qw ho4 hb4;have hz4:=nLt hz3 hb4.size;have hz5:=nLt hz1 hb4.size;clear cX hrW ho4 hb4;have cX:=fun j=>cell_of_block (o:=j) kX4
  have fX:=fun j=>zh (o:=j) kX4
  have cR:=fun j=>cell_of_block (o:=j) kR4
  have fR:=fun j=>zh (o:=j) kR4
  clear kX4 kR4;go_wp2_with fail
  refine bodyPost_ret (v:=.agg #[.i b.now,.i b.tick,.i b.given,.l d0 b.os.length e0,.l d1 b.gs.length e1,.l (some (aD g 0)) b.ls.length e2,(.l va (k+(b.ps.length-(k+1))) vc)]) (by simp[results,Tryz.results25,go_sem,cR]) rfl ?_;have hLs:∀(W:World) (z o:Nat) (v:Value),(z=w.heap.size \/ z=w.heap.size+1)->Left (fun k=>k=w.heap.size \/ k=w.heap.size+1) w4 W->Left (fun k=>k=w.heap.size \/ k=w.heap.size+1) w4 (W.setCell (aD z o) v):=fun W z o v hz h=>h.set hz o v
  have hfin:∀W,Left (fun k=>k=w.heap.size \/ k=w.heap.size+1) w4 W->W.ownsRow w.heap.size 79 5 (.l va (k+(b.ps.length-(k+1))) vc) (b.ps.eraseIdx k).length ((b.ps.eraseIdx k).flatMap Pu.row)/\zar lo W own (some (aD g 0)) b.ls.length (za6 (pay b.ls b.ps[k]))/\Left (fun q=>(own q).1=2) w W:=fun W hW=>by
   have e1:b.ps.eraseIdx k=b.ps.take k++b.ps.drop (k+1):=List.eraseIdx_eq_take_drop_succ ..;refine⟨?_,?_,?_⟩
   ·rw[e1,List.flatMap_append,List.length_append,List.length_take,List.length_drop,Nat.min_eq_left (by omega)]
    refine zi5 (qY HE4.o.1 (fun z hz=>hW.out z (HE4.o.1.lt z hz).2 (fun h2=>by have:=(HE4.o.1.lt z hz).1;omega))) (by omega)
   ·have h1:=HE.o.1.mono HE4.o.2
    refine⟨fun hn=>?_⟩;obtain⟨g2,C2,h2,h3,h4,h5,h6,h7⟩:=h1.rows hn
    cases h2
    exact⟨g,C2,rfl,h3,h4,(hW.out g (gES h5).1 (by omega)).trans h5,h6,h7⟩
   ·have h1:=HE.o.2.1.trans (Left.of_below _ HE4.o.2)
    exact⟨hW.os.trans h1.os,hW.tape.trans h1.tape,hW.output.trans h1.output,Nat.le_trans h1.size hW.size,fun z hz hn=>(hW.out z (nLt hz h1.size) (by omega)).trans (h1.out z hz hn)⟩
  refine⟨(.l va (k+(b.ps.length-(k+1))) vc),rfl,hfin _ ?_⟩
  iterate 7 refine hLs _ _ _ _ (Or.inr rfl) ?_
  refine hLs _ _ _ _ (Or.inl rfl) ?_;exact Left.refl _ _
theorem zpG {ls:List Lg}(h:∀g∈ls,g.Small)(p:Pu):∀g∈pay ls p,g.Small:=by
 intro g hg;unfold pay at hg;obtain⟨g0,h0,rfl⟩:=List.mem_map.1 hg
 have:=h g0 h0
 unfold paid
 split
 ·exact⟨this.1,this.2⟩
 ·exact this
theorem zp3 {l:Lw}{b rb:Bk}{rc:Int}{dr tm rs:BA}(h:back l b dr tm rs=(rb,rc))(hf:b.Few):rb.Few:=by
 have e:rb=(back l b dr tm rs).1:=by rw[h]
 rw[e];unfold back
 split
 ·split
  ·refine⟨hf.os,hf.gs,?_,?_⟩
   ·show(pay _ _).length<=_
    rw[zaO];exact hf.ls
   ·have h1:=List.length_eraseIdx_le b.ps (b.ps.findIdx (zbO dr tm rs))
    have h2:=hf.ps
    show(b.ps.eraseIdx _).length<=_
    omega
  ·exact hf
 ·exact⟨⟨Nat.zero_le _,fun i hi=>absurd hi (Nat.not_lt_zero i)⟩,⟨Nat.zero_le _,fun i hi=>absurd hi (Nat.not_lt_zero i)⟩,Nat.zero_le _,Nat.zero_le _⟩
theorem znZ {l:Lw}{b rb:Bk}{rc:Int}{dr tm rs:BA}(h:back l b dr tm rs=(rb,rc))(hs:b.Small):rb.Small:=by
 have e:rb=(back l b dr tm rs).1:=by rw[h]
 rw[e];unfold back
 split
 ·split
  ·refine⟨hs.os,hs.lo,hs.gs,hs.lg,fun i hi=>?_,?_,fun i hi=>?_,?_⟩
   ·exact zpG (fun g hg=>by obtain⟨z,hz,rfl⟩:=List.mem_iff_getElem.1 hg;exact hs.ls z hz) _ _ (List.getElem_mem hi)
   ·show(pay _ _).length<=_
    rw[zaO];exact hs.ll
   ·have hm:(b.ps.eraseIdx (b.ps.findIdx (zbO dr tm rs)))[i]∈b.ps:=List.mem_of_mem_eraseIdx (List.getElem_mem hi)
    obtain⟨z,hz,e9⟩:=List.mem_iff_getElem.1 hm
    show((b.ps.eraseIdx (b.ps.findIdx (zbO dr tm rs)))[i]).Small
    rw[<- e9];exact hs.ps z hz
   ·have h1:=List.length_eraseIdx_le b.ps (b.ps.findIdx (zbO dr tm rs))
    have h2:=hs.lp
    show(b.ps.eraseIdx _).length<=_
    omega
  ·exact hs
 ·refine⟨⟨fun i hi=>absurd hi (Nat.not_lt_zero i)⟩,Nat.zero_le _,⟨fun i hi=>absurd hi (Nat.not_lt_zero i)⟩,Nat.zero_le _,fun i hi=>absurd hi (Nat.not_lt_zero i),Nat.zero_le _,fun i hi=>absurd hi (Nat.not_lt_zero i),Nat.zero_le _⟩
end Go.Proofs.YtecncindgjdbiaaGreat
