import Derived.Test.YthdfpinbnncghaaGreatM47
set_option maxHeartbeats 40000000
namespace Go.Proofs.YthdfpinbnncghaaGreat
open Go.RowKit
noncomputable def qF (l:Lw)(b:Bk):Bool:=y5 l.ts b&&(qx b&&zc9 l b)
theorem zod (ls:List Lg)(tm rs:BA):ls.any (zeW tm rs)=jJ ls tm rs:=rfl
theorem ze3 {l:Lw}{b:Bk}(h:y5 l.ts b=false):qF l b=false:=by unfold qF;rw[h];rfl
theorem zff {l:Lw}{b:Bk}(h:qx b=false):qF l b=false:=by unfold qF;rw[h];simp
theorem znn {l:Lw}{b:Bk}(h:zc9 l b=false):qF l b=false:=by unfold qF;rw[h];simp
theorem zgF {b:Bk}(h:b.ps.all (yF b.ls b.tick)=true):∀i (h:i<b.ps.length),0<=b.ps[i].am/\b.ps[i].am<=1000000:=fun i hi=>by
 have h4:=List.all_eq_true.1 h _ (List.getElem_mem hi);unfold yF within at h4;simp only[Bool.and_eq_true,decide_eq_true_eq]at h4;omega
set_option maxRecDepth 20000 in
theorem zmv (l:Lw)(la lb lc:OA)(lca lcb lcc:Nat)(b:Bk)(a0 a1 a2 a3:OA)(c0 c1 c2 c3:Nat)(w:World)(hl:yH w l la lb lc)(hb:jU w b a0 a1 a2 a3)(htk:0<=b.tick/\b.tick<=1000000)(hz:qR b.os<=1048576) :
 Calls Tryz.prog 60 #[.agg (l.cells la lb lc lca lcb lcc),.agg (b.cells a0 a1 a2 a3 c0 c1 c2 c3)] w fun e w'=>e=.returned (.bool (qF l b))/\Bw w w':=by
 have HK:=hid hb;have HL:=hid hl;have HZ:=ji hz htk;clear hb hl hz htk;unfold Lw.cells Bk.cells
 by_cases hln:b.ls.length<=10
 rotate_left
 ·have HF:Hid (qF l b=false):=ze3 (by unfold y5;rw[decide_eq_false hln];rfl)
  have hg:(10:Int)<(b.ls.length:Int):=by omega
  go_enter Tryz.func60,Tryz.ntmps60;go_wp2_with fail
  go_ret;exact⟨ze HF.o.symm,zx _ _ _⟩
 have hg:decide ((10:Int)<(b.ls.length:Int))=false:=by simp;omega
 have HLN:=hid hln;clear hln
 by_cases hpn:b.ps.length<=24
 rotate_left
 ·have HF:Hid (qF l b=false):=zff (by unfold qx;rw[decide_eq_false hpn];rfl)
  have hg2:(24:Int)<(b.ps.length:Int):=by omega
  go_enter Tryz.func60,Tryz.ntmps60;go_wp2_with fail
  go_ret;exact⟨ze HF.o.symm,zx _ _ _⟩
 have hg2:decide ((24:Int)<(b.ps.length:Int))=false:=by simp;omega
 have HPN:Hid (b.ps.length<=24):=hpn;clear hpn;go_enter Tryz.func60,Tryz.ntmps60;go_wp2_with fail
 clear hg hg2;obtain⟨hL0,hX0⟩:=jC w #[.l la l.ss.length lca,.l lb l.ms.length lcb,.l lc l.ts.length lcc] (bC b a0 a1 a2 a3 c0 c1 c2 c3) 44 51;have HB0:Hid (Bw w ((w.alloc (.cells #[.l la l.ss.length lca,.l lb l.ms.length lcb,.l lc l.ts.length lcc] 44)).alloc (.cells (bC b a0 a1 a2 a3 c0 c1 c2 c3) 51))):=zx w _ _;obtain⟨W0,hW0⟩:=xN ((w.alloc (.cells #[.l la l.ss.length lca,.l lb l.ms.length lcb,.l lc l.ts.length lcc] 44)).alloc (.cells (bC b a0 a1 a2 a3 c0 c1 c2 c3) 51));have hz0:w.heap.size+1<W0.heap.size:=by rw[hW0];simp
 rw[<- hW0]at HB0 hX0 hL0 ⊢;clear hW0
 go_loopw [5] (fun iv wr=>∃k:Nat,k<=b.ps.length/\iv=.i k/\Hid ((b.ps.take k).all (yF b.ls b.tick)=true/\zaa zaF b.ps k/\Bw W0 wr)) (fun iv _=>b.ps.length-(intOf iv).toNat)
 case atStart=>exact⟨0,Nat.zero_le _,rfl,by simp,fun i _ h=>by omega,bRf _ _⟩
 case round=>
  obtain⟨k,hk,rfl,HQ⟩:=hrel;have hkn:k<=24:=by have:=HPN.o;omega
  have hX1:=za hX0 hz0 HQ.o.2.2;have hL1:=za hL0 (nSl hz0) HQ.o.2.2;have hz1:=nLt hz0 HQ.o.2.2.size;have HBq:=hid (HB0.o.trans (HQ.o.2.2.mono HB0.o.size))
  by_cases hlt:k<b.ps.length
  ·have hsm:=HK.o.ps.small k hlt
   obtain⟨ob,off,rfl,hob,d0,d1,d2,d3,d4⟩:=HK.o.ps.load HBq.o k hlt;have hob':ob<wr.heap.size:=nLt hob HBq.o.size;have hltI:(k:Int)<(b.ps.length:Int):=by omega
   have HSn:Hid ((b.ps.take (k+1)).all (yF b.ls b.tick)=((b.ps.take k).all (yF b.ls b.tick)&&(yF b.ls b.tick) b.ps[k])):=qM _ _ _ hlt;have HBo:Hid (∀ob,Bw W0 (wr.alloc ob)):=fun ob=>HQ.o.2.2.alloc HQ.o.2.2.size _
   have HBw:Hid (∀W,Bw W0 W->Bw w W):=fun W hW=>HB0.o.trans (hW.mono HB0.o.size)
   have HNo:Hid ((yF b.ls b.tick) b.ps[k]=false->qF l b=false):=fun h=>zff (by unfold qx;rw[zaH _ _ _ hlt h];simp)
   have HNa:Hid (0<k->0<=zaF (b.ps[k-1]'(by omega)) b.ps[k]->qF l b=false):=fun h0 h=>zff (by unfold qx;rw[zex hlt h0 (Int.not_lt.2 h)];simp)
   have HYes:Hid ((yF b.ls b.tick) b.ps[k]=true->(∀m (e:k=m+1),zaF (b.ps[m]'(by omega)) b.ps[k]<0)->(b.ps.take (k+1)).all (yF b.ls b.tick)=true/\zaa zaF b.ps (k+1)):=fun h h'=>⟨by rw[HSn.o,HQ.o.1,h];rfl,zfF HQ.o.2.1 hlt h'⟩
   have HSm:Hid (b.ps[k].Small):=hsm;clear hsm;go_wp2_with fail
   have hY0:=zn wr #[.s b.ps[k].dr,.s b.ps[k].tm,.s b.ps[k].rs,.i b.ps[k].am,.i b.ps[k].un] 150;have hb5:Bw wr (wr.alloc (.cells #[.s b.ps[k].dr,.s b.ps[k].tm,.s b.ps[k].rs,.i b.ps[k].am,.i b.ps[k].un] 150)):=bAl _ _;have HBe:=HBo.o (.cells #[.s b.ps[k].dr,.s b.ps[k].tm,.s b.ps[k].rs,.i b.ps[k].am,.i b.ps[k].un] 150);obtain⟨W5,hW5⟩:=xN (wr.alloc (.cells #[.s b.ps[k].dr,.s b.ps[k].tm,.s b.ps[k].rs,.i b.ps[k].am,.i b.ps[k].un] 150));have hy0:wr.heap.size<W5.heap.size:=by rw[hW5];simp
   rw[<- hW5]at hb5 hY0 HBe ⊢;clear hW5 d0 d1 d2 d3 d4;have hX:=za (za hX1 hz1 hb5) (nLt hz1 hb5.size) (bRf W5.heap.size W5).drew;have hY:=za hY0 hy0 (bRf W5.heap.size W5).drew;have hz:=nLt hz1 hb5.size;have hy:=hy0;have hB:=HBe.drew;have hobz:=nLt hob' hb5.size
   have HP:Hid (∀h0:0<k,W5.drew.cell? (aD ob (off+(k-1)*5))=some (.s (b.ps[k-1]'(by omega)).dr)/\W5.drew.cell? (aD ob (off+(k-1)*5+1))=some (.s (b.ps[k-1]'(by omega)).tm)/\W5.drew.cell? (aD ob (off+(k-1)*5+2))=some (.s (b.ps[k-1]'(by omega)).rs)/\W5.drew.cell? (aD ob (off+(k-1)*5+3))=some (.i (b.ps[k-1]'(by omega)).am)/\W5.drew.cell? (aD ob (off+(k-1)*5+4))=some (.i (b.ps[k-1]'(by omega)).un)):=fun h0=>by
    have hBq5:=(HBq.o.trans (hb5.mono HBq.o.size)).drew;obtain⟨ob',off',e',hob'',e0,e1,e2,e3,e4⟩:=HK.o.ps.load hBq5 (k-1) (by omega)
    cases e'
    exact⟨e0,e1,e2,e3,e4⟩
   have HBe:Hid (Bw W0 W5.drew):=hB;have HKq:Hid (jU W5.drew b a0 a1 a2 (some (aD ob off))):=HK.o.mono (HBq.o.trans (hb5.mono HBq.o.size)).drew;have hwr:IntKind.i64.wrap (b.tick+10)=b.tick+10:=by rw[IntKind.wrap_i64];have:=HZ.o;omega
   clear hX1 hz1 hb5 hY0 hy0 HBo hX0 hz0 hob hob' HSn hL0 hL1 hB
   by_cases hk0:0<k
   ·have hk1:(0:Int)<=(k:Int)-1:=by omega
    have hk2:(k:Int)-1<(b.ps.length:Int):=by omega
    have hg:decide (0<k)=true:=decide_eq_true hk0;have hkw:IntKind.i64.wrap ((k:Int)-1)=(k:Int)-1:=by rw[IntKind.wrap_i64];omega
    have hkN:((k:Int)-1).toNat=k-1:=by omega
    have hk3:(1:Int)<=(k:Int):=by omega
    obtain⟨hP0,hP1,hP2,hP3,hP4⟩:=HP.o hk0;clear HP;refine wp_region_held_drew (S:=fun w'=>(∀j,w'.cell? (aD (w.heap.size+1) j)=(#[.i b.now,.i b.tick,.i b.given,.l a0 b.os.length c0,.l a1 b.gs.length c1,.l a2 b.ls.length c2,.l (some (aD ob off)) b.ps.length c3]:AV)[j]?)/\(∀j,w'.cell? (aD wr.heap.size j)=(#[.s b.ps[k].dr,.s b.ps[k].tm,.s b.ps[k].rs,.i b.ps[k].am,.i b.ps[k].un]:AV)[j]?)/\w'.cell? (aD ob (off+(k-1)*5))=some (.s (b.ps[k-1]'(by omega)).dr)/\w'.cell? (aD ob (off+(k-1)*5+1))=some (.s (b.ps[k-1]'(by omega)).tm)/\w'.cell? (aD ob (off+(k-1)*5+2))=some (.s (b.ps[k-1]'(by omega)).rs)/\w'.cell? (aD ob (off+(k-1)*5+3))=some (.i (b.ps[k-1]'(by omega)).am)/\w'.cell? (aD ob (off+(k-1)*5+4))=some (.i (b.ps[k-1]'(by omega)).un)) (by kernel_rfl) ⟨hX,hY,hP0,hP1,hP2,hP3,hP4⟩ (fun H_=>?_);refine tG 0 ?_;refine tG 1 ?_
    by_cases t1:zm b.ps[k].dr=true
    ·refine cH 2 rfl fun K hK=>?_
     go_simp
     refine(zf t1 (zi _ _ HSm.o.dr)).mono ?_;rintro e w6⟨rfl,rfl⟩
     (try go_wp2_with fail)
     refine hK.out _ _ ?_ (fun H_=>?_)
     ·exact H_
     clear hK K
     (try simp only[Act.put,sA,s0,sS])
     refine tG 3 ?_;refine tG 4 ?_;refine tG 5 ?_;refine tG 6 ?_;refine tG 7 ?_;refine tG 8 ?_;refine tG 9 ?_;refine cH 10 rfl fun K hK=>?_
     go_simp
     refine(zgw b a0 a1 a2 (some (aD ob off)) c0 c1 c2 c3 _ _ _ HKq.o (by have:=HLN.o;omega)).mono ?_;rintro e w7⟨rfl,hb7⟩;have hX7:=za hX hz hb7;have hY7:=za hY hy hb7;have hz7:=nLt hz hb7.size;have hy7:=nLt hy hb7.size;have hobz7:=nLt hobz hb7.size;have HBe7:Hid (Bw W0 w7):=HBe.o.trans (hb7.mono HBe.o.size);have hP07:=(hb7.cell (p:=(aD ob (off+(k-1)*5))) hobz).trans hP0;have hP17:=(hb7.cell (p:=(aD ob (off+(k-1)*5+1))) hobz).trans hP1;have hP27:=(hb7.cell (p:=(aD ob (off+(k-1)*5+2))) hobz).trans hP2;have hP37:=(hb7.cell (p:=(aD ob (off+(k-1)*5+3))) hobz).trans hP3;have hP47:=(hb7.cell (p:=(aD ob (off+(k-1)*5+4))) hobz).trans hP4;clear hb7
     (try go_wp2_with fail)
     refine hK.out _ _ ?_ (fun H_=>?_)
     ·exact⟨hX7,hY7,hP07,hP17,hP27,hP37,hP47⟩
     clear hK K
     (try simp only[Act.put,sA,s0,sS])
     by_cases t2:zd3 (zeW b.ps[k].tm b.ps[k].rs) b.ls<0
     ·have hd2:decide (zd3 (zeW b.ps[k].tm b.ps[k].rs) b.ls<0)=true:=decide_eq_true t2
      have HLe:Hid (jJ b.ls b.ps[k].tm b.ps[k].rs=false):=(zcw _ _).1 t2;clear t2;refine tG 11 ?_;refine tG 12 ?_;refine tG 13 ?_;refine kG 14 ?_;refine kG 15 ?_;refine kG 16 ?_;refine kG 17 ?_;refine tG 18 ?_;refine tG 19 ?_;refine kG 20 ?_;refine kG 21 ?_;refine kG 22 ?_;refine kG 23 ?_;refine kG 24 ?_;refine kG 25 ?_;refine kG 26 ?_;refine kG 27 ?_;refine kG 28 ?_;refine tG 29 ?_;refine tG 30 ?_;refine kG 31 ?_;refine kG 32 ?_;refine kG 33 ?_;refine kG 34 ?_;refine kG 35 ?_;refine kG 36 ?_;refine kG 37 ?_;refine kG 38 ?_;refine kG 39 ?_;refine kG 40 ?_;refine kG 41 ?_;refine kG 42 ?_;refine kG 43 ?_;refine tG 44 ?_;refine wpAnyH_done (by kernel_rfl) ?_ _;have HF:Hid (qF l b=false):=HNo.o (by unfold yF within;rw[HLe.o];simp);go_wp2_with fail
      go_ret;exact⟨ze HF.o.symm,HBw.o _ HBe7.o⟩
     ·have hd2:=decide_eq_false t2
      have HLe:Hid (jJ b.ls b.ps[k].tm b.ps[k].rs=true):=by
       unfold Hid;rw[<- zod]
       cases hq:b.ls.any (zeW b.ps[k].tm b.ps[k].rs) with
       | true=>rfl
       | false=>exact absurd ((zcw _ _).2 hq) t2
      clear t2;refine tG 11 ?_;refine tG 12 ?_;refine tG 13 ?_;refine tG 14 ?_;refine tG 15 ?_
      by_cases t3:(decide (1<=b.ps[k].am)&&decide (b.ps[k].am<=1000000))=true
      ·refine cH 16 rfl fun K hK=>?_
       go_simp
       refine(zf t3 (zM _ _ _ _)).mono ?_;rintro e w6⟨rfl,rfl⟩
       (try go_wp2_with fail)
       refine hK.out _ _ ?_ (fun H_=>?_)
       ·exact H_
       clear hK K
       (try simp only[Act.put,sA,s0,sS])
       refine tG 17 ?_;refine tG 18 ?_;refine tG 19 ?_;refine tG 20 ?_;refine tG 21 ?_;refine tG 22 ?_;refine tG 23 ?_;refine tG 24 ?_;refine tG 25 ?_;refine tG 26 ?_
       by_cases t4:(decide (b.tick<=b.ps[k].un)&&decide (b.ps[k].un<=b.tick+10))=true
       ·refine cH 27 rfl fun K hK=>?_
        go_simp
        refine(zf t4 (zM _ _ _ _)).mono ?_;rintro e w6⟨rfl,rfl⟩
        (try go_wp2_with fail)
        refine hK.out _ _ ?_ (fun H_=>?_)
        ·exact H_
        clear hK K
        (try simp only[Act.put,sA,s0,sS])
        refine tG 28 ?_;refine tG 29 ?_;refine tG 30 ?_;refine tG 31 ?_;refine tG 32 ?_;refine tG 33 ?_;refine tG 34 ?_;refine tG 35 ?_;refine tG 36 ?_;refine tG 37 ?_;refine tG 38 ?_;refine tG 39 ?_;refine tG 40 ?_;refine cH 41 rfl fun K hK=>?_
        go_simp
        refine(zkF (b.ps[k-1]'(by omega)) b.ps[k] _).mono ?_;rintro e w8⟨rfl,hb8⟩;have hX8:=za hX7 hz7 hb8;have hY8:=za hY7 hy7 hb8;have hz8:=nLt hz7 hb8.size;have hy8:=nLt hy7 hb8.size;have hobz8:=nLt hobz7 hb8.size;have HBe8:Hid (Bw W0 w8):=HBe7.o.trans (hb8.mono HBe7.o.size);have hP08:=(hb8.cell (p:=(aD ob (off+(k-1)*5))) hobz7).trans hP07;have hP18:=(hb8.cell (p:=(aD ob (off+(k-1)*5+1))) hobz7).trans hP17;have hP28:=(hb8.cell (p:=(aD ob (off+(k-1)*5+2))) hobz7).trans hP27;have hP38:=(hb8.cell (p:=(aD ob (off+(k-1)*5+3))) hobz7).trans hP37;have hP48:=(hb8.cell (p:=(aD ob (off+(k-1)*5+4))) hobz7).trans hP47;clear hb8
        (try go_wp2_with fail)
        refine hK.out _ _ ?_ (fun H_=>?_)
        ·exact⟨hX8,hY8,hP08,hP18,hP28,hP38,hP48⟩
        clear hK K
        (try simp only[Act.put,sA,s0,sS])
        by_cases t5:zaF (b.ps[k-1]'(by omega)) b.ps[k]<0
        ·have hd5:decide (0<=zaF (b.ps[k-1]'(by omega)) b.ps[k])=false:=decide_eq_false (by omega)
         refine tG 42 ?_;refine tG 43 ?_;refine tG 44 ?_;refine wpAnyH_done (by kernel_rfl) ?_ _;have HG1:Hid (yF b.ls b.tick b.ps[k]=true):=by unfold Hid yF within;rw[HLe.o,t1,t3,t4];rfl
         have HD:Hid ((b.ps.take (k+1)).all (yF b.ls b.tick)=true/\zaa zaF b.ps (k+1)):=HYes.o HG1.o (zgE hlt (fun _=>t5));go_wp2_with fail
         exact⟨⟨k+1,by omega,by go_num,HD.o.1,HD.o.2,HBe8.o⟩,by simp[intOf];omega⟩
        ·have hd5:decide (0<=zaF (b.ps[k-1]'(by omega)) b.ps[k])=true:=decide_eq_true (by omega)
         refine tG 42 ?_;refine tG 43 ?_;refine tG 44 ?_;refine wpAnyH_done (by kernel_rfl) ?_ _;have HF:Hid (qF l b=false):=HNa.o (by omega) (Int.not_lt.1 t5);go_wp2_with fail
         go_ret;exact⟨ze HF.o.symm,HBw.o _ HBe8.o⟩
       ·refine cH 27 rfl fun K hK=>?_
        go_simp
        refine(zf (bFi t4) (zM _ _ _ _)).mono ?_;rintro e w6⟨rfl,rfl⟩
        (try go_wp2_with fail)
        refine hK.out _ _ ?_ (fun H_=>?_)
        ·exact H_
        clear hK K
        (try simp only[Act.put,sA,s0,sS])
        refine tG 28 ?_;refine tG 29 ?_;refine tG 30 ?_;refine kG 31 ?_;refine kG 32 ?_;refine kG 33 ?_;refine kG 34 ?_;refine kG 35 ?_;refine kG 36 ?_;refine kG 37 ?_;refine kG 38 ?_;refine kG 39 ?_;refine kG 40 ?_;refine kG 41 ?_;refine kG 42 ?_;refine kG 43 ?_;refine tG 44 ?_;refine wpAnyH_done (by kernel_rfl) ?_ _;have HF:Hid (qF l b=false):=HNo.o (by unfold yF within;rw[bFi t4];simp);go_wp2_with fail
        go_ret;exact⟨ze HF.o.symm,HBw.o _ HBe7.o⟩
      ·refine cH 16 rfl fun K hK=>?_
       go_simp
       refine(zf (bFi t3) (zM _ _ _ _)).mono ?_;rintro e w6⟨rfl,rfl⟩
       (try go_wp2_with fail)
       refine hK.out _ _ ?_ (fun H_=>?_)
       ·exact H_
       clear hK K
       (try simp only[Act.put,sA,s0,sS])
       refine tG 17 ?_;refine tG 18 ?_;refine tG 19 ?_;refine kG 20 ?_;refine kG 21 ?_;refine kG 22 ?_;refine kG 23 ?_;refine kG 24 ?_;refine kG 25 ?_;refine kG 26 ?_;refine kG 27 ?_;refine kG 28 ?_;refine tG 29 ?_;refine tG 30 ?_;refine kG 31 ?_;refine kG 32 ?_;refine kG 33 ?_;refine kG 34 ?_;refine kG 35 ?_;refine kG 36 ?_;refine kG 37 ?_;refine kG 38 ?_;refine kG 39 ?_;refine kG 40 ?_;refine kG 41 ?_;refine kG 42 ?_;refine kG 43 ?_;refine tG 44 ?_;refine wpAnyH_done (by kernel_rfl) ?_ _;have HF:Hid (qF l b=false):=HNo.o (by unfold yF within;rw[bFi t3];simp);go_wp2_with fail
       go_ret;exact⟨ze HF.o.symm,HBw.o _ HBe7.o⟩
    ·refine cH 2 rfl fun K hK=>?_
     go_simp
     refine(zf (bFi t1) (zi _ _ HSm.o.dr)).mono ?_;rintro e w6⟨rfl,rfl⟩
     (try go_wp2_with fail)
     refine hK.out _ _ ?_ (fun H_=>?_)
     ·exact H_
     clear hK K
     (try simp only[Act.put,sA,s0,sS])
     refine tG 3 ?_;refine tG 4 ?_;refine kG 5 ?_;refine kG 6 ?_;refine kG 7 ?_;refine kG 8 ?_;refine kG 9 ?_;refine kG 10 ?_;refine kG 11 ?_;refine tG 12 ?_;refine tG 13 ?_;refine kG 14 ?_;refine kG 15 ?_;refine kG 16 ?_;refine kG 17 ?_;refine tG 18 ?_;refine tG 19 ?_;refine kG 20 ?_;refine kG 21 ?_;refine kG 22 ?_;refine kG 23 ?_;refine kG 24 ?_;refine kG 25 ?_;refine kG 26 ?_;refine kG 27 ?_;refine kG 28 ?_;refine tG 29 ?_;refine tG 30 ?_;refine kG 31 ?_;refine kG 32 ?_;refine kG 33 ?_;refine kG 34 ?_;refine kG 35 ?_;refine kG 36 ?_;refine kG 37 ?_;refine kG 38 ?_;refine kG 39 ?_;refine kG 40 ?_;refine kG 41 ?_;refine kG 42 ?_;refine kG 43 ?_;refine tG 44 ?_;refine wpAnyH_done (by kernel_rfl) ?_ _;have HF:Hid (qF l b=false):=HNo.o (by unfold yF within;rw[bFi t1];simp);go_wp2_with fail
     go_ret;exact⟨ze HF.o.symm,HBw.o _ HBe.o⟩
   ·have hg:decide (0<k)=false:=decide_eq_false hk0
    clear HP;refine wp_region_held_drew (S:=fun w'=>(∀j,w'.cell? (aD (w.heap.size+1) j)=(#[.i b.now,.i b.tick,.i b.given,.l a0 b.os.length c0,.l a1 b.gs.length c1,.l a2 b.ls.length c2,.l (some (aD ob off)) b.ps.length c3]:AV)[j]?)/\(∀j,w'.cell? (aD wr.heap.size j)=(#[.s b.ps[k].dr,.s b.ps[k].tm,.s b.ps[k].rs,.i b.ps[k].am,.i b.ps[k].un]:AV)[j]?) ) (by kernel_rfl) ⟨hX,hY⟩ (fun H_=>?_);refine tG 0 ?_;refine tG 1 ?_
    by_cases t1:zm b.ps[k].dr=true
    ·refine cH 2 rfl fun K hK=>?_
     go_simp
     refine(zf t1 (zi _ _ HSm.o.dr)).mono ?_;rintro e w6⟨rfl,rfl⟩
     (try go_wp2_with fail)
     refine hK.out _ _ ?_ (fun H_=>?_)
     ·exact H_
     clear hK K
     (try simp only[Act.put,sA,s0,sS])
     refine tG 3 ?_;refine tG 4 ?_;refine tG 5 ?_;refine tG 6 ?_;refine tG 7 ?_;refine tG 8 ?_;refine tG 9 ?_;refine cH 10 rfl fun K hK=>?_
     go_simp
     refine(zgw b a0 a1 a2 (some (aD ob off)) c0 c1 c2 c3 _ _ _ HKq.o (by have:=HLN.o;omega)).mono ?_;rintro e w7⟨rfl,hb7⟩;have hX7:=za hX hz hb7;have hY7:=za hY hy hb7;have hz7:=nLt hz hb7.size;have hy7:=nLt hy hb7.size;have hobz7:=nLt hobz hb7.size;have HBe7:Hid (Bw W0 w7):=HBe.o.trans (hb7.mono HBe.o.size);clear hb7
     (try go_wp2_with fail)
     refine hK.out _ _ ?_ (fun H_=>?_)
     ·exact⟨hX7,hY7⟩
     clear hK K
     (try simp only[Act.put,sA,s0,sS])
     by_cases t2:zd3 (zeW b.ps[k].tm b.ps[k].rs) b.ls<0
     ·have hd2:decide (zd3 (zeW b.ps[k].tm b.ps[k].rs) b.ls<0)=true:=decide_eq_true t2
      have HLe:Hid (jJ b.ls b.ps[k].tm b.ps[k].rs=false):=(zcw _ _).1 t2;clear t2;refine tG 11 ?_;refine tG 12 ?_;refine tG 13 ?_;refine kG 14 ?_;refine kG 15 ?_;refine kG 16 ?_;refine kG 17 ?_;refine tG 18 ?_;refine tG 19 ?_;refine kG 20 ?_;refine kG 21 ?_;refine kG 22 ?_;refine kG 23 ?_;refine kG 24 ?_;refine kG 25 ?_;refine kG 26 ?_;refine kG 27 ?_;refine kG 28 ?_;refine tG 29 ?_;refine tG 30 ?_;refine kG 31 ?_;refine kG 32 ?_;refine kG 33 ?_;refine kG 34 ?_;refine kG 35 ?_;refine kG 36 ?_;refine kG 37 ?_;refine kG 38 ?_;refine kG 39 ?_;refine kG 40 ?_;refine kG 41 ?_;refine kG 42 ?_;refine kG 43 ?_;refine tG 44 ?_;refine wpAnyH_done (by kernel_rfl) ?_ _;have HF:Hid (qF l b=false):=HNo.o (by unfold yF within;rw[HLe.o];simp);go_wp2_with fail
      go_ret;exact⟨ze HF.o.symm,HBw.o _ HBe7.o⟩
     ·have hd2:decide (zd3 (zeW b.ps[k].tm b.ps[k].rs) b.ls<0)=false:=decide_eq_false t2
      have HLe:Hid (jJ b.ls b.ps[k].tm b.ps[k].rs=true):=by
       unfold Hid;rw[<- zod]
       cases hq:b.ls.any (zeW b.ps[k].tm b.ps[k].rs) with
       | true=>rfl
       | false=>exact absurd ((zcw _ _).2 hq) t2
      clear t2;refine tG 11 ?_;refine tG 12 ?_;refine tG 13 ?_;refine tG 14 ?_;refine tG 15 ?_
      by_cases t3:(decide (1<=b.ps[k].am)&&decide (b.ps[k].am<=1000000))=true
      ·refine cH 16 rfl fun K hK=>?_
       go_simp
       refine(zf t3 (zM _ _ _ _)).mono ?_;rintro e w6⟨rfl,rfl⟩
       (try go_wp2_with fail)
       refine hK.out _ _ ?_ (fun H_=>?_)
       ·exact H_
       clear hK K
       (try simp only[Act.put,sA,s0,sS])
       refine tG 17 ?_;refine tG 18 ?_;refine tG 19 ?_;refine tG 20 ?_;refine tG 21 ?_;refine tG 22 ?_;refine tG 23 ?_;refine tG 24 ?_;refine tG 25 ?_;refine tG 26 ?_
       by_cases t4:(decide (b.tick<=b.ps[k].un)&&decide (b.ps[k].un<=b.tick+10))=true
       ·refine cH 27 rfl fun K hK=>?_
        go_simp
        refine(zf t4 (zM _ _ _ _)).mono ?_;rintro e w6⟨rfl,rfl⟩
        (try go_wp2_with fail)
        refine hK.out _ _ ?_ (fun H_=>?_)
        ·exact H_
        clear hK K
        (try simp only[Act.put,sA,s0,sS])
        refine tG 28 ?_;refine tG 29 ?_;refine tG 30 ?_;refine tG 31 ?_;refine tG 32 ?_;refine tG 33 ?_;refine kG 34 ?_;refine kG 35 ?_;refine kG 36 ?_;refine kG 37 ?_;refine kG 38 ?_;refine kG 39 ?_;refine kG 40 ?_;refine kG 41 ?_;refine kG 42 ?_;refine tG 43 ?_;refine tG 44 ?_;refine wpAnyH_done (by kernel_rfl) ?_ _;have HG1:Hid (yF b.ls b.tick b.ps[k]=true):=by unfold Hid yF within;rw[HLe.o,t1,t3,t4];rfl
        have HD:Hid ((b.ps.take (k+1)).all (yF b.ls b.tick)=true/\zaa zaF b.ps (k+1)):=HYes.o HG1.o (fun m e=>by omega);go_wp2_with fail
        exact⟨⟨k+1,by omega,by go_num,HD.o.1,HD.o.2,HBe7.o⟩,by simp[intOf];omega⟩
       ·refine cH 27 rfl fun K hK=>?_
        go_simp
        refine(zf (bFi t4) (zM _ _ _ _)).mono ?_;rintro e w6⟨rfl,rfl⟩
        (try go_wp2_with fail)
        refine hK.out _ _ ?_ (fun H_=>?_)
        ·exact H_
        clear hK K
        (try simp only[Act.put,sA,s0,sS])
        refine tG 28 ?_;refine tG 29 ?_;refine tG 30 ?_;refine kG 31 ?_;refine kG 32 ?_;refine kG 33 ?_;refine kG 34 ?_;refine kG 35 ?_;refine kG 36 ?_;refine kG 37 ?_;refine kG 38 ?_;refine kG 39 ?_;refine kG 40 ?_;refine kG 41 ?_;refine kG 42 ?_;refine kG 43 ?_;refine tG 44 ?_;refine wpAnyH_done (by kernel_rfl) ?_ _;have HF:Hid (qF l b=false):=HNo.o (by unfold yF within;rw[bFi t4];simp);go_wp2_with fail
        go_ret;exact⟨ze HF.o.symm,HBw.o _ HBe7.o⟩
      ·refine cH 16 rfl fun K hK=>?_
       go_simp
       refine(zf (bFi t3) (zM _ _ _ _)).mono ?_;rintro e w6⟨rfl,rfl⟩
       (try go_wp2_with fail)
       refine hK.out _ _ ?_ (fun H_=>?_)
       ·exact H_
       clear hK K
       (try simp only[Act.put,sA,s0,sS])
       refine tG 17 ?_;refine tG 18 ?_;refine tG 19 ?_;refine kG 20 ?_;refine kG 21 ?_;refine kG 22 ?_;refine kG 23 ?_;refine kG 24 ?_;refine kG 25 ?_;refine kG 26 ?_;refine kG 27 ?_;refine kG 28 ?_;refine tG 29 ?_;refine tG 30 ?_;refine kG 31 ?_;refine kG 32 ?_;refine kG 33 ?_;refine kG 34 ?_;refine kG 35 ?_;refine kG 36 ?_;refine kG 37 ?_;refine kG 38 ?_;refine kG 39 ?_;refine kG 40 ?_;refine kG 41 ?_;refine kG 42 ?_;refine kG 43 ?_;refine tG 44 ?_;refine wpAnyH_done (by kernel_rfl) ?_ _;have HF:Hid (qF l b=false):=HNo.o (by unfold yF within;rw[bFi t3];simp);go_wp2_with fail
       go_ret;exact⟨ze HF.o.symm,HBw.o _ HBe7.o⟩
    ·refine cH 2 rfl fun K hK=>?_
     go_simp
     refine(zf (bFi t1) (zi _ _ HSm.o.dr)).mono ?_;rintro e w6⟨rfl,rfl⟩
     (try go_wp2_with fail)
     refine hK.out _ _ ?_ (fun H_=>?_)
     ·exact H_
     clear hK K
     (try simp only[Act.put,sA,s0,sS])
     refine tG 3 ?_;refine tG 4 ?_;refine kG 5 ?_;refine kG 6 ?_;refine kG 7 ?_;refine kG 8 ?_;refine kG 9 ?_;refine kG 10 ?_;refine kG 11 ?_;refine tG 12 ?_;refine tG 13 ?_;refine kG 14 ?_;refine kG 15 ?_;refine kG 16 ?_;refine kG 17 ?_;refine tG 18 ?_;refine tG 19 ?_;refine kG 20 ?_;refine kG 21 ?_;refine kG 22 ?_;refine kG 23 ?_;refine kG 24 ?_;refine kG 25 ?_;refine kG 26 ?_;refine kG 27 ?_;refine kG 28 ?_;refine tG 29 ?_;refine tG 30 ?_;refine kG 31 ?_;refine kG 32 ?_;refine kG 33 ?_;refine kG 34 ?_;refine kG 35 ?_;refine kG 36 ?_;refine kG 37 ?_;refine kG 38 ?_;refine kG 39 ?_;refine kG 40 ?_;refine kG 41 ?_;refine kG 42 ?_;refine kG 43 ?_;refine tG 44 ?_;refine wpAnyH_done (by kernel_rfl) ?_ _;have HF:Hid (qF l b=false):=HNo.o (by unfold yF within;rw[bFi t1];simp);go_wp2_with fail
     go_ret;exact⟨ze HF.o.symm,HBw.o _ HBe.o⟩
  ·have e:k=b.ps.length:=by omega
   subst e
   have HAm:Hid (b.ps.all (yF b.ls b.tick)=true):=by
    have:=HQ.o.1
    rwa [tOl (Nat.le_refl _)]at this
   have HPu:Hid (qx b=true):=by
    unfold Hid qx;rw[zhc HQ.o.2.1 (Nat.le_refl _),decide_eq_true HPN.o,HAm.o];rfl
   obtain⟨W1,hW1⟩:=xN (wr);rw[<- hW1]at hX1 hL1 hz1 HBq ⊢;clear HQ hlt hk hX0 hz0 hL0 hW1 HB0;go_wp2_with fail
   go_loopw [7] (fun iv wr=>∃k:Nat,k<=b.ls.length/\iv=.i k/\Hid ((b.ls.take k).all (yT l.ts)=true/\zaa q9 b.ls k/\(b.ls.take k).all (zbc l b)=true/\Bw W1 wr)) (fun iv _=>b.ls.length-(intOf iv).toNat)
   case atStart=>exact⟨0,Nat.zero_le _,rfl,by simp,fun i _ h=>by omega,by simp,bRf _ _⟩
   case round=>
    obtain⟨k,hk,rfl,HQ⟩:=hrel;have hkn:k<=10:=by have:=HLN.o;omega
    have hX2:=za hX1 hz1 HQ.o.2.2.2;have hL2:=za hL1 (nSl hz1) HQ.o.2.2.2;have hz2:=nLt hz1 HQ.o.2.2.2.size;have hq2:=nSl hz2;have HBr:Hid (Bw w wr):=HBq.o.trans (HQ.o.2.2.2.mono HBq.o.size)
    by_cases hlt:k<b.ls.length
    ·have hsm:=HK.o.ls.small k hlt
     obtain⟨ob,off,rfl,hob,d0,d1,d2,d3⟩:=HK.o.ls.load HBr.o k hlt;have hob':ob<wr.heap.size:=nLt hob HBr.o.size;have hltI:(k:Int)<(b.ls.length:Int):=by omega
     have HBo:Hid (∀ob,Bw W1 (wr.alloc ob)):=fun ob=>HQ.o.2.2.2.alloc HQ.o.2.2.2.size _
     have HBw:Hid (∀W,Bw W1 W->Bw w W):=fun W hW=>HBq.o.trans (hW.mono HBq.o.size)
     have HNo:Hid ((yT l.ts) b.ls[k]=false->qF l b=false):=fun h=>ze3 (by unfold y5;rw[zaH _ _ _ hlt h];simp)
     have HNs:Hid ((zbc l b) b.ls[k]=false->qF l b=false):=fun h=>znn (by unfold zc9;rw[zaH _ _ _ hlt h])
     have HNa:Hid (0<k->0<=q9 (b.ls[k-1]'(by omega)) b.ls[k]->qF l b=false):=fun h0 h=>ze3 (by unfold y5;rw[zex hlt h0 (Int.not_lt.2 h)];simp)
     have HYes:Hid ((yT l.ts) b.ls[k]=true->(∀m (e:k=m+1),q9 (b.ls[m]'(by omega)) b.ls[k]<0)->zbc l b b.ls[k]=true->(b.ls.take (k+1)).all (yT l.ts)=true/\zaa q9 b.ls (k+1)/\(b.ls.take (k+1)).all (zbc l b)=true):=fun h h' h''=>⟨by rw[qM _ _ _ hlt,HQ.o.1,h];rfl,zfF HQ.o.2.1 hlt h',by rw[qM _ _ _ hlt,HQ.o.2.2.1,h''];rfl⟩
     have HSm:Hid (b.ls[k].Small):=hsm;clear hsm;go_wp2_with fail
     have hY0:=zn wr #[.s b.ls[k].tm,.s b.ls[k].rs,.i b.ls[k].mo,.i b.ls[k].fr] 148;have hb5:Bw wr (wr.alloc (.cells #[.s b.ls[k].tm,.s b.ls[k].rs,.i b.ls[k].mo,.i b.ls[k].fr] 148)):=bAl _ _;have HBe:=HBo.o (.cells #[.s b.ls[k].tm,.s b.ls[k].rs,.i b.ls[k].mo,.i b.ls[k].fr] 148);obtain⟨W5,hW5⟩:=xN (wr.alloc (.cells #[.s b.ls[k].tm,.s b.ls[k].rs,.i b.ls[k].mo,.i b.ls[k].fr] 148));have hy:wr.heap.size<W5.heap.size:=by rw[hW5];simp
     rw[<- hW5]at hb5 hY0 HBe ⊢;clear hW5 d0 d1 d2 d3;have hX:=za hX2 hz2 hb5;have hLw:=za hL2 (nSl hz2) hb5;have hY:=hY0;have hz:=nLt hz2 hb5.size;have hz':=nSl hz;have HBe:=hid HBe;have hobz:=nLt hob' hb5.size;have HBf:=hid (HBr.o.trans (hb5.mono HBr.o.size))
     have HP:Hid (∀h0:0<k,W5.cell? (aD ob (off+(k-1)*4))=some (.s (b.ls[k-1]'(by omega)).tm)/\W5.cell? (aD ob (off+(k-1)*4+1))=some (.s (b.ls[k-1]'(by omega)).rs)):=fun h0=>by
      obtain⟨ob',off',e',hob'',e0,e1,e2,e3⟩:=HK.o.ls.load HBf.o (k-1) (by omega)
      cases e'
      exact⟨e0,e1⟩
     clear hX1 hz1 hb5 hY0 HBo hX2 hz2 hL1 hL2 hob hob' HQ;refine(zb8 _ _ l.ts b.ls[k].tm _ (HL.o.ts.mono HBf.o)).mono ?_;rintro e w6⟨rfl,hww⟩;rw[hww];clear hww w6
     by_cases t1:yD l.ts b.ls[k].tm=true
     rotate_left
     ·have HF:Hid (qF l b=false):=HNo.o (by unfold yT;rw[bFi t1];rfl)
      rw[bFi t1];clear t1;go_wp2_with fail
      go_ret;exact⟨ze HF.o.symm,HBf.o⟩
     have HT1:=hid t1;rw[t1];clear t1;go_wp2_with fail
     refine(zi b.ls[k].rs _ HSm.o.rs).mono ?_;rintro e w6⟨rfl,hww⟩;rw[hww];clear hww w6
     by_cases t2:zm b.ls[k].rs=true
     rotate_left
     ·have HF:Hid (qF l b=false):=HNo.o (by unfold yT;rw[bFi t2];simp)
      rw[bFi t2];clear t2;go_wp2_with fail
      go_ret;exact⟨ze HF.o.symm,HBf.o⟩
     have HT2:=hid t2;rw[t2];clear t2
     by_cases t3:b.ls[k].fr<0
     ·have HF:Hid (qF l b=false):=HNo.o (by unfold yT jN;rw[decide_eq_false (p:=0<=b.ls[k].fr) (by omega)];simp)
      have hd:=decide_eq_true t3;go_wp2_with fail
      go_ret;exact⟨ze HF.o.symm,HBf.o⟩
     have hd3:=decide_eq_false t3
     by_cases t4:b.ls[k].mo<b.ls[k].fr
     ·have HF:Hid (qF l b=false):=HNo.o (by unfold yT jN;rw[decide_eq_false (p:=b.ls[k].fr<=b.ls[k].mo) (by omega)];simp)
      have hd:=decide_eq_true t4;go_wp2_with fail
      go_ret;exact⟨ze HF.o.symm,HBf.o⟩
     have hd4:=decide_eq_false t4
     by_cases t5:1000000<b.ls[k].mo
     ·have HF:Hid (qF l b=false):=HNo.o (by unfold yT jN;rw[decide_eq_false (p:=b.ls[k].mo<=1000000) (by omega)];simp)
      have hd:=decide_eq_true t5;go_wp2_with fail
      go_ret;exact⟨ze HF.o.symm,HBf.o⟩
     have hd5:=decide_eq_false t5
     have HLa:Hid (yT l.ts b.ls[k]=true):=by
      unfold Hid yT jN;rw[HT1.o,HT2.o,decide_eq_true (p:=0<=b.ls[k].fr) (by omega),decide_eq_true (p:=b.ls[k].fr<=b.ls[k].mo) (by omega),decide_eq_true (p:=b.ls[k].mo<=1000000) (by omega)];rfl
     have HFr:Hid (0<=b.ls[k].fr/\b.ls[k].fr<=1000000):=by unfold Hid;omega
     clear t3 t4 t5;go_wp2_with fail
     clear hd3 hd4 hd5
     by_cases hk0:0<k
     ·have hk1:(0:Int)<=(k:Int)-1:=by omega
      have hk2:(k:Int)-1<(b.ls.length:Int):=by omega
      have hg:=decide_eq_true hk0;have hkw:IntKind.i64.wrap ((k:Int)-1)=(k:Int)-1:=by rw[IntKind.wrap_i64];omega
      have hkN:((k:Int)-1).toNat=k-1:=by omega
      have hk3:(1:Int)<=(k:Int):=by omega
      obtain⟨hP0,hP1⟩:=HP.o hk0;refine wp_region_held_drew (S:=fun w'=>(∀j,w'.cell? (aD (w.heap.size+1) j)=(#[.i b.now,.i b.tick,.i b.given,.l a0 b.os.length c0,.l a1 b.gs.length c1,.l (some (aD ob off)) b.ls.length c2,.l a3 b.ps.length c3]:AV)[j]?)/\(∀j,w'.cell? (aD wr.heap.size j)=(#[.s b.ls[k].tm,.s b.ls[k].rs,.i b.ls[k].mo,.i b.ls[k].fr]:AV)[j]?)/\w'.cell? (aD ob (off+(k-1)*4))=some (.s (b.ls[k-1]'(by omega)).tm)/\w'.cell? (aD ob (off+(k-1)*4+1))=some (.s (b.ls[k-1]'(by omega)).rs)) (by kernel_rfl) ⟨za hX hz (bRf W5.heap.size W5).drew,za hY hy (bRf W5.heap.size W5).drew,hP0,hP1⟩ (fun H_=>?_);refine tG 0 ?_;refine tG 1 ?_;refine tG 2 ?_;refine tG 3 ?_;refine tG 4 ?_;refine tG 5 ?_;refine tG 6 ?_;refine tG 7 ?_;refine tG 8 ?_;refine tG 9 ?_;refine tG 10 ?_;refine tG 11 ?_;refine tG 12 ?_;refine tG 13 ?_;refine tG 14 ?_;refine tG 15 ?_;refine tG 16 ?_;refine tG 17 ?_;refine tG 18 ?_;refine tG 19 ?_;refine tG 20 ?_;refine cH 21 rfl fun K hK=>?_
      go_simp
      refine(zho _ _ _ _ _).mono ?_;rintro e w6⟨rfl,rfl⟩
      (try go_wp2_with fail)
      refine hK.out _ _ ?_ (fun H_=>?_)
      ·exact H_
      clear hK K
      (try simp only[Act.put,sA,s0,sS])
      by_cases t6:key2 (b.ls[k-1]'(by omega)).tm (b.ls[k-1]'(by omega)).rs b.ls[k].tm b.ls[k].rs<0
      ·have hd6:decide (0<=key2 (b.ls[k-1]'(by omega)).tm (b.ls[k-1]'(by omega)).rs b.ls[k].tm b.ls[k].rs)=false:=decide_eq_false (by omega)
       refine tG 22 ?_;refine tG 23 ?_;refine wpAnyH_done (by kernel_rfl) ?_ _;have HT6:=hid t6;clear t6 hd6;go_wp2_with fail
       have hLD:=za hLw hz' (bRf W5.heap.size W5).drew.drew;have hXD:=za hX hz (bRf W5.heap.size W5).drew.drew;have hYD:=za hY hy (bRf W5.heap.size W5).drew.drew;have hzD:=hz;have hyD:=hy;have HBeD:=hid HBe.o.drew.drew;have HUs:=zer l b b.ls[k].tm b.ls[k].rs HZ.o.1;have HOs:=zbV b.ps b.ls[k].tm b.ls[k].rs (zgF HAm.o) b.ps.length (Nat.le_refl _);have hw1:IntKind.i64.wrap (used l b.os b.ls[k].tm b.ls[k].rs+out b.ps b.ls[k].tm b.ls[k].rs)=used l b.os b.ls[k].tm b.ls[k].rs+out b.ps b.ls[k].tm b.ls[k].rs:=by rw[IntKind.wrap_i64];have:=HPN.o;unfold out;omega
       have hw2:IntKind.i64.wrap (used l b.os b.ls[k].tm b.ls[k].rs+out b.ps b.ls[k].tm b.ls[k].rs+b.ls[k].fr)=used l b.os b.ls[k].tm b.ls[k].rs+out b.ps b.ls[k].tm b.ls[k].rs+b.ls[k].fr:=by rw[IntKind.wrap_i64];have:=HPN.o;have:=HFr.o;unfold out;omega
       clear HUs HOs;refine wp_region_held_drew (S:=fun w'=>(∀j,w'.cell? (aD w.heap.size j)=(#[.l la l.ss.length lca,.l lb l.ms.length lcb,.l lc l.ts.length lcc]:AV)[j]?)/\(∀j,w'.cell? (aD (w.heap.size+1) j)=(#[.i b.now,.i b.tick,.i b.given,.l a0 b.os.length c0,.l a1 b.gs.length c1,.l (some (aD ob off)) b.ls.length c2,.l a3 b.ps.length c3]:AV)[j]?)/\(∀j,w'.cell? (aD wr.heap.size j)=(#[.s b.ls[k].tm,.s b.ls[k].rs,.i b.ls[k].mo,.i b.ls[k].fr]:AV)[j]?)) (by kernel_rfl) ⟨hLD,hXD,hYD⟩ (fun H_=>?_);refine tG 0 ?_;refine tG 1 ?_;refine tG 2 ?_;refine tG 3 ?_;refine tG 4 ?_;refine tG 5 ?_;refine tG 7 ?_;refine tG 8 ?_;refine tG 9 ?_;refine tG 10 ?_;refine tG 11 ?_;refine tG 14 ?_;refine tG 15 ?_;refine tG 17 ?_;refine tG 18 ?_;refine cH 6 rfl fun K hK=>?_
       go_simp
       refine(zg0 l la lb lc lca lcb lcc b a0 a1 _ a3 c0 c1 c2 c3 _ _ _ (HL.o.mono (HBw.o _ HBeD.o)) (HK.o.mono (HBw.o _ HBeD.o)) HZ.o.1).mono ?_;rintro e w7⟨rfl,hb7⟩;have hX7:=za hXD hzD hb7;have hL7:=za hLD (nSl hzD) hb7;have hY7:=za hYD hyD hb7;have hz7:=nLt hzD hb7.size;have hy7:=nLt hyD hb7.size;have HBe7:=hid (HBeD.o.trans (hb7.mono HBeD.o.size));clear hb7
       (try go_wp2_with fail)
       refine hK.out _ _ ?_ (fun H_=>?_)
       ·exact⟨hL7,hX7,hY7⟩
       clear hK K
       (try simp only[Act.put,sA,s0,sS])
       refine cH 12 rfl fun K hK=>?_
       go_simp
       refine(zlW b a0 a1 _ a3 c0 c1 c2 c3 _ _ _ (HK.o.mono (HBw.o _ HBe7.o)) (by have:=HPN.o;omega) (zgF HAm.o)).mono ?_;rintro e w8⟨rfl,hb8⟩;have hX8:=za hX7 hz7 hb8;have hL8:=za hL7 (nSl hz7) hb8;have hY8:=za hY7 hy7 hb8;have hz8:=nLt hz7 hb8.size;have hy8:=nLt hy7 hb8.size;have HBe8:=hid (HBe7.o.trans (hb8.mono HBe7.o.size));clear hb8
       (try go_wp2_with fail)
       refine hK.out _ _ ?_ (fun H_=>?_)
       ·exact⟨hL8,hX8,hY8⟩
       clear hK K
       (try simp only[Act.put,sA,s0,sS])
       refine tG 13 ?_;refine tG 16 ?_
       by_cases t7:used l b.os b.ls[k].tm b.ls[k].rs+out b.ps b.ls[k].tm b.ls[k].rs+b.ls[k].fr=b.ls[k].mo
       ·have hd7:=bne_eq_false_iff_eq.2 t7
        have HT7:=hid t7;clear t7;refine tG 19 ?_;refine wpAnyH_done (by kernel_rfl) ?_ _;have HD:Hid ((b.ls.take (k+1)).all (yT l.ts)=true/\zaa q9 b.ls (k+1)/\(b.ls.take (k+1)).all (zbc l b)=true):=HYes.o HLa.o (zgE hlt (fun _=>HT6.o)) (by unfold zbc sumTo;rw[decide_eq_true_eq];have:=HT7.o;unfold out at this;omega);go_wp2_with fail
        exact⟨⟨k+1,by omega,by go_num,HD.o.1,HD.o.2.1,HD.o.2.2,HBe8.o⟩,by simp[intOf];omega⟩
       ·have hd7:=bne_iff_ne.2 t7
        have HT7:=hid t7;clear t7;refine tG 19 ?_;refine wpAnyH_done (by kernel_rfl) ?_ _;have HF:Hid (qF l b=false):=HNs.o (by unfold zbc sumTo;rw[decide_eq_false_iff_not];have:=HT7.o;unfold out at this;omega);go_wp2_with fail
        go_ret;exact⟨ze HF.o.symm,HBw.o _ HBe8.o⟩
      ·have hd6:decide (0<=key2 (b.ls[k-1]'(by omega)).tm (b.ls[k-1]'(by omega)).rs b.ls[k].tm b.ls[k].rs)=true:=decide_eq_true (by omega)
       refine tG 22 ?_;refine tG 23 ?_;refine wpAnyH_done (by kernel_rfl) ?_ _;have HF:Hid (qF l b=false):=HNa.o (by omega) (Int.not_lt.1 t6);go_wp2_with fail
       go_ret;exact⟨ze HF.o.symm,HBw.o _ HBe.o.drew⟩
     ·have hg:=decide_eq_false hk0
      refine wp_region_held_drew (S:=fun w'=>(∀j,w'.cell? (aD (w.heap.size+1) j)=(#[.i b.now,.i b.tick,.i b.given,.l a0 b.os.length c0,.l a1 b.gs.length c1,.l (some (aD ob off)) b.ls.length c2,.l a3 b.ps.length c3]:AV)[j]?)/\(∀j,w'.cell? (aD wr.heap.size j)=(#[.s b.ls[k].tm,.s b.ls[k].rs,.i b.ls[k].mo,.i b.ls[k].fr]:AV)[j]?) ) (by kernel_rfl) ⟨za hX hz (bRf W5.heap.size W5).drew,za hY hy (bRf W5.heap.size W5).drew⟩ (fun H_=>?_);refine tG 0 ?_;refine tG 1 ?_;refine tG 2 ?_;refine kG 3 ?_;refine kG 4 ?_;refine kG 5 ?_;refine kG 6 ?_;refine kG 7 ?_;refine kG 8 ?_;refine kG 9 ?_;refine kG 10 ?_;refine kG 11 ?_;refine kG 12 ?_;refine kG 13 ?_;refine kG 14 ?_;refine kG 15 ?_;refine kG 16 ?_;refine kG 17 ?_;refine kG 18 ?_;refine kG 19 ?_;refine kG 20 ?_;refine kG 21 ?_;refine kG 22 ?_;refine tG 23 ?_;refine wpAnyH_done (by kernel_rfl) ?_ _;go_wp2_with fail
      have hLD:=za hLw hz' (bRf W5.heap.size W5).drew.drew;have hXD:=za hX hz (bRf W5.heap.size W5).drew.drew;have hYD:=za hY hy (bRf W5.heap.size W5).drew.drew;have hzD:=hz;have hyD:=hy;have HBeD:=hid HBe.o.drew.drew;have HUs:=zer l b b.ls[k].tm b.ls[k].rs HZ.o.1;have HOs:=zbV b.ps b.ls[k].tm b.ls[k].rs (zgF HAm.o) b.ps.length (Nat.le_refl _);have hw1:IntKind.i64.wrap (used l b.os b.ls[k].tm b.ls[k].rs+out b.ps b.ls[k].tm b.ls[k].rs)=used l b.os b.ls[k].tm b.ls[k].rs+out b.ps b.ls[k].tm b.ls[k].rs:=by rw[IntKind.wrap_i64];have:=HPN.o;unfold out;omega
      have hw2:IntKind.i64.wrap (used l b.os b.ls[k].tm b.ls[k].rs+out b.ps b.ls[k].tm b.ls[k].rs+b.ls[k].fr)=used l b.os b.ls[k].tm b.ls[k].rs+out b.ps b.ls[k].tm b.ls[k].rs+b.ls[k].fr:=by rw[IntKind.wrap_i64];have:=HPN.o;have:=HFr.o;unfold out;omega
      clear HUs HOs;refine wp_region_held_drew (S:=fun w'=>(∀j,w'.cell? (aD w.heap.size j)=(#[.l la l.ss.length lca,.l lb l.ms.length lcb,.l lc l.ts.length lcc]:AV)[j]?)/\(∀j,w'.cell? (aD (w.heap.size+1) j)=(#[.i b.now,.i b.tick,.i b.given,.l a0 b.os.length c0,.l a1 b.gs.length c1,.l (some (aD ob off)) b.ls.length c2,.l a3 b.ps.length c3]:AV)[j]?)/\(∀j,w'.cell? (aD wr.heap.size j)=(#[.s b.ls[k].tm,.s b.ls[k].rs,.i b.ls[k].mo,.i b.ls[k].fr]:AV)[j]?)) (by kernel_rfl) ⟨hLD,hXD,hYD⟩ (fun H_=>?_);refine tG 0 ?_;refine tG 1 ?_;refine tG 2 ?_;refine tG 3 ?_;refine tG 4 ?_;refine tG 5 ?_;refine tG 7 ?_;refine tG 8 ?_;refine tG 9 ?_;refine tG 10 ?_;refine tG 11 ?_;refine tG 14 ?_;refine tG 15 ?_;refine tG 17 ?_;refine tG 18 ?_;refine cH 6 rfl fun K hK=>?_
      go_simp
      refine(zg0 l la lb lc lca lcb lcc b a0 a1 _ a3 c0 c1 c2 c3 _ _ _ (HL.o.mono (HBw.o _ HBeD.o)) (HK.o.mono (HBw.o _ HBeD.o)) HZ.o.1).mono ?_;rintro e w7⟨rfl,hb7⟩;have hX7:=za hXD hzD hb7;have hL7:=za hLD (nSl hzD) hb7;have hY7:=za hYD hyD hb7;have hz7:=nLt hzD hb7.size;have hy7:=nLt hyD hb7.size;have HBe7:=hid (HBeD.o.trans (hb7.mono HBeD.o.size));clear hb7
      (try go_wp2_with fail)
      refine hK.out _ _ ?_ (fun H_=>?_)
      ·exact⟨hL7,hX7,hY7⟩
      clear hK K
      (try simp only[Act.put,sA,s0,sS])
      refine cH 12 rfl fun K hK=>?_
      go_simp
      refine(zlW b a0 a1 _ a3 c0 c1 c2 c3 _ _ _ (HK.o.mono (HBw.o _ HBe7.o)) (by have:=HPN.o;omega) (zgF HAm.o)).mono ?_;rintro e w8⟨rfl,hb8⟩;have hX8:=za hX7 hz7 hb8;have hL8:=za hL7 (nSl hz7) hb8;have hY8:=za hY7 hy7 hb8;have hz8:=nLt hz7 hb8.size;have hy8:=nLt hy7 hb8.size;have HBe8:=hid (HBe7.o.trans (hb8.mono HBe7.o.size));clear hb8
      (try go_wp2_with fail)
      refine hK.out _ _ ?_ (fun H_=>?_)
      ·exact⟨hL8,hX8,hY8⟩
      clear hK K
      (try simp only[Act.put,sA,s0,sS])
      refine tG 13 ?_;refine tG 16 ?_
      by_cases t7:used l b.os b.ls[k].tm b.ls[k].rs+out b.ps b.ls[k].tm b.ls[k].rs+b.ls[k].fr=b.ls[k].mo
      ·have hd7:=bne_eq_false_iff_eq.2 t7
       have HT7:=hid t7;clear t7;refine tG 19 ?_;refine wpAnyH_done (by kernel_rfl) ?_ _;have HD:Hid ((b.ls.take (k+1)).all (yT l.ts)=true/\zaa q9 b.ls (k+1)/\(b.ls.take (k+1)).all (zbc l b)=true):=HYes.o HLa.o (fun m e=>by omega) (by unfold zbc sumTo;rw[decide_eq_true_eq];have:=HT7.o;unfold out at this;omega);go_wp2_with fail
       exact⟨⟨k+1,by omega,by go_num,HD.o.1,HD.o.2.1,HD.o.2.2,HBe8.o⟩,by simp[intOf];omega⟩
      ·have hd7:=bne_iff_ne.2 t7
       have HT7:=hid t7;clear t7;refine tG 19 ?_;refine wpAnyH_done (by kernel_rfl) ?_ _;have HF:Hid (qF l b=false):=HNs.o (by unfold zbc sumTo;rw[decide_eq_false_iff_not];have:=HT7.o;unfold out at this;omega);go_wp2_with fail
       go_ret;exact⟨ze HF.o.symm,HBw.o _ HBe8.o⟩
    ·have e:k=b.ls.length:=by omega
     subst e
     have HE:Hid (qF l b=true):=by
      unfold Hid qF y5 zc9;have h1:=HQ.o.1;have h2:=HQ.o.2.2.1;rw[tOl (Nat.le_refl _)]at h1 h2;rw[zhc HQ.o.2.1 (Nat.le_refl _),decide_eq_true HLN.o,HPu.o,h1,h2];rfl
     clear HQ hlt hk hX1 hL1;go_wp2_with fail
     go_ret;exact⟨ze HE.o.symm,HBr.o⟩
end Go.Proofs.YthdfpinbnncghaaGreat
