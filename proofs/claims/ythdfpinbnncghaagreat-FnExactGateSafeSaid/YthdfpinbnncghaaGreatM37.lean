import Derived.Test.YthdfpinbnncghaaGreatM35
import Derived.Test.YthdfpinbnncghaaGreatM13
set_option maxHeartbeats 40000000
namespace Go.Proofs.YthdfpinbnncghaaGreat
open Go.RowKit
set_option maxRecDepth 20000 in
theorem zjW (b:Bk)(a0 a1 a2 a3:OA)(c0 c1 c2 c3:Nat)(w:World)(hb:jU w b a0 a1 a2 a3) :
 Calls Tryz.prog 59 #[.agg (b.cells a0 a1 a2 a3 c0 c1 c2 c3)] w fun e w'=>e=.returned (.bool (yP b))/\Bw w w':=by
 have HK:=hid hb;clear hb;unfold Bk.cells
 by_cases hln:b.gs.length<=24
 rotate_left
 ·have HF:Hid (yP b=false):=by unfold Hid yP;rw[decide_eq_false hln];rfl
  have hg:(24:Int)<(b.gs.length:Int):=by omega
  go_enter Tryz.func59,Tryz.ntmps59;go_wp2_with fail
  go_ret;exact⟨ze HF.o.symm,bAl _ _⟩
 have hg:decide ((24:Int)<(b.gs.length:Int))=false:=by simp;omega
 have HLN:Hid (b.gs.length<=24):=hln;clear hln;go_enter Tryz.func59,Tryz.ntmps59;go_wp2_with fail
 clear hg;have hX0:=zn w (bC b a0 a1 a2 a3 c0 c1 c2 c3) 51;have HB0:Hid (Bw w (w.alloc (.cells (bC b a0 a1 a2 a3 c0 c1 c2 c3) 51))):=bAl _ _;obtain⟨W0,hW0⟩:=xN (w.alloc (.cells (bC b a0 a1 a2 a3 c0 c1 c2 c3) 51));have hz0:w.heap.size<W0.heap.size:=by rw[hW0];simp
 rw[<- hW0]at HB0 hX0 ⊢;clear hW0
 go_loopw [3] (fun iv wr=>∃k:Nat,k<=b.gs.length/\iv=.i k/\Hid ((b.gs.take k).all (yB b.given)=true/\zaa zcK b.gs k/\Bw W0 wr)) (fun iv _=>b.gs.length-(intOf iv).toNat)
 case atStart=>exact⟨0,Nat.zero_le _,rfl,by simp,fun i _ h=>by omega,bRf _ _⟩
 case round=>
  obtain⟨k,hk,rfl,HQ⟩:=hrel;have hkn:k<=24:=by have:=HLN.o;omega
  have hX1:=za hX0 hz0 HQ.o.2.2;have hz1:=nLt hz0 HQ.o.2.2.size;have HBq:=hid (HB0.o.trans (HQ.o.2.2.mono HB0.o.size))
  by_cases hlt:k<b.gs.length
  ·obtain⟨ob,off,v0,q0,rfl,hob,hsm,hi0,d0,d1,d2,d3,d4,d5,d6⟩:=HK.o.gs.load HBq.o k hlt
   have hob':ob<wr.heap.size:=nLt hob HBq.o.size;have hltI:(k:Int)<(b.gs.length:Int):=by omega
   have HSn:Hid ((b.gs.take (k+1)).all (yB b.given)=((b.gs.take k).all (yB b.given)&&(yB b.given) b.gs[k])):=qM _ _ _ hlt;have HBo:Hid (∀ob,Bw W0 (wr.alloc ob)):=fun ob=>HQ.o.2.2.alloc HQ.o.2.2.size _
   have HBw:Hid (∀W,Bw W0 W->Bw w W):=fun W hW=>HB0.o.trans (hW.mono HB0.o.size)
   have HNo:Hid ((yB b.given) b.gs[k]=false->yP b=false):=fun h=>by unfold yP;rw[zaH _ _ _ hlt h];simp
   have HNa:Hid (0<k->0<=zcK (b.gs[k-1]'(by omega)) b.gs[k]->yP b=false):=fun h0 h=>by unfold yP;rw[zex hlt h0 (Int.not_lt.2 h)];simp
   have HYes:Hid ((yB b.given) b.gs[k]=true->(∀m (e:k=m+1),zcK (b.gs[m]'(by omega)) b.gs[k]<0)->(b.gs.take (k+1)).all (yB b.given)=true/\zaa zcK b.gs (k+1)):=fun h h'=>⟨by rw[HSn.o,HQ.o.1,h];rfl,zfF HQ.o.2.1 hlt h'⟩
   have HIt:Hid (yJ wr v0 b.gs[k].r.vs/\b.gs[k].Small):=⟨hi0,hsm⟩
   clear hsm hi0;go_wp2_with fail
   have hY0:=zn wr #[.i b.gs[k].no,.s b.gs[k].to,.s b.gs[k].gb,.l v0 b.gs[k].r.vs.length q0,.s b.gs[k].r.kd,.s b.gs[k].r.tm,.s b.gs[k].r.px] 76;have hb5:Bw wr (wr.alloc (.cells #[.i b.gs[k].no,.s b.gs[k].to,.s b.gs[k].gb,.l v0 b.gs[k].r.vs.length q0,.s b.gs[k].r.kd,.s b.gs[k].r.tm,.s b.gs[k].r.px] 76)):=bAl _ _;have HBe:=HBo.o (.cells #[.i b.gs[k].no,.s b.gs[k].to,.s b.gs[k].gb,.l v0 b.gs[k].r.vs.length q0,.s b.gs[k].r.kd,.s b.gs[k].r.tm,.s b.gs[k].r.px] 76);obtain⟨W5,hW5⟩:=xN (wr.alloc (.cells #[.i b.gs[k].no,.s b.gs[k].to,.s b.gs[k].gb,.l v0 b.gs[k].r.vs.length q0,.s b.gs[k].r.kd,.s b.gs[k].r.tm,.s b.gs[k].r.px] 76));have hy0:wr.heap.size<W5.heap.size:=by rw[hW5];simp
   rw[<- hW5]at hb5 hY0 HBe ⊢;clear hW5 d0 d1 d2 d3 d4 d5 d6;have hX:=za (za hX1 hz1 hb5) (nLt hz1 hb5.size) (bRf W5.heap.size W5).drew;have hY:=za hY0 hy0 (bRf W5.heap.size W5).drew;have hz:=nLt hz1 hb5.size;have hy:=hy0;have hB:Bw W0 W5.drew:=HBe.drew;have hIq:=(HIt.o.1.mono hb5).mono (bRf W5.heap.size W5).drew;have hobz:ob<W5.drew.heap.size:=nLt hob' hb5.size
   have hP:∀h0:0<k,W5.drew.cell? (aD ob (off+(k-1)*7))=some (.i (b.gs[k-1]'(by omega)).no):=fun h0=>by
    have hBq5:=(HBq.o.trans (hb5.mono HBq.o.size)).drew;obtain⟨ob',off',v0',q0',e',hob'',_,_,dd,_⟩:=HK.o.gs.load hBq5 (k-1) (by omega)
    cases e'
    exact dd
   have HBe:Hid (Bw W0 W5.drew):=hB;have HSm:Hid (b.gs[k].Small):=HIt.o.2;clear hX1 hz1 hb5 hY0 hy0 HBo hX0 hz0 hob hob' HIt HSn
   by_cases hk0:0<k
   ·have hk1:(0:Int)<=(k:Int)-1:=by omega
    have hk2:(k:Int)-1<(b.gs.length:Int):=by omega
    have hg:decide (0<k)=true:=decide_eq_true hk0;have hkw:IntKind.i64.wrap ((k:Int)-1)=(k:Int)-1:=by rw[IntKind.wrap_i64];omega
    have hkN:((k:Int)-1).toNat=k-1:=by omega
    have hk3:(1:Int)<=(k:Int):=by omega
    have hPk:=hP hk0;clear hP;refine wp_region_held_drew (S:=fun w'=>(∀j,w'.cell? (aD w.heap.size j)=(#[.i b.now,.i b.tick,.i b.given,.l a0 b.os.length c0,.l (some (aD ob off)) b.gs.length c1,.l a2 b.ls.length c2,.l a3 b.ps.length c3]:AV)[j]?)/\(∀j,w'.cell? (aD wr.heap.size j)=(#[.i b.gs[k].no,.s b.gs[k].to,.s b.gs[k].gb,.l v0 b.gs[k].r.vs.length q0,.s b.gs[k].r.kd,.s b.gs[k].r.tm,.s b.gs[k].r.px]:AV)[j]?)/\w'.cell? (aD ob (off+(k-1)*7))=some (.i (b.gs[k-1]'(by omega)).no)) (by kernel_rfl) ⟨hX,hY,hPk⟩ (fun H_=>?_);refine tG 0 ?_;refine tG 1 ?_;refine tG 2 ?_;refine tG 3 ?_
    by_cases t1:(decide (1<=b.gs[k].no)&&decide (b.gs[k].no<=b.given))=true
    ·refine cH 4 rfl fun K hK=>?_
     go_simp
     refine(zf t1 (zM _ _ _ _)).mono ?_;rintro e w6⟨rfl,rfl⟩
     (try go_wp2_with fail)
     refine hK.out _ _ ?_ (fun H_=>?_)
     ·exact H_
     clear hK K
     (try simp only[Act.put,sA,s0,sS])
     refine tG 5 ?_;refine tG 6 ?_;refine tG 7 ?_;refine tG 8 ?_;refine tG 9 ?_;refine tG 10 ?_;refine tG 11 ?_;refine tG 12 ?_;refine tG 13 ?_;refine tG 14 ?_;refine tG 15 ?_;refine tG 16 ?_;refine tG 17 ?_;refine tG 18 ?_
     by_cases t2:(b.gs[k-1]'(by omega)).no<b.gs[k].no
     ·have hd2:decide (b.gs[k].no<=(b.gs[k-1]'(by omega)).no)=false:=decide_eq_false (by omega)
      have HT2:Hid ((b.gs[k-1]'(by omega)).no<b.gs[k].no):=t2;clear t2;refine tG 19 ?_;refine tG 20 ?_;refine tG 21 ?_;refine tG 22 ?_;refine tG 23 ?_;refine tG 24 ?_
      by_cases t3:zm b.gs[k].to=true
      ·refine cH 25 rfl fun K hK=>?_
       go_simp
       refine(zf t3 (zi _ _ HSm.o.to)).mono ?_;rintro e w6⟨rfl,rfl⟩
       (try go_wp2_with fail)
       refine hK.out _ _ ?_ (fun H_=>?_)
       ·exact H_
       clear hK K
       (try simp only[Act.put,sA,s0,sS])
       refine tG 26 ?_;refine tG 27 ?_;refine tG 28 ?_;refine tG 29 ?_;refine tG 30 ?_
       by_cases t4:b.gs[k].gb.toList.isEmpty=false
       ·have HGe:=hid t4
        refine tG 31 ?_;refine tG 32 ?_;refine tG 33 ?_;refine tG 34 ?_
        by_cases t5:zm b.gs[k].gb=true
        ·refine cH 35 rfl fun K hK=>?_
         go_simp
         refine(zf t5 (zi _ _ HSm.o.gb)).mono ?_;rintro e w6⟨rfl,rfl⟩
         (try go_wp2_with fail)
         refine hK.out _ _ ?_ (fun H_=>?_)
         ·exact H_
         clear hK K
         (try simp only[Act.put,sA,s0,sS])
         refine tG 36 ?_;refine tG 37 ?_;refine tG 38 ?_;refine tG 39 ?_;refine tG 40 ?_;refine tG 41 ?_;refine cH 42 rfl fun K hK=>?_
         go_simp
         refine(zba b.gs[k].r v0 q0 _ HSm.o.r hIq).mono ?_;rintro e w6⟨rfl,hb6⟩;have hX6:=za hX hz hb6;have hY6:=za hY hy hb6;have HBe6:=hid (HBe.o.trans (hb6.mono HBe.o.size));have hP6:=(hb6.cell (p:=(aD ob (off+(k-1)*7))) hobz).trans hPk;clear hb6
         (try go_wp2_with fail)
         refine hK.out _ _ ?_ (fun H_=>?_)
         ·exact⟨hX6,hY6,hP6⟩
         clear hK K
         (try simp only[Act.put,sA,s0,sS])
         refine tG 43 ?_;refine tG 44 ?_;refine wpAnyH_done (by kernel_rfl) ?_ _
         by_cases t6:zQ b.gs[k].r=true
         ·have HG1:Hid (yB b.given b.gs[k]=true):=by unfold Hid yB within;rw[t1,t3,HGe.o,t5,t6];rfl
          have HC:=HYes.o HG1.o (zgE hlt (fun _=>(zky _ _).2 HT2.o));have HD:=hid HC;rw[t6];clear t6 HC;go_wp2_with fail
          exact⟨⟨k+1,by omega,by go_num,HD.o.1,HD.o.2,HBe6.o⟩,by simp[intOf];omega⟩
         ·have HF:=hid (HNo.o (by unfold yB within;rw[t1,t3,HGe.o,t5,bFi t6];rfl))
          rw[bFi t6];clear t6;go_wp2_with fail
          go_ret;exact⟨ze HF.o.symm,HBw.o _ HBe6.o⟩
        ·refine cH 35 rfl fun K hK=>?_
         go_simp
         refine(zf (bFi t5) (zi _ _ HSm.o.gb)).mono ?_;rintro e w6⟨rfl,rfl⟩
         (try go_wp2_with fail)
         refine hK.out _ _ ?_ (fun H_=>?_)
         ·exact H_
         clear hK K
         (try simp only[Act.put,sA,s0,sS])
         refine tG 36 ?_;refine tG 37 ?_;refine tG 38 ?_;refine tG 39 ?_;refine kG 40 ?_;refine kG 41 ?_;refine kG 42 ?_;refine kG 43 ?_;refine tG 44 ?_;refine wpAnyH_done (by kernel_rfl) ?_ _;have HF:=hid (HNo.o (by unfold yB within;rw[t1,t3,HGe.o,bFi t5];rfl));go_wp2_with fail
         go_ret;exact⟨ze HF.o.symm,HBw.o _ HBe.o⟩
       ·have t4:b.gs[k].gb.toList.isEmpty=true:=by simpa using t4
        have HGe:=hid t4;refine tG 31 ?_;refine tG 32 ?_;refine kG 33 ?_;refine kG 34 ?_;refine kG 35 ?_;refine kG 36 ?_;refine tG 37 ?_;refine tG 38 ?_;refine tG 39 ?_;refine tG 40 ?_;refine tG 41 ?_;refine cH 42 rfl fun K hK=>?_
        go_simp
        refine(zba b.gs[k].r v0 q0 _ HSm.o.r hIq).mono ?_;rintro e w6⟨rfl,hb6⟩;have hX6:=za hX hz hb6;have hY6:=za hY hy hb6;have HBe6:Hid (Bw W0 w6):=HBe.o.trans (hb6.mono HBe.o.size);have hP6:=(hb6.cell (p:=(aD ob (off+(k-1)*7))) hobz).trans hPk;clear hb6
        (try go_wp2_with fail)
        refine hK.out _ _ ?_ (fun H_=>?_)
        ·exact⟨hX6,hY6,hP6⟩
        clear hK K
        (try simp only[Act.put,sA,s0,sS])
        refine tG 43 ?_;refine tG 44 ?_;refine wpAnyH_done (by kernel_rfl) ?_ _
        by_cases t6:zQ b.gs[k].r=true
        ·have HG1:Hid (yB b.given b.gs[k]=true):=by unfold Hid yB within;rw[t1,t3,HGe.o,t6];rfl
         have HC:=HYes.o HG1.o (zgE hlt (fun _=>(zky _ _).2 HT2.o));have HD:Hid (_/\_):=HC;rw[t6];clear t6 HC;go_wp2_with fail
         exact⟨⟨k+1,by omega,by go_num,HD.o.1,HD.o.2,HBe6.o⟩,by simp[intOf];omega⟩
        ·have HF:Hid (yP b=false):=HNo.o (by unfold yB within;rw[t1,t3,HGe.o,bFi t6];rfl)
         rw[bFi t6];clear t6;go_wp2_with fail
         go_ret;exact⟨ze HF.o.symm,HBw.o _ HBe6.o⟩
      ·refine cH 25 rfl fun K hK=>?_
       go_simp
       refine(zf (bFi t3) (zi _ _ HSm.o.to)).mono ?_;rintro e w6⟨rfl,rfl⟩
       (try go_wp2_with fail)
       refine hK.out _ _ ?_ (fun H_=>?_)
       ·exact H_
       clear hK K
       (try simp only[Act.put,sA,s0,sS])
       refine tG 26 ?_;refine tG 27 ?_;refine tG 28 ?_;refine kG 29 ?_;refine kG 30 ?_;refine kG 31 ?_;refine kG 32 ?_;refine kG 33 ?_;refine kG 34 ?_;refine kG 35 ?_;refine kG 36 ?_;refine kG 37 ?_;refine tG 38 ?_;refine tG 39 ?_;refine kG 40 ?_;refine kG 41 ?_;refine kG 42 ?_;refine kG 43 ?_;refine tG 44 ?_;refine wpAnyH_done (by kernel_rfl) ?_ _;have HF:Hid (yP b=false):=HNo.o (by unfold yB within;rw[t1,bFi t3];rfl);go_wp2_with fail
       go_ret;exact⟨ze HF.o.symm,HBw.o _ HBe.o⟩
     ·have hd2:decide (b.gs[k].no<=(b.gs[k-1]'(by omega)).no)=true:=decide_eq_true (by omega)
      have HT2:Hid (¬(b.gs[k-1]'(by omega)).no<b.gs[k].no):=t2;clear t2;refine tG 19 ?_;refine tG 20 ?_;refine tG 21 ?_;refine tG 22 ?_;refine kG 23 ?_;refine kG 24 ?_;refine kG 25 ?_;refine kG 26 ?_;refine tG 27 ?_;refine tG 28 ?_;refine kG 29 ?_;refine kG 30 ?_;refine kG 31 ?_;refine kG 32 ?_;refine kG 33 ?_;refine kG 34 ?_;refine kG 35 ?_;refine kG 36 ?_;refine kG 37 ?_;refine tG 38 ?_;refine tG 39 ?_;refine kG 40 ?_;refine kG 41 ?_;refine kG 42 ?_;refine kG 43 ?_;refine tG 44 ?_;refine wpAnyH_done (by kernel_rfl) ?_ _;have HF:=hid (HNa.o (by omega) (Int.not_lt.1 (fun h=>absurd ((zky _ _).1 h) (by have:=HT2.o;omega))));go_wp2_with fail
      go_ret;exact⟨ze HF.o.symm,HBw.o _ HBe.o⟩
    ·refine cH 4 rfl fun K hK=>?_
     go_simp
     refine(zf (bFi t1) (zM _ _ _ _)).mono ?_;rintro e w6⟨rfl,rfl⟩
     (try go_wp2_with fail)
     refine hK.out _ _ ?_ (fun H_=>?_)
     ·exact H_
     clear hK K
     (try simp only[Act.put,sA,s0,sS])
     refine tG 5 ?_;refine tG 6 ?_;refine kG 7 ?_;refine kG 8 ?_;refine kG 9 ?_;refine kG 10 ?_;refine kG 11 ?_;refine kG 12 ?_;refine kG 13 ?_;refine kG 14 ?_;refine kG 15 ?_;refine kG 16 ?_;refine kG 17 ?_;refine kG 18 ?_;refine kG 19 ?_;refine kG 20 ?_;refine tG 21 ?_;refine tG 22 ?_;refine kG 23 ?_;refine kG 24 ?_;refine kG 25 ?_;refine kG 26 ?_;refine tG 27 ?_;refine tG 28 ?_;refine kG 29 ?_;refine kG 30 ?_;refine kG 31 ?_;refine kG 32 ?_;refine kG 33 ?_;refine kG 34 ?_;refine kG 35 ?_;refine kG 36 ?_;refine kG 37 ?_;refine tG 38 ?_;refine tG 39 ?_;refine kG 40 ?_;refine kG 41 ?_;refine kG 42 ?_;refine kG 43 ?_;refine tG 44 ?_;refine wpAnyH_done (by kernel_rfl) ?_ _;have HF:=hid (HNo.o (by unfold yB within;rw[bFi t1];rfl));go_wp2_with fail
     go_ret;exact⟨ze HF.o.symm,HBw.o _ HBe.o⟩
   ·have hg:=decide_eq_false hk0
    clear hP;refine wp_region_held_drew (S:=fun w'=>(∀j,w'.cell? (aD w.heap.size j)=(#[.i b.now,.i b.tick,.i b.given,.l a0 b.os.length c0,.l (some (aD ob off)) b.gs.length c1,.l a2 b.ls.length c2,.l a3 b.ps.length c3]:AV)[j]?)/\(∀j,w'.cell? (aD wr.heap.size j)=(#[.i b.gs[k].no,.s b.gs[k].to,.s b.gs[k].gb,.l v0 b.gs[k].r.vs.length q0,.s b.gs[k].r.kd,.s b.gs[k].r.tm,.s b.gs[k].r.px]:AV)[j]?) ) (by kernel_rfl) ⟨hX,hY⟩ (fun H_=>?_);refine tG 0 ?_;refine tG 1 ?_;refine tG 2 ?_;refine tG 3 ?_
    by_cases t1:(decide (1<=b.gs[k].no)&&decide (b.gs[k].no<=b.given))=true
    ·refine cH 4 rfl fun K hK=>?_
     go_simp
     refine(zf t1 (zM _ _ _ _)).mono ?_;rintro e w6⟨rfl,rfl⟩
     (try go_wp2_with fail)
     refine hK.out _ _ ?_ (fun H_=>?_)
     ·exact H_
     clear hK K
     (try simp only[Act.put,sA,s0,sS])
     refine tG 5 ?_;refine tG 6 ?_;refine tG 7 ?_;refine tG 8 ?_;refine tG 9 ?_;refine kG 10 ?_;refine kG 11 ?_;refine kG 12 ?_;refine kG 13 ?_;refine kG 14 ?_;refine kG 15 ?_;refine kG 16 ?_;refine kG 17 ?_;refine kG 18 ?_;refine kG 19 ?_;refine tG 20 ?_;refine tG 21 ?_;refine tG 22 ?_;refine tG 23 ?_;refine tG 24 ?_
     by_cases t3:zm b.gs[k].to=true
     ·refine cH 25 rfl fun K hK=>?_
      go_simp
      refine(zf t3 (zi _ _ HSm.o.to)).mono ?_;rintro e w6⟨rfl,rfl⟩
      (try go_wp2_with fail)
      refine hK.out _ _ ?_ (fun H_=>?_)
      ·exact H_
      clear hK K
      (try simp only[Act.put,sA,s0,sS])
      refine tG 26 ?_;refine tG 27 ?_;refine tG 28 ?_;refine tG 29 ?_;refine tG 30 ?_
      by_cases t4:b.gs[k].gb.toList.isEmpty=false
      ·have HGe:=hid t4
       refine tG 31 ?_;refine tG 32 ?_;refine tG 33 ?_;refine tG 34 ?_
       by_cases t5:zm b.gs[k].gb=true
       ·refine cH 35 rfl fun K hK=>?_
        go_simp
        refine(zf t5 (zi _ _ HSm.o.gb)).mono ?_;rintro e w6⟨rfl,rfl⟩
        (try go_wp2_with fail)
        refine hK.out _ _ ?_ (fun H_=>?_)
        ·exact H_
        clear hK K
        (try simp only[Act.put,sA,s0,sS])
        refine tG 36 ?_;refine tG 37 ?_;refine tG 38 ?_;refine tG 39 ?_;refine tG 40 ?_;refine tG 41 ?_;refine cH 42 rfl fun K hK=>?_
        go_simp
        refine(zba b.gs[k].r v0 q0 _ HSm.o.r hIq).mono ?_;rintro e w6⟨rfl,hb6⟩;have hX6:=za hX hz hb6;have hY6:=za hY hy hb6;have HBe6:=hid (HBe.o.trans (hb6.mono HBe.o.size));clear hb6
        (try go_wp2_with fail)
        refine hK.out _ _ ?_ (fun H_=>?_)
        ·exact⟨hX6,hY6⟩
        clear hK K
        (try simp only[Act.put,sA,s0,sS])
        refine tG 43 ?_;refine tG 44 ?_;refine wpAnyH_done (by kernel_rfl) ?_ _
        by_cases t6:zQ b.gs[k].r=true
        ·have HG1:Hid (yB b.given b.gs[k]=true):=by unfold Hid yB within;rw[t1,t3,HGe.o,t5,t6];rfl
         have HC:=HYes.o HG1.o (fun m e=>by omega);have HD:=hid HC;rw[t6];clear t6 HC;go_wp2_with fail
         exact⟨⟨k+1,by omega,by go_num,HD.o.1,HD.o.2,HBe6.o⟩,by simp[intOf];omega⟩
        ·have HF:=hid (HNo.o (by unfold yB within;rw[t1,t3,HGe.o,t5,bFi t6];rfl))
         rw[bFi t6];clear t6;go_wp2_with fail
         go_ret;exact⟨ze HF.o.symm,HBw.o _ HBe6.o⟩
       ·refine cH 35 rfl fun K hK=>?_
        go_simp
        refine(zf (bFi t5) (zi _ _ HSm.o.gb)).mono ?_;rintro e w6⟨rfl,rfl⟩
        (try go_wp2_with fail)
        refine hK.out _ _ ?_ (fun H_=>?_)
        ·exact H_
        clear hK K
        (try simp only[Act.put,sA,s0,sS])
        refine tG 36 ?_;refine tG 37 ?_;refine tG 38 ?_;refine tG 39 ?_;refine kG 40 ?_;refine kG 41 ?_;refine kG 42 ?_;refine kG 43 ?_;refine tG 44 ?_;refine wpAnyH_done (by kernel_rfl) ?_ _;have HF:=hid (HNo.o (by unfold yB within;rw[t1,t3,HGe.o,bFi t5];rfl));go_wp2_with fail
        go_ret;exact⟨ze HF.o.symm,HBw.o _ HBe.o⟩
      ·have t4:b.gs[k].gb.toList.isEmpty=true:=by simpa using t4
       have HGe:=hid t4;refine tG 31 ?_;refine tG 32 ?_;refine kG 33 ?_;refine kG 34 ?_;refine kG 35 ?_;refine kG 36 ?_;refine tG 37 ?_;refine tG 38 ?_;refine tG 39 ?_;refine tG 40 ?_;refine tG 41 ?_;refine cH 42 rfl fun K hK=>?_
       go_simp
       refine(zba b.gs[k].r v0 q0 _ HSm.o.r hIq).mono ?_;rintro e w6⟨rfl,hb6⟩;have hX6:=za hX hz hb6;have hY6:=za hY hy hb6;have HBe6:=hid (HBe.o.trans (hb6.mono HBe.o.size));clear hb6
       (try go_wp2_with fail)
       refine hK.out _ _ ?_ (fun H_=>?_)
       ·exact⟨hX6,hY6⟩
       clear hK K
       (try simp only[Act.put,sA,s0,sS])
       refine tG 43 ?_;refine tG 44 ?_;refine wpAnyH_done (by kernel_rfl) ?_ _
       by_cases t6:zQ b.gs[k].r=true
       ·have HG1:Hid (yB b.given b.gs[k]=true):=by unfold Hid yB within;rw[t1,t3,HGe.o,t6];rfl
        have HC:=HYes.o HG1.o (fun m e=>by omega);have HD:=hid HC;rw[t6];clear t6 HC;go_wp2_with fail
        exact⟨⟨k+1,by omega,by go_num,HD.o.1,HD.o.2,HBe6.o⟩,by simp[intOf];omega⟩
       ·have HF:=hid (HNo.o (by unfold yB within;rw[t1,t3,HGe.o,bFi t6];rfl))
        rw[bFi t6];clear t6;go_wp2_with fail
        go_ret;exact⟨ze HF.o.symm,HBw.o _ HBe6.o⟩
     ·refine cH 25 rfl fun K hK=>?_
      go_simp
      refine(zf (bFi t3) (zi _ _ HSm.o.to)).mono ?_;rintro e w6⟨rfl,rfl⟩
      (try go_wp2_with fail)
      refine hK.out _ _ ?_ (fun H_=>?_)
      ·exact H_
      clear hK K
      (try simp only[Act.put,sA,s0,sS])
      refine tG 26 ?_;refine tG 27 ?_;refine tG 28 ?_;refine kG 29 ?_;refine kG 30 ?_;refine kG 31 ?_;refine kG 32 ?_;refine kG 33 ?_;refine kG 34 ?_;refine kG 35 ?_;refine kG 36 ?_;refine kG 37 ?_;refine tG 38 ?_;refine tG 39 ?_;refine kG 40 ?_;refine kG 41 ?_;refine kG 42 ?_;refine kG 43 ?_;refine tG 44 ?_;refine wpAnyH_done (by kernel_rfl) ?_ _;have HF:=hid (HNo.o (by unfold yB within;rw[t1,bFi t3];rfl));go_wp2_with fail
      go_ret;exact⟨ze HF.o.symm,HBw.o _ HBe.o⟩
    ·refine cH 4 rfl fun K hK=>?_
     go_simp
     refine(zf (bFi t1) (zM _ _ _ _)).mono ?_;rintro e w6⟨rfl,rfl⟩
     (try go_wp2_with fail)
     refine hK.out _ _ ?_ (fun H_=>?_)
     ·exact H_
     clear hK K
     (try simp only[Act.put,sA,s0,sS])
     refine tG 5 ?_;refine tG 6 ?_;refine kG 7 ?_;refine kG 8 ?_;refine kG 9 ?_;refine kG 10 ?_;refine kG 11 ?_;refine kG 12 ?_;refine kG 13 ?_;refine kG 14 ?_;refine kG 15 ?_;refine kG 16 ?_;refine kG 17 ?_;refine kG 18 ?_;refine kG 19 ?_;refine kG 20 ?_;refine tG 21 ?_;refine tG 22 ?_;refine kG 23 ?_;refine kG 24 ?_;refine kG 25 ?_;refine kG 26 ?_;refine tG 27 ?_;refine tG 28 ?_;refine kG 29 ?_;refine kG 30 ?_;refine kG 31 ?_;refine kG 32 ?_;refine kG 33 ?_;refine kG 34 ?_;refine kG 35 ?_;refine kG 36 ?_;refine kG 37 ?_;refine tG 38 ?_;refine tG 39 ?_;refine kG 40 ?_;refine kG 41 ?_;refine kG 42 ?_;refine kG 43 ?_;refine tG 44 ?_;refine wpAnyH_done (by kernel_rfl) ?_ _;have HF:=hid (HNo.o (by unfold yB within;rw[bFi t1];rfl));go_wp2_with fail
     go_ret;exact⟨ze HF.o.symm,HBw.o _ HBe.o⟩
  ·have e:k=b.gs.length:=by omega
   subst e
   have HE:Hid (yP b=true):=by
    unfold Hid yP;rw[zhc HQ.o.2.1 (Nat.le_refl _),decide_eq_true HLN.o]
    have:=HQ.o.1
    rw[tOl (Nat.le_refl _)]at this;rw[this];rfl
   clear HQ hlt hk hX0;go_wp2_with fail
   go_ret;exact⟨ze HE.o.symm,HBq.o⟩
end Go.Proofs.YthdfpinbnncghaaGreat
