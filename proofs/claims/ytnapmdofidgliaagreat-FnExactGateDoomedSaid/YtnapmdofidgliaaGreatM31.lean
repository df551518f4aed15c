import Derived.Test.YtnapmdofidgliaaGreatM29
import Derived.Test.YtnapmdofidgliaaGreatM18
set_option maxHeartbeats 40000000
namespace Go.Proofs.YtnapmdofidgliaaGreat
open Go.RowKit
set_option maxRecDepth 20000 in
theorem zjd (b:Bk)(a0 a1 a2 a3:Option Addr)(c0 c1 c2 c3:Nat)(w:World)(hb:jk w b a0 a1 a2 a3) :
 Calls Tryz.prog 63 #[.agg (b.cells a0 a1 a2 a3 c0 c1 c2 c3)] w fun e w'=>e=.returned (.bool (yK b))/\Below w.heap.size w w':=by
 have HK:=hid hb;clear hb;unfold Bk.cells
 by_cases hln:b.gs.length<=24
 rotate_left
 ·have HF:Hid (yK b=false):=by unfold Hid yK;rw[decide_eq_false hln];rfl
  have hg:(24:Int)<(b.gs.length:Int):=by omega
  go_enter Tryz.func63,Tryz.ntmps63;go_wp2_with fail
  go_ret;exact⟨ze HF.out.symm,bAl _ _⟩
 have hg:decide ((24:Int)<(b.gs.length:Int))=false:=by simp;omega
 have HLN:Hid (b.gs.length<=24):=hln;clear hln;go_enter Tryz.func63,Tryz.ntmps63;go_wp2_with fail
 clear hg;have hX0:=zl w #[.int .i64 b.now,.int .i64 b.tick,.int .i64 b.given,.slice a0 b.os.length c0,.slice a1 b.gs.length c1,.slice a2 b.ls.length c2,.slice a3 b.ps.length c3] 48;have HB0:Hid (Below w.heap.size w (w.alloc (.cells #[.int .i64 b.now,.int .i64 b.tick,.int .i64 b.given,.slice a0 b.os.length c0,.slice a1 b.gs.length c1,.slice a2 b.ls.length c2,.slice a3 b.ps.length c3] 48))):=bAl _ _;obtain⟨W0,hW0⟩:∃W0,W0=w.alloc (.cells #[.int .i64 b.now,.int .i64 b.tick,.int .i64 b.given,.slice a0 b.os.length c0,.slice a1 b.gs.length c1,.slice a2 b.ls.length c2,.slice a3 b.ps.length c3] 48):=⟨_,rfl⟩
 have hz0:w.heap.size<W0.heap.size:=by rw[hW0];simp
 rw[<- hW0]at HB0 hX0 ⊢;clear hW0
 go_loopw [3] (fun iv wr=>∃k:Nat,k<=b.gs.length/\iv=.int .i64 k/\Hid ((b.gs.take k).all (yx b.given)=true/\za2 zcw b.gs k/\Below W0.heap.size W0 wr)) (fun iv _=>b.gs.length-(intOf iv).toNat)
 case atStart=>exact⟨0,Nat.zero_le _,rfl,by simp,fun i _ h=>by omega,bRf _ _⟩
 case round=>
  obtain⟨k,hk,rfl,HQ⟩:=hrel;have hkn:k<=24:=by have:=HLN.out;omega
  have hX1:=za hX0 hz0 HQ.out.2.2;have hz1:=nLt hz0 HQ.out.2.2.size;have HBq:=hid (HB0.out.trans (HQ.out.2.2.mono HB0.out.size))
  by_cases hlt:k<b.gs.length
  ·obtain⟨ob,off,v0,q0,rfl,hob,hsm,hi0,d0,d1,d2,d3,d4,d5,d6⟩:=HK.out.gs.load HBq.out k hlt
   have hob':ob<wr.heap.size:=nLt hob HBq.out.size;have hltI:(k:Int)<(b.gs.length:Int):=by omega
   have HSn:Hid ((b.gs.take (k+1)).all (yx b.given)=((b.gs.take k).all (yx b.given)&&(yx b.given) b.gs[k])):=qQ _ _ _ hlt;have HBo:Hid (∀ob,Below W0.heap.size W0 (wr.alloc ob)):=fun ob=>HQ.out.2.2.alloc HQ.out.2.2.size _
   have HBw:Hid (∀W,Below W0.heap.size W0 W->Below w.heap.size w W):=fun W hW=>HB0.out.trans (hW.mono HB0.out.size)
   have HNo:Hid ((yx b.given) b.gs[k]=false->yK b=false):=fun h=>by unfold yK;rw[zaD _ _ _ hlt h];simp
   have HNa:Hid (0<k->0<=zcw (b.gs[k-1]'(by omega)) b.gs[k]->yK b=false):=fun h0 h=>by unfold yK;rw[zeq hlt h0 (Int.not_lt.2 h)];simp
   have HYes:Hid ((yx b.given) b.gs[k]=true->(∀m (e:k=m+1),zcw (b.gs[m]'(by omega)) b.gs[k]<0)->(b.gs.take (k+1)).all (yx b.given)=true/\za2 zcw b.gs (k+1)):=fun h h'=>⟨by rw[HSn.out,HQ.out.1,h];rfl,zfm HQ.out.2.1 hlt h'⟩
   have HIt:Hid (qy wr v0 b.gs[k].r.vs/\b.gs[k].Small):=⟨hi0,hsm⟩
   clear hsm hi0;go_wp2_with fail
   have hY0:=zl wr #[.int .i64 b.gs[k].no,.string b.gs[k].to,.string b.gs[k].gb,.slice v0 b.gs[k].r.vs.length q0,.string b.gs[k].r.kd,.string b.gs[k].r.tm,.string b.gs[k].r.px] 140;have hb5:Below wr.heap.size wr (wr.alloc (.cells #[.int .i64 b.gs[k].no,.string b.gs[k].to,.string b.gs[k].gb,.slice v0 b.gs[k].r.vs.length q0,.string b.gs[k].r.kd,.string b.gs[k].r.tm,.string b.gs[k].r.px] 140)):=bAl _ _;have HBe:=HBo.out (.cells #[.int .i64 b.gs[k].no,.string b.gs[k].to,.string b.gs[k].gb,.slice v0 b.gs[k].r.vs.length q0,.string b.gs[k].r.kd,.string b.gs[k].r.tm,.string b.gs[k].r.px] 140);obtain⟨W5,hW5⟩:∃W5,W5=wr.alloc (.cells #[.int .i64 b.gs[k].no,.string b.gs[k].to,.string b.gs[k].gb,.slice v0 b.gs[k].r.vs.length q0,.string b.gs[k].r.kd,.string b.gs[k].r.tm,.string b.gs[k].r.px] 140):=⟨_,rfl⟩
   have hy0:wr.heap.size<W5.heap.size:=by rw[hW5];simp
   rw[<- hW5]at hb5 hY0 HBe ⊢;clear hW5 d0 d1 d2 d3 d4 d5 d6;have hX:=za (za hX1 hz1 hb5) (nLt hz1 hb5.size) (bRf W5.heap.size W5).drew;have hY:=za hY0 hy0 (bRf W5.heap.size W5).drew;have hz:=nLt hz1 hb5.size;have hy:=hy0;have hB:Below W0.heap.size W0 W5.drew:=HBe.drew;have hIq:=(HIt.out.1.mono hb5).mono (bRf W5.heap.size W5).drew;have hobz:ob<W5.drew.heap.size:=nLt hob' hb5.size
   have hP:∀h0:0<k,W5.drew.cell? ⟨ob,off+(k-1)*7,none⟩=some (.int .i64 (b.gs[k-1]'(by omega)).no):=fun h0=>by
    have hBq5:=(HBq.out.trans (hb5.mono HBq.out.size)).drew;obtain⟨ob',off',v0',q0',e',hob'',_,_,dd,_⟩:=HK.out.gs.load hBq5 (k-1) (by omega)
    cases e'
    exact dd
   have HBe:Hid (Below W0.heap.size W0 W5.drew):=hB;have HSm:Hid (b.gs[k].Small):=HIt.out.2;clear hX1 hz1 hb5 hY0 hy0 HBo hX0 hz0 hob hob' HIt HSn
   by_cases hk0:0<k
   ·have hk1:(0:Int)<=(k:Int)-1:=by omega
    have hk2:(k:Int)-1<(b.gs.length:Int):=by omega
    have hg:decide (0<k)=true:=decide_eq_true hk0;have hkw:IntKind.i64.wrap ((k:Int)-1)=(k:Int)-1:=by rw[IntKind.wrap_i64];omega
    have hkN:((k:Int)-1).toNat=k-1:=by omega
    have hk3:(1:Int)<=(k:Int):=by omega
    have hPk:=hP hk0;clear hP;refine wp_region_held_drew (S:=fun w'=>(∀j,w'.cell? ⟨w.heap.size,j,none⟩=(#[.int .i64 b.now,.int .i64 b.tick,.int .i64 b.given,.slice a0 b.os.length c0,.slice (some ⟨ob,off,none⟩) b.gs.length c1,.slice a2 b.ls.length c2,.slice a3 b.ps.length c3]:Array Value)[j]?)/\(∀j,w'.cell? ⟨wr.heap.size,j,none⟩=(#[.int .i64 b.gs[k].no,.string b.gs[k].to,.string b.gs[k].gb,.slice v0 b.gs[k].r.vs.length q0,.string b.gs[k].r.kd,.string b.gs[k].r.tm,.string b.gs[k].r.px]:Array Value)[j]?)/\w'.cell? ⟨ob,off+(k-1)*7,none⟩=some (.int .i64 (b.gs[k-1]'(by omega)).no)) (by kernel_rfl) ⟨hX,hY,hPk⟩ (fun H_=>?_);refine tG 0 ?_;refine tG 1 ?_;refine tG 2 ?_;refine tG 3 ?_
    by_cases t1:(decide (1<=b.gs[k].no)&&decide (b.gs[k].no<=b.given))=true
    ·refine cH 4 rfl fun K hK=>?_
     go_simp
     refine(zf t1 (yB _ _ _ _)).mono ?_;rintro e w6⟨rfl,rfl⟩
     (try go_wp2_with fail)
     refine hK.out _ _ ?_ (fun H_=>?_)
     ·exact H_
     clear hK K
     (try simp only[Act.put,sA,s0,sS])
     refine tG 5 ?_;refine tG 6 ?_;refine tG 7 ?_;refine tG 8 ?_;refine tG 9 ?_;refine tG 10 ?_;refine tG 11 ?_;refine tG 12 ?_;refine tG 13 ?_;refine tG 14 ?_;refine tG 15 ?_;refine tG 16 ?_;refine tG 17 ?_;refine tG 18 ?_
     by_cases t2:(b.gs[k-1]'(by omega)).no<b.gs[k].no
     ·have hd2:decide (b.gs[k].no<=(b.gs[k-1]'(by omega)).no)=false:=decide_eq_false (by omega)
      have HT2:Hid ((b.gs[k-1]'(by omega)).no<b.gs[k].no):=t2;clear t2;refine tG 19 ?_;refine tG 20 ?_;refine tG 21 ?_;refine tG 22 ?_;refine tG 23 ?_;refine tG 24 ?_
      by_cases t3:zB b.gs[k].to=true
      ·refine cH 25 rfl fun K hK=>?_
       go_simp
       refine(zf t3 (zi _ _ HSm.out.to)).mono ?_;rintro e w6⟨rfl,rfl⟩
       (try go_wp2_with fail)
       refine hK.out _ _ ?_ (fun H_=>?_)
       ·exact H_
       clear hK K
       (try simp only[Act.put,sA,s0,sS])
       refine tG 26 ?_;refine tG 27 ?_;refine tG 28 ?_;refine tG 29 ?_;refine tG 30 ?_
       by_cases t4:b.gs[k].gb.toList.isEmpty=false
       ·have HGe:=hid t4
        refine tG 31 ?_;refine tG 32 ?_;refine tG 33 ?_;refine tG 34 ?_
        by_cases t5:zB b.gs[k].gb=true
        ·refine cH 35 rfl fun K hK=>?_
         go_simp
         refine(zf t5 (zi _ _ HSm.out.gb)).mono ?_;rintro e w6⟨rfl,rfl⟩
         (try go_wp2_with fail)
         refine hK.out _ _ ?_ (fun H_=>?_)
         ·exact H_
         clear hK K
         (try simp only[Act.put,sA,s0,sS])
         refine tG 36 ?_;refine tG 37 ?_;refine tG 38 ?_;refine tG 39 ?_;refine tG 40 ?_;refine tG 41 ?_;refine cH 42 rfl fun K hK=>?_
         go_simp
         refine(zcF b.gs[k].r v0 q0 _ HSm.out.r hIq).mono ?_;rintro e w6⟨rfl,hb6⟩;have hX6:=za hX hz hb6;have hY6:=za hY hy hb6;have HBe6:=hid (HBe.out.trans (hb6.mono HBe.out.size));have hP6:=(hb6.cell (p:=⟨ob,off+(k-1)*7,none⟩) hobz).trans hPk;clear hb6
         (try go_wp2_with fail)
         refine hK.out _ _ ?_ (fun H_=>?_)
         ·exact⟨hX6,hY6,hP6⟩
         clear hK K
         (try simp only[Act.put,sA,s0,sS])
         refine tG 43 ?_;refine tG 44 ?_;refine wpAnyH_done (by kernel_rfl) ?_ _
         by_cases t6:zS b.gs[k].r=true
         ·have HG1:Hid (yx b.given b.gs[k]=true):=by unfold Hid yx within;rw[t1,t3,HGe.out,t5,t6];rfl
          have HC:=HYes.out HG1.out (zgr hlt (fun _=>(zjy _ _).2 HT2.out));have HD:=hid HC;rw[t6];clear t6 HC;go_wp2_with fail
          exact⟨⟨k+1,by omega,by go_num,HD.out.1,HD.out.2,HBe6.out⟩,by simp[intOf];omega⟩
         ·have HF:=hid (HNo.out (by unfold yx within;rw[t1,t3,HGe.out,t5,bFi t6];rfl))
          rw[bFi t6];clear t6;go_wp2_with fail
          go_ret;exact⟨ze HF.out.symm,HBw.out _ HBe6.out⟩
        ·refine cH 35 rfl fun K hK=>?_
         go_simp
         refine(zf (bFi t5) (zi _ _ HSm.out.gb)).mono ?_;rintro e w6⟨rfl,rfl⟩
         (try go_wp2_with fail)
         refine hK.out _ _ ?_ (fun H_=>?_)
         ·exact H_
         clear hK K
         (try simp only[Act.put,sA,s0,sS])
         refine tG 36 ?_;refine tG 37 ?_;refine tG 38 ?_;refine tG 39 ?_;refine kG 40 ?_;refine kG 41 ?_;refine kG 42 ?_;refine kG 43 ?_;refine tG 44 ?_;refine wpAnyH_done (by kernel_rfl) ?_ _;have HF:=hid (HNo.out (by unfold yx within;rw[t1,t3,HGe.out,bFi t5];rfl));go_wp2_with fail
         go_ret;exact⟨ze HF.out.symm,HBw.out _ HBe.out⟩
       ·have t4:b.gs[k].gb.toList.isEmpty=true:=by simpa using t4
        have HGe:=hid t4;refine tG 31 ?_;refine tG 32 ?_;refine kG 33 ?_;refine kG 34 ?_;refine kG 35 ?_;refine kG 36 ?_;refine tG 37 ?_;refine tG 38 ?_;refine tG 39 ?_;refine tG 40 ?_;refine tG 41 ?_;refine cH 42 rfl fun K hK=>?_
        go_simp
        refine(zcF b.gs[k].r v0 q0 _ HSm.out.r hIq).mono ?_;rintro e w6⟨rfl,hb6⟩;have hX6:=za hX hz hb6;have hY6:=za hY hy hb6;have HBe6:Hid (Below W0.heap.size W0 w6):=HBe.out.trans (hb6.mono HBe.out.size);have hP6:=(hb6.cell (p:=⟨ob,off+(k-1)*7,none⟩) hobz).trans hPk;clear hb6
        (try go_wp2_with fail)
        refine hK.out _ _ ?_ (fun H_=>?_)
        ·exact⟨hX6,hY6,hP6⟩
        clear hK K
        (try simp only[Act.put,sA,s0,sS])
        refine tG 43 ?_;refine tG 44 ?_;refine wpAnyH_done (by kernel_rfl) ?_ _
        by_cases t6:zS b.gs[k].r=true
        ·have HG1:Hid (yx b.given b.gs[k]=true):=by unfold Hid yx within;rw[t1,t3,HGe.out,t6];rfl
         have HC:=HYes.out HG1.out (zgr hlt (fun _=>(zjy _ _).2 HT2.out));have HD:Hid (_/\_):=HC;rw[t6];clear t6 HC;go_wp2_with fail
         exact⟨⟨k+1,by omega,by go_num,HD.out.1,HD.out.2,HBe6.out⟩,by simp[intOf];omega⟩
        ·have HF:Hid (yK b=false):=HNo.out (by unfold yx within;rw[t1,t3,HGe.out,bFi t6];rfl)
         rw[bFi t6];clear t6;go_wp2_with fail
         go_ret;exact⟨ze HF.out.symm,HBw.out _ HBe6.out⟩
      ·refine cH 25 rfl fun K hK=>?_
       go_simp
       refine(zf (bFi t3) (zi _ _ HSm.out.to)).mono ?_;rintro e w6⟨rfl,rfl⟩
       (try go_wp2_with fail)
       refine hK.out _ _ ?_ (fun H_=>?_)
       ·exact H_
       clear hK K
       (try simp only[Act.put,sA,s0,sS])
       refine tG 26 ?_;refine tG 27 ?_;refine tG 28 ?_;refine kG 29 ?_;refine kG 30 ?_;refine kG 31 ?_;refine kG 32 ?_;refine kG 33 ?_;refine kG 34 ?_;refine kG 35 ?_;refine kG 36 ?_;refine kG 37 ?_;refine tG 38 ?_;refine tG 39 ?_;refine kG 40 ?_;refine kG 41 ?_;refine kG 42 ?_;refine kG 43 ?_;refine tG 44 ?_;refine wpAnyH_done (by kernel_rfl) ?_ _;have HF:Hid (yK b=false):=HNo.out (by unfold yx within;rw[t1,bFi t3];rfl);go_wp2_with fail
       go_ret;exact⟨ze HF.out.symm,HBw.out _ HBe.out⟩
     ·have hd2:decide (b.gs[k].no<=(b.gs[k-1]'(by omega)).no)=true:=decide_eq_true (by omega)
      have HT2:Hid (¬(b.gs[k-1]'(by omega)).no<b.gs[k].no):=t2;clear t2;refine tG 19 ?_;refine tG 20 ?_;refine tG 21 ?_;refine tG 22 ?_;refine kG 23 ?_;refine kG 24 ?_;refine kG 25 ?_;refine kG 26 ?_;refine tG 27 ?_;refine tG 28 ?_;refine kG 29 ?_;refine kG 30 ?_;refine kG 31 ?_;refine kG 32 ?_;refine kG 33 ?_;refine kG 34 ?_;refine kG 35 ?_;refine kG 36 ?_;refine kG 37 ?_;refine tG 38 ?_;refine tG 39 ?_;refine kG 40 ?_;refine kG 41 ?_;refine kG 42 ?_;refine kG 43 ?_;refine tG 44 ?_;refine wpAnyH_done (by kernel_rfl) ?_ _;have HF:=hid (HNa.out (by omega) (Int.not_lt.1 (fun h=>absurd ((zjy _ _).1 h) (by have:=HT2.out;omega))));go_wp2_with fail
      go_ret;exact⟨ze HF.out.symm,HBw.out _ HBe.out⟩
    ·refine cH 4 rfl fun K hK=>?_
     go_simp
     refine(zf (bFi t1) (yB _ _ _ _)).mono ?_;rintro e w6⟨rfl,rfl⟩
     (try go_wp2_with fail)
     refine hK.out _ _ ?_ (fun H_=>?_)
     ·exact H_
     clear hK K
     (try simp only[Act.put,sA,s0,sS])
     refine tG 5 ?_;refine tG 6 ?_;refine kG 7 ?_;refine kG 8 ?_;refine kG 9 ?_;refine kG 10 ?_;refine kG 11 ?_;refine kG 12 ?_;refine kG 13 ?_;refine kG 14 ?_;refine kG 15 ?_;refine kG 16 ?_;refine kG 17 ?_;refine kG 18 ?_;refine kG 19 ?_;refine kG 20 ?_;refine tG 21 ?_;refine tG 22 ?_;refine kG 23 ?_;refine kG 24 ?_;refine kG 25 ?_;refine kG 26 ?_;refine tG 27 ?_;refine tG 28 ?_;refine kG 29 ?_;refine kG 30 ?_;refine kG 31 ?_;refine kG 32 ?_;refine kG 33 ?_;refine kG 34 ?_;refine kG 35 ?_;refine kG 36 ?_;refine kG 37 ?_;refine tG 38 ?_;refine tG 39 ?_;refine kG 40 ?_;refine kG 41 ?_;refine kG 42 ?_;refine kG 43 ?_;refine tG 44 ?_;refine wpAnyH_done (by kernel_rfl) ?_ _;have HF:=hid (HNo.out (by unfold yx within;rw[bFi t1];rfl));go_wp2_with fail
     go_ret;exact⟨ze HF.out.symm,HBw.out _ HBe.out⟩
   ·have hg:=decide_eq_false hk0
    clear hP;refine wp_region_held_drew (S:=fun w'=>(∀j,w'.cell? ⟨w.heap.size,j,none⟩=(#[.int .i64 b.now,.int .i64 b.tick,.int .i64 b.given,.slice a0 b.os.length c0,.slice (some ⟨ob,off,none⟩) b.gs.length c1,.slice a2 b.ls.length c2,.slice a3 b.ps.length c3]:Array Value)[j]?)/\(∀j,w'.cell? ⟨wr.heap.size,j,none⟩=(#[.int .i64 b.gs[k].no,.string b.gs[k].to,.string b.gs[k].gb,.slice v0 b.gs[k].r.vs.length q0,.string b.gs[k].r.kd,.string b.gs[k].r.tm,.string b.gs[k].r.px]:Array Value)[j]?) ) (by kernel_rfl) ⟨hX,hY⟩ (fun H_=>?_);refine tG 0 ?_;refine tG 1 ?_;refine tG 2 ?_;refine tG 3 ?_
    by_cases t1:(decide (1<=b.gs[k].no)&&decide (b.gs[k].no<=b.given))=true
    ·refine cH 4 rfl fun K hK=>?_
     go_simp
     refine(zf t1 (yB _ _ _ _)).mono ?_;rintro e w6⟨rfl,rfl⟩
     (try go_wp2_with fail)
     refine hK.out _ _ ?_ (fun H_=>?_)
     ·exact H_
     clear hK K
     (try simp only[Act.put,sA,s0,sS])
     refine tG 5 ?_;refine tG 6 ?_;refine tG 7 ?_;refine tG 8 ?_;refine tG 9 ?_;refine kG 10 ?_;refine kG 11 ?_;refine kG 12 ?_;refine kG 13 ?_;refine kG 14 ?_;refine kG 15 ?_;refine kG 16 ?_;refine kG 17 ?_;refine kG 18 ?_;refine kG 19 ?_;refine tG 20 ?_;refine tG 21 ?_;refine tG 22 ?_;refine tG 23 ?_;refine tG 24 ?_
     by_cases t3:zB b.gs[k].to=true
     ·refine cH 25 rfl fun K hK=>?_
      go_simp
      refine(zf t3 (zi _ _ HSm.out.to)).mono ?_;rintro e w6⟨rfl,rfl⟩
      (try go_wp2_with fail)
      refine hK.out _ _ ?_ (fun H_=>?_)
      ·exact H_
      clear hK K
      (try simp only[Act.put,sA,s0,sS])
      refine tG 26 ?_;refine tG 27 ?_;refine tG 28 ?_;refine tG 29 ?_;refine tG 30 ?_
      by_cases t4:b.gs[k].gb.toList.isEmpty=false
      ·have HGe:=hid t4
       refine tG 31 ?_;refine tG 32 ?_;refine tG 33 ?_;refine tG 34 ?_
       by_cases t5:zB b.gs[k].gb=true
       ·refine cH 35 rfl fun K hK=>?_
        go_simp
        refine(zf t5 (zi _ _ HSm.out.gb)).mono ?_;rintro e w6⟨rfl,rfl⟩
        (try go_wp2_with fail)
        refine hK.out _ _ ?_ (fun H_=>?_)
        ·exact H_
        clear hK K
        (try simp only[Act.put,sA,s0,sS])
        refine tG 36 ?_;refine tG 37 ?_;refine tG 38 ?_;refine tG 39 ?_;refine tG 40 ?_;refine tG 41 ?_;refine cH 42 rfl fun K hK=>?_
        go_simp
        refine(zcF b.gs[k].r v0 q0 _ HSm.out.r hIq).mono ?_;rintro e w6⟨rfl,hb6⟩;have hX6:=za hX hz hb6;have hY6:=za hY hy hb6;have HBe6:=hid (HBe.out.trans (hb6.mono HBe.out.size));clear hb6
        (try go_wp2_with fail)
        refine hK.out _ _ ?_ (fun H_=>?_)
        ·exact⟨hX6,hY6⟩
        clear hK K
        (try simp only[Act.put,sA,s0,sS])
        refine tG 43 ?_;refine tG 44 ?_;refine wpAnyH_done (by kernel_rfl) ?_ _
        by_cases t6:zS b.gs[k].r=true
        ·have HG1:Hid (yx b.given b.gs[k]=true):=by unfold Hid yx within;rw[t1,t3,HGe.out,t5,t6];rfl
         have HC:=HYes.out HG1.out (fun m e=>by omega);have HD:=hid HC;rw[t6];clear t6 HC;go_wp2_with fail
         exact⟨⟨k+1,by omega,by go_num,HD.out.1,HD.out.2,HBe6.out⟩,by simp[intOf];omega⟩
        ·have HF:=hid (HNo.out (by unfold yx within;rw[t1,t3,HGe.out,t5,bFi t6];rfl))
         rw[bFi t6];clear t6;go_wp2_with fail
         go_ret;exact⟨ze HF.out.symm,HBw.out _ HBe6.out⟩
       ·refine cH 35 rfl fun K hK=>?_
        go_simp
        refine(zf (bFi t5) (zi _ _ HSm.out.gb)).mono ?_;rintro e w6⟨rfl,rfl⟩
        (try go_wp2_with fail)
        refine hK.out _ _ ?_ (fun H_=>?_)
        ·exact H_
        clear hK K
        (try simp only[Act.put,sA,s0,sS])
        refine tG 36 ?_;refine tG 37 ?_;refine tG 38 ?_;refine tG 39 ?_;refine kG 40 ?_;refine kG 41 ?_;refine kG 42 ?_;refine kG 43 ?_;refine tG 44 ?_;refine wpAnyH_done (by kernel_rfl) ?_ _;have HF:=hid (HNo.out (by unfold yx within;rw[t1,t3,HGe.out,bFi t5];rfl));go_wp2_with fail
        go_ret;exact⟨ze HF.out.symm,HBw.out _ HBe.out⟩
      ·have t4:b.gs[k].gb.toList.isEmpty=true:=by simpa using t4
       have HGe:=hid t4;refine tG 31 ?_;refine tG 32 ?_;refine kG 33 ?_;refine kG 34 ?_;refine kG 35 ?_;refine kG 36 ?_;refine tG 37 ?_;refine tG 38 ?_;refine tG 39 ?_;refine tG 40 ?_;refine tG 41 ?_;refine cH 42 rfl fun K hK=>?_
       go_simp
       refine(zcF b.gs[k].r v0 q0 _ HSm.out.r hIq).mono ?_;rintro e w6⟨rfl,hb6⟩;have hX6:=za hX hz hb6;have hY6:=za hY hy hb6;have HBe6:=hid (HBe.out.trans (hb6.mono HBe.out.size));clear hb6
       (try go_wp2_with fail)
       refine hK.out _ _ ?_ (fun H_=>?_)
       ·exact⟨hX6,hY6⟩
       clear hK K
       (try simp only[Act.put,sA,s0,sS])
       refine tG 43 ?_;refine tG 44 ?_;refine wpAnyH_done (by kernel_rfl) ?_ _
       by_cases t6:zS b.gs[k].r=true
       ·have HG1:Hid (yx b.given b.gs[k]=true):=by unfold Hid yx within;rw[t1,t3,HGe.out,t6];rfl
        have HC:=HYes.out HG1.out (fun m e=>by omega);have HD:=hid HC;rw[t6];clear t6 HC;go_wp2_with fail
        exact⟨⟨k+1,by omega,by go_num,HD.out.1,HD.out.2,HBe6.out⟩,by simp[intOf];omega⟩
       ·have HF:=hid (HNo.out (by unfold yx within;rw[t1,t3,HGe.out,bFi t6];rfl))
        rw[bFi t6];clear t6;go_wp2_with fail
        go_ret;exact⟨ze HF.out.symm,HBw.out _ HBe6.out⟩
     ·refine cH 25 rfl fun K hK=>?_
      go_simp
      refine(zf (bFi t3) (zi _ _ HSm.out.to)).mono ?_;rintro e w6⟨rfl,rfl⟩
      (try go_wp2_with fail)
      refine hK.out _ _ ?_ (fun H_=>?_)
      ·exact H_
      clear hK K
      (try simp only[Act.put,sA,s0,sS])
      refine tG 26 ?_;refine tG 27 ?_;refine tG 28 ?_;refine kG 29 ?_;refine kG 30 ?_;refine kG 31 ?_;refine kG 32 ?_;refine kG 33 ?_;refine kG 34 ?_;refine kG 35 ?_;refine kG 36 ?_;refine kG 37 ?_;refine tG 38 ?_;refine tG 39 ?_;refine kG 40 ?_;refine kG 41 ?_;refine kG 42 ?_;refine kG 43 ?_;refine tG 44 ?_;refine wpAnyH_done (by kernel_rfl) ?_ _;have HF:=hid (HNo.out (by unfold yx within;rw[t1,bFi t3];rfl));go_wp2_with fail
      go_ret;exact⟨ze HF.out.symm,HBw.out _ HBe.out⟩
    ·refine cH 4 rfl fun K hK=>?_
     go_simp
     refine(zf (bFi t1) (yB _ _ _ _)).mono ?_;rintro e w6⟨rfl,rfl⟩
     (try go_wp2_with fail)
     refine hK.out _ _ ?_ (fun H_=>?_)
     ·exact H_
     clear hK K
     (try simp only[Act.put,sA,s0,sS])
     refine tG 5 ?_;refine tG 6 ?_;refine kG 7 ?_;refine kG 8 ?_;refine kG 9 ?_;refine kG 10 ?_;refine kG 11 ?_;refine kG 12 ?_;refine kG 13 ?_;refine kG 14 ?_;refine kG 15 ?_;refine kG 16 ?_;refine kG 17 ?_;refine kG 18 ?_;refine kG 19 ?_;refine kG 20 ?_;refine tG 21 ?_;refine tG 22 ?_;refine kG 23 ?_;refine kG 24 ?_;refine kG 25 ?_;refine kG 26 ?_;refine tG 27 ?_;refine tG 28 ?_;refine kG 29 ?_;refine kG 30 ?_;refine kG 31 ?_;refine kG 32 ?_;refine kG 33 ?_;refine kG 34 ?_;refine kG 35 ?_;refine kG 36 ?_;refine kG 37 ?_;refine tG 38 ?_;refine tG 39 ?_;refine kG 40 ?_;refine kG 41 ?_;refine kG 42 ?_;refine kG 43 ?_;refine tG 44 ?_;refine wpAnyH_done (by kernel_rfl) ?_ _;have HF:=hid (HNo.out (by unfold yx within;rw[bFi t1];rfl));go_wp2_with fail
     go_ret;exact⟨ze HF.out.symm,HBw.out _ HBe.out⟩
  ·have e:k=b.gs.length:=by omega
   subst e
   have HE:Hid (yK b=true):=by
    unfold Hid yK;rw[zgF HQ.out.2.1 (Nat.le_refl _),decide_eq_true HLN.out]
    have:=HQ.out.1
    rw[tOl (Nat.le_refl _)]at this;rw[this];rfl
   clear HQ hlt hk hX0;go_wp2_with fail
   go_ret;exact⟨ze HE.out.symm,HBq.out⟩
end Go.Proofs.YtnapmdofidgliaaGreat
