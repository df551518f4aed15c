import Derived.Test.YtaickbhifenbjaaGreatM37
import Derived.Test.YtaickbhifenbjaaGreatM42
import Derived.Test.YtaickbhifenbjaaGreatM09
import Derived.Test.YtaickbhifenbjaaGreatM12
import Derived.Test.YtaickbhifenbjaaGreatM23
import Derived.Test.YtaickbhifenbjaaGreatM28
import Derived.Test.YtaickbhifenbjaaGreatM38
import Derived.Test.YtaickbhifenbjaaGreatM39
set_option maxHeartbeats 40000000
namespace Go.Proofs.YtaickbhifenbjaaGreat
open Go.RowKit
set_option maxRecDepth 20000 in
theorem ziA (b:Bk) (a0 a1 a2 a3:Option Addr) (c0 c1 c2 c3:Nat) (w:World) (hb:qA w b a0 a1 a2 a3) :
 Calls Tryz.prog 49 #[.agg (b.cells a0 a1 a2 a3 c0 c1 c2 c3)] w fun e w'=>e = .returned (.bool (Gate.yg b))/\Below w.heap.size w w':=by
 have HK:Hid (qA w b a0 a1 a2 a3):=hb
 clear hb
 unfold Bk.cells
 by_cases hln:b.gs.length<=24
 rotate_left
 ·have HF:Hid (Gate.yg b=false):=by unfold Hid Gate.yg;rw [decide_eq_false hln];rfl
  have hg:(24:Int) < (b.gs.length:Int):=by omega
  go_enter Tryz.func49,Tryz.ntmps49
  go_wp2_with fail
  go_ret
  exact ⟨ze HF.out.symm,(Below.refl _ _).alloc (Nat.le_refl _) _⟩
 have hg:decide ((24:Int) < (b.gs.length:Int))=false:=by simp;omega
 have HLN:Hid (b.gs.length<=24):=hln
 clear hln
 go_enter Tryz.func49,Tryz.ntmps49
 go_wp2_with fail
 clear hg
 have hX0:=zl w #[.int .i64 b.now,.int .i64 b.tick,.int .i64 b.given,.slice a0 b.os.length c0,.slice a1 b.gs.length c1,.slice a2 b.ls.length c2,.slice a3 b.ps.length c3] 50
 have HB0:Hid (Below w.heap.size w (w.alloc (.cells #[.int .i64 b.now,.int .i64 b.tick,.int .i64 b.given,.slice a0 b.os.length c0,.slice a1 b.gs.length c1,.slice a2 b.ls.length c2,.slice a3 b.ps.length c3] 50))):=(Below.refl _ _).alloc (Nat.le_refl _) _
 obtain ⟨W0,hW0⟩:∃ W0,W0=w.alloc (.cells #[.int .i64 b.now,.int .i64 b.tick,.int .i64 b.given,.slice a0 b.os.length c0,.slice a1 b.gs.length c1,.slice a2 b.ls.length c2,.slice a3 b.ps.length c3] 50):=⟨_,rfl⟩
 have hz0:w.heap.size < W0.heap.size:=by rw [hW0];simp
 rw [<- hW0] at HB0 hX0 ⊢
 clear hW0
 go_loopw [3] (fun iv wr=>∃ k:Nat,k<=b.gs.length/\iv = .int .i64 k/\Hid ((b.gs.take k).all (Gate.yA b.given)=true/\Gate.jC Gate.zbl b.gs k/\Below W0.heap.size W0 wr)) (fun iv _=>b.gs.length - (intOf iv).toNat)
 case atStart=>exact ⟨0,Nat.zero_le _,rfl,by simp,fun i _ h=>by omega,Below.refl _ _⟩
 case round =>
  obtain ⟨k,hk,rfl,HQ⟩:=hrel
  have hkn:k<=24:=by have:=HLN.out;omega
  have hX1:=za hX0 hz0 HQ.out.2.2
  have hz1:=Nat.lt_of_lt_of_le hz0 HQ.out.2.2.size
  have HBq:Hid (Below w.heap.size w wr):=HB0.out.trans (HQ.out.2.2.mono HB0.out.size)
  by_cases hlt:k < b.gs.length
  ·obtain ⟨ob,off,v0,q0,rfl,hob,hsm,hi0,d0,d1,d2,d3,d4,d5,d6⟩:=HK.out.gs.load HBq.out k hlt
   have hob':ob < wr.heap.size:=Nat.lt_of_lt_of_le hob HBq.out.size
   have hltI:(k:Int) < (b.gs.length:Int):=by omega
   have HSn:Hid ((b.gs.take (k+1)).all (Gate.yA b.given)=((b.gs.take k).all (Gate.yA b.given) && (Gate.yA b.given) b.gs[k])):=Gate.qR _ _ _ hlt
   have HBo:Hid (∀ ob,Below W0.heap.size W0 (wr.alloc ob)):=fun ob=>HQ.out.2.2.alloc HQ.out.2.2.size _
   have HBw:Hid (∀ W,Below W0.heap.size W0 W->Below w.heap.size w W):=fun W hW=>HB0.out.trans (hW.mono HB0.out.size)
   have HNo:Hid ((Gate.yA b.given) b.gs[k]=false->Gate.yg b=false):=fun h=>by unfold Gate.yg;rw [Gate.zar _ _ _ hlt h];simp
   have HNa:Hid (0 < k->0<=Gate.zbl (b.gs[k - 1]'(by omega)) b.gs[k]->Gate.yg b=false):=fun h0 h=>by unfold Gate.yg;rw [Gate.zdn hlt h0 (Int.not_lt.2 h)];simp
   have HYes:Hid ((Gate.yA b.given) b.gs[k]=true->(∀ m (e:k=m+1),Gate.zbl (b.gs[m]'(by omega)) b.gs[k] < 0)->(b.gs.take (k+1)).all (Gate.yA b.given)=true/\Gate.jC Gate.zbl b.gs (k+1)):=fun h h'=>⟨by rw [HSn.out,HQ.out.1,h];rfl,Gate.zew HQ.out.2.1 hlt h'⟩
   have HIt:Hid (yJ wr v0 b.gs[k].r.vs/\b.gs[k].Small):=⟨hi0,hsm⟩
   clear hsm hi0
   go_wp2_with fail
   have hY0:=zl wr #[.int .i64 b.gs[k].no,.string b.gs[k].to,.string b.gs[k].gb,.slice v0 b.gs[k].r.vs.length q0,.string b.gs[k].r.kd,.string b.gs[k].r.tm,.string b.gs[k].r.px] 124
   have hb5:Below wr.heap.size wr (wr.alloc (.cells #[.int .i64 b.gs[k].no,.string b.gs[k].to,.string b.gs[k].gb,.slice v0 b.gs[k].r.vs.length q0,.string b.gs[k].r.kd,.string b.gs[k].r.tm,.string b.gs[k].r.px] 124)):=(Below.refl _ _).alloc (Nat.le_refl _) _
   have HBe:=HBo.out (.cells #[.int .i64 b.gs[k].no,.string b.gs[k].to,.string b.gs[k].gb,.slice v0 b.gs[k].r.vs.length q0,.string b.gs[k].r.kd,.string b.gs[k].r.tm,.string b.gs[k].r.px] 124)
   obtain ⟨W5,hW5⟩:∃ W5,W5=wr.alloc (.cells #[.int .i64 b.gs[k].no,.string b.gs[k].to,.string b.gs[k].gb,.slice v0 b.gs[k].r.vs.length q0,.string b.gs[k].r.kd,.string b.gs[k].r.tm,.string b.gs[k].r.px] 124):=⟨_,rfl⟩
   have hy0:wr.heap.size < W5.heap.size:=by rw [hW5];simp
   rw [<- hW5] at hb5 hY0 HBe ⊢
   clear hW5 d0 d1 d2 d3 d4 d5 d6
   have hX:=za (za hX1 hz1 hb5) (Nat.lt_of_lt_of_le hz1 hb5.size) (Below.refl W5.heap.size W5).drew
   have hY:=za hY0 hy0 (Below.refl W5.heap.size W5).drew
   have hz:w.heap.size < W5.drew.heap.size:=Nat.lt_of_lt_of_le hz1 hb5.size
   have hy:wr.heap.size < W5.drew.heap.size:=hy0
   have hB:Below W0.heap.size W0 W5.drew:=HBe.drew
   have hIq:=(HIt.out.1.mono hb5).mono (Below.refl W5.heap.size W5).drew
   have hobz:ob < W5.drew.heap.size:=Nat.lt_of_lt_of_le hob' hb5.size
   have hP:∀ h0:0 < k,W5.drew.cell? ⟨ob,off+(k - 1) * 7,none⟩=some (.int .i64 (b.gs[k - 1]'(by omega)).no):=fun h0=>by
    have hBq5:=(HBq.out.trans (hb5.mono HBq.out.size)).drew
    obtain ⟨ob',off',v0',q0',e',hob'',_,_,dd,_⟩:=HK.out.gs.load hBq5 (k - 1) (by omega)
    cases e'
    exact dd
   have HBe:Hid (Below W0.heap.size W0 W5.drew):=hB
   have HSm:Hid (b.gs[k].Small):=HIt.out.2
   clear hX1 hz1 hb5 hY0 hy0 HBo hX0 hz0 hob hob' HIt HSn
   by_cases hk0:0 < k
   ·have hk1:(0:Int)<=(k:Int) - 1:=by omega
    have hk2:(k:Int) - 1 < (b.gs.length:Int):=by omega
    have hg:decide (0 < k)=true:=decide_eq_true hk0
    have hkw:IntKind.i64.wrap ((k:Int) - 1)=(k:Int) - 1:=by rw [IntKind.wrap_i64];omega
    have hkN:((k:Int) - 1).toNat=k - 1:=by omega
    have hk3:(1:Int)<=(k:Int):=by omega
    have hPk:=hP hk0
    clear hP
    refine wp_region_held_drew (S:=fun w'=>(∀ j,w'.cell? ⟨w.heap.size,j,none⟩=(#[.int .i64 b.now,.int .i64 b.tick,.int .i64 b.given,.slice a0 b.os.length c0,.slice (some ⟨ob,off,none⟩) b.gs.length c1,.slice a2 b.ls.length c2,.slice a3 b.ps.length c3]:Array Value)[j]?)/\(∀ j,w'.cell? ⟨wr.heap.size,j,none⟩=(#[.int .i64 b.gs[k].no,.string b.gs[k].to,.string b.gs[k].gb,.slice v0 b.gs[k].r.vs.length q0,.string b.gs[k].r.kd,.string b.gs[k].r.tm,.string b.gs[k].r.px]:Array Value)[j]?)/\w'.cell? ⟨ob,off+(k - 1) * 7,none⟩=some (.int .i64 (b.gs[k - 1]'(by omega)).no)) (by kernel_rfl) ⟨hX,hY,hPk⟩ (fun hHeld=>?_)
    refine tH 0 rfl hHeld ?_;refine tH 1 rfl hHeld ?_;refine tH 2 rfl hHeld ?_;refine tH 3 rfl hHeld ?_
    by_cases t1:(decide (1<=b.gs[k].no) && decide (b.gs[k].no<=b.given))=true
    ·refine cH 4 rfl fun K hK=>?_
     go_simp
     refine (zf t1 (yD _ _ _ _)).mono ?_
     rintro e w6 ⟨rfl,rfl⟩
     (try go_wp2_with fail)
     refine hK.out _ _ ?_ (fun hHeld=>?_)
     ·exact hHeld
     clear hK K
     (try simp only [Act.put,sA,s0,sS])
     refine tH 5 rfl hHeld ?_;refine tH 6 rfl hHeld ?_;refine tH 7 rfl hHeld ?_;refine tH 8 rfl hHeld ?_;refine tH 9 rfl hHeld ?_;refine tH 10 rfl hHeld ?_;refine tH 11 rfl hHeld ?_;refine tH 12 rfl hHeld ?_;refine tH 13 rfl hHeld ?_;refine tH 14 rfl hHeld ?_;refine tH 15 rfl hHeld ?_;refine tH 16 rfl hHeld ?_;refine tH 17 rfl hHeld ?_;refine tH 18 rfl hHeld ?_
     by_cases t2:(b.gs[k - 1]'(by omega)).no < b.gs[k].no
     ·have hd2:decide (b.gs[k].no<=(b.gs[k - 1]'(by omega)).no)=false:=decide_eq_false (by omega)
      have HT2:Hid ((b.gs[k - 1]'(by omega)).no < b.gs[k].no):=t2
      clear t2
      refine tH 19 rfl hHeld ?_;refine tH 20 rfl hHeld ?_;refine tH 21 rfl hHeld ?_;refine tH 22 rfl hHeld ?_;refine tH 23 rfl hHeld ?_;refine tH 24 rfl hHeld ?_
      by_cases t3:Gate.zx b.gs[k].to=true
      ·refine cH 25 rfl fun K hK=>?_
       go_simp
       refine (zf t3 (zh _ _ HSm.out.to)).mono ?_
       rintro e w6 ⟨rfl,rfl⟩
       (try go_wp2_with fail)
       refine hK.out _ _ ?_ (fun hHeld=>?_)
       ·exact hHeld
       clear hK K
       (try simp only [Act.put,sA,s0,sS])
       refine tH 26 rfl hHeld ?_;refine tH 27 rfl hHeld ?_;refine tH 28 rfl hHeld ?_;refine tH 29 rfl hHeld ?_;refine tH 30 rfl hHeld ?_
       by_cases t4:b.gs[k].gb.toList.isEmpty=false
       ·have HGe:Hid (b.gs[k].gb.toList.isEmpty=false):=t4
        refine tH 31 rfl hHeld ?_;refine tH 32 rfl hHeld ?_;refine tH 33 rfl hHeld ?_;refine tH 34 rfl hHeld ?_
        by_cases t5:Gate.zx b.gs[k].gb=true
        ·refine cH 35 rfl fun K hK=>?_
         go_simp
         refine (zf t5 (zh _ _ HSm.out.gb)).mono ?_
         rintro e w6 ⟨rfl,rfl⟩
         (try go_wp2_with fail)
         refine hK.out _ _ ?_ (fun hHeld=>?_)
         ·exact hHeld
         clear hK K
         (try simp only [Act.put,sA,s0,sS])
         refine tH 36 rfl hHeld ?_;refine tH 37 rfl hHeld ?_;refine tH 38 rfl hHeld ?_;refine tH 39 rfl hHeld ?_;refine tH 40 rfl hHeld ?_;refine tH 41 rfl hHeld ?_
         refine cH 42 rfl fun K hK=>?_
         go_simp
         refine (zb3 b.gs[k].r v0 q0 _ HSm.out.r hIq).mono ?_
         rintro e w6 ⟨rfl,hb6⟩
         have hX6:=za hX hz hb6
         have hY6:=za hY hy hb6
         have HBe6:Hid (Below W0.heap.size W0 w6):=HBe.out.trans (hb6.mono HBe.out.size)
         have hP6:=(hb6.cell (p:=⟨ob,off+(k - 1) * 7,none⟩) hobz).trans hPk
         clear hb6
         (try go_wp2_with fail)
         refine hK.out _ _ ?_ (fun hHeld=>?_)
         ·exact ⟨hX6,hY6,hP6⟩
         clear hK K
         (try simp only [Act.put,sA,s0,sS])
         refine tH 43 rfl hHeld ?_;refine tH 44 rfl hHeld ?_
         refine wpAnyH_done (by kernel_rfl) ?_ _
         by_cases t6:Gate.zW b.gs[k].r=true
         ·have HG1:Hid (Gate.yA b.given b.gs[k]=true):=by unfold Hid Gate.yA Gate.within;rw [t1,t3,HGe.out,t5,t6];rfl
          have HC:=HYes.out HG1.out (Gate.zfP hlt (fun _=>(Gate.zh7 _ _).2 HT2.out))
          have HD:Hid (_/\_):=HC
          rw [t6]
          clear t6 HC
          go_wp2_with fail
          exact ⟨⟨k+1,by omega,by go_num,HD.out.1,HD.out.2,HBe6.out⟩,by simp [intOf];omega⟩
         ·have HF:Hid (Gate.yg b=false):=HNo.out (by unfold Gate.yA Gate.within;rw [t1,t3,HGe.out,t5,Bool.eq_false_iff.2 t6];rfl)
          rw [Bool.eq_false_iff.2 t6]
          clear t6
          go_wp2_with fail
          go_ret
          exact ⟨ze HF.out.symm,HBw.out _ HBe6.out⟩
        ·refine cH 35 rfl fun K hK=>?_
         go_simp
         refine (zf (Bool.eq_false_iff.2 t5) (zh _ _ HSm.out.gb)).mono ?_
         rintro e w6 ⟨rfl,rfl⟩
         (try go_wp2_with fail)
         refine hK.out _ _ ?_ (fun hHeld=>?_)
         ·exact hHeld
         clear hK K
         (try simp only [Act.put,sA,s0,sS])
         refine tH 36 rfl hHeld ?_;refine tH 37 rfl hHeld ?_;refine tH 38 rfl hHeld ?_;refine tH 39 rfl hHeld ?_;refine kH 40 rfl hHeld ?_;refine kH 41 rfl hHeld ?_;refine kH 42 rfl hHeld ?_;refine kH 43 rfl hHeld ?_;refine tH 44 rfl hHeld ?_
         refine wpAnyH_done (by kernel_rfl) ?_ _
         have HF:Hid (Gate.yg b=false):=HNo.out (by unfold Gate.yA Gate.within;rw [t1,t3,HGe.out,Bool.eq_false_iff.2 t5];rfl)
         go_wp2_with fail
         go_ret
         exact ⟨ze HF.out.symm,HBw.out _ HBe.out⟩
       ·have t4:b.gs[k].gb.toList.isEmpty=true:=by simpa using t4
        have HGe:Hid (b.gs[k].gb.toList.isEmpty=true):=t4
        refine tH 31 rfl hHeld ?_;refine tH 32 rfl hHeld ?_;refine kH 33 rfl hHeld ?_;refine kH 34 rfl hHeld ?_;refine kH 35 rfl hHeld ?_;refine kH 36 rfl hHeld ?_;refine tH 37 rfl hHeld ?_;refine tH 38 rfl hHeld ?_;refine tH 39 rfl hHeld ?_;refine tH 40 rfl hHeld ?_;refine tH 41 rfl hHeld ?_
        refine cH 42 rfl fun K hK=>?_
        go_simp
        refine (zb3 b.gs[k].r v0 q0 _ HSm.out.r hIq).mono ?_
        rintro e w6 ⟨rfl,hb6⟩
        have hX6:=za hX hz hb6
        have hY6:=za hY hy hb6
        have HBe6:Hid (Below W0.heap.size W0 w6):=HBe.out.trans (hb6.mono HBe.out.size)
        have hP6:=(hb6.cell (p:=⟨ob,off+(k - 1) * 7,none⟩) hobz).trans hPk
        clear hb6
        (try go_wp2_with fail)
        refine hK.out _ _ ?_ (fun hHeld=>?_)
        ·exact ⟨hX6,hY6,hP6⟩
        clear hK K
        (try simp only [Act.put,sA,s0,sS])
        refine tH 43 rfl hHeld ?_;refine tH 44 rfl hHeld ?_
        refine wpAnyH_done (by kernel_rfl) ?_ _
        by_cases t6:Gate.zW b.gs[k].r=true
        ·have HG1:Hid (Gate.yA b.given b.gs[k]=true):=by unfold Hid Gate.yA Gate.within;rw [t1,t3,HGe.out,t6];rfl
         have HC:=HYes.out HG1.out (Gate.zfP hlt (fun _=>(Gate.zh7 _ _).2 HT2.out))
         have HD:Hid (_/\_):=HC
         rw [t6]
         clear t6 HC
         go_wp2_with fail
         exact ⟨⟨k+1,by omega,by go_num,HD.out.1,HD.out.2,HBe6.out⟩,by simp [intOf];omega⟩
        ·have HF:Hid (Gate.yg b=false):=HNo.out (by unfold Gate.yA Gate.within;rw [t1,t3,HGe.out,Bool.eq_false_iff.2 t6];rfl)
         rw [Bool.eq_false_iff.2 t6]
         clear t6
         go_wp2_with fail
         go_ret
         exact ⟨ze HF.out.symm,HBw.out _ HBe6.out⟩
      ·refine cH 25 rfl fun K hK=>?_
       go_simp
       refine (zf (Bool.eq_false_iff.2 t3) (zh _ _ HSm.out.to)).mono ?_
       rintro e w6 ⟨rfl,rfl⟩
       (try go_wp2_with fail)
       refine hK.out _ _ ?_ (fun hHeld=>?_)
       ·exact hHeld
       clear hK K
       (try simp only [Act.put,sA,s0,sS])
       refine tH 26 rfl hHeld ?_;refine tH 27 rfl hHeld ?_;refine tH 28 rfl hHeld ?_;refine kH 29 rfl hHeld ?_;refine kH 30 rfl hHeld ?_;refine kH 31 rfl hHeld ?_;refine kH 32 rfl hHeld ?_;refine kH 33 rfl hHeld ?_;refine kH 34 rfl hHeld ?_;refine kH 35 rfl hHeld ?_;refine kH 36 rfl hHeld ?_;refine kH 37 rfl hHeld ?_;refine tH 38 rfl hHeld ?_;refine tH 39 rfl hHeld ?_;refine kH 40 rfl hHeld ?_;refine kH 41 rfl hHeld ?_;refine kH 42 rfl hHeld ?_;refine kH 43 rfl hHeld ?_;refine tH 44 rfl hHeld ?_
       refine wpAnyH_done (by kernel_rfl) ?_ _
       have HF:Hid (Gate.yg b=false):=HNo.out (by unfold Gate.yA Gate.within;rw [t1,Bool.eq_false_iff.2 t3];rfl)
       go_wp2_with fail
       go_ret
       exact ⟨ze HF.out.symm,HBw.out _ HBe.out⟩
     ·have hd2:decide (b.gs[k].no<=(b.gs[k - 1]'(by omega)).no)=true:=decide_eq_true (by omega)
      have HT2:Hid (¬ (b.gs[k - 1]'(by omega)).no < b.gs[k].no):=t2
      clear t2
      refine tH 19 rfl hHeld ?_;refine tH 20 rfl hHeld ?_;refine tH 21 rfl hHeld ?_;refine tH 22 rfl hHeld ?_;refine kH 23 rfl hHeld ?_;refine kH 24 rfl hHeld ?_;refine kH 25 rfl hHeld ?_;refine kH 26 rfl hHeld ?_;refine tH 27 rfl hHeld ?_;refine tH 28 rfl hHeld ?_;refine kH 29 rfl hHeld ?_;refine kH 30 rfl hHeld ?_;refine kH 31 rfl hHeld ?_;refine kH 32 rfl hHeld ?_;refine kH 33 rfl hHeld ?_;refine kH 34 rfl hHeld ?_;refine kH 35 rfl hHeld ?_;refine kH 36 rfl hHeld ?_;refine kH 37 rfl hHeld ?_;refine tH 38 rfl hHeld ?_;refine tH 39 rfl hHeld ?_;refine kH 40 rfl hHeld ?_;refine kH 41 rfl hHeld ?_;refine kH 42 rfl hHeld ?_;refine kH 43 rfl hHeld ?_;refine tH 44 rfl hHeld ?_
      refine wpAnyH_done (by kernel_rfl) ?_ _
      have HF:Hid (Gate.yg b=false):=HNa.out (by omega) (Int.not_lt.1 (fun h=>absurd ((Gate.zh7 _ _).1 h) (by have:=HT2.out;omega)))
      go_wp2_with fail
      go_ret
      exact ⟨ze HF.out.symm,HBw.out _ HBe.out⟩
    ·refine cH 4 rfl fun K hK=>?_
     go_simp
     refine (zf (Bool.eq_false_iff.2 t1) (yD _ _ _ _)).mono ?_
     rintro e w6 ⟨rfl,rfl⟩
     (try go_wp2_with fail)
     refine hK.out _ _ ?_ (fun hHeld=>?_)
     ·exact hHeld
     clear hK K
     (try simp only [Act.put,sA,s0,sS])
     refine tH 5 rfl hHeld ?_;refine tH 6 rfl hHeld ?_;refine kH 7 rfl hHeld ?_;refine kH 8 rfl hHeld ?_;refine kH 9 rfl hHeld ?_;refine kH 10 rfl hHeld ?_;refine kH 11 rfl hHeld ?_;refine kH 12 rfl hHeld ?_;refine kH 13 rfl hHeld ?_;refine kH 14 rfl hHeld ?_;refine kH 15 rfl hHeld ?_;refine kH 16 rfl hHeld ?_;refine kH 17 rfl hHeld ?_;refine kH 18 rfl hHeld ?_;refine kH 19 rfl hHeld ?_;refine kH 20 rfl hHeld ?_;refine tH 21 rfl hHeld ?_;refine tH 22 rfl hHeld ?_;refine kH 23 rfl hHeld ?_;refine kH 24 rfl hHeld ?_;refine kH 25 rfl hHeld ?_;refine kH 26 rfl hHeld ?_;refine tH 27 rfl hHeld ?_;refine tH 28 rfl hHeld ?_;refine kH 29 rfl hHeld ?_;refine kH 30 rfl hHeld ?_;refine kH 31 rfl hHeld ?_;refine kH 32 rfl hHeld ?_;refine kH 33 rfl hHeld ?_;refine kH 34 rfl hHeld ?_;refine kH 35 rfl hHeld ?_;refine kH 36 rfl hHeld ?_;refine kH 37 rfl hHeld ?_;refine tH 38 rfl hHeld ?_
     refine tH 39 rfl hHeld ?_;refine kH 40 rfl hHeld ?_;refine kH 41 rfl hHeld ?_;refine kH 42 rfl hHeld ?_;refine kH 43 rfl hHeld ?_;refine tH 44 rfl hHeld ?_
     refine wpAnyH_done (by kernel_rfl) ?_ _
     have HF:Hid (Gate.yg b=false):=HNo.out (by unfold Gate.yA Gate.within;rw [Bool.eq_false_iff.2 t1];rfl)
     go_wp2_with fail
     go_ret
     exact ⟨ze HF.out.symm,HBw.out _ HBe.out⟩
   ·have hg:decide (0 < k)=false:=decide_eq_false hk0
    clear hP
    refine wp_region_held_drew (S:=fun w'=>(∀ j,w'.cell? ⟨w.heap.size,j,none⟩=(#[.int .i64 b.now,.int .i64 b.tick,.int .i64 b.given,.slice a0 b.os.length c0,.slice (some ⟨ob,off,none⟩) b.gs.length c1,.slice a2 b.ls.length c2,.slice a3 b.ps.length c3]:Array Value)[j]?)/\(∀ j,w'.cell? ⟨wr.heap.size,j,none⟩=(#[.int .i64 b.gs[k].no,.string b.gs[k].to,.string b.gs[k].gb,.slice v0 b.gs[k].r.vs.length q0,.string b.gs[k].r.kd,.string b.gs[k].r.tm,.string b.gs[k].r.px]:Array Value)[j]?) ) (by kernel_rfl) ⟨hX,hY⟩ (fun hHeld=>?_)
    refine tH 0 rfl hHeld ?_;refine tH 1 rfl hHeld ?_;refine tH 2 rfl hHeld ?_;refine tH 3 rfl hHeld ?_
    by_cases t1:(decide (1<=b.gs[k].no) && decide (b.gs[k].no<=b.given))=true
    ·refine cH 4 rfl fun K hK=>?_
     go_simp
     refine (zf t1 (yD _ _ _ _)).mono ?_
     rintro e w6 ⟨rfl,rfl⟩
     (try go_wp2_with fail)
     refine hK.out _ _ ?_ (fun hHeld=>?_)
     ·exact hHeld
     clear hK K
     (try simp only [Act.put,sA,s0,sS])
     refine tH 5 rfl hHeld ?_;refine tH 6 rfl hHeld ?_;refine tH 7 rfl hHeld ?_;refine tH 8 rfl hHeld ?_;refine tH 9 rfl hHeld ?_;refine kH 10 rfl hHeld ?_;refine kH 11 rfl hHeld ?_;refine kH 12 rfl hHeld ?_;refine kH 13 rfl hHeld ?_;refine kH 14 rfl hHeld ?_;refine kH 15 rfl hHeld ?_;refine kH 16 rfl hHeld ?_;refine kH 17 rfl hHeld ?_;refine kH 18 rfl hHeld ?_;refine kH 19 rfl hHeld ?_;refine tH 20 rfl hHeld ?_;refine tH 21 rfl hHeld ?_;refine tH 22 rfl hHeld ?_;refine tH 23 rfl hHeld ?_;refine tH 24 rfl hHeld ?_
     by_cases t3:Gate.zx b.gs[k].to=true
     ·refine cH 25 rfl fun K hK=>?_
      go_simp
      refine (zf t3 (zh _ _ HSm.out.to)).mono ?_
      rintro e w6 ⟨rfl,rfl⟩
      (try go_wp2_with fail)
      refine hK.out _ _ ?_ (fun hHeld=>?_)
      ·exact hHeld
      clear hK K
      (try simp only [Act.put,sA,s0,sS])
      refine tH 26 rfl hHeld ?_;refine tH 27 rfl hHeld ?_;refine tH 28 rfl hHeld ?_;refine tH 29 rfl hHeld ?_;refine tH 30 rfl hHeld ?_
      by_cases t4:b.gs[k].gb.toList.isEmpty=false
      ·have HGe:Hid (b.gs[k].gb.toList.isEmpty=false):=t4
       refine tH 31 rfl hHeld ?_;refine tH 32 rfl hHeld ?_;refine tH 33 rfl hHeld ?_;refine tH 34 rfl hHeld ?_
       by_cases t5:Gate.zx b.gs[k].gb=true
       ·refine cH 35 rfl fun K hK=>?_
        go_simp
        refine (zf t5 (zh _ _ HSm.out.gb)).mono ?_
        rintro e w6 ⟨rfl,rfl⟩
        (try go_wp2_with fail)
        refine hK.out _ _ ?_ (fun hHeld=>?_)
        ·exact hHeld
        clear hK K
        (try simp only [Act.put,sA,s0,sS])
        refine tH 36 rfl hHeld ?_;refine tH 37 rfl hHeld ?_;refine tH 38 rfl hHeld ?_;refine tH 39 rfl hHeld ?_;refine tH 40 rfl hHeld ?_;refine tH 41 rfl hHeld ?_
        refine cH 42 rfl fun K hK=>?_
        go_simp
        refine (zb3 b.gs[k].r v0 q0 _ HSm.out.r hIq).mono ?_
        rintro e w6 ⟨rfl,hb6⟩
        have hX6:=za hX hz hb6
        have hY6:=za hY hy hb6
        have HBe6:Hid (Below W0.heap.size W0 w6):=HBe.out.trans (hb6.mono HBe.out.size)
        clear hb6
        (try go_wp2_with fail)
        refine hK.out _ _ ?_ (fun hHeld=>?_)
        ·exact ⟨hX6,hY6⟩
        clear hK K
        (try simp only [Act.put,sA,s0,sS])
        refine tH 43 rfl hHeld ?_;refine tH 44 rfl hHeld ?_
        refine wpAnyH_done (by kernel_rfl) ?_ _
        by_cases t6:Gate.zW b.gs[k].r=true
        ·have HG1:Hid (Gate.yA b.given b.gs[k]=true):=by unfold Hid Gate.yA Gate.within;rw [t1,t3,HGe.out,t5,t6];rfl
         have HC:=HYes.out HG1.out (fun m e=>by omega)
         have HD:Hid (_/\_):=HC
         rw [t6]
         clear t6 HC
         go_wp2_with fail
         exact ⟨⟨k+1,by omega,by go_num,HD.out.1,HD.out.2,HBe6.out⟩,by simp [intOf];omega⟩
        ·have HF:Hid (Gate.yg b=false):=HNo.out (by unfold Gate.yA Gate.within;rw [t1,t3,HGe.out,t5,Bool.eq_false_iff.2 t6];rfl)
         rw [Bool.eq_false_iff.2 t6]
         clear t6
         go_wp2_with fail
         go_ret
         exact ⟨ze HF.out.symm,HBw.out _ HBe6.out⟩
       ·refine cH 35 rfl fun K hK=>?_
        go_simp
        refine (zf (Bool.eq_false_iff.2 t5) (zh _ _ HSm.out.gb)).mono ?_
        rintro e w6 ⟨rfl,rfl⟩
        (try go_wp2_with fail)
        refine hK.out _ _ ?_ (fun hHeld=>?_)
        ·exact hHeld
        clear hK K
        (try simp only [Act.put,sA,s0,sS])
        refine tH 36 rfl hHeld ?_;refine tH 37 rfl hHeld ?_;refine tH 38 rfl hHeld ?_;refine tH 39 rfl hHeld ?_;refine kH 40 rfl hHeld ?_;refine kH 41 rfl hHeld ?_;refine kH 42 rfl hHeld ?_;refine kH 43 rfl hHeld ?_;refine tH 44 rfl hHeld ?_
        refine wpAnyH_done (by kernel_rfl) ?_ _
        have HF:Hid (Gate.yg b=false):=HNo.out (by unfold Gate.yA Gate.within;rw [t1,t3,HGe.out,Bool.eq_false_iff.2 t5];rfl)
        go_wp2_with fail
        go_ret
        exact ⟨ze HF.out.symm,HBw.out _ HBe.out⟩
      ·have t4:b.gs[k].gb.toList.isEmpty=true:=by simpa using t4
       have HGe:Hid (b.gs[k].gb.toList.isEmpty=true):=t4
       refine tH 31 rfl hHeld ?_;refine tH 32 rfl hHeld ?_;refine kH 33 rfl hHeld ?_;refine kH 34 rfl hHeld ?_;refine kH 35 rfl hHeld ?_;refine kH 36 rfl hHeld ?_;refine tH 37 rfl hHeld ?_;refine tH 38 rfl hHeld ?_;refine tH 39 rfl hHeld ?_;refine tH 40 rfl hHeld ?_;refine tH 41 rfl hHeld ?_
       refine cH 42 rfl fun K hK=>?_
       go_simp
       refine (zb3 b.gs[k].r v0 q0 _ HSm.out.r hIq).mono ?_
       rintro e w6 ⟨rfl,hb6⟩
       have hX6:=za hX hz hb6
       have hY6:=za hY hy hb6
       have HBe6:Hid (Below W0.heap.size W0 w6):=HBe.out.trans (hb6.mono HBe.out.size)
       clear hb6
       (try go_wp2_with fail)
       refine hK.out _ _ ?_ (fun hHeld=>?_)
       ·exact ⟨hX6,hY6⟩
       clear hK K
       (try simp only [Act.put,sA,s0,sS])
       refine tH 43 rfl hHeld ?_;refine tH 44 rfl hHeld ?_
       refine wpAnyH_done (by kernel_rfl) ?_ _
       by_cases t6:Gate.zW b.gs[k].r=true
       ·have HG1:Hid (Gate.yA b.given b.gs[k]=true):=by unfold Hid Gate.yA Gate.within;rw [t1,t3,HGe.out,t6];rfl
        have HC:=HYes.out HG1.out (fun m e=>by omega)
        have HD:Hid (_/\_):=HC
        rw [t6]
        clear t6 HC
        go_wp2_with fail
        exact ⟨⟨k+1,by omega,by go_num,HD.out.1,HD.out.2,HBe6.out⟩,by simp [intOf];omega⟩
       ·have HF:Hid (Gate.yg b=false):=HNo.out (by unfold Gate.yA Gate.within;rw [t1,t3,HGe.out,Bool.eq_false_iff.2 t6];rfl)
        rw [Bool.eq_false_iff.2 t6]
        clear t6
        go_wp2_with fail
        go_ret
        exact ⟨ze HF.out.symm,HBw.out _ HBe6.out⟩
     ·refine cH 25 rfl fun K hK=>?_
      go_simp
      refine (zf (Bool.eq_false_iff.2 t3) (zh _ _ HSm.out.to)).mono ?_
      rintro e w6 ⟨rfl,rfl⟩
      (try go_wp2_with fail)
      refine hK.out _ _ ?_ (fun hHeld=>?_)
      ·exact hHeld
      clear hK K
      (try simp only [Act.put,sA,s0,sS])
      refine tH 26 rfl hHeld ?_;refine tH 27 rfl hHeld ?_;refine tH 28 rfl hHeld ?_;refine kH 29 rfl hHeld ?_;refine kH 30 rfl hHeld ?_;refine kH 31 rfl hHeld ?_;refine kH 32 rfl hHeld ?_;refine kH 33 rfl hHeld ?_;refine kH 34 rfl hHeld ?_;refine kH 35 rfl hHeld ?_;refine kH 36 rfl hHeld ?_;refine kH 37 rfl hHeld ?_;refine tH 38 rfl hHeld ?_;refine tH 39 rfl hHeld ?_;refine kH 40 rfl hHeld ?_;refine kH 41 rfl hHeld ?_;refine kH 42 rfl hHeld ?_;refine kH 43 rfl hHeld ?_;refine tH 44 rfl hHeld ?_
      refine wpAnyH_done (by kernel_rfl) ?_ _
      have HF:Hid (Gate.yg b=false):=HNo.out (by unfold Gate.yA Gate.within;rw [t1,Bool.eq_false_iff.2 t3];rfl)
      go_wp2_with fail
      go_ret
      exact ⟨ze HF.out.symm,HBw.out _ HBe.out⟩
    ·refine cH 4 rfl fun K hK=>?_
     go_simp
     refine (zf (Bool.eq_false_iff.2 t1) (yD _ _ _ _)).mono ?_
     rintro e w6 ⟨rfl,rfl⟩
     (try go_wp2_with fail)
     refine hK.out _ _ ?_ (fun hHeld=>?_)
     ·exact hHeld
     clear hK K
     (try simp only [Act.put,sA,s0,sS])
     refine tH 5 rfl hHeld ?_;refine tH 6 rfl hHeld ?_;refine kH 7 rfl hHeld ?_;refine kH 8 rfl hHeld ?_;refine kH 9 rfl hHeld ?_;refine kH 10 rfl hHeld ?_;refine kH 11 rfl hHeld ?_;refine kH 12 rfl hHeld ?_;refine kH 13 rfl hHeld ?_;refine kH 14 rfl hHeld ?_;refine kH 15 rfl hHeld ?_;refine kH 16 rfl hHeld ?_;refine kH 17 rfl hHeld ?_;refine kH 18 rfl hHeld ?_;refine kH 19 rfl hHeld ?_;refine kH 20 rfl hHeld ?_;refine tH 21 rfl hHeld ?_;refine tH 22 rfl hHeld ?_;refine kH 23 rfl hHeld ?_;refine kH 24 rfl hHeld ?_;refine kH 25 rfl hHeld ?_;refine kH 26 rfl hHeld ?_;refine tH 27 rfl hHeld ?_;refine tH 28 rfl hHeld ?_;refine kH 29 rfl hHeld ?_;refine kH 30 rfl hHeld ?_;refine kH 31 rfl hHeld ?_;refine kH 32 rfl hHeld ?_;refine kH 33 rfl hHeld ?_;refine kH 34 rfl hHeld ?_;refine kH 35 rfl hHeld ?_;refine kH 36 rfl hHeld ?_;refine kH 37 rfl hHeld ?_;refine tH 38 rfl hHeld ?_
     refine tH 39 rfl hHeld ?_;refine kH 40 rfl hHeld ?_;refine kH 41 rfl hHeld ?_;refine kH 42 rfl hHeld ?_;refine kH 43 rfl hHeld ?_;refine tH 44 rfl hHeld ?_
     refine wpAnyH_done (by kernel_rfl) ?_ _
     have HF:Hid (Gate.yg b=false):=HNo.out (by unfold Gate.yA Gate.within;rw [Bool.eq_false_iff.2 t1];rfl)
     go_wp2_with fail
     go_ret
     exact ⟨ze HF.out.symm,HBw.out _ HBe.out⟩
  ·have e:k=b.gs.length:=by omega
   subst e
   have HE:Hid (Gate.yg b=true):=by
    unfold Hid Gate.yg
    rw [Gate.zfB HQ.out.2.1 (Nat.le_refl _),decide_eq_true HLN.out]
    have:=HQ.out.1
    rw [List.take_of_length_le (Nat.le_refl _)] at this
    rw [this];rfl
   clear HQ hlt hk hX0
   go_wp2_with fail
   go_ret
   exact ⟨ze HE.out.symm,HBq.out⟩
set_option maxRecDepth 20000 in
theorem zdO (a a':Option Addr) (cap cap':Nat) (ss:List Shp) (ms:List Mnd) (w:World) (hw:yL w a ss) (hm:y7 w a' ms) (hml:ms.length<=1048576) :
 Calls Tryz.prog 98 #[.slice a ss.length cap,.slice a' ms.length cap'] w fun e w'=>e = .returned (.bool (Gate.yx ss ms))/\Below w.heap.size w w':=by
 have HW:Hid (yL w a ss/\y7 w a' ms):=⟨hw,hm⟩
 have hl:=hw.len
 unfold maxLen at hl
 clear hw hm
 by_cases h12:ms.length<=12
 rotate_left
 ·have HF:Hid (Gate.yx ss ms=false):=by unfold Hid Gate.yx;rw [decide_eq_false h12];simp
  go_enter Tryz.func98,Tryz.ntmps98
  go_wp2_with fail
  go_ret
  exact ⟨by rw [HF.out];rfl,Below.refl _ _⟩
 have h12I:(ms.length:Int)<=12:=by omega
 by_cases hok:Gate.yt ss=true
 rotate_left
 ·have hokf:Gate.yt ss=false:=by simpa using hok
  have HF:Hid (Gate.yx ss ms=false):=by unfold Hid Gate.yx;rw [hokf];simp
  go_enter Tryz.func98,Tryz.ntmps98
  go_wp2_with fail
  have h:=zcV a cap ss w HW.out.1
  rw [hokf] at h
  refine h.mono ?_
  rintro e w1 ⟨rfl,hb1⟩
  clear h
  go_wp2_with fail
  go_ret
  exact ⟨by rw [HF.out];rfl,hb1⟩
 have HOK:Hid (Gate.yt ss=true):=hok
 go_enter Tryz.func98,Tryz.ntmps98
 go_wp2_with fail
 have h:=zcV a cap ss w HW.out.1
 rw [hok] at h
 refine h.mono ?_
 rintro e w1 ⟨rfl,hb1⟩
 have HB1:Hid (Below w.heap.size w w1):=hb1
 clear h hb1 hok
 go_wp2_with fail
 refine (zcn _).mono ?_
 rintro e w2 ⟨rfl,hw2⟩
 have HB2:Hid (Below w.heap.size w w2/\w2.heap[w1.heap.size]?=some (.map yO 4)/\w1.heap.size < w2.heap.size):=by
  rw [hw2];exact ⟨HB1.out.trans (((Below.refl _ _).alloc (Nat.le_refl _) _).mono HB1.out.size),alloc_at _ _,by simp⟩
 clear hw2
 go_wp2_with fail
 go_loopw [25] (fun iv wr=>∃ k:Nat,k<=ms.length/\iv = .int .i64 k/\(ms.take k).all (Gate.jI ss)=true/\Below w2.heap.size w2 wr) (fun iv _=>ms.length - (intOf iv).toNat)
 case atStart=>exact ⟨0,Nat.zero_le _,rfl,rfl,Below.refl _ _⟩
 case round =>
  obtain ⟨k,hk,rfl,hall,hB⟩:=hrel
  have HB:Hid (Below w2.heap.size w2 wr/\Below w.heap.size w wr):=⟨hB,HB2.out.1.trans (hB.mono HB2.out.1.size)⟩
  have HA:Hid ((ms.take k).all (Gate.jI ss)=true):=hall
  clear hall hB
  by_cases hlt:k < ms.length
  ·obtain ⟨b,off,rfl,hb,c0,c1,c2,c3,c4,c5⟩:=HW.out.2.load HB.out.2 k hlt
   have hltI:(k:Int) < (ms.length:Int):=by omega
   have hsm:=HW.out.2.small k hlt
   have HTK:Hid ((ms.take (k+1)).all (Gate.jI ss)=Gate.jI ss ms[k]):=by
    unfold Hid;rw [List.take_succ_eq_append_getElem hlt,List.all_append,HA.out];simp
   have HNO:Hid (Gate.jI ss ms[k]=false->Gate.yx ss ms=false):=by
    intro h
    have:ms.all (Gate.jI ss)=false:=by rw [List.all_eq_false];exact ⟨_,List.getElem_mem hlt,by rw [h];simp⟩
    unfold Gate.yx;rw [this];simp
   have hba:=(Below.refl wr.heap.size wr).alloc (Nat.le_refl _) (.cells #[.string ms[k].kd,.string ms[k].fd,.string ms[k].wh,.string ms[k].wi,.string ms[k].pt,.string ms[k].fr] 117)
   have HSM:Hid (ms[k].Small):=hsm
   clear hsm
   go_wp2_with fail
   have h:=qL a cap ss ms[k].kd _ (HW.out.1.mono (HB.out.2.trans (hba.mono HB.out.2.size)))
   by_cases hkk:Gate.zH ss ms[k].kd=true
   rotate_left
   ·have hkf:Gate.zH ss ms[k].kd=false:=by simpa using hkk
    rw [hkf] at h
    refine h.mono ?_
    rintro e w3 ⟨fa,fcap,rfl,hfl,hb3⟩
    have HF:Hid (Gate.yx ss ms=false/\Below w.heap.size w w3):=⟨HNO.out (by unfold Gate.jI;rw [hkf];rfl),HB.out.2.trans ((hba.trans (hb3.mono hba.size)).mono HB.out.2.size)⟩
    clear h hba hfl hb3 c0 c1 c2 c3 c4 c5
    go_wp2_with fail
    go_ret
    exact ⟨by rw [HF.out.1];rfl,HF.out.2.alloc HF.out.2.size _⟩
   rw [hkk] at h
   refine h.mono ?_
   rintro e w3 ⟨fa,fcap,rfl,hfl,hb3⟩
   have hX3:=za (zl wr _ _) (by simp) hb3
   have hz3:wr.heap.size < w3.heap.size:=by have:=hb3.size;simp at this;omega
   have HB3:Hid (Below wr.heap.size wr w3):=hba.trans (hb3.mono hba.size)
   have hbs:=(Below.refl w3.heap.size w3).alloc (Nat.le_refl _) (.cells #[.string (Gate.shapeOf ss ms[k].kd).kd,.slice fa (Gate.shapeOf ss ms[k].kd).fs.length fcap] 115)
   have HB4:Hid (Below wr.heap.size wr (w3.alloc (.cells #[.string (Gate.shapeOf ss ms[k].kd).kd,.slice fa (Gate.shapeOf ss ms[k].kd).fs.length fcap] 115))):=HB3.out.trans (hbs.mono HB3.out.size)
   have HFL:Hid (zR (w3.alloc (.cells #[.string (Gate.shapeOf ss ms[k].kd).kd,.slice fa (Gate.shapeOf ss ms[k].kd).fs.length fcap] 115)) fa (Gate.shapeOf ss ms[k].kd).fs):=(hfl.mono hb3).mono hbs
   have HMA:Hid (Gate.jI ss ms[k]=Gate.zaL (Gate.shapeOf ss ms[k].kd).fs ms[k]):=by unfold Hid Gate.jI;rw [hkk];simp
   have HRM:Hid ((w3.alloc (.cells #[.string (Gate.shapeOf ss ms[k].kd).kd,.slice fa (Gate.shapeOf ss ms[k].kd).fs.length fcap] 115)).heap[w1.heap.size]?=some (.map yO 4)):=by
    have h1:=HB.out.1.size
    have h2:=HB2.out.2.2
    exact (HB4.out.block w1.heap.size (by omega)).trans ((HB.out.1.block w1.heap.size h2).trans HB2.out.2.1)
   clear h hba hfl hb3 hbs hkk c0 c1 c2 c3 c4 c5
   go_wp2_with fail
   have h:=zmG w1.heap.size fa fcap (Gate.shapeOf ss ms[k].kd).fs ms[k] _ HRM.out HFL.out HSM.out
   by_cases hmo:Gate.zaL (Gate.shapeOf ss ms[k].kd).fs ms[k]=true
   ·rw [hmo] at h
    refine h.mono ?_
    rintro e w5 ⟨rfl,hb5⟩
    have HY:Hid ((ms.take (k+1)).all (Gate.jI ss)=true/\Below w2.heap.size w2 w5):=⟨by rw [HTK.out,HMA.out];exact hmo,HB.out.1.trans ((HB4.out.trans (hb5.mono HB4.out.size)).mono HB.out.1.size)⟩
    clear h hb5 hmo hX3
    go_wp2_with fail
    exact ⟨⟨k+1,by omega,by go_num,HY.out.1,HY.out.2⟩,zw hlt⟩
   ·have hmf:Gate.zaL (Gate.shapeOf ss ms[k].kd).fs ms[k]=false:=by simpa using hmo
    rw [hmf] at h
    refine h.mono ?_
    rintro e w5 ⟨rfl,hb5⟩
    have HF:Hid (Gate.yx ss ms=false/\Below w.heap.size w w5):=⟨HNO.out (by rw [HMA.out];exact hmf),HB.out.2.trans ((HB4.out.trans (hb5.mono HB4.out.size)).mono HB.out.2.size)⟩
    clear h hb5 hmo hX3
    go_wp2_with fail
    go_ret
    exact ⟨by rw [HF.out.1];rfl,HF.out.2⟩
  ·have e:k=ms.length:=by omega
   have hall:=HA.out
   rw [e,List.take_of_length_le (Nat.le_refl _)] at hall
   have HALL:Hid (ms.all (Gate.jI ss)=true):=hall
   subst e
   clear hall HA
   go_wp2_with fail
   have HBw:Hid (Below w.heap.size w wr):=HB.out.2
   clear HB
   go_loopw [49] (fun iv wq=>∃ k:Nat,k<=ss.length/\iv = .int .i64 k/\(ss.take k).all (Gate.rowOk ms)=true/\Below w.heap.size w wq) (fun iv _=>ss.length - (intOf iv).toNat)
   case atStart=>exact ⟨0,Nat.zero_le _,rfl,rfl,HBw.out⟩
   case round =>
    obtain ⟨k,hk,rfl,hall,hB⟩:=hrel
    have HB:Hid (Below w.heap.size w wr):=hB
    have HA:Hid ((ss.take k).all (Gate.rowOk ms)=true):=hall
    clear hall hB
    by_cases hlt:k < ss.length
    ·obtain ⟨b,off,rfl,hb,hr⟩:=HW.out.1.rows (by rintro rfl;simp at hlt)
     obtain ⟨fa,fcap,hs0⟩:=hr k hlt
     have hs:=hs0.mono hb HB.out
     have hck:=hs.kind
     have hcl:=hs.list
     have hfl:=hs.flds
     have hltI:(k:Int) < (ss.length:Int):=by omega
     have HTK:Hid ((ss.take (k+1)).all (Gate.rowOk ms)=Gate.rowOk ms ss[k]):=by
      unfold Hid;rw [List.take_succ_eq_append_getElem hlt,List.all_append,HA.out];simp
     have HNO:Hid (Gate.rowOk ms ss[k]=false->Gate.yx ss ms=false):=by
      intro h
      have:ss.all (Gate.rowOk ms)=false:=by rw [List.all_eq_false];exact ⟨_,List.getElem_mem hlt,by rw [h];simp⟩
      unfold Gate.yx;rw [this];simp
     have hba:=(Below.refl wr.heap.size wr).alloc (Nat.le_refl _) (.cells #[.string ss[k].kd,.slice fa ss[k].fs.length fcap] 115)
     have HFL:Hid (zR (wr.alloc (.cells #[.string ss[k].kd,.slice fa ss[k].fs.length fcap] 115)) fa ss[k].fs):=hfl.mono hba
     have HBA:Hid (Below w.heap.size w (wr.alloc (.cells #[.string ss[k].kd,.slice fa ss[k].fs.length fcap] 115))):=HB.out.trans (hba.mono HB.out.size)
     clear hr hs0 hs hfl hba
     go_wp2_with fail
     have h:=zgF ss[k] ms a' fa cap' fcap _ (HW.out.2.mono HBA.out) HFL.out hml (Gate.zeP HOK.out k hlt) (Gate.zhN HOK.out HALL.out k hlt)
     by_cases hrk:Gate.rowOk ms ss[k]=true
     ·have hrk':(Gate.zI (Gate.zk ss[k] ms) ss[k].fs.length).1=true:=hrk
      refine h.mono ?_
      rintro e w5 ⟨v5,rfl,hb5,_⟩
      have HY:Hid ((ss.take (k+1)).all (Gate.rowOk ms)=true/\Below w.heap.size w w5):=⟨by rw [HTK.out];exact hrk,HBA.out.trans (hb5.mono HBA.out.size)⟩
      rw [hrk']
      clear h hb5 hrk hrk' hck hcl
      go_wp2_with fail
      exact ⟨⟨k+1,by omega,by go_num,HY.out.1,HY.out.2⟩,zw hlt⟩
     ·have hrf:Gate.rowOk ms ss[k]=false:=by simpa using hrk
      have hrk':(Gate.zI (Gate.zk ss[k] ms) ss[k].fs.length).1=false:=hrf
      refine h.mono ?_
      rintro e w5 ⟨v5,rfl,hb5,_⟩
      have HF:Hid (Gate.yx ss ms=false/\Below w.heap.size w w5):=⟨HNO.out hrf,HBA.out.trans (hb5.mono HBA.out.size)⟩
      rw [hrk']
      clear h hb5 hrk hrk' hck hcl
      go_wp2_with fail
      go_ret
      exact ⟨by rw [HF.out.1];rfl,HF.out.2⟩
    ·have e:k=ss.length:=by omega
     have hall:=HA.out
     rw [e,List.take_of_length_le (Nat.le_refl _)] at hall
     have HF:Hid (Gate.yx ss ms=true):=by unfold Hid Gate.yx;rw [HALL.out,HOK.out,hall,decide_eq_true h12];rfl
     subst e
     clear hall HA
     go_wp2_with fail
     go_ret
     exact ⟨by rw [HF.out];rfl,HB.out⟩
def Gate.zbO (l:Lw):Bool:=Gate.yx l.ss l.ms && Gate.zbh l.ts
theorem zjj (l:Lw) (a b c:Option Addr) (ca cb cc:Nat) (w:World) (hl:qp w l a b c) (hf:l.Few) :
 Calls Tryz.prog 60 #[.agg (l.cells a b c ca cb cc)] w fun e w'=>e = .returned (.bool (Gate.zbO l))/\Below w.heap.size w w':=by
 have HL:Hid (qp w l a b c):=hl
 have HF:Hid l.Few:=hf
 clear hl hf
 unfold Lw.cells
 by_cases h1:Gate.yx l.ss l.ms=true
 ·have HQ:Hid (Gate.zbO l=Gate.zbh l.ts):=by unfold Hid Gate.zbO;rw [h1];rfl
  have HM:Hid (Gate.yx l.ss l.ms=true):=h1
  clear h1
  go_enter Tryz.func60,Tryz.ntmps60
  go_wp2_with fail
  refine (zf HM.out (zdO _ _ _ _ l.ss l.ms _ (HL.out.ss.mono ((Below.refl _ _).alloc (Nat.le_refl _) _)) (HL.out.ms.mono ((Below.refl _ _).alloc (Nat.le_refl _) _)) HF.out.ms)).mono ?_
  rintro e w1 ⟨rfl,hb⟩
  have hX1:=za (zl w #[.slice a l.ss.length ca,.slice b l.ms.length cb,.slice c l.ts.length cc] 43) (by simp) hb
  have hz1:w.heap.size < w1.heap.size:=by have:=hb.size;simp at this;omega
  have hB1:Below w.heap.size w w1:=((Below.refl _ _).alloc (Nat.le_refl _) _).trans (hb.mono (by simp))
  clear hb
  go_wp2_with fail
  refine (zhg _ _ l.ts _ (HL.out.ts.mono hB1)).mono ?_
  rintro e w2 ⟨rfl,hb⟩
  have hB2:=hB1.trans (hb.mono hB1.size)
  clear hb hX1 hz1 hB1
  go_wp2_with fail
  go_ret
  exact ⟨ze HQ.out.symm,hB2⟩
 ·have h1':Gate.yx l.ss l.ms=false:=by simpa using h1
  have HQ:Hid (Gate.zbO l=false):=by unfold Hid Gate.zbO;rw [h1'];rfl
  have HM:Hid (Gate.yx l.ss l.ms=false):=h1'
  clear h1 h1'
  go_enter Tryz.func60,Tryz.ntmps60
  go_wp2_with fail
  refine (zf HM.out (zdO _ _ _ _ l.ss l.ms _ (HL.out.ss.mono ((Below.refl _ _).alloc (Nat.le_refl _) _)) (HL.out.ms.mono ((Below.refl _ _).alloc (Nat.le_refl _) _)) HF.out.ms)).mono ?_
  rintro e w1 ⟨rfl,hb⟩
  have hB1:Below w.heap.size w w1:=((Below.refl _ _).alloc (Nat.le_refl _) _).trans (hb.mono (by simp))
  clear hb
  go_wp2_with fail
  go_ret
  exact ⟨ze HQ.out.symm,hB1⟩
theorem zjs (l:Lw) (a b c:Option Addr) (ca cb cc:Nat) (w:World) (hl:qp w l a b c) :
 Calls Tryz.prog 46 #[.agg (l.cells a b c ca cb cc)] w fun e w'=>e = .returned (.bool (Gate.zbO l))/\Below w.heap.size w w':=by
 have HL:Hid (qp w l a b c):=hl
 clear hl
 unfold Lw.cells
 by_cases h1:Gate.yx l.ss l.ms=true
 ·have HQ:Hid (Gate.zbO l=Gate.zaD l.ts):=by unfold Hid Gate.zbO;rw [h1,Gate.zjX];rfl
  have HM:Hid (Gate.jm l.ss l.ms=true):=by unfold Hid;rw [<- Gate.ze7];exact h1
  clear h1
  go_enter Tryz.func46,Tryz.ntmps46
  go_wp2_with fail
  refine (zf HM.out (zdL _ _ _ _ l.ss l.ms _ (HL.out.ss.mono ((Below.refl _ _).alloc (Nat.le_refl _) _)) (HL.out.ms.mono ((Below.refl _ _).alloc (Nat.le_refl _) _)))).mono ?_
  rintro e w1 ⟨rfl,hb⟩
  have hX1:=za (zl w #[.slice a l.ss.length ca,.slice b l.ms.length cb,.slice c l.ts.length cc] 43) (by simp) hb
  have hz1:w.heap.size < w1.heap.size:=by have:=hb.size;simp at this;omega
  have hB1:Below w.heap.size w w1:=((Below.refl _ _).alloc (Nat.le_refl _) _).trans (hb.mono (by simp))
  clear hb
  go_wp2_with fail
  refine (zg7 _ _ l.ts _ (HL.out.ts.mono hB1)).mono ?_
  rintro e w2 ⟨rfl,hb⟩
  have hB2:=hB1.trans (hb.mono hB1.size)
  clear hb hX1 hz1 hB1
  go_wp2_with fail
  go_ret
  exact ⟨ze HQ.out.symm,hB2⟩
 ·have h1':Gate.yx l.ss l.ms=false:=by simpa using h1
  have HQ:Hid (Gate.zbO l=false):=by unfold Hid Gate.zbO;rw [h1'];rfl
  have HM:Hid (Gate.jm l.ss l.ms=false):=by unfold Hid;rw [<- Gate.ze7];exact h1'
  clear h1 h1'
  go_enter Tryz.func46,Tryz.ntmps46
  go_wp2_with fail
  refine (zf HM.out (zdL _ _ _ _ l.ss l.ms _ (HL.out.ss.mono ((Below.refl _ _).alloc (Nat.le_refl _) _)) (HL.out.ms.mono ((Below.refl _ _).alloc (Nat.le_refl _) _)))).mono ?_
  rintro e w1 ⟨rfl,hb⟩
  have hB1:Below w.heap.size w w1:=((Below.refl _ _).alloc (Nat.le_refl _) _).trans (hb.mono (by simp))
  clear hb
  go_wp2_with fail
  go_ret
  exact ⟨ze HQ.out.symm,hB1⟩
namespace Gate
noncomputable def zaM (l:Lw) (b:Bk):Bool:=zao b && (yj l b && (yg b && (yP l.ts b && (yZ b && zct l b))))
noncomputable def jM (l:Lw) (b:Bk):Bool:=zbO l && zaM l b
end Gate
theorem zcJ {ts:List Tm} {b:Bk} (h:Gate.yP ts b=true):Gate.rising Gate.qz b.ls/\b.ls.length<=10/\∀ i (hi:i < b.ls.length),Gate.yM ts b.ls[i]=true:=by
 unfold Gate.yP at h
 simp only [Bool.and_eq_true,decide_eq_true_eq] at h
 exact ⟨(Gate.zlV _ _).1 h.2.1,h.1,fun i hi=>List.all_eq_true.1 h.2.2 _ (List.getElem_mem _)⟩
theorem zkf {b:Bk} (h:Gate.zao b=true):0<=b.tick/\b.tick<=1000000:=by
 unfold Gate.zao Gate.within at h
 simp only [Bool.and_eq_true,decide_eq_true_eq] at h
 exact h.2.1
theorem zkv {b:Bk} (h:Gate.yZ b=true):b.ps.length<=24/\∀ i (hi:i < b.ps.length),Gate.yF b.ls b.tick b.ps[i]=true:=by
 unfold Gate.yZ at h
 simp only [Bool.and_eq_true,decide_eq_true_eq] at h
 exact ⟨h.1,fun i hi=>List.all_eq_true.1 h.2.2 _ (List.getElem_mem _)⟩
theorem zmH {b:Bk} (h:Gate.rising Gate.qz b.ls):∀ i j (hi:i < b.ls.length) (hj:j < b.ls.length),b.ls[i].tm=b.ls[j].tm->b.ls[i].rs=b.ls[j].rs->i=j:=by
 intro i j hi hj e1 e2
 have hz:∀ i j (hi:i < b.ls.length) (hj:j < b.ls.length),i < j->b.ls[i].tm=b.ls[j].tm->b.ls[i].rs=b.ls[j].rs->False:=by
  intro i j hi hj hlt e1 e2
  have h1:=Gate.zc2 (fun a b c=>Gate.za9 (a:=a) (b:=b) (c:=c)) h j hj i hlt
  have h2:Gate.qz b.ls[i] b.ls[j]=0:=by unfold Gate.qz;rw [Gate.zgb];exact ⟨e1,e2⟩
  omega
 rcases Nat.lt_trichotomy i j with h1 | h1 | h1
 ·exact (hz i j hi hj h1 e1 e2).elim
 ·exact h1
 ·exact (hz j i hj hi h1 e1.symm e2.symm).elim
theorem zoy {ts:List Tm} {b:Bk} (h:Gate.yP ts b=true) (h':Gate.yZ b=true) (hz:qE b.os<=1048576):zfE b:=by
 obtain ⟨h1,h2,h3⟩:=zcJ h
 obtain ⟨p1,p2⟩:=zkv h'
 refine ⟨zmH h1,fun k hk=>?_,fun i hi=>?_,fun i hi=>?_,by omega,by omega,hz⟩
 ·have h4:=p2 k hk
  unfold Gate.yF Gate.jq at h4
  simp only [Bool.and_eq_true] at h4
  obtain ⟨g,hg,h5⟩:=List.any_eq_true.1 h4.1
  obtain ⟨j,hj,rfl⟩:=List.mem_iff_getElem.1 hg
  simp only [Bool.and_eq_true,decide_eq_true_eq] at h5
  exact ⟨j,hj,h5.1,h5.2⟩
 ·have h4:=h3 i hi
  unfold Gate.yM Gate.jA at h4
  simp only [Bool.and_eq_true,decide_eq_true_eq] at h4
  omega
 ·have h4:=p2 i hi
  unfold Gate.yF Gate.within at h4
  simp only [Bool.and_eq_true,decide_eq_true_eq] at h4
  omega
set_option maxRecDepth 20000 in
theorem zmg (l:Lw) (la lb lc:Option Addr) (lca lcb lcc:Nat) (b:Bk) (a0 a1 a2 a3:Option Addr) (c0 c1 c2 c3:Nat) (w:World) (hb:qA w b a0 a1 a2 a3) (hl:qp w l la lb lc) (hml:l.ms.length<=1048576) (hok:Gate.yx l.ss l.ms=true) (hfw:∀ i (h:i < b.os.length),b.os[i].vs.length<=1048576/\b.os[i].hs.length<=1048576) (hz:qE b.os<=1048576) :
 Calls Tryz.prog 61 #[.agg #[.slice la l.ss.length lca,.slice lb l.ms.length lcb,.slice lc l.ts.length lcc],.agg #[.int .i64 b.now,.int .i64 b.tick,.int .i64 b.given,.slice a0 b.os.length c0,.slice a1 b.gs.length c1,.slice a2 b.ls.length c2,.slice a3 b.ps.length c3]] w fun e w'=>e = .returned (.bool (Gate.zaM l b))/\Below w.heap.size w w':=by
 have HK:Hid (qA w b a0 a1 a2 a3):=hb
 have HL:Hid (qp w l la lb lc):=hl
 have HF:Hid (l.ms.length<=1048576/\Gate.yx l.ss l.ms=true/\(∀ i (h:i < b.os.length),b.os[i].vs.length<=1048576/\b.os[i].hs.length<=1048576)/\qE b.os<=1048576):=⟨hml,hok,hfw,hz⟩
 clear hb hl hml hok hfw hz
 go_enter Tryz.func61,Tryz.ntmps61
 go_wp2_with fail
 obtain ⟨hL0,hX0⟩:=jd w #[.slice la l.ss.length lca,.slice lb l.ms.length lcb,.slice lc l.ts.length lcc] #[.int .i64 b.now,.int .i64 b.tick,.int .i64 b.given,.slice a0 b.os.length c0,.slice a1 b.gs.length c1,.slice a2 b.ls.length c2,.slice a3 b.ps.length c3] 43 50
 have HBi:Hid (Below w.heap.size w ((w.alloc (.cells #[.slice la l.ss.length lca,.slice lb l.ms.length lcb,.slice lc l.ts.length lcc] 43)).alloc (.cells #[.int .i64 b.now,.int .i64 b.tick,.int .i64 b.given,.slice a0 b.os.length c0,.slice a1 b.gs.length c1,.slice a2 b.ls.length c2,.slice a3 b.ps.length c3] 50))):=zC w _ _
 obtain ⟨W0,hW0⟩:∃ W0,W0=(w.alloc (.cells #[.slice la l.ss.length lca,.slice lb l.ms.length lcb,.slice lc l.ts.length lcc] 43)).alloc (.cells #[.int .i64 b.now,.int .i64 b.tick,.int .i64 b.given,.slice a0 b.os.length c0,.slice a1 b.gs.length c1,.slice a2 b.ls.length c2,.slice a3 b.ps.length c3] 50):=⟨_,rfl⟩
 have hz0:w.heap.size+1 < W0.heap.size:=by rw [hW0];simp
 rw [<- hW0] at HBi hX0 hL0 ⊢
 clear hW0
 refine (zjc b a0 a1 a2 a3 c0 c1 c2 c3 _).mono ?_
 rintro e w1 ⟨rfl,hb0⟩
 have hX1:=za hX0 hz0 hb0
 have hL1:=za hL0 (Nat.lt_of_succ_lt hz0) hb0
 have hz1:=Nat.lt_of_lt_of_le hz0 hb0.size
 have hy1:=Nat.lt_of_succ_lt hz1
 have HBi:Hid (Below w.heap.size w w1):=HBi.out.trans (hb0.mono HBi.out.size)
 clear hb0 hX0 hL0 hz0
 by_cases t:Gate.zao b=true
 rotate_left
 ·have HN:Hid (Gate.zaM l b=false):=by unfold Hid Gate.zaM;rw [Bool.eq_false_iff.2 t];rfl
  rw [Bool.eq_false_iff.2 t]
  clear t
  go_wp2_with fail
  go_ret
  exact ⟨ze HN.out.symm,HBi.out⟩
 have HT0:Hid (Gate.zao b=true):=t
 rw [t]
 clear t
 go_wp2_with fail
 refine (zhO l la lb lc lca lcb lcc b a0 a1 a2 a3 c0 c1 c2 c3 _ (HK.out.mono HBi.out) (HL.out.mono HBi.out) HF.out.1 HF.out.2.1 HF.out.2.2.1).mono ?_
 rintro e w2 ⟨rfl,hb1⟩
 have hX2:=za hX1 hz1 hb1
 have hL2:=za hL1 (Nat.lt_of_succ_lt hz1) hb1
 have hz2:=Nat.lt_of_lt_of_le hz1 hb1.size
 have hy2:=Nat.lt_of_succ_lt hz2
 have HBi:Hid (Below w.heap.size w w2):=HBi.out.trans (hb1.mono HBi.out.size)
 clear hb1 hX1 hL1 hz1 hy1
 by_cases t:Gate.yj l b=true
 rotate_left
 ·have HN:Hid (Gate.zaM l b=false):=by unfold Hid Gate.zaM;rw [HT0.out,Bool.eq_false_iff.2 t];rfl
  rw [Bool.eq_false_iff.2 t]
  clear t
  go_wp2_with fail
  go_ret
  exact ⟨ze HN.out.symm,HBi.out⟩
 have HT1:Hid (Gate.yj l b=true):=t
 rw [t]
 clear t
 go_wp2_with fail
 refine (zi5 b a0 a1 a2 a3 c0 c1 c2 c3 _ (HK.out.mono HBi.out)).mono ?_
 rintro e w3 ⟨rfl,hb2⟩
 have hX3:=za hX2 hz2 hb2
 have hL3:=za hL2 (Nat.lt_of_succ_lt hz2) hb2
 have hz3:=Nat.lt_of_lt_of_le hz2 hb2.size
 have hy3:=Nat.lt_of_succ_lt hz3
 have HBi:Hid (Below w.heap.size w w3):=HBi.out.trans (hb2.mono HBi.out.size)
 clear hb2 hX2 hL2 hz2 hy2
 by_cases t:Gate.yg b=true
 rotate_left
 ·have HN:Hid (Gate.zaM l b=false):=by unfold Hid Gate.zaM;rw [HT0.out,HT1.out,Bool.eq_false_iff.2 t];rfl
  rw [Bool.eq_false_iff.2 t]
  clear t
  go_wp2_with fail
  go_ret
  exact ⟨ze HN.out.symm,HBi.out⟩
 have HT2:Hid (Gate.yg b=true):=t
 rw [t]
 clear t
 go_wp2_with fail
 refine (zhI l la lb lc lca lcb lcc b a0 a1 a2 a3 c0 c1 c2 c3 _ (HK.out.mono HBi.out) (HL.out.mono HBi.out)).mono ?_
 rintro e w4 ⟨rfl,hb3⟩
 have hX4:=za hX3 hz3 hb3
 have hL4:=za hL3 (Nat.lt_of_succ_lt hz3) hb3
 have hz4:=Nat.lt_of_lt_of_le hz3 hb3.size
 have hy4:=Nat.lt_of_succ_lt hz4
 have HBi:Hid (Below w.heap.size w w4):=HBi.out.trans (hb3.mono HBi.out.size)
 clear hb3 hX3 hL3 hz3 hy3
 by_cases t:Gate.yP l.ts b=true
 rotate_left
 ·have HN:Hid (Gate.zaM l b=false):=by unfold Hid Gate.zaM;rw [HT0.out,HT1.out,HT2.out,Bool.eq_false_iff.2 t];rfl
  rw [Bool.eq_false_iff.2 t]
  clear t
  go_wp2_with fail
  go_ret
  exact ⟨ze HN.out.symm,HBi.out⟩
 have HT3:Hid (Gate.yP l.ts b=true):=t
 rw [t]
 clear t
 go_wp2_with fail
 refine (ziU b a0 a1 a2 a3 c0 c1 c2 c3 _ (HK.out.mono HBi.out) (zcJ HT3.out).1 (zcJ HT3.out).2.1 (zkf HT0.out)).mono ?_
 rintro e w5 ⟨rfl,hb4⟩
 have hX5:=za hX4 hz4 hb4
 have hL5:=za hL4 (Nat.lt_of_succ_lt hz4) hb4
 have hz5:=Nat.lt_of_lt_of_le hz4 hb4.size
 have hy5:=Nat.lt_of_succ_lt hz5
 have HBi:Hid (Below w.heap.size w w5):=HBi.out.trans (hb4.mono HBi.out.size)
 clear hb4 hX4 hL4 hz4 hy4
 by_cases t:Gate.yZ b=true
 rotate_left
 ·have HN:Hid (Gate.zaM l b=false):=by unfold Hid Gate.zaM;rw [HT0.out,HT1.out,HT2.out,HT3.out,Bool.eq_false_iff.2 t];rfl
  rw [Bool.eq_false_iff.2 t]
  clear t
  go_wp2_with fail
  go_ret
  exact ⟨ze HN.out.symm,HBi.out⟩
 have HT4:Hid (Gate.yZ b=true):=t
 rw [t]
 clear t
 go_wp2_with fail
 refine (zkT l la lb lc lca lcb lcc b a0 a1 a2 a3 c0 c1 c2 c3 _ (HL.out.mono HBi.out) (HK.out.mono HBi.out) (zoy HT3.out HT4.out HF.out.2.2.2)).mono ?_
 rintro e w6 ⟨rfl,hb5⟩
 have HBe:Hid (Below w.heap.size w w6):=HBi.out.trans (hb5.mono HBi.out.size)
 have HN:Hid (Gate.zct l b=Gate.zaM l b):=by unfold Hid Gate.zaM;rw [HT0.out,HT1.out,HT2.out,HT3.out,HT4.out];rfl
 rw [HN.out]
 clear hb5 hX5 hL5 hz5 hy5
 go_wp2_with fail
 go_ret
 exact ⟨rfl,HBe.out⟩
set_option maxRecDepth 20000 in
theorem zed (l:Lw) (la lb lc:Option Addr) (lca lcb lcc:Nat) (b:Bk) (a0 a1 a2 a3:Option Addr) (c0 c1 c2 c3:Nat) (w:World) (hl:qp w l la lb lc) (hb:qA w b a0 a1 a2 a3) (hlf:l.Few) (hbf:b.Few) (hz:qE b.os<=1048576) :
 Calls Tryz.prog 30 #[.agg (l.cells la lb lc lca lcb lcc),.agg (b.cells a0 a1 a2 a3 c0 c1 c2 c3)] w fun e w'=>e = .returned (.bool (Gate.jM l b))/\Below w.heap.size w w':=by
 have HK:Hid (qA w b a0 a1 a2 a3):=hb
 have HL:Hid (qp w l la lb lc):=hl
 have HF:Hid (l.Few/\b.Few/\qE b.os<=1048576):=⟨hlf,hbf,hz⟩
 clear hb hl hlf hbf hz
 unfold Lw.cells Bk.cells
 go_enter Tryz.func30,Tryz.ntmps30
 go_wp2_with fail
 obtain ⟨hL0,hX0⟩:=jd w #[.slice la l.ss.length lca,.slice lb l.ms.length lcb,.slice lc l.ts.length lcc] #[.int .i64 b.now,.int .i64 b.tick,.int .i64 b.given,.slice a0 b.os.length c0,.slice a1 b.gs.length c1,.slice a2 b.ls.length c2,.slice a3 b.ps.length c3] 43 50
 have HBi:Hid (Below w.heap.size w ((w.alloc (.cells #[.slice la l.ss.length lca,.slice lb l.ms.length lcb,.slice lc l.ts.length lcc] 43)).alloc (.cells #[.int .i64 b.now,.int .i64 b.tick,.int .i64 b.given,.slice a0 b.os.length c0,.slice a1 b.gs.length c1,.slice a2 b.ls.length c2,.slice a3 b.ps.length c3] 50))):=zC w _ _
 obtain ⟨W0,hW0⟩:∃ W0,W0=(w.alloc (.cells #[.slice la l.ss.length lca,.slice lb l.ms.length lcb,.slice lc l.ts.length lcc] 43)).alloc (.cells #[.int .i64 b.now,.int .i64 b.tick,.int .i64 b.given,.slice a0 b.os.length c0,.slice a1 b.gs.length c1,.slice a2 b.ls.length c2,.slice a3 b.ps.length c3] 50):=⟨_,rfl⟩
 have hz0:w.heap.size+1 < W0.heap.size:=by rw [hW0];simp
 rw [<- hW0] at HBi hX0 hL0 ⊢
 clear hW0
 refine (zjj l la lb lc lca lcb lcc _ (HL.out.mono HBi.out) HF.out.1).mono ?_
 rintro e w1 ⟨rfl,hb0⟩
 have hX1:=za hX0 hz0 hb0
 have hL1:=za hL0 (Nat.lt_of_succ_lt hz0) hb0
 have hz1:=Nat.lt_of_lt_of_le hz0 hb0.size
 have hy1:=Nat.lt_of_succ_lt hz1
 have HBi:Hid (Below w.heap.size w w1):=HBi.out.trans (hb0.mono HBi.out.size)
 clear hb0 hX0 hL0 hz0
 by_cases t:Gate.zbO l=true
 rotate_left
 ·have HN:Hid (Gate.jM l b=false):=by unfold Hid Gate.jM;rw [Bool.eq_false_iff.2 t];rfl
  rw [Bool.eq_false_iff.2 t]
  clear t
  go_wp2_with fail
  go_ret
  exact ⟨ze HN.out.symm,HBi.out⟩
 have HN:Hid (Gate.zaM l b=Gate.jM l b):=by unfold Hid Gate.jM;rw [t];rfl
 have HM:Hid (Gate.yx l.ss l.ms=true):=by unfold Gate.zbO at t;simp only [Bool.and_eq_true] at t;exact t.1
 rw [t]
 clear t
 go_wp2_with fail
 refine (zmg l la lb lc lca lcb lcc b a0 a1 a2 a3 c0 c1 c2 c3 _ (HK.out.mono HBi.out) (HL.out.mono HBi.out) HF.out.1.ms HM.out HF.out.2.1.os.2 HF.out.2.2).mono ?_
 rintro e w2 ⟨rfl,hb1⟩
 have HBe:Hid (Below w.heap.size w w2):=HBi.out.trans (hb1.mono HBi.out.size)
 rw [HN.out]
 clear hb1 hX1 hL1 hz1 hy1
 go_wp2_with fail
 go_ret
 exact ⟨rfl,HBe.out⟩
end Go.Proofs.YtaickbhifenbjaaGreat
