import Derived.Test.YtaickbhifenbjaaGreatM06
import Derived.Test.YtaickbhifenbjaaGreatM18
import Derived.Test.YtaickbhifenbjaaGreatM10
import Derived.Test.YtaickbhifenbjaaGreatM13
import Derived.Test.YtaickbhifenbjaaGreatM15
import Derived.Deep.RegionHeld3
import Derived.Test.YtaickbhifenbjaaGreatM11
set_option maxHeartbeats 4000000
namespace Go.Proofs.YtaickbhifenbjaaGreat
namespace Gate
theorem qR {α:Type} (p:α->Bool) (l:List α) (k:Nat) (h:k < l.length):(l.take (k+1)).all p=((l.take k).all p && p l[k]):=by
 rw [List.take_succ_eq_append_getElem h,List.all_append];simp
theorem zar {α:Type} (p:α->Bool) (l:List α) (k:Nat) (h:k < l.length) (hp:p l[k]=false):l.all p=false:=by
 rw [List.all_eq_false];exact ⟨l[k],List.getElem_mem h,by simp [hp]⟩
end Gate
end Go.Proofs.YtaickbhifenbjaaGreat
namespace Go.Proofs.YtaickbhifenbjaaGreat
open Go.RowKit
namespace Gate
def zao (b:Bk):Bool:=within b.now 0 1000000 && (within b.tick 0 1000000 && within b.given 0 b.now)
def yA (given:Int) (g:Gr):Bool:=within g.no 1 given && (zx g.to && ((g.gb.toList.isEmpty || zx g.gb) && zW g.r))
noncomputable def yg (b:Bk):Bool:=decide (b.gs.length<=24) && (zaV zbl b.gs && b.gs.all (yA b.given))
def yM (ts:List Tm) (g:Lg):Bool:=yC ts g.tm && (zx g.rs && jA g.fr g.mo 0 1000000)
noncomputable def yP (ts:List Tm) (b:Bk):Bool:=decide (b.ls.length<=10) && (zaV qz b.ls && b.ls.all (yM ts))
end Gate
theorem zjc (b:Bk) (a0 a1 a2 a3:Option Addr) (c0 c1 c2 c3:Nat) (w:World) :
 Calls Tryz.prog 100 #[.agg (b.cells a0 a1 a2 a3 c0 c1 c2 c3)] w fun e w'=>e = .returned (.bool (Gate.zao b))/\Below w.heap.size w w':=by
 have HB:Hid (∀ ob,Below w.heap.size w (w.alloc ob)):=fun ob=>(Below.refl _ _).alloc (Nat.le_refl _) _
 unfold Bk.cells
 by_cases h1:Gate.within b.now 0 1000000=true
 rotate_left
 ·have h1':Gate.within b.now 0 1000000=false:=by simpa using h1
  have HF:Hid (Gate.zao b=false):=by unfold Hid Gate.zao;rw [h1'];rfl
  have H1:Hid (∀ W,Calls Tryz.prog 139 #[.int .i64 b.now,.int .i64 0,.int .i64 1000000] W fun e w'=>e = .returned (.bool false)/\w'=W):=fun W=>zf h1' (ji _ _ _ W)
  clear h1 h1'
  go_enter Tryz.func100,Tryz.ntmps100
  go_wp2_with (go_at_call 139;refine (H1.out _).mono ?_;rintro e w2 ⟨rfl,rfl⟩)
  go_ret
  exact ⟨ze HF.out.symm,HB.out _⟩
 by_cases h2:Gate.within b.tick 0 1000000=true
 rotate_left
 ·have h2':Gate.within b.tick 0 1000000=false:=by simpa using h2
  have HF:Hid (Gate.zao b=false):=by unfold Hid Gate.zao;rw [h1,h2'];rfl
  have H1:Hid (∀ W,Calls Tryz.prog 139 #[.int .i64 b.now,.int .i64 0,.int .i64 1000000] W fun e w'=>e = .returned (.bool true)/\w'=W):=fun W=>zf h1 (ji _ _ _ W)
  have H2:Hid (∀ W,Calls Tryz.prog 139 #[.int .i64 b.tick,.int .i64 0,.int .i64 1000000] W fun e w'=>e = .returned (.bool false)/\w'=W):=fun W=>zf h2' (ji _ _ _ W)
  clear h1 h2 h2'
  go_enter Tryz.func100,Tryz.ntmps100
  go_wp2_with fail
  refine (H1.out _).mono ?_
  rintro e w2 ⟨rfl,rfl⟩
  go_wp2_with fail
  refine (H2.out _).mono ?_
  rintro e w2 ⟨rfl,rfl⟩
  go_wp2_with fail
  go_ret
  exact ⟨ze HF.out.symm,HB.out _⟩
 ·have HF:Hid (Gate.zao b=Gate.within b.given 0 b.now):=by unfold Hid Gate.zao;rw [h1,h2];rfl
  have H1:Hid (∀ W,Calls Tryz.prog 139 #[.int .i64 b.now,.int .i64 0,.int .i64 1000000] W fun e w'=>e = .returned (.bool true)/\w'=W):=fun W=>zf h1 (ji _ _ _ W)
  have H2:Hid (∀ W,Calls Tryz.prog 139 #[.int .i64 b.tick,.int .i64 0,.int .i64 1000000] W fun e w'=>e = .returned (.bool true)/\w'=W):=fun W=>zf h2 (ji _ _ _ W)
  clear h1 h2
  go_enter Tryz.func100,Tryz.ntmps100
  go_wp2_with fail
  refine (H1.out _).mono ?_
  rintro e w2 ⟨rfl,rfl⟩
  go_wp2_with fail
  refine (H2.out _).mono ?_
  rintro e w2 ⟨rfl,rfl⟩
  go_wp2_with fail
  refine (ji _ _ _ _).mono ?_
  rintro e w2 ⟨rfl,rfl⟩
  go_wp2_with fail
  go_ret
  exact ⟨ze HF.out.symm,HB.out _⟩
theorem zi5 (b:Bk) (a0 a1 a2 a3:Option Addr) (c0 c1 c2 c3:Nat) (w:World) (hb:qA w b a0 a1 a2 a3) :
 Calls Tryz.prog 102 #[.agg (b.cells a0 a1 a2 a3 c0 c1 c2 c3)] w fun e w'=>e = .returned (.bool (Gate.yg b))/\Below w.heap.size w w':=by
 have HK:Hid (qA w b a0 a1 a2 a3):=hb
 clear hb
 unfold Bk.cells
 by_cases hln:b.gs.length<=24
 rotate_left
 ·have HF:Hid (Gate.yg b=false):=by unfold Hid Gate.yg;rw [decide_eq_false hln];rfl
  have hg:(24:Int) < (b.gs.length:Int):=by omega
  go_enter Tryz.func102,Tryz.ntmps102
  go_wp2_with fail
  go_ret
  exact ⟨ze HF.out.symm,(Below.refl _ _).alloc (Nat.le_refl _) _⟩
 have hg:decide ((24:Int) < (b.gs.length:Int))=false:=by simp;omega
 have HLN:Hid (b.gs.length<=24):=hln
 clear hln
 go_enter Tryz.func102,Tryz.ntmps102
 go_wp2_with fail
 have hX0:=zl w #[.int .i64 b.now,.int .i64 b.tick,.int .i64 b.given,.slice a0 b.os.length c0,.slice a1 b.gs.length c1,.slice a2 b.ls.length c2,.slice a3 b.ps.length c3] 50
 have HB0:Hid (Below w.heap.size w (w.alloc (.cells #[.int .i64 b.now,.int .i64 b.tick,.int .i64 b.given,.slice a0 b.os.length c0,.slice a1 b.gs.length c1,.slice a2 b.ls.length c2,.slice a3 b.ps.length c3] 50))):=(Below.refl _ _).alloc (Nat.le_refl _) _
 obtain ⟨W0,hW0⟩:∃ W0,W0=w.alloc (.cells #[.int .i64 b.now,.int .i64 b.tick,.int .i64 b.given,.slice a0 b.os.length c0,.slice a1 b.gs.length c1,.slice a2 b.ls.length c2,.slice a3 b.ps.length c3] 50):=⟨_,rfl⟩
 have hz0:w.heap.size < W0.heap.size:=by rw [hW0];simp
 rw [<- hW0] at HB0 hX0 ⊢
 clear hW0
 refine (zhk _ _ b.gs _ (HK.out.gs.mono HB0.out)).mono ?_
 rintro e w1 ⟨rfl,hb1⟩
 have HB1:Hid (Below w.heap.size w w1):=HB0.out.trans (hb1.mono HB0.out.size)
 have hX1:=za hX0 hz0 hb1
 have hz1:=Nat.lt_of_lt_of_le hz0 hb1.size
 clear hb1 hX0 hz0 HB0
 by_cases has:Gate.zaV Gate.zbl b.gs=true
 rotate_left
 ·have has':Gate.zaV Gate.zbl b.gs=false:=by simpa using has
  have HF:Hid (Gate.yg b=false):=by unfold Hid Gate.yg;rw [has'];simp
  rw [has']
  clear has has'
  go_wp2_with fail
  go_ret
  exact ⟨ze HF.out.symm,HB1.out⟩
 have HG:Hid (Gate.yg b=b.gs.all (Gate.yA b.given)):=by unfold Hid Gate.yg;rw [has,decide_eq_true HLN.out];rfl
 rw [has]
 clear has
 go_wp2_with fail
 go_loopw [18] (fun iv wr=>∃ k:Nat,k<=b.gs.length/\iv = .int .i64 k/\Hid ((b.gs.take k).all (Gate.yA b.given)=true/\Below w1.heap.size w1 wr)) (fun iv _=>b.gs.length - (intOf iv).toNat)
 case atStart=>exact ⟨0,Nat.zero_le _,rfl,by simp,Below.refl _ _⟩
 case round =>
  obtain ⟨k,hk,rfl,HQ⟩:=hrel
  have hkn:k<=24:=by have:=HLN.out;omega
  by_cases hlt:k < b.gs.length
  ·obtain ⟨ob,off,v0,q0,rfl,hob,hsm,hi0,d0,d1,d2,d3,d4,d5,d6⟩:=HK.out.gs.load (HB1.out.trans (HQ.out.2.mono HB1.out.size)) k hlt
   have hob':ob < wr.heap.size:=Nat.lt_of_lt_of_le hob (HB1.out.trans (HQ.out.2.mono HB1.out.size)).size
   have hltI:(k:Int) < (b.gs.length:Int):=by omega
   have hX:=za hX1 hz1 HQ.out.2
   have hz:w.heap.size < wr.heap.size:=Nat.lt_of_lt_of_le hz1 HQ.out.2.size
   have HSn:Hid ((b.gs.take (k+1)).all (Gate.yA b.given)=((b.gs.take k).all (Gate.yA b.given) && (Gate.yA b.given) b.gs[k])):=Gate.qR _ _ _ hlt
   have HBo:Hid (∀ ob,Below w1.heap.size w1 (wr.alloc ob)):=fun ob=>HQ.out.2.alloc HQ.out.2.size _
   have HBw:Hid (∀ W,Below w1.heap.size w1 W->Below w.heap.size w W):=fun W hW=>HB1.out.trans (hW.mono HB1.out.size)
   have HNo:Hid ((Gate.yA b.given) b.gs[k]=false->Gate.yg b=false):=fun h=>by rw [HG.out];exact Gate.zar _ _ _ hlt h
   have HYes:Hid ((Gate.yA b.given) b.gs[k]=true->(b.gs.take (k+1)).all (Gate.yA b.given)=true):=fun h=>by rw [HSn.out,HQ.out.1,h];rfl
   have HIt:Hid (yJ wr v0 b.gs[k].r.vs/\b.gs[k].Small):=⟨hi0,hsm⟩
   clear hsm hi0
   have HW1:∀ v,Gate.within b.gs[k].no 1 b.given=v->Hid (∀ W,Calls Tryz.prog 139 #[.int .i64 b.gs[k].no,.int .i64 1,.int .i64 b.given] W fun e w'=>e = .returned (.bool v)/\w'=W):=fun v h W=>zf h (ji _ _ _ W)
   have HN1:∀ v,Gate.zx b.gs[k].to=v->Hid (∀ W,Calls Tryz.prog 134 #[.string b.gs[k].to] W fun e w'=>e = .returned (.bool v)/\w'=W):=fun v h W=>zf h (zG _ W HIt.out.2.to)
   have HN2:∀ v,Gate.zx b.gs[k].gb=v->Hid (∀ W,Calls Tryz.prog 134 #[.string b.gs[k].gb] W fun e w'=>e = .returned (.bool v)/\w'=W):=fun v h W=>zf h (zG _ W HIt.out.2.gb)
   have HR1:∀ v,Gate.zW b.gs[k].r=v->Hid (∀ W,Below wr.heap.size wr W->Calls Tryz.prog 147 #[.agg #[.slice v0 b.gs[k].r.vs.length q0,.string b.gs[k].r.kd,.string b.gs[k].r.tm,.string b.gs[k].r.px]] W fun e w'=>e = .returned (.bool v)/\Below W.heap.size W w'):=fun v h W hW=>zf h (zmK b.gs[k].r v0 q0 W HIt.out.2.r (HIt.out.1.mono hW))
   by_cases t1:Gate.within b.gs[k].no 1 b.given=true
   rotate_left
   ·have HF:Hid (Gate.yg b=false):=HNo.out (by unfold Gate.yA;rw [Bool.eq_false_iff.2 t1];rfl)
    have H1:=HW1 false (Bool.eq_false_iff.2 t1)
    clear HW1 HN1 HN2 HR1 t1
    go_wp2_with fail
    refine (H1.out _).mono ?_
    rintro e w2 ⟨rfl,rfl⟩
    go_wp2_with fail
    go_ret
    exact ⟨ze HF.out.symm,HBw.out _ (HBo.out _)⟩
   have H1:=HW1 true t1
   by_cases t2:Gate.zx b.gs[k].to=true
   rotate_left
   ·have HF:Hid (Gate.yg b=false):=HNo.out (by unfold Gate.yA;rw [t1,Bool.eq_false_iff.2 t2];rfl)
    have H2:=HN1 false (Bool.eq_false_iff.2 t2)
    clear HW1 HN1 HN2 HR1 t1 t2
    go_wp2_with fail
    refine (H1.out _).mono ?_
    rintro e w2 ⟨rfl,rfl⟩
    go_wp2_with fail
    refine (H2.out _).mono ?_
    rintro e w2 ⟨rfl,rfl⟩
    go_wp2_with fail
    go_ret
    exact ⟨ze HF.out.symm,HBw.out _ (HBo.out _)⟩
   have H2:=HN1 true t2
   by_cases t3:b.gs[k].gb.toList.isEmpty=true
   ·by_cases t5:Gate.zW b.gs[k].r=true
    ·have HY:Hid ((b.gs.take (k+1)).all (Gate.yA b.given)=true):=HYes.out (by unfold Gate.yA;rw [t1,t2,t3,t5];rfl)
     have H5:=HR1 true t5
     clear HW1 HN1 HN2 HR1 t1 t2 t5
     go_wp2_with fail
     refine (H1.out _).mono ?_
     rintro e w2 ⟨rfl,rfl⟩
     go_wp2_with fail
     refine (H2.out _).mono ?_
     rintro e w2 ⟨rfl,rfl⟩
     go_wp2_with fail
     refine (H5.out _ ((Below.refl _ _).alloc (Nat.le_refl _) _)).mono ?_
     rintro e w2 ⟨rfl,hb2⟩
     have HB2:Hid (Below w1.heap.size w1 w2):=(HBo.out _).trans (hb2.mono (HBo.out _).size)
     clear hb2
     go_wp2_with fail
     exact ⟨⟨k+1,by omega,by go_num,HY.out,HB2.out⟩,zw hlt⟩
    ·have HF:Hid (Gate.yg b=false):=HNo.out (by unfold Gate.yA;rw [t1,t2,t3,Bool.eq_false_iff.2 t5];rfl)
     have H5:=HR1 false (Bool.eq_false_iff.2 t5)
     clear HW1 HN1 HN2 HR1 t1 t2 t5
     go_wp2_with fail
     refine (H1.out _).mono ?_
     rintro e w2 ⟨rfl,rfl⟩
     go_wp2_with fail
     refine (H2.out _).mono ?_
     rintro e w2 ⟨rfl,rfl⟩
     go_wp2_with fail
     refine (H5.out _ ((Below.refl _ _).alloc (Nat.le_refl _) _)).mono ?_
     rintro e w2 ⟨rfl,hb2⟩
     have HB2:Hid (Below w1.heap.size w1 w2):=(HBo.out _).trans (hb2.mono (HBo.out _).size)
     clear hb2
     go_wp2_with fail
     go_ret
     exact ⟨ze HF.out.symm,HBw.out _ HB2.out⟩
   have t3':b.gs[k].gb.toList.isEmpty=false:=Bool.eq_false_iff.2 t3
   clear t3
   by_cases t4:Gate.zx b.gs[k].gb=true
   rotate_left
   ·have HF:Hid (Gate.yg b=false):=HNo.out (by unfold Gate.yA;rw [t1,t2,t3',Bool.eq_false_iff.2 t4];rfl)
    have H4:=HN2 false (Bool.eq_false_iff.2 t4)
    clear HW1 HN1 HN2 HR1 t1 t2 t4
    go_wp2_with fail
    refine (H1.out _).mono ?_
    rintro e w2 ⟨rfl,rfl⟩
    go_wp2_with fail
    refine (H2.out _).mono ?_
    rintro e w2 ⟨rfl,rfl⟩
    go_wp2_with fail
    refine (H4.out _).mono ?_
    rintro e w2 ⟨rfl,rfl⟩
    go_wp2_with fail
    go_ret
    exact ⟨ze HF.out.symm,HBw.out _ (HBo.out _)⟩
   have H4:=HN2 true t4
   by_cases t5:Gate.zW b.gs[k].r=true
   ·have HY:Hid ((b.gs.take (k+1)).all (Gate.yA b.given)=true):=HYes.out (by unfold Gate.yA;rw [t1,t2,t3',t4,t5];rfl)
    have H5:=HR1 true t5
    clear HW1 HN1 HN2 HR1 t1 t2 t4 t5
    go_wp2_with fail
    refine (H1.out _).mono ?_
    rintro e w2 ⟨rfl,rfl⟩
    go_wp2_with fail
    refine (H2.out _).mono ?_
    rintro e w2 ⟨rfl,rfl⟩
    go_wp2_with fail
    refine (H4.out _).mono ?_
    rintro e w2 ⟨rfl,rfl⟩
    go_wp2_with fail
    refine (H5.out _ ((Below.refl _ _).alloc (Nat.le_refl _) _)).mono ?_
    rintro e w2 ⟨rfl,hb2⟩
    have HB2:Hid (Below w1.heap.size w1 w2):=(HBo.out _).trans (hb2.mono (HBo.out _).size)
    clear hb2
    go_wp2_with fail
    exact ⟨⟨k+1,by omega,by go_num,HY.out,HB2.out⟩,zw hlt⟩
   ·have HF:Hid (Gate.yg b=false):=HNo.out (by unfold Gate.yA;rw [t1,t2,t3',t4,Bool.eq_false_iff.2 t5];rfl)
    have H5:=HR1 false (Bool.eq_false_iff.2 t5)
    clear HW1 HN1 HN2 HR1 t1 t2 t4 t5
    go_wp2_with fail
    refine (H1.out _).mono ?_
    rintro e w2 ⟨rfl,rfl⟩
    go_wp2_with fail
    refine (H2.out _).mono ?_
    rintro e w2 ⟨rfl,rfl⟩
    go_wp2_with fail
    refine (H4.out _).mono ?_
    rintro e w2 ⟨rfl,rfl⟩
    go_wp2_with fail
    refine (H5.out _ ((Below.refl _ _).alloc (Nat.le_refl _) _)).mono ?_
    rintro e w2 ⟨rfl,hb2⟩
    have HB2:Hid (Below w1.heap.size w1 w2):=(HBo.out _).trans (hb2.mono (HBo.out _).size)
    clear hb2
    go_wp2_with fail
    go_ret
    exact ⟨ze HF.out.symm,HBw.out _ HB2.out⟩
  ·have e:k=b.gs.length:=by omega
   subst e
   have HE:Hid (Gate.yg b=true):=by
    unfold Hid
    rw [HG.out]
    have h:=HQ.out.1
    rw [List.take_of_length_le (Nat.le_refl _)] at h
    exact h
   have HBe:Hid (Below w.heap.size w wr):=HB1.out.trans (HQ.out.2.mono HB1.out.size)
   clear hlt hk HQ
   go_wp2_with fail
   go_ret
   exact ⟨ze HE.out.symm,HBe.out⟩
theorem za1 (w:World) (X Y Z:Array Value) (r s t:TypeId):∃ W0,W0=((w.alloc (.cells X r)).alloc (.cells Y s)).alloc (.cells Z t)/\(∀ j,W0.cell? ⟨w.heap.size,j,none⟩=X[j]?)/\(∀ j,W0.cell? ⟨w.heap.size+1,j,none⟩=Y[j]?)/\(∀ j,W0.cell? ⟨w.heap.size+1+1,j,none⟩=Z[j]?)/\w.heap.size+1+1 < W0.heap.size/\Below w.heap.size w W0:=by
 obtain ⟨hA,hB,hC⟩:=zoF w (.cells X r) (.cells Y s) (.cells Z t)
 exact ⟨_,rfl,fun _=>cell_of_block hA,fun _=>cell_of_block hB,fun _=>cell_of_block hC,by simp,below3' _ _ _ _⟩
theorem znl (r:Rl) (a:Option Addr) (cap:Nat) (l:Lw) (la lb lc:Option Addr) (lca lcb lcc:Nat) (x:Ac) (bl ba:Nat) (w:World) (hm:r.Small) (hi:yJ w a r.vs) (ht:qJ w lc l.ts) (hv:Gate.yQ r.vs=true) (hxs:x.Small) (hbl:bl < w.heap.size) (hba:ba < w.heap.size) (hcl:∀ j,w.cell? ⟨bl,j,none⟩=(#[.slice la l.ss.length lca,.slice lb l.ms.length lcb,.slice lc l.ts.length lcc]:Array Value)[j]?) (hca:∀ j,w.cell? ⟨ba,j,none⟩=(#[.int .i64 x.vb,.string x.kd,.string x.tm,.string x.nm]:Array Value)[j]?) :
 Calls Tryz.prog 64 #[.agg (r.cells a cap),.pointer (some ⟨bl,0,none⟩),.pointer (some ⟨ba,0,none⟩)] w fun e w'=>e = .returned (.bool (Gate.qy l.ts r x))/\Below w.heap.size w w':=by
 have HT:Hid (qJ w lc l.ts):=ht
 have HI:Hid (yJ w a r.vs):=hi
 have HM:Hid (r.Small/\x.Small):=⟨hm,hxs⟩
 have HV:Hid (Gate.yQ r.vs=true):=hv
 clear ht hi hm hxs hv
 unfold Rl.cells
 go_enter Tryz.func64,Tryz.ntmps64
 go_wp2_with fail
 have hB0:Below w.heap.size w (w.alloc (.cells #[.slice a r.vs.length cap,.string r.kd,.string r.tm,.string r.px] 112)):=(Below.refl _ _).alloc (Nat.le_refl _) _
 have hX0:=zl w #[.slice a r.vs.length cap,.string r.kd,.string r.tm,.string r.px] 112
 obtain ⟨W0,hW0⟩:∃ W0,W0=w.alloc (.cells #[.slice a r.vs.length cap,.string r.kd,.string r.tm,.string r.px] 112):=⟨_,rfl⟩
 have hz0:w.heap.size < W0.heap.size:=by rw [hW0];simp
 rw [<- hW0] at hB0 hX0 ⊢
 clear hW0
 have hB:=hB0.drew
 have hX:=za hX0 hz0 (Below.refl W0.heap.size W0).drew
 have hY:=za (za hcl hbl hB0) (Nat.lt_of_lt_of_le hbl hB0.size) (Below.refl W0.heap.size W0).drew
 have hZ:=za (za hca hba hB0) (Nat.lt_of_lt_of_le hba hB0.size) (Below.refl W0.heap.size W0).drew
 have zX:w.heap.size < W0.drew.heap.size:=hz0
 have zY:bl < W0.drew.heap.size:=Nat.lt_of_lt_of_le hbl hB0.size
 have zZ:ba < W0.drew.heap.size:=Nat.lt_of_lt_of_le hba hB0.size
 clear hX0 hz0 hB0 hcl hca hbl hba
 go_region_held3 (fun w'=>(∀ j,w'.cell? ⟨w.heap.size,j,none⟩=(#[.slice a r.vs.length cap,.string r.kd,.string r.tm,.string r.px]:Array Value)[j]?)/\(∀ j,w'.cell? ⟨bl,j,none⟩=(#[.slice la l.ss.length lca,.slice lb l.ms.length lcb,.slice lc l.ts.length lcc]:Array Value)[j]?)/\∀ j,w'.cell? ⟨ba,j,none⟩=(#[.int .i64 x.vb,.string x.kd,.string x.tm,.string x.nm]:Array Value)[j]?) (exact ⟨hX,hY,hZ⟩) (first
  | (go_at_call 65;refine (zkC _ _ l.ts r _ _ _ (by exact HI.out.mono hB) HV.out).mono ?_;rintro e w3 ⟨rfl,hb⟩;have hX:=za hX zX hb;have hY:=za hY zY hb;have hZ:=za hZ zZ hb;have hB:=hB.trans (hb.mono hB.size);have zX:=Nat.lt_of_lt_of_le zX hb.size;have zY:=Nat.lt_of_lt_of_le zY hb.size;have zZ:=Nat.lt_of_lt_of_le zZ hb.size;clear hb)
  | (go_at_call 108;refine (zku _ _ l.ts r _ _ x.kd x.tm x.nm _ (by exact HT.out.mono hB) HM.out.1 HM.out.2.nm).mono ?_;rintro e w4 ⟨rfl,hb⟩;have hX:=za hX zX hb;have hY:=za hY zY hb;have hZ:=za hZ zZ hb;have hB:=hB.trans (hb.mono hB.size);have zX:=Nat.lt_of_lt_of_le zX hb.size;have zY:=Nat.lt_of_lt_of_le zY hb.size;have zZ:=Nat.lt_of_lt_of_le zZ hb.size;clear hb)
  | (go_at_call 66;refine (zoL _ _ _).mono ?_;rintro e w5 ⟨rfl,rfl⟩))
 go_wp2_with fail
 go_ret
 exact ⟨ze (Gate.zlc HV.out),hB⟩
def zon (P:Program) (q q':Value) (rs:List Rl) (w:World) (p:Rl->Bool):Prop :=
 ∀ w1,Below w.heap.size w w1->∀ i (h:i < rs.length) va vcap,rs[i].Small->yJ w1 va rs[i].vs->Calls P 64 #[.agg (rs[i].cells va vcap),q,q'] w1 fun e w'=>e = .returned (.bool (p rs[i]))/\Below w1.heap.size w1 w'
theorem zhY (a:Option Addr) (cap:Nat) (rs:List Rl) (q q':Value) (p:Rl->Bool) (w:World) (hw:zeJ w a rs) (hf:zon Tryz.prog q q' rs w p) :
 Calls Tryz.prog 106 #[.slice a rs.length cap,.func (.func 64) #[] #[q,q']] w fun e w'=>∃ r:Int,e = .returned (.int .i64 r)/\decide (0<=r)=rs.any p/\Below w.heap.size w w':=by
 have hl:=hw.len
 unfold maxLen at hl
 go_enter Tryz.func106,Tryz.ntmps106
 go_wp2_with fail
 go_loopw [8] (fun i wr=>∃ k:Nat,k<=rs.length/\i = .int .i64 k/\(rs.take k).any p=false/\Below w.heap.size w wr) (fun i _=>rs.length - (intOf i).toNat)
 case atStart=>exact ⟨0,Nat.zero_le _,rfl,rfl,Below.refl _ _⟩
 case round =>
  obtain ⟨k,hk,rfl,hno,hB⟩:=hrel
  by_cases hlt:k < rs.length
  ·obtain ⟨b,off,va,vcap,rfl,hb,hsm,hI,c0,c1,c2,c3⟩:=hw.load hB k hlt
   have hltI:(k:Int) < (rs.length:Int):=by omega
   have hbr:b < wr.heap.size:=Nat.lt_of_lt_of_le hb hB.size
   have hc:=hf wr hB k hlt va vcap hsm hI
   clear hw hf hsm hI
   by_cases he:p rs[k]=true
   ·have HA:Hid (rs.any p=true):=zkt _ rs k hlt he
    have HE:Hid (p rs[k]=true):=he
    clear he hno
    go_wp2_with fail
    refine (zf HE.out hc).mono ?_
    rintro e w2 ⟨rfl,hb2⟩
    go_wp2_with fail
    go_ret
    exact ⟨_,rfl,by rw [HA.out];simp,hB.trans (hb2.mono hB.size)⟩
   ·have he':p rs[k]=false:=by simpa using he
    have HS:Hid ((rs.take (k+1)).any p=false):=by unfold Hid;rw [zbH _ rs k hlt,hno,he'];rfl
    have HE:Hid (p rs[k]=false):=he'
    clear he he' hno
    go_wp2_with fail
    refine (zf HE.out hc).mono ?_
    rintro e w2 ⟨rfl,hb2⟩
    go_wp2_with fail
    exact ⟨⟨k+1,by omega,by go_num,HS.out,hB.trans (hb2.mono hB.size)⟩,by simp [intOf];omega⟩
  ·have HA:Hid (rs.any p=false):=by unfold Hid;rw [<- hno,List.take_of_length_le (by omega)]
   clear hno hw hf
   go_wp2_with fail
   go_ret
   exact ⟨_,rfl,by rw [HA.out];rfl,hB⟩
theorem zfq (a:Option Addr) (cap:Nat) (rs:List Rl) (q q':Value) (p:Rl->Bool) (w:World) (hw:zeJ w a rs) (hf:zon Tryz.prog q q' rs w p) :
 Calls Tryz.prog 62 #[.slice a rs.length cap,.func (.func 64) #[] #[q,q']] w fun e w'=>e = .returned (.bool (rs.any p))/\Below w.heap.size w w':=by
 go_enter Tryz.func62,Tryz.ntmps62
 go_wp2_with fail
 refine (zhY _ _ _ _ _ _ _ hw hf).mono ?_
 rintro e w2 ⟨r,rfl,hr,hb2⟩
 go_wp2_with fail
 go_ret
 exact ⟨rfl,hb2⟩
theorem Gate.zkq {b:Bk} (h:Gate.yg b=true):b.gs.length<=24/\∀ who,∀ r ∈ Gate.yc who b.gs,Gate.yQ r.vs=true:=by
 unfold Gate.yg at h
 simp only [Bool.and_eq_true,decide_eq_true_eq] at h
 refine ⟨h.1,fun who=>Gate.zgS (fun r=>Gate.yQ r.vs=true) fun g hg=>?_⟩
 have h2:=List.all_eq_true.1 h.2.2 g hg
 unfold Gate.yA at h2
 simp only [Bool.and_eq_true] at h2
 exact Gate.zke h2.2.2.2
theorem zoE (l:Lw) (la lb lc:Option Addr) (lca lcb lcc:Nat) (b:Bk) (a0 a1 a2 a3:Option Addr) (c0 c1 c2 c3:Nat) (who:ByteArray) (x:Ac) (w:World) (hl:qp w l la lb lc) (hb:qA w b a0 a1 a2 a3) (hx:x.Small) (hg:Gate.yg b=true) :
 Calls Tryz.prog 31 #[.agg (l.cells la lb lc lca lcb lcc),.agg (b.cells a0 a1 a2 a3 c0 c1 c2 c3),.string who,.agg x.cells] w fun e w'=>e = .returned (.bool (Gate.zjv l b who x))/\Below w.heap.size w w':=by
 have HL:Hid (qp w l la lb lc):=hl
 have HK:Hid (qA w b a0 a1 a2 a3):=hb
 have HX:Hid x.Small:=hx
 have HG:Hid (b.gs.length<=24/\∀ who,∀ r ∈ Gate.yc who b.gs,Gate.yQ r.vs=true):=Gate.zkq hg
 clear hl hb hx hg
 unfold Lw.cells Bk.cells Ac.cells
 go_enter Tryz.func31,Tryz.ntmps31
 go_wp2_with fail
 obtain ⟨W0,hW0,hX0,hY0,hZ0,hz0,hB0⟩:=za1 w #[.slice la l.ss.length lca,.slice lb l.ms.length lcb,.slice lc l.ts.length lcc] #[.int .i64 b.now,.int .i64 b.tick,.int .i64 b.given,.slice a0 b.os.length c0,.slice a1 b.gs.length c1,.slice a2 b.ls.length c2,.slice a3 b.ps.length c3] #[.int .i64 x.vb,.string x.kd,.string x.tm,.string x.nm] 43 50 52
 rw [<- hW0]
 clear hW0
 refine (zlG b _ _ _ _ _ _ _ _ who _ (HK.out.gs.mono hB0) (by have:=HG.out.1;omega)).mono ?_
 rintro e w1 ⟨ra,rcap,rfl,hr,hb⟩
 have hX1:=za hX0 (by omega) hb
 have hZ1:=za hZ0 hz0 hb
 have hz1:=Nat.lt_of_lt_of_le hz0 hb.size
 have hB1:=hB0.trans (hb.mono hB0.size)
 clear hb hX0 hY0 hZ0 hz0 hB0
 go_wp2_with fail
 refine (zfq ra rcap (Gate.yc who b.gs) _ _ (fun r=>Gate.qy l.ts r x) _ hr ?_).mono ?_
 ·intro w2 hB2 i hi va vcap hsm hI
  exact znl _ va vcap l la lb lc lca lcb lcc x _ _ w2 hsm hI ((HL.out.ts.mono hB1).mono hB2) (HG.out.2 who _ (List.getElem_mem hi)) HX.out (Nat.lt_of_lt_of_le (by omega) hB2.size) (Nat.lt_of_lt_of_le hz1 hB2.size) (za hX1 (by omega) hB2) (za hZ1 hz1 hB2)
 rintro e w2 ⟨rfl,hb⟩
 have hB2:=hB1.trans (hb.mono hB1.size)
 clear hb hX1 hZ1 hz1 hB1 hr
 go_wp2_with fail
 go_ret
 exact ⟨rfl,hB2⟩
theorem zfA (ta:Option Addr) (tcap:Nat) (ts:List Tm) (r:Rl) (a:Option Addr) (cap:Nat) (x:Ac) (w:World) (hw:qJ w ta ts) (hm:r.Small) (hi:yJ w a r.vs) (hx:x.Small) :
 Calls Tryz.prog 52 #[.slice ta ts.length tcap,.agg (r.cells a cap),.agg x.cells] w fun e w'=>e = .returned (.bool (Gate.qy ts r x))/\Below w.heap.size w w':=by
 have hpx:=hm.px
 have hnm:=hx.nm
 have HB:Hid (∀ o1 o2,Below w.heap.size w ((w.alloc o1).alloc o2)):=fun _ _=>zC _ _ _
 have HT:Hid (qJ w ta ts):=hw
 have HI:Hid (yJ w a r.vs):=hi
 clear hw hi hm hx
 have hkc:(r.kd.toList.isEmpty=true) \/ (r.kd.toList.isEmpty=false/\(r.kd.toList == x.kd.toList)=true) \/ (r.kd.toList.isEmpty=false/\(r.kd.toList == x.kd.toList)=false):=by
  cases r.kd.toList.isEmpty <;> cases (r.kd.toList == x.kd.toList) <;> simp
 have htc:(r.tm.toList.isEmpty=true) \/ (r.tm.toList.isEmpty=false/\Hid (Gate.under ts 4 x.tm r.tm=true)) \/ (r.tm.toList.isEmpty=false/\Hid (Gate.under ts 4 x.tm r.tm=false)):=by
  unfold Hid
  cases r.tm.toList.isEmpty <;> cases Gate.under ts 4 x.tm r.tm <;> simp
 have HM:Hid (Gate.qy ts r x=(Gate.yR r.vs x.vb && ((r.kd.toList.isEmpty || (r.kd.toList == x.kd.toList)) && ((r.tm.toList.isEmpty || Gate.under ts 4 x.tm r.tm) && Gate.begins x.nm r.px)))):=by
  unfold Hid Gate.qy Gate.meets;rw [Gate.beq_toList]
 by_cases hv:Gate.yR r.vs x.vb=true
 rotate_left
 ·have HV:Hid (Gate.yR r.vs x.vb=false):=by simpa [Hid] using hv
  have HF:Hid (Gate.qy ts r x=false):=by rw [Hid,HM.out,HV.out];rfl
  clear hv
  unfold Rl.cells Ac.cells
  go_enter Tryz.func52,Tryz.ntmps52
  go_wp2_with fail
  refine (zf HV.out (zaC r _ _ _ _ (HI.out.mono (HB.out _ _)))).mono ?_
  rintro e w1 ⟨rfl,hb1⟩
  have HB1:Hid (Below w.heap.size w w1):=(HB.out _ _).trans (hb1.mono (by simp;omega))
  clear hb1
  go_wp2_with fail
  go_ret
  exact ⟨ze HF.out.symm,HB1.out⟩
 have HV:Hid (Gate.yR r.vs x.vb=true):=hv
 clear hv
 rcases hkc with hk | ⟨hk,hke⟩ | ⟨hk,hke⟩
 ·rcases htc with ht | ⟨ht,HU⟩ | ⟨ht,HU⟩
  ·have HF:Hid (Gate.qy ts r x=Gate.begins x.nm r.px):=by rw [Hid,HM.out,HV.out,hk,ht];simp
   unfold Rl.cells Ac.cells
   go_enter Tryz.func52,Tryz.ntmps52
   go_wp2_with fail
   refine (zf HV.out (zaC r _ _ _ _ (HI.out.mono (HB.out _ _)))).mono ?_
   rintro e w1 ⟨rfl,hb1⟩
   have HB1:Hid (Below w.heap.size w w1):=(HB.out _ _).trans (hb1.mono (by simp;omega))
   have hX1:=za (za (zl w _ _) (by simp) ((Below.refl _ _).alloc (Nat.le_refl _) _)) (by simp;omega) hb1
   have hY1:=za (zbR w _ _ _) (by simp) hb1
   have hz:w.heap.size+1 < w1.heap.size:=by have:=hb1.size;simp at this;omega
   clear hb1
   go_wp2_with (go_at_call 94;refine (zb5 x.nm r.px _ hnm hpx).mono ?_;rintro e w' ⟨rfl,rfl⟩)
   go_ret
   exact ⟨ze HF.out.symm,HB1.out⟩
  ·have HF:Hid (Gate.qy ts r x=Gate.begins x.nm r.px):=by rw [Hid,HM.out,HV.out,hk,ht,HU.out];simp
   unfold Rl.cells Ac.cells
   go_enter Tryz.func52,Tryz.ntmps52
   go_wp2_with fail
   refine (zf HV.out (zaC r _ _ _ _ (HI.out.mono (HB.out _ _)))).mono ?_
   rintro e w1 ⟨rfl,hb1⟩
   have HB1:Hid (Below w.heap.size w w1):=(HB.out _ _).trans (hb1.mono (by simp;omega))
   have hX1:=za (za (zl w _ _) (by simp) ((Below.refl _ _).alloc (Nat.le_refl _) _)) (by simp;omega) hb1
   have hY1:=za (zbR w _ _ _) (by simp) hb1
   have hz:w.heap.size+1 < w1.heap.size:=by have:=hb1.size;simp at this;omega
   clear hb1
   go_wp2_with (first | (go_at_call 93;refine (zf HU.out (zaO _ _ ts x.tm r.tm _ (by exact HT.out.mono HB1.out))).mono ?_;rintro e w' ⟨rfl,rfl⟩) | (go_at_call 94;refine (zb5 x.nm r.px _ hnm hpx).mono ?_;rintro e w' ⟨rfl,rfl⟩))
   go_ret
   exact ⟨ze HF.out.symm,HB1.out⟩
  ·have HF:Hid (Gate.qy ts r x=false):=by rw [Hid,HM.out,HV.out,hk,ht,HU.out];simp
   unfold Rl.cells Ac.cells
   go_enter Tryz.func52,Tryz.ntmps52
   go_wp2_with fail
   refine (zf HV.out (zaC r _ _ _ _ (HI.out.mono (HB.out _ _)))).mono ?_
   rintro e w1 ⟨rfl,hb1⟩
   have HB1:Hid (Below w.heap.size w w1):=(HB.out _ _).trans (hb1.mono (by simp;omega))
   have hX1:=za (za (zl w _ _) (by simp) ((Below.refl _ _).alloc (Nat.le_refl _) _)) (by simp;omega) hb1
   have hY1:=za (zbR w _ _ _) (by simp) hb1
   have hz:w.heap.size+1 < w1.heap.size:=by have:=hb1.size;simp at this;omega
   clear hb1
   go_wp2_with (go_at_call 93;refine (zf HU.out (zaO _ _ ts x.tm r.tm _ (by exact HT.out.mono HB1.out))).mono ?_;rintro e w' ⟨rfl,rfl⟩)
   go_ret
   exact ⟨ze HF.out.symm,HB1.out⟩
 ·rcases htc with ht | ⟨ht,HU⟩ | ⟨ht,HU⟩
  ·have HF:Hid (Gate.qy ts r x=Gate.begins x.nm r.px):=by rw [Hid,HM.out,HV.out,hk,hke,ht];simp
   unfold Rl.cells Ac.cells
   go_enter Tryz.func52,Tryz.ntmps52
   go_wp2_with fail
   refine (zf HV.out (zaC r _ _ _ _ (HI.out.mono (HB.out _ _)))).mono ?_
   rintro e w1 ⟨rfl,hb1⟩
   have HB1:Hid (Below w.heap.size w w1):=(HB.out _ _).trans (hb1.mono (by simp;omega))
   have hX1:=za (za (zl w _ _) (by simp) ((Below.refl _ _).alloc (Nat.le_refl _) _)) (by simp;omega) hb1
   have hY1:=za (zbR w _ _ _) (by simp) hb1
   have hz:w.heap.size+1 < w1.heap.size:=by have:=hb1.size;simp at this;omega
   clear hb1
   go_wp2_with (go_at_call 94;refine (zb5 x.nm r.px _ hnm hpx).mono ?_;rintro e w' ⟨rfl,rfl⟩)
   go_ret
   exact ⟨ze HF.out.symm,HB1.out⟩
  ·have HF:Hid (Gate.qy ts r x=Gate.begins x.nm r.px):=by rw [Hid,HM.out,HV.out,hk,hke,ht,HU.out];simp
   unfold Rl.cells Ac.cells
   go_enter Tryz.func52,Tryz.ntmps52
   go_wp2_with fail
   refine (zf HV.out (zaC r _ _ _ _ (HI.out.mono (HB.out _ _)))).mono ?_
   rintro e w1 ⟨rfl,hb1⟩
   have HB1:Hid (Below w.heap.size w w1):=(HB.out _ _).trans (hb1.mono (by simp;omega))
   have hX1:=za (za (zl w _ _) (by simp) ((Below.refl _ _).alloc (Nat.le_refl _) _)) (by simp;omega) hb1
   have hY1:=za (zbR w _ _ _) (by simp) hb1
   have hz:w.heap.size+1 < w1.heap.size:=by have:=hb1.size;simp at this;omega
   clear hb1
   go_wp2_with (first | (go_at_call 93;refine (zf HU.out (zaO _ _ ts x.tm r.tm _ (by exact HT.out.mono HB1.out))).mono ?_;rintro e w' ⟨rfl,rfl⟩) | (go_at_call 94;refine (zb5 x.nm r.px _ hnm hpx).mono ?_;rintro e w' ⟨rfl,rfl⟩))
   go_ret
   exact ⟨ze HF.out.symm,HB1.out⟩
  ·have HF:Hid (Gate.qy ts r x=false):=by rw [Hid,HM.out,HV.out,hk,hke,ht,HU.out];simp
   unfold Rl.cells Ac.cells
   go_enter Tryz.func52,Tryz.ntmps52
   go_wp2_with fail
   refine (zf HV.out (zaC r _ _ _ _ (HI.out.mono (HB.out _ _)))).mono ?_
   rintro e w1 ⟨rfl,hb1⟩
   have HB1:Hid (Below w.heap.size w w1):=(HB.out _ _).trans (hb1.mono (by simp;omega))
   have hX1:=za (za (zl w _ _) (by simp) ((Below.refl _ _).alloc (Nat.le_refl _) _)) (by simp;omega) hb1
   have hY1:=za (zbR w _ _ _) (by simp) hb1
   have hz:w.heap.size+1 < w1.heap.size:=by have:=hb1.size;simp at this;omega
   clear hb1
   go_wp2_with (go_at_call 93;refine (zf HU.out (zaO _ _ ts x.tm r.tm _ (by exact HT.out.mono HB1.out))).mono ?_;rintro e w' ⟨rfl,rfl⟩)
   go_ret
   exact ⟨ze HF.out.symm,HB1.out⟩
 ·have HF:Hid (Gate.qy ts r x=false):=by rw [Hid,HM.out,hk,hke];simp
  unfold Rl.cells Ac.cells
  go_enter Tryz.func52,Tryz.ntmps52
  go_wp2_with fail
  refine (zf HV.out (zaC r _ _ _ _ (HI.out.mono (HB.out _ _)))).mono ?_
  rintro e w1 ⟨rfl,hb1⟩
  have HB1:Hid (Below w.heap.size w w1):=(HB.out _ _).trans (hb1.mono (by simp;omega))
  have hX1:=za (za (zl w _ _) (by simp) ((Below.refl _ _).alloc (Nat.le_refl _) _)) (by simp;omega) hb1
  have hY1:=za (zbR w _ _ _) (by simp) hb1
  have hz:w.heap.size+1 < w1.heap.size:=by have:=hb1.size;simp at this;omega
  clear hb1
  go_wp2_with fail
  go_ret
  exact ⟨ze HF.out.symm,HB1.out⟩
end Go.Proofs.YtaickbhifenbjaaGreat
