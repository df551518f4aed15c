import Derived.Test.YtjnpjkigofldlaaGreatM27
import Derived.Test.YtjnpjkigofldlaaGreatM25
set_option maxHeartbeats 4000000
namespace Go.Proofs.YtjnpjkigofldlaaGreat
open Go.RowKit
def zaj (b:Bk):Bool:=within b.now 0 1000000&&(within b.tick 0 1000000&&within b.given 0 b.now)
def qy (given:Int)(g:Gr):Bool:=within g.no 1 given&&(zC g.to&&((g.gb.toList.isEmpty||zC g.gb)&&zaH g.r))
noncomputable def yK (b:Bk):Bool:=decide (b.gs.length<=24)&&(zb0 zcT b.gs&&b.gs.all (qy b.given))
def yH (ts:List Tm)(g:Lg):Bool:=yD ts g.tm&&(zC g.rs&&jO g.fr g.mo 0 1000000)
noncomputable def yQ (ts:List Tm)(b:Bk):Bool:=decide (b.ls.length<=10)&&(zb0 qz b.ls&&b.ls.all (yH ts))
theorem zlN (b:Bk)(a0 a1 a2 a3:OA)(c0 c1 c2 c3:Nat)(w:World) :
 Calls Tryz.prog 137 #[.agg (b.cells a0 a1 a2 a3 c0 c1 c2 c3)] w fun e w'=>e=.returned (.bool (zaj b))/\Bw w w':=by
 have HB:Hid (∀ob,Bw w (w.alloc ob)):=fun ob=>bAl _ _
 unfold Bk.cells
 by_cases h1:within b.now 0 1000000=true
 rotate_left
 ·have h1':within b.now 0 1000000=false:=by simpa using h1
  have HF:Hid (zaj b=false):=by unfold Hid zaj;rw[h1'];rfl
  have H1:Hid (∀W,Calls Tryz.prog 180 #[.i b.now,.i 0,.i 1000000] W fun e w'=>e=.returned (.bool false)/\w'=W):=fun W=>zw h1' (qZ _ _ _ W)
  clear h1 h1';go_in
  go_wp2_with (go_at_call 180;refine(H1.o _).mono ?_;rintro e w2⟨rfl,rfl⟩)
  go_ret;exact⟨ze HF.o.symm,HB.o _⟩
 by_cases h2:within b.tick 0 1000000=true
 rotate_left
 ·have h2':within b.tick 0 1000000=false:=by simpa using h2
  have HF:Hid (zaj b=false):=by unfold Hid zaj;rw[h1,h2'];rfl
  have H1:Hid (∀W,Calls Tryz.prog 180 #[.i b.now,.i 0,.i 1000000] W fun e w'=>e=.returned (.bool true)/\w'=W):=fun W=>zw h1 (qZ _ _ _ W)
  have H2:Hid (∀W,Calls Tryz.prog 180 #[.i b.tick,.i 0,.i 1000000] W fun e w'=>e=.returned (.bool false)/\w'=W):=fun W=>zw h2' (qZ _ _ _ W)
  clear h1 h2 h2';go_in;go_wp2_with fail
  refine(H1.o _).mono ?_;rintro e w2⟨rfl,rfl⟩;go_wp2_with fail
  refine(H2.o _).mono ?_;rintro e w2⟨rfl,rfl⟩;go_wp2
  go_ret;exact⟨ze HF.o.symm,HB.o _⟩
 ·have HF:Hid (zaj b=within b.given 0 b.now):=by unfold Hid zaj;rw[h1,h2];rfl
  have H1:Hid (∀W,Calls Tryz.prog 180 #[.i b.now,.i 0,.i 1000000] W fun e w'=>e=.returned (.bool true)/\w'=W):=fun W=>zw h1 (qZ _ _ _ W)
  have H2:Hid (∀W,Calls Tryz.prog 180 #[.i b.tick,.i 0,.i 1000000] W fun e w'=>e=.returned (.bool true)/\w'=W):=fun W=>zw h2 (qZ _ _ _ W)
  clear h1 h2;go_in;go_wp2_with fail
  refine(H1.o _).mono ?_;rintro e w2⟨rfl,rfl⟩;go_wp2_with fail
  refine(H2.o _).mono ?_;rintro e w2⟨rfl,rfl⟩;go_wp2_with fail
  refine(qZ _ _ _ _).mono ?_;rintro e w2⟨rfl,rfl⟩;go_wp2
  go_ret;exact⟨ze HF.o.symm,HB.o _⟩
theorem zmm (b:Bk)(a0 a1 a2 a3:OA)(c0 c1 c2 c3:Nat)(w:World)(hb:qj w b a0 a1 a2 a3) :
 Calls Tryz.prog 139 #[.agg (b.cells a0 a1 a2 a3 c0 c1 c2 c3)] w fun e w'=>e=.returned (.bool (yK b))/\Bw w w':=by
 have HK:=hid hb;clear hb;unfold Bk.cells
 by_cases hln:b.gs.length<=24
 rotate_left
 ·have HF:Hid (yK b=false):=by unfold Hid yK;rw[decide_eq_false hln];rfl
  have hg:(24:Int)<(b.gs.length:Int):=by omega
  go_in;go_wp2
  go_ret;exact⟨ze HF.o.symm,bAl _ _⟩
 have hg:decide ((24:Int)<(b.gs.length:Int))=false:=by simp;omega
 have HLN:Hid (b.gs.length<=24):=hln;clear hln;go_in;go_wp2_with fail
 have hX0:=zI w (bC b a0 a1 a2 a3 c0 c1 c2 c3) 40;have HB0:Hid (Bw w (w.alloc (.cells (bC b a0 a1 a2 a3 c0 c1 c2 c3) 40))):=bAl _ _;obtain⟨W0,hW0⟩:=xN (w.alloc (.cells (bC b a0 a1 a2 a3 c0 c1 c2 c3) 40));have hz0:w.heap.size<W0.heap.size:=by rw[hW0];simp
 rw[<- hW0]at HB0 hX0 ⊢;clear hW0;refine(zjX _ _ b.gs _ (HK.o.gs.mono HB0.o)).mono ?_;rintro e w1⟨rfl,hb1⟩;have HB1:=hid (HB0.o.trans (hb1.mono HB0.o.size));have hX1:=za hX0 hz0 hb1;have hz1:=nLt hz0 hb1.size;clear hb1 hX0 hz0 HB0
 by_cases has:zb0 zcT b.gs=true
 rotate_left
 ·have has':zb0 zcT b.gs=false:=by simpa using has
  have HF:Hid (yK b=false):=by unfold Hid yK;rw[has'];simp
  rw[has'];clear has has';go_wp2
  go_ret;exact⟨ze HF.o.symm,HB1.o⟩
 have HG:Hid (yK b=b.gs.all (qy b.given)):=by unfold Hid yK;rw[has,decide_eq_true HLN.o];rfl
 rw[has];clear has;go_wp2
 go_loopw [18] (fun iv wr=>∃k:Nat,k<=b.gs.length/\iv=.i k/\Hid ((b.gs.take k).all (qy b.given)=true/\Bw w1 wr)) (fun iv _=>b.gs.length-(intOf iv).toNat)
 case atStart=>exact⟨0,Nat.zero_le _,rfl,by simp,bRf _ _⟩
 case round=>
  obtain⟨k,hk,rfl,HQ⟩:=hrel;have hkn:k<=24:=by have:=HLN.o;omega
  by_cases hlt:k<b.gs.length
  ·obtain⟨ob,off,v0,q0,rfl,hob,hsm,hi0,d0,d1,d2,d3,d4,d5,d6⟩:=HK.o.gs.load (HB1.o.trans (HQ.o.2.mono HB1.o.size)) k hlt
   have hob':=nLt hob (HB1.o.trans (HQ.o.2.mono HB1.o.size)).size;have hltI:(k:Int)<(b.gs.length:Int):=by omega
   have hX:=za hX1 hz1 HQ.o.2;have hz:w.heap.size<wr.heap.size:=nLt hz1 HQ.o.2.size;have HSn:Hid ((b.gs.take (k+1)).all (qy b.given)=((b.gs.take k).all (qy b.given)&&(qy b.given) b.gs[k])):=qM _ _ _ hlt;have HBo:Hid (∀ob,Bw w1 (wr.alloc ob)):=fun ob=>HQ.o.2.alloc HQ.o.2.size _
   have HBw:Hid (∀W,Bw w1 W->Bw w W):=fun W hW=>HB1.o.trans (hW.mono HB1.o.size)
   have HNo:Hid ((qy b.given) b.gs[k]=false->yK b=false):=fun h=>by rw[HG.o];exact zaE _ _ _ hlt h
   have HYes:Hid ((qy b.given) b.gs[k]=true->(b.gs.take (k+1)).all (qy b.given)=true):=fun h=>by rw[HSn.o,HQ.o.1,h];rfl
   have HIt:=yB hi0 hsm;clear hsm hi0;have HW1:∀v,within b.gs[k].no 1 b.given=v->Hid (∀W,Calls Tryz.prog 180 #[.i b.gs[k].no,.i 1,.i b.given] W fun e w'=>e=.returned (.bool v)/\w'=W):=fun v h W=>zw h (qZ _ _ _ W)
   have HN1:∀v,zC b.gs[k].to=v->Hid (∀W,Calls Tryz.prog 175 #[.s b.gs[k].to] W fun e w'=>e=.returned (.bool v)/\w'=W):=fun v h W=>zw h (zZ _ W HIt.o.2.to)
   have HN2:∀v,zC b.gs[k].gb=v->Hid (∀W,Calls Tryz.prog 175 #[.s b.gs[k].gb] W fun e w'=>e=.returned (.bool v)/\w'=W):=fun v h W=>zw h (zZ _ W HIt.o.2.gb)
   have HR1:∀v,zaH b.gs[k].r=v->Hid (∀W,Bw wr W->Calls Tryz.prog 187 #[.agg #[.l v0 b.gs[k].r.vs.length q0,.s b.gs[k].r.kd,.s b.gs[k].r.tm,.s b.gs[k].r.px]] W fun e w'=>e=.returned (.bool v)/\Bw W w'):=fun v h W hW=>zw h (zrf b.gs[k].r v0 q0 W HIt.o.2.r (HIt.o.1.mono hW))
   by_cases t1:within b.gs[k].no 1 b.given=true
   rotate_left
   ·have HF:Hid (yK b=false):=HNo.o (by unfold qy;rw[bFi t1];rfl)
    have H1:=HW1 false (bFi t1);clear HW1 HN1 HN2 HR1 t1;go_wp2_with fail
    refine(H1.o _).mono ?_;rintro e w2⟨rfl,rfl⟩;go_wp2
    go_ret;exact⟨ze HF.o.symm,HBw.o _ (HBo.o _)⟩
   have H1:=HW1 true t1
   by_cases t2:zC b.gs[k].to=true
   rotate_left
   ·have HF:Hid (yK b=false):=HNo.o (by unfold qy;rw[t1,bFi t2];rfl)
    have H2:=HN1 false (bFi t2);clear HW1 HN1 HN2 HR1 t1 t2;go_wp2_with fail
    refine(H1.o _).mono ?_;rintro e w2⟨rfl,rfl⟩;go_wp2_with fail
    refine(H2.o _).mono ?_;rintro e w2⟨rfl,rfl⟩;go_wp2
    go_ret;exact⟨ze HF.o.symm,HBw.o _ (HBo.o _)⟩
   have H2:=HN1 true t2
   by_cases t3:b.gs[k].gb.toList.isEmpty=true
   ·by_cases t5:zaH b.gs[k].r=true
    ·have HY:Hid ((b.gs.take (k+1)).all (qy b.given)=true):=HYes.o (by unfold qy;rw[t1,t2,t3,t5];rfl)
     have H5:=HR1 true t5;clear HW1 HN1 HN2 HR1 t1 t2 t5;go_wp2_with fail
     refine(H1.o _).mono ?_;rintro e w2⟨rfl,rfl⟩;go_wp2_with fail
     refine(H2.o _).mono ?_;rintro e w2⟨rfl,rfl⟩;go_wp2_with fail
     refine(H5.o _ (bAl _ _)).mono ?_;rintro e w2⟨rfl,hb2⟩;have HB2:=hid ((HBo.o _).trans (hb2.mono (HBo.o _).size));clear hb2;go_wp2
     exact⟨⟨k+1,by omega,by go_num,HY.o,HB2.o⟩,zi hlt⟩
    ·have HF:Hid (yK b=false):=HNo.o (by unfold qy;rw[t1,t2,t3,bFi t5];rfl)
     have H5:=HR1 false (bFi t5);clear HW1 HN1 HN2 HR1 t1 t2 t5;go_wp2_with fail
     refine(H1.o _).mono ?_;rintro e w2⟨rfl,rfl⟩;go_wp2_with fail
     refine(H2.o _).mono ?_;rintro e w2⟨rfl,rfl⟩;go_wp2_with fail
     refine(H5.o _ (bAl _ _)).mono ?_;rintro e w2⟨rfl,hb2⟩;have HB2:=hid ((HBo.o _).trans (hb2.mono (HBo.o _).size));clear hb2;go_wp2
     go_ret;exact⟨ze HF.o.symm,HBw.o _ HB2.o⟩
   have t3':=bFi t3;clear t3
   by_cases t4:zC b.gs[k].gb=true
   rotate_left
   ·have HF:Hid (yK b=false):=HNo.o (by unfold qy;rw[t1,t2,t3',bFi t4];rfl)
    have H4:=HN2 false (bFi t4);clear HW1 HN1 HN2 HR1 t1 t2 t4;go_wp2_with fail
    refine(H1.o _).mono ?_;rintro e w2⟨rfl,rfl⟩;go_wp2_with fail
    refine(H2.o _).mono ?_;rintro e w2⟨rfl,rfl⟩;go_wp2_with fail
    refine(H4.o _).mono ?_;rintro e w2⟨rfl,rfl⟩;go_wp2
    go_ret;exact⟨ze HF.o.symm,HBw.o _ (HBo.o _)⟩
   have H4:=HN2 true t4
   by_cases t5:zaH b.gs[k].r=true
   ·have HY:Hid ((b.gs.take (k+1)).all (qy b.given)=true):=HYes.o (by unfold qy;rw[t1,t2,t3',t4,t5];rfl)
    have H5:=HR1 true t5;clear HW1 HN1 HN2 HR1 t1 t2 t4 t5;go_wp2_with fail
    refine(H1.o _).mono ?_;rintro e w2⟨rfl,rfl⟩;go_wp2_with fail
    refine(H2.o _).mono ?_;rintro e w2⟨rfl,rfl⟩;go_wp2_with fail
    refine(H4.o _).mono ?_;rintro e w2⟨rfl,rfl⟩;go_wp2_with fail
    refine(H5.o _ (bAl _ _)).mono ?_;rintro e w2⟨rfl,hb2⟩;have HB2:=hid ((HBo.o _).trans (hb2.mono (HBo.o _).size));clear hb2;go_wp2
    exact⟨⟨k+1,by omega,by go_num,HY.o,HB2.o⟩,zi hlt⟩
   ·have HF:Hid (yK b=false):=HNo.o (by unfold qy;rw[t1,t2,t3',t4,bFi t5];rfl)
    have H5:=HR1 false (bFi t5);clear HW1 HN1 HN2 HR1 t1 t2 t4 t5;go_wp2_with fail
    refine(H1.o _).mono ?_;rintro e w2⟨rfl,rfl⟩;go_wp2_with fail
    refine(H2.o _).mono ?_;rintro e w2⟨rfl,rfl⟩;go_wp2_with fail
    refine(H4.o _).mono ?_;rintro e w2⟨rfl,rfl⟩;go_wp2_with fail
    refine(H5.o _ (bAl _ _)).mono ?_;rintro e w2⟨rfl,hb2⟩;have HB2:=hid ((HBo.o _).trans (hb2.mono (HBo.o _).size));clear hb2;go_wp2
    go_ret;exact⟨ze HF.o.symm,HBw.o _ HB2.o⟩
  ·have e:k=b.gs.length:=by omega
   subst e
   have HE:Hid (yK b=true):=by
    unfold Hid;rw[HG.o];have h:=HQ.o.1;rw[tOl (Nat.le_refl _)]at h;exact h
   have HBe:=hid (HB1.o.trans (HQ.o.2.mono HB1.o.size));clear hlt hk HQ;go_wp2
   go_ret;exact⟨ze HE.o.symm,HBe.o⟩
def qC (ss:List Shp)(o:Ob):List BA:=if zq ss o=true then zal (shapeOf ss o.kd).fs o.vs else o.vs
theorem zq4 {ss:List Shp}{o:Ob}(h:zQ ss=true):zj9 ss o=qC ss o:=by
 unfold zj9 qC zq
 by_cases h1:zF ss o.kd=true
 ·by_cases h2:o.vs.length=(shapeOf ss o.kd).fs.length
  ·rw[if_pos ⟨h1,h,h2⟩,if_pos (by rw[h1];simp[h2])]
  ·rw[if_neg (fun hh=>h2 hh.2.2),if_neg (by rw[h1];simp[h2])]
 ·rw[if_neg (fun hh=>h1 hh.1),if_neg (by simp[h1])]
theorem zdO (a0:OA)(cap0:Nat)(ss:List Shp)(o:Ob)(a a':OA)(cap cap':Nat)(w0 w:World)(hw0:yU w0 a0 ss)(hbb:Bw w0 w)(hc:zq ss o=true) :
 Calls Tryz.prog 120 #[.l a0 ss.length cap0,.agg (oC o a a' cap cap')] w fun e w'=>∃fa fcap,e=.returned (.tuple #[.l fa (shapeOf ss o.kd).fs.length fcap,.bool true])/\yw w0 fa (shapeOf ss o.kd).fs/\Bw w w':=by
 unfold zq at hc;simp only[Bool.and_eq_true,decide_eq_true_eq]at hc;have HK:=hid hc.1;have HL:=hid hc.2;clear hc;have hw:=hw0.mono hbb;have hl:=hw.len;unfold maxLen at hl;go_in;go_wp2_with fail
 refine(zbx _ _ _ _ _ (hw.mono (bAl _ _)) HK.o).mono ?_;rintro e w1⟨ix,hix,rfl,hsh,rfl⟩;have HSh:=hid hsh;clear hsh;obtain⟨b,off,rfl,hb0,hr⟩:=hw0.rows (by rintro rfl;simp at hix);obtain⟨fa,fcap,hs0⟩:=hr ix hix;have hs:=hs0.mono hb0 hbb;have hcl:=hs.list;have hfl:=hs0.zdE;have hixI:(ix:Int)<(ss.length:Int):=by omega
 have hix0:decide ((ix:Int)<0)=false:=by simp
 have hneq:((ss[ix].fs.length:Int) != (o.vs.length:Int))=false:=by have h1:=HL.o;have h2:=HSh.o;rw[h2]at h1;simp[h1]
 have hbw:=nLt hb0 hbb.size;clear hr hs;go_wp2_with fail
 go_quiet (fail)
 go_wp2
 go_ret2
 rw[HSh.o];exact⟨fa,fcap,rfl,hfl,below_drewN (bAl _ _) _⟩
end Go.Proofs.YtjnpjkigofldlaaGreat
